/-
  Texts of ours in one, so that the claim keeps to its count: DecMath, DecS, Shelf, Dec, MgTxD, MgTxS, MgTxI.
-/
import Derived.Lib.ItoaNum
import Derived.Lib.ItoaLen
import Derived.Test.YtlopllgioobcjaaGreatDoorNumMath
import Derived.Test.YtlopllgioobcjaaGreatDoorBase
import Derived.Laws.DeepStrings4
import Derived.Shelf.Strings.Builder1
import Derived.Shelf.Strings.Builder2
import Derived.Shelf.Strings.OnBuilder
import Derived.Shelf.Strconv.Itoa0
import Derived.Shelf.Strconv.Itoa1
import Derived.Shelf.LaysM
import Derived.Shelf.Strconv.Itoa2
import Derived.Shelf.Strconv.Itoa3
import Derived.Test.YtlopllgioobcjaaGreatDoorProg
import Derived.Lib.LaidTab
import Derived.OpenShut
import Derived.Test.YtlopllgioobcjaaGreatDoorMgI
import Derived.Lib.Join
import Derived.Test.YtlopllgioobcjaaGreatDoorMgS
import Derived.Lib.QuietBelow
import Derived.BigQuiet
import Derived.Deep.DeepCutAuto
import Derived.Test.YtlopllgioobcjaaGreatDoorMgMsg
import Derived.Test.YtlopllgioobcjaaGreatDoorMix
import Derived.Lib.AppendIntMem
namespace Go.Proofs.YtlopllgioobcjaaGreatDoor.Mth
open Go.Lib (decDigits itoa)

/-- By the last element. -/
theorem snoc_ind {p : List UInt8 → Prop} (h0 : p []) (h1 : ∀ r c, p r → p (r ++ [c])) (l : List UInt8) : p l := by
  have h : ∀ (n : Nat) (l : List UInt8), l.length = n → p l := by
    intro n
    induction n with
    | zero => intro l hl; rw [List.length_eq_zero_iff.1 hl]; exact h0
    | succ n ih =>
      intro l hl
      rcases List.eq_nil_or_concat l with rfl | ⟨r, c, rfl⟩
      · exact h0
      · rw [List.concat_eq_append] at hl ⊢
        exact h1 r c (ih r (by simpa using hl))
  exact h l.length l rfl

def isDig (c : UInt8) : Prop := 48 ≤ c.toNat ∧ c.toNat ≤ 57
/-- What digits are worth. -/
def val10 (l : List UInt8) : Nat := l.foldl (fun n c => n * 10 + (c.toNat - 48)) 0
theorem val10_snoc (l : List UInt8) (c : UInt8) : val10 (l ++ [c]) = val10 l * 10 + (c.toNat - 48) := by simp [val10]
/-- The texts that are read: digits, at least one and at most nine, with no nought ahead. -/
def decOk (l : List UInt8) : Prop := l ≠ [] ∧ (∀ c ∈ l, isDig c) ∧ (l.headD 0 ≠ 48 ∨ l.length = 1) ∧ l.length ≤ 9
theorem val10_lt (l : List UInt8) : (∀ c ∈ l, isDig c) → val10 l < 10 ^ l.length := by
  induction l using snoc_ind with
  | h0 => simp [val10]
  | h1 r c ih0 =>
    intro h
    have ih := ih0 (fun x hx => h x (by simp [hx]))
    have hc := h c (by simp)
    unfold isDig at hc
    rw [val10_snoc, List.length_append, List.length_singleton, Nat.pow_succ]
    omega
theorem digits_small (v : Nat) (h : v < 10) : decDigits v = [UInt8.ofNat (48 + v)] := by rw [decDigits, dif_pos h]
theorem digits_big (v : Nat) (h : ¬ v < 10) : decDigits v = decDigits (v / 10) ++ [UInt8.ofNat (48 + v % 10)] := by rw [decDigits, dif_neg h]
theorem headD_append (r : List UInt8) (c : UInt8) (h : r ≠ []) : (r ++ [c]).headD 0 = r.headD 0 := by
  cases r with
  | nil => exact absurd rfl h
  | cons x t => rfl
theorem val10_pos (l : List UInt8) : l ≠ [] → (∀ c ∈ l, isDig c) → l.headD 0 ≠ 48 → 10 ^ (l.length - 1) ≤ val10 l := by
  induction l using snoc_ind with
  | h0 => intro hne; exact absurd rfl hne
  | h1 r c ih0 =>
    intro _ h h0
    have hc := h c (by simp)
    unfold isDig at hc
    rw [val10_snoc, List.length_append, List.length_singleton]
    by_cases hr : r = []
    · subst hr
      have : c.toNat ≠ 48 := fun e => h0 (by show c = 48; exact UInt8.toNat_inj.1 e)
      simp [val10]; omega
    · have ih := ih0 hr (fun x hx => h x (by simp [hx])) (by rw [← headD_append r c hr]; exact h0)
      have hl : 0 < r.length := List.length_pos_iff.2 hr
      obtain ⟨m, hm⟩ : ∃ m, r.length = m + 1 := ⟨r.length - 1, by omega⟩
      rw [hm] at ih ⊢
      simp only [Nat.add_sub_cancel] at ih ⊢
      rw [Nat.pow_succ]; omega
/-- A text of digits with no nought ahead is put for what it is worth. -/
theorem digits_val (l : List UInt8) : l ≠ [] → (∀ c ∈ l, isDig c) → (l.headD 0 ≠ 48 ∨ l.length = 1) → decDigits (val10 l) = l := by
  induction l using snoc_ind with
  | h0 => intro hne; exact absurd rfl hne
  | h1 r c ih0 =>
    intro _ h h0
    have hc := h c (by simp)
    unfold isDig at hc
    have e0 : UInt8.ofNat (48 + (c.toNat - 48)) = c := by
      have : 48 + (c.toNat - 48) = c.toNat := by omega
      rw [this]; simp
    rw [val10_snoc]
    by_cases hr : r = []
    · subst hr
      have : val10 [] = 0 := rfl
      rw [this, Nat.zero_mul, Nat.zero_add, digits_small _ (by omega), e0]; rfl
    · have hl : 0 < r.length := List.length_pos_iff.2 hr
      have h1 : r.headD 0 ≠ 48 := by
        rcases h0 with h0 | h0
        · rw [headD_append r c hr] at h0; exact h0
        · rw [List.length_append, List.length_singleton] at h0; omega
      have hd : ∀ x ∈ r, isDig x := fun x hx => h x (by simp [hx])
      have hp := val10_pos r hr hd h1
      have hp' : 1 ≤ val10 r := Nat.le_trans (Nat.one_le_pow _ _ (by omega)) hp
      rw [digits_big _ (by omega)]
      have e1 : (val10 r * 10 + (c.toNat - 48)) / 10 = val10 r := by omega
      have e2 : (val10 r * 10 + (c.toNat - 48)) % 10 = c.toNat - 48 := by omega
      rw [e1, e2, e0, ih0 hr hd (.inl h1)]
theorem digits_head (v : Nat) : 0 < v → (decDigits v).headD 0 ≠ 48 ∧ decDigits v ≠ [] := by
  induction v using Nat.strongRecOn with
  | ind v ih =>
  intro h
  by_cases hs : v < 10
  · rw [digits_small v hs]
    refine ⟨?_, by simp⟩
    show UInt8.ofNat (48 + v) ≠ 48
    intro e
    have := congrArg UInt8.toNat e
    rw [toNat_byte _ (by omega)] at this
    simp at this; omega
  · obtain ⟨h1, h2⟩ := ih (v / 10) (by omega) (by omega)
    rw [digits_big v hs]
    refine ⟨?_, by simp⟩
    rw [headD_append _ _ h2]; exact h1
theorem digits_nought (l : List UInt8) (h0 : l.headD 0 = 48) (h1 : l.length ≠ 1) : ∀ v, decDigits v ≠ l := by
  intro v e
  rcases Nat.eq_zero_or_pos v with rfl | hv
  · rw [digits_small 0 (by omega)] at e
    exact h1 (by rw [← e]; rfl)
  · exact (digits_head v hv).1 (by rw [e]; exact h0)
/-- The same, to be reckoned. -/
def decOkB (l : List UInt8) : Bool := !l.isEmpty && l.all (fun c => decide (48 ≤ c.toNat ∧ c.toNat ≤ 57)) && (l.headD 0 != 48 || l.length == 1) && decide (l.length ≤ 9)
theorem decOkB_iff (l : List UInt8) : decOkB l = true ↔ decOk l := by
  unfold decOkB decOk isDig
  simp [and_assoc]
end Go.Proofs.YtlopllgioobcjaaGreatDoor.Mth
namespace Go.Proofs.YtlopllgioobcjaaGreatDoor
open Go.RowKit
open Go.Lib (decDigits itoa)

/-- The digits that are still to come; none for nought. -/
def leftDigits (a : Nat) : List UInt8 := if a = 0 then [] else decDigits a
theorem left_step (a : Nat) (l t : List UInt8) (h0 : a ≠ 0) (h : leftDigits a ++ l = t) : leftDigits (a / 10) ++ (UInt8.ofNat (48 + a % 10) :: l) = t := by
  unfold leftDigits at *
  rw [if_neg h0] at h
  by_cases hs : a < 10
  · have e1 : a / 10 = 0 := by omega
    have e2 : a % 10 = a := by omega
    rw [Mth.digits_small a hs] at h
    rw [e1, e2, if_pos rfl]; simpa using h
  · rw [Mth.digits_big a hs] at h
    rw [if_neg (by omega), ← h]; simp
/-- A digit cut out of the ten. -/
theorem ten_at : ∀ d : Fin 10, (ByteArray.mk #[48, 49, 50, 51, 52, 53, 54, 55, 56, 57]).extract d.1 (d.1 + 1) = ⟨#[UInt8.ofNat (48 + d.1)]⟩ := by decide +kernel
theorem ten_add (d : Nat) (hd : d < 10) (l : List UInt8) : (ByteArray.mk #[48, 49, 50, 51, 52, 53, 54, 55, 56, 57]).extract d (d + 1) ++ ⟨l.toArray⟩ = ⟨(UInt8.ofNat (48 + d) :: l).toArray⟩ := by
  rw [ten_at ⟨d, hd⟩]
  apply ByteArray.ext
  simp

set_option maxHeartbeats 1000000 in
set_option maxRecDepth 100000 in
theorem specDec_pos (n : Nat) (w : World) (h0 : 0 < n) (hn : (n : Int) ≤ 9223372036854775807) :
    Calls Tryz.prog 44 #[.int .i64 n] w fun e w' => e = .returned (.string ⟨(decDigits n).toArray⟩) ∧ w = w' := by
  have hlen : (decDigits n).length ≤ 21 := by have := Lib.itoa_length_le n (by omega) hn; rw [Lib.itoa, if_neg (by omega)] at this; simpa using this
  have hne : ((n : Int) == 0) = false := beq_eq_false_iff_ne.2 (by omega)
  go_enter Tryz.func44, Tryz.ntmps44
  go_wp2
  go_loop [3, 4] (fun o m => ∃ (a : Nat) (l : List UInt8), a ≤ n ∧ m = .int .i64 a ∧ o = .string ⟨l.toArray⟩ ∧ leftDigits a ++ l = decDigits n) (fun _ m => (intOf m).toNat)
  case atStart => exact ⟨n, [], Nat.le_refl _, rfl, rfl, by unfold leftDigits; rw [if_neg (by omega)]; simp⟩
  case round =>
    obtain ⟨a, l, ha, rfl, rfl, hl⟩ := hrel
    have HL := hide hl
    have hll : l.length ≤ 21 := by have := congrArg List.length hl; rw [List.length_append] at this; omega
    clear hl
    by_cases hz : a = 0
    · subst hz
      have HE := hide (show l = decDigits n by have := unhide HL; simpa [leftDigits] using this)
      clear HL
      go_wp2
      go_ret
      exact ⟨ret_string (by rw [unhide HE]), rfl⟩
    · have HS := hide (left_step a l _ hz (unhide HL))
      have hA := hide (ten_add (a % 10) (by omega) l)
      have hne2 : ((a : Int) == 0) = false := beq_eq_false_iff_ne.2 (by omega)
      clear HL
      go_wp2
      go_round
      case rel => exact ⟨a / 10, _, by omega, by go_num, by rw [unhide hA], unhide HS⟩
      case measure => simp [intOf]; omega

theorem neg_tmod (a : Nat) : (-(a : Int)).tmod 10 = -((a : Int) % 10) := by rw [Int.neg_tmod, Int.tmod_eq_emod_of_nonneg (by omega)]
theorem neg_tdiv (a : Nat) : (-(a : Int)).tdiv 10 = -((a : Int) / 10) := by rw [Int.neg_tdiv, Int.tdiv_eq_ediv_of_nonneg (by omega)]
theorem minus_add (l : List UInt8) : (ByteArray.mk #[45]) ++ ⟨l.toArray⟩ = ⟨(45 :: l).toArray⟩ := by
  apply ByteArray.ext; simp

set_option maxHeartbeats 1000000 in
set_option maxRecDepth 100000 in
theorem specDec_neg (n : Nat) (w : World) (h0 : 0 < n) (hn : (n : Int) ≤ 9223372036854775808) :
    Calls Tryz.prog 44 #[.int .i64 (-(n : Int))] w fun e w' => e = .returned (.string ⟨(45 :: decDigits n).toArray⟩) ∧ w = w' := by
  have hlen : (decDigits n).length ≤ 21 := by have := Lib.itoa_length_le (-(n : Int)) (by omega) (by omega); rw [Lib.itoa, if_pos (by omega)] at this; simp at this; omega
  have hne : (-(n : Int) == 0) = false := beq_eq_false_iff_ne.2 (by omega)
  go_enter Tryz.func44, Tryz.ntmps44
  go_wp2
  go_loop [3, 4] (fun o m => ∃ (a : Nat) (l : List UInt8), a ≤ n ∧ m = .int .i64 (-(a : Int)) ∧ o = .string ⟨l.toArray⟩ ∧ leftDigits a ++ l = decDigits n) (fun _ m => (intOf m).natAbs)
  case atStart => exact ⟨n, [], Nat.le_refl _, rfl, rfl, by unfold leftDigits; rw [if_neg (by omega)]; simp⟩
  case round =>
    obtain ⟨a, l, ha, rfl, rfl, hl⟩ := hrel
    have HL := hide hl
    have hll : l.length ≤ 21 := by have := congrArg List.length hl; rw [List.length_append] at this; omega
    clear hl
    by_cases hz : a = 0
    · subst hz
      have HE := hide (show l = decDigits n by have := unhide HL; simpa [leftDigits] using this)
      have hA := hide (minus_add l)
      clear HL
      go_wp2
      go_ret
      exact ⟨ret_string (by rw [← unhide HE]; exact unhide hA), rfl⟩
    · have HS := hide (left_step a l _ hz (unhide HL))
      have hA := hide (ten_add (a % 10) (by omega) l)
      have hne2 : (-(a : Int) == 0) = false := beq_eq_false_iff_ne.2 (by omega)
      have hm := neg_tmod a
      have hq := neg_tdiv a
      clear HL
      have E1 := hide (show (-((a : Int) % 10)).toNat = a % 10 ∨ a % 10 ≠ 0 by omega)
      have E2 := hide (show (-((a : Int) % 10) + 1).toNat = a % 10 + 1 ∨ a % 10 ≠ 0 by omega)
      by_cases hd : a % 10 = 0
      · have E1' := hide ((unhide E1).resolve_right (fun h => h hd))
        have E2' := hide ((unhide E2).resolve_right (fun h => h hd))
        go_wp2
        go_round
        case rel => exact ⟨a / 10, _, by omega, by go_num, by rw [unhide E1', unhide E2', unhide hA], unhide HS⟩
        case measure => simp [intOf]; omega
      · go_wp2
        go_round
        case rel => exact ⟨a / 10, _, by omega, by go_num, by rw [unhide hA], unhide HS⟩
        case measure => simp [intOf]; omega

theorem specDec_zero (w : World) : Calls Tryz.prog 44 #[.int .i64 0] w fun e w' => e = .returned (.string ⟨#[48]⟩) ∧ w = w' := by
  go_enter Tryz.func44, Tryz.ntmps44
  go_wp2
  go_ret
  exact ⟨rfl, rfl⟩

/-- The decimal text of every number. -/
theorem specDec (n : Int) (w : World) (h0 : -9223372036854775808 ≤ n) (h1 : n ≤ 9223372036854775807) : Calls Tryz.prog 44 #[.int .i64 n] w fun e w' => e = .returned (.string ⟨(itoa n).toArray⟩) ∧ w = w' := by
  rcases Int.lt_trichotomy n 0 with h | h | h
  · obtain ⟨k, hk⟩ : ∃ k : Nat, n = -(k : Int) := ⟨n.natAbs, by omega⟩
    subst hk
    have e : itoa (-(k : Int)) = 45 :: decDigits k := by unfold itoa; rw [if_pos h]; simp
    rw [e]
    exact specDec_neg k w (by omega) (by omega)
  · subst h
    have e : itoa 0 = [48] := by unfold itoa; rw [if_neg (by omega)]; exact Mth.digits_small 0 (by omega)
    rw [e]
    exact specDec_zero w
  · obtain ⟨k, rfl⟩ := Int.eq_ofNat_of_zero_le (show 0 ≤ n by omega)
    have e : itoa (k : Int) = decDigits k := by unfold itoa; rw [if_neg (by omega)]; rfl
    have h' : 0 < k := by omega
    show Calls _ _ #[.int .i64 (k : Int)] w fun e w' => e = .returned (.string ⟨(itoa (k : Int)).toArray⟩) ∧ w = w'
    rw [e]
    exact specDec_pos k w h' h1
end Go.Proofs.YtlopllgioobcjaaGreatDoor
namespace Go.Proofs
open Go.Shelf
def Tryz.laysM171_ren : Go.Shelf.Ren := ⟨fun | 171 => 67 | 243 => 75 | 246 => 79 | 283 => 80 | 284 => 81 | 285 => 82 | 286 => 83 | 129 => 85 | 317 => 84 | 318 => 86 | 319 => 87 | 320 => 88 | 337 => 89 | 338 => 90 | n => n, fun | 3 => 3 | 9 => 9 | 2 => 2 | 4 => 4 | 171 => 132 | 0 => 0 | 53 => 133 | 37 => 22 | 5 => 5 | 173 => 136 | 212 => 140 | 51 => 48 | 20 => 20 | 213 => 141 | 46 => 94 | 232 => 144 | 233 => 145 | n => n, fun | 17 => 2 | 18 => 3 | 19 => 4 | n => n⟩
theorem Tryz.laysM171 : Go.Proofs.LaysM.n171 Tryz.prog Tryz.laysM171_ren := {
  mixed := by kernel_rfl
  f129 := Tryz.func85.trans (congrArg some (by kernel_rfl))
  f171 := Tryz.func67.trans (congrArg some (by kernel_rfl))
  f243 := Tryz.func75.trans (congrArg some (by kernel_rfl))
  f246 := Tryz.func79.trans (congrArg some (by kernel_rfl))
  f283 := Tryz.func80.trans (congrArg some (by kernel_rfl))
  f284 := Tryz.func81.trans (congrArg some (by kernel_rfl))
  f285 := Tryz.func82.trans (congrArg some (by kernel_rfl))
  f286 := Tryz.func83.trans (congrArg some (by kernel_rfl))
  f317 := Tryz.func84.trans (congrArg some (by kernel_rfl))
  f318 := Tryz.func86.trans (congrArg some (by kernel_rfl))
  f319 := Tryz.func87.trans (congrArg some (by kernel_rfl))
  f320 := Tryz.func88.trans (congrArg some (by kernel_rfl))
  f337 := Tryz.func89.trans (congrArg some (by kernel_rfl))
  f338 := Tryz.func90.trans (congrArg some (by kernel_rfl))
  t0 := Tryz.underlying0
  a0 := Tryz.isAgg0
  z0 := Tryz.sizeOf0
  v0 := Tryz.zeroValue0
  t2 := Tryz.underlying2
  a2 := Tryz.isAgg2
  z2 := Tryz.sizeOf2
  v2 := Tryz.zeroValue2
  t3 := Tryz.underlying3
  a3 := Tryz.isAgg3
  z3 := Tryz.sizeOf3
  v3 := Tryz.zeroValue3
  t4 := Tryz.underlying4
  a4 := Tryz.isAgg4
  z4 := Tryz.sizeOf4
  v4 := Tryz.zeroValue4
  t5 := Tryz.underlying5
  a5 := Tryz.isAgg5
  z5 := Tryz.sizeOf5
  v5 := Tryz.zeroValue5
  t9 := Tryz.underlying9
  a9 := Tryz.isAgg9
  z9 := Tryz.sizeOf9
  v9 := Tryz.zeroValue9
  t20 := Tryz.underlying20
  a20 := Tryz.isAgg20
  z20 := Tryz.sizeOf20
  v20 := Tryz.zeroValue20
  t37 := Tryz.underlying22
  a37 := Tryz.isAgg22
  z37 := Tryz.sizeOf22
  v37 := Tryz.zeroValue22
  t46 := Tryz.underlying94
  a46 := Tryz.isAgg94
  z46 := Tryz.sizeOf94
  v46 := Tryz.zeroValue94
  t51 := Tryz.underlying48
  a51 := Tryz.isAgg48
  z51 := Tryz.sizeOf48
  v51 := Tryz.zeroValue48
  t53 := Tryz.underlying133
  a53 := Tryz.isAgg133
  z53 := Tryz.sizeOf133
  v53 := Tryz.zeroValue133
  t171 := Tryz.underlying132
  a171 := Tryz.isAgg132
  z171 := Tryz.sizeOf132
  v171 := Tryz.zeroValue132
  t173 := Tryz.underlying136
  a173 := Tryz.isAgg136
  z173 := Tryz.sizeOf136
  v173 := Tryz.zeroValue136
  t212 := Tryz.underlying140
  a212 := Tryz.isAgg140
  z212 := Tryz.sizeOf140
  v212 := Tryz.zeroValue140
  t213 := Tryz.underlying141
  a213 := Tryz.isAgg141
  z213 := Tryz.sizeOf141
  t232 := Tryz.underlying144
  a232 := Tryz.isAgg144
  z232 := Tryz.sizeOf144
  v232 := Tryz.zeroValue144
  t233 := Tryz.underlying145
  a233 := Tryz.isAgg145
  z233 := Tryz.sizeOf145
  v233 := Tryz.zeroValue145
  g17 := by kernel_rfl
  g18 := by kernel_rfl
  g19 := by kernel_rfl
  i0 := by kernel_rfl
  i2 := by kernel_rfl
  i3 := by kernel_rfl
  i4 := by kernel_rfl
  i5 := by kernel_rfl
  i9 := by kernel_rfl
  i20 := by kernel_rfl
  i37 := by kernel_rfl
  i46 := by kernel_rfl
  i51 := by kernel_rfl
  i53 := by kernel_rfl
  i171 := by kernel_rfl
  i173 := by kernel_rfl
  i212 := by kernel_rfl
  i232 := by kernel_rfl
  i233 := by kernel_rfl
  m17 := by kernel_rfl
  m18 := by kernel_rfl
  m19 := by kernel_rfl }
open Go.RowKit Go.Sort Go.Lib in
/-- strconv.Itoa: "Itoa is equivalent to FormatInt(int64(i), 10).": i's DECIMAL NUMERAL ('Lib.itoa': a '-' where i is negative, then the digits), FOR EVERY int. The world behind the call: the world before it, new blocks behind the heap (the library's 'var a [24]byte'), draws. (LAID: no walk: one application.) -/
theorem Tryz.strconv_Itoa (n : Int) (h0 : -9223372036854775808 ≤ n) (h1 : n ≤ 9223372036854775807) (w : World) (htab : Lib.TabIs Tryz.prog w "internal/strconv.uint64pow10" .u64 Lib.pow10Tab) :
    Calls Tryz.prog 67 #[.int .i64 n] w fun e w' => e = .returned (.string ⟨(Lib.itoa n).toArray⟩) ∧ ∃ k os, w' = grow (w.drewN k) os := Any.strconv_Itoa Tryz.laysM171 n h0 h1 w htab
def Tryz.lays156_ren : Go.Shelf.Ren := ⟨fun | 156 => 42 | 165 => 54 | 166 => 55 | 169 => 56 | 240 => 65 | 241 => 66 | 276 => 73 | 277 => 74 | n => n, fun | 31 => 58 | 9 => 9 | 3 => 3 | 4 => 4 | 0 => 0 | 20 => 20 | 72 => 86 | 76 => 88 | 70 => 84 | 37 => 22 | 75 => 68 | 127 => 102 | 164 => 103 | 5 => 5 | 80 => 90 | n => n, fun | n => n⟩
theorem Tryz.lays156 : Go.Proofs.Lays.n156 Tryz.prog Tryz.lays156_ren := {
  mixed := by kernel_rfl
  f156 := Tryz.func42.trans (congrArg some (by kernel_rfl))
  f165 := Tryz.func54.trans (congrArg some (by kernel_rfl))
  f166 := Tryz.func55.trans (congrArg some (by kernel_rfl))
  f169 := Tryz.func56.trans (congrArg some (by kernel_rfl))
  f240 := Tryz.func65.trans (congrArg some (by kernel_rfl))
  f241 := Tryz.func66.trans (congrArg some (by kernel_rfl))
  f276 := Tryz.func73.trans (congrArg some (by kernel_rfl))
  f277 := Tryz.func74.trans (congrArg some (by kernel_rfl))
  t0 := Tryz.underlying0
  a0 := Tryz.isAgg0
  z0 := Tryz.sizeOf0
  v0 := Tryz.zeroValue0
  t3 := Tryz.underlying3
  a3 := Tryz.isAgg3
  z3 := Tryz.sizeOf3
  v3 := Tryz.zeroValue3
  t4 := Tryz.underlying4
  a4 := Tryz.isAgg4
  z4 := Tryz.sizeOf4
  v4 := Tryz.zeroValue4
  t9 := Tryz.underlying9
  a9 := Tryz.isAgg9
  z9 := Tryz.sizeOf9
  v9 := Tryz.zeroValue9
  t20 := Tryz.underlying20
  a20 := Tryz.isAgg20
  z20 := Tryz.sizeOf20
  v20 := Tryz.zeroValue20
  t31 := Tryz.underlying58
  a31 := Tryz.isAgg58
  z31 := Tryz.sizeOf58
  v31 := Tryz.zeroValue58
  t37 := Tryz.underlying22
  a37 := Tryz.isAgg22
  z37 := Tryz.sizeOf22
  v37 := Tryz.zeroValue22
  t70 := Tryz.underlying84
  a70 := Tryz.isAgg84
  z70 := Tryz.sizeOf84
  v70 := Tryz.zeroValue84
  t72 := Tryz.underlying86
  a72 := Tryz.isAgg86
  z72 := Tryz.sizeOf86
  v72 := Tryz.zeroValue86
  t75 := Tryz.underlying68
  a75 := Tryz.isAgg68
  z75 := Tryz.sizeOf68
  v75 := Tryz.zeroValue68
  t76 := Tryz.underlying88
  a76 := Tryz.isAgg88
  z76 := Tryz.sizeOf88
  v76 := Tryz.zeroValue88
  t127 := Tryz.underlying102
  a127 := Tryz.isAgg102
  z127 := Tryz.sizeOf102
  v127 := Tryz.zeroValue102
  t164 := Tryz.underlying103
  a164 := Tryz.isAgg103
  z164 := Tryz.sizeOf103
  v164 := Tryz.zeroValue103 }
theorem Tryz.Builder_Extra_156 : Builder.Extra Tryz.prog Tryz.lays156_ren := {
  sizeBuilder := by kernel_rfl
  liesBuilder := by kernel_rfl
  t5 := Tryz.underlying5
  a5 := Tryz.isAgg5
  z5 := Tryz.sizeOf5
  v5 := Tryz.zeroValue5
  infoByte := by kernel_rfl
  cellsByte := by kernel_rfl
  sizeByte := by kernel_rfl
  neB5 := by decide }
open Go.RowKit in
/-- strings.Join: "Join concatenates the elements of its first argument to create a single string. The separator string sep is placed between elements in the resulting string.": HOWEVER MANY ELEMENTS. Below the heap's end the world is as it was. (LAID: no walk: one application.) -/
theorem Tryz.strings_Join (bk o c : Nat) (xs : List ByteArray) (sep : ByteArray) (w : World) (hcells : ∀ (j : Nat) x, xs[j]? = some x → w.cell? ⟨bk, o + j, none⟩ = some (.string x)) (hbk : bk < w.heap.size) (hN : xs.length ≤ 140737488355328) (hcap : xs.length ≤ c) (hlen : (Lib.join (xs.map (·.data.toList)) sep.data.toList).length ≤ 140737488355328) :
    Calls Tryz.prog 42 #[.slice (some ⟨bk, o, none⟩) xs.length c, .string sep] w fun e w' => e = .returned (.string ⟨(Lib.join (xs.map (·.data.toList)) sep.data.toList).toArray⟩) ∧ Below w.heap.size w w' := Any.strings_Join Tryz.lays156 Tryz.Builder_Extra_156 bk o c xs sep w hcells hbk hN hcap hlen
end Go.Proofs
namespace Go.Proofs.YtlopllgioobcjaaGreatDoor
open Go.RowKit
open Go.Lib (decDigits itoa)

/-- What the program needs of memory: the library's table of the powers of ten. -/
def Tens (w : World) : Prop := Lib.TabIs Tryz.prog w "internal/strconv.uint64pow10" .u64 Lib.pow10Tab

theorem below_grow (w : World) (k : Nat) (os : Array Obj) : Below w.heap.size w (Sort.grow (w.drewN k) os) :=
  ⟨rfl, rfl, rfl, by simp [Sort.grow, World.drewN], fun i hi => by simp [Sort.grow, World.drewN, Array.getElem?_append_left hi]⟩

theorem implDec (n : Int) (w : World) (h0 : -9223372036854775808 ≤ n) (h1 : n ≤ 9223372036854775807) (hT : Tens w) : Calls Tryz.prog 57 #[.int .i64 n] w fun e w' => e = .returned (.string ⟨(itoa n).toArray⟩) ∧ Below w.heap.size w w' := by
  have HI := hide (Tryz.strconv_Itoa n h0 h1 w hT)
  clear hT
  go_enter Tryz.func57, Tryz.ntmps57
  go_wp2_with (go_at_call 67; refine (unhide HI).mono ?_; rintro e w' ⟨rfl, k, os, rfl⟩)
  go_ret
  exact ⟨rfl, below_grow w k os⟩
end Go.Proofs.YtlopllgioobcjaaGreatDoor
namespace Go.Proofs.YtlopllgioobcjaaGreatDoor
open Go.RowKit
open Mth

def dec (n : Int) : ByteArray := ⟨(Lib.itoa n).toArray⟩
theorem dec_size (n : Int) (h0 : 0 ≤ n) (h1 : n ≤ 1000000000) : (dec n).size ≤ 21 := by
  unfold dec
  show (Lib.itoa n).toArray.size ≤ 21
  have := Lib.itoa_length_le n (by omega) (by omega)
  simpa using this

def txWant (dF dT k dN : ByteArray) : ByteArray := (⟨#[119, 97, 110, 116]⟩ : ByteArray) ++ ((⟨#[32]⟩ : ByteArray) ++ dF ++ (⟨#[32, 62, 32]⟩ : ByteArray) ++ dT) ++ (⟨#[32]⟩ : ByteArray) ++ k ++ (⟨#[32]⟩ : ByteArray) ++ dN
def txPay (dF dT dI dL k dN : ByteArray) : ByteArray := (⟨#[112, 97, 121]⟩ : ByteArray) ++ ((⟨#[32]⟩ : ByteArray) ++ dF ++ (⟨#[32, 62, 32]⟩ : ByteArray) ++ dT) ++ (⟨#[32]⟩ : ByteArray) ++ dI ++ (⟨#[32]⟩ : ByteArray) ++ dL ++ (⟨#[32]⟩ : ByteArray) ++ k ++ (⟨#[32]⟩ : ByteArray) ++ dN
def txAck (dF dT dI : ByteArray) : ByteArray := (⟨#[97, 99, 107]⟩ : ByteArray) ++ ((⟨#[32]⟩ : ByteArray) ++ dF ++ (⟨#[32, 62, 32]⟩ : ByteArray) ++ dT) ++ (⟨#[32]⟩ : ByteArray) ++ dI
def msgTx (m : Mg) : ByteArray :=
  if mgOk m = true then
    (if m.K = 0 then txWant (dec m.F) (dec m.T) m.k (dec m.N)
     else if m.K = 1 then txPay (dec m.F) (dec m.T) (dec m.I) (dec m.L) m.k (dec m.N)
     else txAck (dec m.F) (dec m.T) (dec m.I))
  else ByteArray.empty
theorem msgTx_no {m : Mg} (h : mgOk m = false) : msgTx m = ByteArray.empty := by unfold msgTx; rw [if_neg (by rw [h]; simp)]
/-- What a right message's numbers are. -/
theorem mg_parts {m : Mg} (h : mgOk m = true) : (0 ≤ m.F ∧ m.F ≤ 29) ∧ (0 ≤ m.T ∧ m.T ≤ 29) ∧
    ((m.K = 0 ∧ (1 ≤ m.N ∧ m.N ≤ 1000000000) ∧ m.k.size ≤ 10) ∨ (m.K = 1 ∧ (1 ≤ m.N ∧ m.N ≤ 1000000000) ∧ (1 ≤ m.I ∧ m.I ≤ 1000000000) ∧ (1 ≤ m.L ∧ m.L ≤ m.I) ∧ m.k.size ≤ 10) ∨ (m.K = 2 ∧ (1 ≤ m.I ∧ m.I ≤ 1000000000))) := by
  have hkey : ∀ s : ByteArray, keyOk s.data.toList = true → s.size ≤ 10 := by
    intro s hs
    unfold keyOk at hs
    simp only [Bool.and_eq_true, decide_eq_true_iff] at hs
    have := size_toList s
    omega
  unfold mgOk rtB ndB at h
  simp only [Bool.and_eq_true, decide_eq_true_iff] at h
  obtain ⟨⟨⟨hF, hT⟩, _⟩, h⟩ := h
  refine ⟨hF, hT, ?_⟩
  split at h
  · rename_i h0
    simp only [Bool.and_eq_true, smB, decide_eq_true_iff] at h
    exact .inl ⟨h0, h.1.1.2, hkey _ h.1.1.1⟩
  · split at h
    · rename_i h0
      simp only [Bool.and_eq_true, smB, decide_eq_true_iff] at h
      exact .inr (.inl ⟨h0, h.1.1.2, h.1.2, h.2, hkey _ h.1.1.1⟩)
    · split at h
      · rename_i h0
        simp only [Bool.and_eq_true, smB, decide_eq_true_iff] at h
        exact .inr (.inr ⟨h0, h.1.1.1⟩)
      · cases h

theorem joinWant (dF dT k dN : ByteArray) : (⟨(Lib.join (([(⟨#[119, 97, 110, 116]⟩ : ByteArray), dF, (⟨#[62]⟩ : ByteArray), dT, k, dN] : List ByteArray).map (·.data.toList)) [32]).toArray⟩ : ByteArray) = txWant dF dT k dN := by
  apply ByteArray.ext
  apply Array.ext'
  simp [Lib.join, List.intercalate, List.intersperse, txWant]
theorem joinPay (dF dT dI dL k dN : ByteArray) : (⟨(Lib.join (([(⟨#[112, 97, 121]⟩ : ByteArray), dF, (⟨#[62]⟩ : ByteArray), dT, dI, dL, k, dN] : List ByteArray).map (·.data.toList)) [32]).toArray⟩ : ByteArray) = txPay dF dT dI dL k dN := by
  apply ByteArray.ext
  apply Array.ext'
  simp [Lib.join, List.intercalate, List.intersperse, txPay]
theorem joinAck (dF dT dI : ByteArray) : (⟨(Lib.join (([(⟨#[97, 99, 107]⟩ : ByteArray), dF, (⟨#[62]⟩ : ByteArray), dT, dI] : List ByteArray).map (·.data.toList)) [32]).toArray⟩ : ByteArray) = txAck dF dT dI := by
  apply ByteArray.ext
  apply Array.ext'
  simp [Lib.join, List.intercalate, List.intersperse, txAck]
end Go.Proofs.YtlopllgioobcjaaGreatDoor
namespace Go.Proofs.YtlopllgioobcjaaGreatDoor
open Go.RowKit
open Mth

theorem specDecB (n : Int) (h0 : 0 ≤ n) (h1 : n ≤ 1000000000) (w : World) : Calls Tryz.prog 44 #[.int .i64 n] w fun e w' => e = .returned (.string (dec n)) ∧ Below w.heap.size w w' :=
  (specDec n w (by omega) (by omega)).mono fun _ _ ⟨he, hw⟩ => ⟨he, hw ▸ Below.refl _ _⟩
set_option maxRecDepth 100000 in
set_option maxHeartbeats 2000000 in
theorem specMsgText_no (m : Mg) (w : World) (hs : m.k.size ≤ maxLen) (h : mgOk m = false) : Calls Tryz.prog 19 #[mgv m] w fun e w' => e = .returned (.string ByteArray.empty) ∧ Below w.heap.size w w' := by
  have HO := hide (fun w1 => specMsgOk m w1 hs)
  rw [h] at HO
  clear h hs
  obtain ⟨K, F, T, I, L, k, N⟩ := m
  go_enter Tryz.func19, Tryz.ntmps19
  go_wp2_with fail
  refine (unhide HO _).mono ?_
  rintro e w1 ⟨rfl, hb1⟩
  have hB := (below_one w _).trans (hb1.mono (by simp))
  clear hb1
  go_wp2_with fail
  go_ret
  exact ⟨rfl, hB⟩

set_option maxRecDepth 100000 in
set_option maxHeartbeats 4000000 in
theorem specMsgText_want (F T I L : Int) (k : ByteArray) (N : Int) (w : World) (h : mgOk ⟨0, F, T, I, L, k, N⟩ = true) (hF0 : 0 ≤ F) (hF1 : F ≤ 1000000000) (hT0 : 0 ≤ T) (hT1 : T ≤ 1000000000) (hN0 : 0 ≤ N) (hN1 : N ≤ 1000000000) (hk : k.size ≤ 10) : Calls Tryz.prog 19 #[mgv ⟨0, F, T, I, L, k, N⟩] w fun e w' => e = .returned (.string (txWant (dec F) (dec T) k (dec N))) ∧ Below w.heap.size w w' := by
  have HO := hide (fun w1 => specMsgOk ⟨0, F, T, I, L, k, N⟩ w1 (Nat.le_trans hk (by unfold maxLen; omega)))
  rw [h] at HO
  clear h
  unfold txWant
  have DF := hide (fun w1 => specDecB F hF0 hF1 w1)
  have sF := dec_size F hF0 hF1
  have DT := hide (fun w1 => specDecB T hT0 hT1 w1)
  have sT := dec_size T hT0 hT1
  have DN := hide (fun w1 => specDecB N hN0 hN1 w1)
  have sN := dec_size N hN0 hN1
  generalize dec F = dF at *
  generalize dec T = dT at *
  generalize dec N = dN at *
  have hw1 : (⟨#[32]⟩ : ByteArray).size = 1 := rfl
  have hwg : (⟨#[32, 62, 32]⟩ : ByteArray).size = 3 := rfl
  have hw4 : (⟨#[119, 97, 110, 116]⟩ : ByteArray).size = 4 := rfl
  have hw3 : (⟨#[112, 97, 121]⟩ : ByteArray).size = 3 := rfl
  have a0 := fun w1 => run_string_add_sum (P := Tryz.prog) w1 ((⟨#[32]⟩ : ByteArray)) (dF) (by first | omega | (simp only [ByteArray.size_append]; omega))
  have a1 := fun w1 => run_string_add_sum (P := Tryz.prog) w1 ((⟨#[32]⟩ : ByteArray) ++ dF) ((⟨#[32, 62, 32]⟩ : ByteArray)) (by first | omega | (simp only [ByteArray.size_append]; omega))
  have a2 := fun w1 => run_string_add_sum (P := Tryz.prog) w1 ((⟨#[32]⟩ : ByteArray) ++ dF ++ (⟨#[32, 62, 32]⟩ : ByteArray)) (dT) (by first | omega | (simp only [ByteArray.size_append]; omega))
  have b0 := fun w1 => run_string_add_sum (P := Tryz.prog) w1 ((⟨#[119, 97, 110, 116]⟩ : ByteArray)) (((⟨#[32]⟩ : ByteArray) ++ dF ++ (⟨#[32, 62, 32]⟩ : ByteArray) ++ dT)) (by first | omega | (simp only [ByteArray.size_append]; omega))
  have b1 := fun w1 => run_string_add_sum (P := Tryz.prog) w1 ((⟨#[119, 97, 110, 116]⟩ : ByteArray) ++ ((⟨#[32]⟩ : ByteArray) ++ dF ++ (⟨#[32, 62, 32]⟩ : ByteArray) ++ dT)) ((⟨#[32]⟩ : ByteArray)) (by first | omega | (simp only [ByteArray.size_append]; omega))
  have b2 := fun w1 => run_string_add_sum (P := Tryz.prog) w1 ((⟨#[119, 97, 110, 116]⟩ : ByteArray) ++ ((⟨#[32]⟩ : ByteArray) ++ dF ++ (⟨#[32, 62, 32]⟩ : ByteArray) ++ dT) ++ (⟨#[32]⟩ : ByteArray)) (k) (by first | omega | (simp only [ByteArray.size_append]; omega))
  have b3 := fun w1 => run_string_add_sum (P := Tryz.prog) w1 ((⟨#[119, 97, 110, 116]⟩ : ByteArray) ++ ((⟨#[32]⟩ : ByteArray) ++ dF ++ (⟨#[32, 62, 32]⟩ : ByteArray) ++ dT) ++ (⟨#[32]⟩ : ByteArray) ++ k) ((⟨#[32]⟩ : ByteArray)) (by first | omega | (simp only [ByteArray.size_append]; omega))
  have b4 := fun w1 => run_string_add_sum (P := Tryz.prog) w1 ((⟨#[119, 97, 110, 116]⟩ : ByteArray) ++ ((⟨#[32]⟩ : ByteArray) ++ dF ++ (⟨#[32, 62, 32]⟩ : ByteArray) ++ dT) ++ (⟨#[32]⟩ : ByteArray) ++ k ++ (⟨#[32]⟩ : ByteArray)) (dN) (by first | omega | (simp only [ByteArray.size_append]; omega))
  have Ha0 := hide a0
  have Ha1 := hide a1
  have Ha2 := hide a2
  have Hb0 := hide b0
  have Hb1 := hide b1
  have Hb2 := hide b2
  have Hb3 := hide b3
  have Hb4 := hide b4
  clear hw1 hwg hw4 hw3 sF hF0 hF1 sT hT0 hT1 sN hN0 hN1 a0 a1 a2 b0 b1 b2 b3 b4 hk
  go_enter Tryz.func19, Tryz.ntmps19
  go_wp2_with fail
  refine (unhide HO _).mono ?_
  rintro e w1 ⟨rfl, hb1⟩
  have hA := blk_step (heap_alloc_new w _) hb1
  have hB := (below_one w _).trans (hb1.mono (by simp))
  obtain ⟨c0, c1, c2, c3, c4, c5, c6⟩ := cells7 hA
  have hz := blk_lt hA
  clear hb1
  go_upto_region 3 with fail
  refine wp_at (fun V hV => ?_)
  have hblk : V.heap[w.heap.size]? = some (.cells #[.int .i64 0, .int .i64 F, .int .i64 T, .int .i64 I, .int .i64 L, .string k, .int .i64 N] 25 (0, 0)) := by rw [hV]; exact hA
  have HBV := hide (show Below w.heap.size w V by rw [hV]; exact hB)
  have hgV := blk_lt hblk
  obtain ⟨p0, p1, p2, p3, p4, p5, p6⟩ := cells7 hblk
  have HBLK := hide hblk
  clear hV hblk hA hB c0 c1 c2 c3 c4 c5 c6 hz
  have y1 := cell_regrown p1
  have y2 := cell_regrown p2
  have n1 : ∀ d os, Calls Tryz.prog 44 #[.int .i64 F] (Sort.grow (redrawn V d) os) fun e w'' => e = .returned (.string dF) ∧ ∃ p : Regrown, w'' = Sort.grow (redrawn V p.d) p.os := fun d os => Calls.regrown_of (unhide DF _)
  have n2 : ∀ d os, Calls Tryz.prog 44 #[.int .i64 T] (Sort.grow (redrawn V d) os) fun e w'' => e = .returned (.string dT) ∧ ∃ p : Regrown, w'' = Sort.grow (redrawn V p.d) p.os := fun d os => Calls.regrown_of (unhide DT _)
  have a0 := unhide Ha0
  have a1 := unhide Ha1
  have a2 := unhide Ha2
  clear p0 p1 p2 p3 p4 p5 p6
  refine wp_region_quiet_below (by kernel_rfl) (by kernel_rfl) ?_
  repeat (first | go_big_quiet_step (first | (go_at_call_of 44 F; exact n1 _ _) | (go_at_call_of 44 T; exact n2 _ _)) | quiet_step (first | (go_at_call_of 44 F; exact n1 _ _) | (go_at_call_of 44 T; exact n2 _ _)))
  refine wpQuiet_nil ?_
  intro _ hw'
  obtain ⟨⟨dq, osq⟩, hw''⟩ := hw'
  subst hw''
  have hb2 := below_regrown V dq osq
  have HB2 := hide ((unhide HBV).trans (hb2.mono (unhide HBV).size))
  have hblk2 := blk_step (unhide HBLK) hb2
  have hz2 := blk_lt hblk2
  clear hb2 HBV HBLK y1 y2 n1 n2 a0 a1 a2 hgV
  generalize Sort.grow (redrawn V dq) osq = U at *
  obtain ⟨p0, p1, p2, p3, p4, p5, p6⟩ := cells7 hblk2
  have HBLK2 := hide hblk2
  clear hblk2
  go_upto_region 6 with fail
  refine wp_at (fun V2 hV => ?_)
  obtain rfl := hV
  clear p0 p1 p2 p3 p4 p5 p6
  obtain ⟨p0, p1, p2, p3, p4, p5, p6⟩ := cells7 (unhide HBLK2)
  have y6 := cell_regrown p6
  have y5 := cell_regrown p5
  have mN : ∀ d os, Calls Tryz.prog 44 #[.int .i64 N] (Sort.grow (redrawn V2 d) os) fun e w'' => e = .returned (.string dN) ∧ ∃ p : Regrown, w'' = Sort.grow (redrawn V2 p.d) p.os := fun d os => Calls.regrown_of (unhide DN _)
  have b0 := unhide Hb0
  have b1 := unhide Hb1
  have b2 := unhide Hb2
  have b3 := unhide Hb3
  have b4 := unhide Hb4
  clear p0 p1 p2 p3 p4 p5 p6 HBLK2
  refine wp_region_quiet_below (by kernel_rfl) (by kernel_rfl) ?_
  repeat (first | go_big_quiet_step (first | (go_at_call_of 44 N; exact mN _ _)) | quiet_step (first | (go_at_call_of 44 N; exact mN _ _)))
  refine wpQuiet_nil ?_
  intro _ hw'
  obtain ⟨⟨dr, osr⟩, hw''⟩ := hw'
  subst hw''
  have hB5 := (unhide HB2).trans ((below_regrown V2 dr osr).mono (unhide HB2).size)
  clear y6 y5 mN b0 b1 b2 b3 b4
  go_wp2_with fail
  go_ret
  exact ⟨rfl, hB5⟩

set_option maxRecDepth 100000 in
set_option maxHeartbeats 4000000 in
theorem specMsgText_pay (F T I L : Int) (k : ByteArray) (N : Int) (w : World) (h : mgOk ⟨1, F, T, I, L, k, N⟩ = true) (hF0 : 0 ≤ F) (hF1 : F ≤ 1000000000) (hT0 : 0 ≤ T) (hT1 : T ≤ 1000000000) (hI0 : 0 ≤ I) (hI1 : I ≤ 1000000000) (hL0 : 0 ≤ L) (hL1 : L ≤ 1000000000) (hN0 : 0 ≤ N) (hN1 : N ≤ 1000000000) (hk : k.size ≤ 10) : Calls Tryz.prog 19 #[mgv ⟨1, F, T, I, L, k, N⟩] w fun e w' => e = .returned (.string (txPay (dec F) (dec T) (dec I) (dec L) k (dec N))) ∧ Below w.heap.size w w' := by
  have HO := hide (fun w1 => specMsgOk ⟨1, F, T, I, L, k, N⟩ w1 (Nat.le_trans hk (by unfold maxLen; omega)))
  rw [h] at HO
  clear h
  unfold txPay
  have DF := hide (fun w1 => specDecB F hF0 hF1 w1)
  have sF := dec_size F hF0 hF1
  have DT := hide (fun w1 => specDecB T hT0 hT1 w1)
  have sT := dec_size T hT0 hT1
  have DI := hide (fun w1 => specDecB I hI0 hI1 w1)
  have sI := dec_size I hI0 hI1
  have DL := hide (fun w1 => specDecB L hL0 hL1 w1)
  have sL := dec_size L hL0 hL1
  have DN := hide (fun w1 => specDecB N hN0 hN1 w1)
  have sN := dec_size N hN0 hN1
  generalize dec F = dF at *
  generalize dec T = dT at *
  generalize dec I = dI at *
  generalize dec L = dL at *
  generalize dec N = dN at *
  have hw1 : (⟨#[32]⟩ : ByteArray).size = 1 := rfl
  have hwg : (⟨#[32, 62, 32]⟩ : ByteArray).size = 3 := rfl
  have hw4 : (⟨#[119, 97, 110, 116]⟩ : ByteArray).size = 4 := rfl
  have hw3 : (⟨#[112, 97, 121]⟩ : ByteArray).size = 3 := rfl
  have a0 := fun w1 => run_string_add_sum (P := Tryz.prog) w1 ((⟨#[32]⟩ : ByteArray)) (dF) (by first | omega | (simp only [ByteArray.size_append]; omega))
  have a1 := fun w1 => run_string_add_sum (P := Tryz.prog) w1 ((⟨#[32]⟩ : ByteArray) ++ dF) ((⟨#[32, 62, 32]⟩ : ByteArray)) (by first | omega | (simp only [ByteArray.size_append]; omega))
  have a2 := fun w1 => run_string_add_sum (P := Tryz.prog) w1 ((⟨#[32]⟩ : ByteArray) ++ dF ++ (⟨#[32, 62, 32]⟩ : ByteArray)) (dT) (by first | omega | (simp only [ByteArray.size_append]; omega))
  have b0 := fun w1 => run_string_add_sum (P := Tryz.prog) w1 ((⟨#[112, 97, 121]⟩ : ByteArray)) (((⟨#[32]⟩ : ByteArray) ++ dF ++ (⟨#[32, 62, 32]⟩ : ByteArray) ++ dT)) (by first | omega | (simp only [ByteArray.size_append]; omega))
  have b1 := fun w1 => run_string_add_sum (P := Tryz.prog) w1 ((⟨#[112, 97, 121]⟩ : ByteArray) ++ ((⟨#[32]⟩ : ByteArray) ++ dF ++ (⟨#[32, 62, 32]⟩ : ByteArray) ++ dT)) ((⟨#[32]⟩ : ByteArray)) (by first | omega | (simp only [ByteArray.size_append]; omega))
  have b2 := fun w1 => run_string_add_sum (P := Tryz.prog) w1 ((⟨#[112, 97, 121]⟩ : ByteArray) ++ ((⟨#[32]⟩ : ByteArray) ++ dF ++ (⟨#[32, 62, 32]⟩ : ByteArray) ++ dT) ++ (⟨#[32]⟩ : ByteArray)) (dI) (by first | omega | (simp only [ByteArray.size_append]; omega))
  have b3 := fun w1 => run_string_add_sum (P := Tryz.prog) w1 ((⟨#[112, 97, 121]⟩ : ByteArray) ++ ((⟨#[32]⟩ : ByteArray) ++ dF ++ (⟨#[32, 62, 32]⟩ : ByteArray) ++ dT) ++ (⟨#[32]⟩ : ByteArray) ++ dI) ((⟨#[32]⟩ : ByteArray)) (by first | omega | (simp only [ByteArray.size_append]; omega))
  have b4 := fun w1 => run_string_add_sum (P := Tryz.prog) w1 ((⟨#[112, 97, 121]⟩ : ByteArray) ++ ((⟨#[32]⟩ : ByteArray) ++ dF ++ (⟨#[32, 62, 32]⟩ : ByteArray) ++ dT) ++ (⟨#[32]⟩ : ByteArray) ++ dI ++ (⟨#[32]⟩ : ByteArray)) (dL) (by first | omega | (simp only [ByteArray.size_append]; omega))
  have b5 := fun w1 => run_string_add_sum (P := Tryz.prog) w1 ((⟨#[112, 97, 121]⟩ : ByteArray) ++ ((⟨#[32]⟩ : ByteArray) ++ dF ++ (⟨#[32, 62, 32]⟩ : ByteArray) ++ dT) ++ (⟨#[32]⟩ : ByteArray) ++ dI ++ (⟨#[32]⟩ : ByteArray) ++ dL) ((⟨#[32]⟩ : ByteArray)) (by first | omega | (simp only [ByteArray.size_append]; omega))
  have b6 := fun w1 => run_string_add_sum (P := Tryz.prog) w1 ((⟨#[112, 97, 121]⟩ : ByteArray) ++ ((⟨#[32]⟩ : ByteArray) ++ dF ++ (⟨#[32, 62, 32]⟩ : ByteArray) ++ dT) ++ (⟨#[32]⟩ : ByteArray) ++ dI ++ (⟨#[32]⟩ : ByteArray) ++ dL ++ (⟨#[32]⟩ : ByteArray)) (k) (by first | omega | (simp only [ByteArray.size_append]; omega))
  have b7 := fun w1 => run_string_add_sum (P := Tryz.prog) w1 ((⟨#[112, 97, 121]⟩ : ByteArray) ++ ((⟨#[32]⟩ : ByteArray) ++ dF ++ (⟨#[32, 62, 32]⟩ : ByteArray) ++ dT) ++ (⟨#[32]⟩ : ByteArray) ++ dI ++ (⟨#[32]⟩ : ByteArray) ++ dL ++ (⟨#[32]⟩ : ByteArray) ++ k) ((⟨#[32]⟩ : ByteArray)) (by first | omega | (simp only [ByteArray.size_append]; omega))
  have b8 := fun w1 => run_string_add_sum (P := Tryz.prog) w1 ((⟨#[112, 97, 121]⟩ : ByteArray) ++ ((⟨#[32]⟩ : ByteArray) ++ dF ++ (⟨#[32, 62, 32]⟩ : ByteArray) ++ dT) ++ (⟨#[32]⟩ : ByteArray) ++ dI ++ (⟨#[32]⟩ : ByteArray) ++ dL ++ (⟨#[32]⟩ : ByteArray) ++ k ++ (⟨#[32]⟩ : ByteArray)) (dN) (by first | omega | (simp only [ByteArray.size_append]; omega))
  have Ha0 := hide a0
  have Ha1 := hide a1
  have Ha2 := hide a2
  have Hb0 := hide b0
  have Hb1 := hide b1
  have Hb2 := hide b2
  have Hb3 := hide b3
  have Hb4 := hide b4
  have Hb5 := hide b5
  have Hb6 := hide b6
  have Hb7 := hide b7
  have Hb8 := hide b8
  clear hw1 hwg hw4 hw3 sF hF0 hF1 sT hT0 hT1 sI hI0 hI1 sL hL0 hL1 sN hN0 hN1 a0 a1 a2 b0 b1 b2 b3 b4 b5 b6 b7 b8 hk
  go_enter Tryz.func19, Tryz.ntmps19
  go_wp2_with fail
  refine (unhide HO _).mono ?_
  rintro e w1 ⟨rfl, hb1⟩
  have hA := blk_step (heap_alloc_new w _) hb1
  have hB := (below_one w _).trans (hb1.mono (by simp))
  obtain ⟨c0, c1, c2, c3, c4, c5, c6⟩ := cells7 hA
  have hz := blk_lt hA
  clear hb1
  go_upto_region 3 with fail
  refine wp_at (fun V hV => ?_)
  have hblk : V.heap[w.heap.size]? = some (.cells #[.int .i64 1, .int .i64 F, .int .i64 T, .int .i64 I, .int .i64 L, .string k, .int .i64 N] 25 (0, 0)) := by rw [hV]; exact hA
  have HBV := hide (show Below w.heap.size w V by rw [hV]; exact hB)
  have hgV := blk_lt hblk
  obtain ⟨p0, p1, p2, p3, p4, p5, p6⟩ := cells7 hblk
  have HBLK := hide hblk
  clear hV hblk hA hB c0 c1 c2 c3 c4 c5 c6 hz
  have y1 := cell_regrown p1
  have y2 := cell_regrown p2
  have n1 : ∀ d os, Calls Tryz.prog 44 #[.int .i64 F] (Sort.grow (redrawn V d) os) fun e w'' => e = .returned (.string dF) ∧ ∃ p : Regrown, w'' = Sort.grow (redrawn V p.d) p.os := fun d os => Calls.regrown_of (unhide DF _)
  have n2 : ∀ d os, Calls Tryz.prog 44 #[.int .i64 T] (Sort.grow (redrawn V d) os) fun e w'' => e = .returned (.string dT) ∧ ∃ p : Regrown, w'' = Sort.grow (redrawn V p.d) p.os := fun d os => Calls.regrown_of (unhide DT _)
  have a0 := unhide Ha0
  have a1 := unhide Ha1
  have a2 := unhide Ha2
  clear p0 p1 p2 p3 p4 p5 p6
  refine wp_region_quiet_below (by kernel_rfl) (by kernel_rfl) ?_
  repeat (first | go_big_quiet_step (first | (go_at_call_of 44 F; exact n1 _ _) | (go_at_call_of 44 T; exact n2 _ _)) | quiet_step (first | (go_at_call_of 44 F; exact n1 _ _) | (go_at_call_of 44 T; exact n2 _ _)))
  refine wpQuiet_nil ?_
  intro _ hw'
  obtain ⟨⟨dq, osq⟩, hw''⟩ := hw'
  subst hw''
  have hb2 := below_regrown V dq osq
  have HB2 := hide ((unhide HBV).trans (hb2.mono (unhide HBV).size))
  have hblk2 := blk_step (unhide HBLK) hb2
  have hz2 := blk_lt hblk2
  clear hb2 HBV HBLK y1 y2 n1 n2 a0 a1 a2 hgV
  generalize Sort.grow (redrawn V dq) osq = U at *
  obtain ⟨p0, p1, p2, p3, p4, p5, p6⟩ := cells7 hblk2
  have HBLK2 := hide hblk2
  clear hblk2
  go_upto_region 8 with fail
  refine wp_at (fun V2 hV => ?_)
  obtain rfl := hV
  clear p0 p1 p2 p3 p4 p5 p6
  obtain ⟨p0, p1, p2, p3, p4, p5, p6⟩ := cells7 (unhide HBLK2)
  have y3 := cell_regrown p3
  have y4 := cell_regrown p4
  have y6 := cell_regrown p6
  have y5 := cell_regrown p5
  have mI : ∀ d os, Calls Tryz.prog 44 #[.int .i64 I] (Sort.grow (redrawn V2 d) os) fun e w'' => e = .returned (.string dI) ∧ ∃ p : Regrown, w'' = Sort.grow (redrawn V2 p.d) p.os := fun d os => Calls.regrown_of (unhide DI _)
  have mL : ∀ d os, Calls Tryz.prog 44 #[.int .i64 L] (Sort.grow (redrawn V2 d) os) fun e w'' => e = .returned (.string dL) ∧ ∃ p : Regrown, w'' = Sort.grow (redrawn V2 p.d) p.os := fun d os => Calls.regrown_of (unhide DL _)
  have mN : ∀ d os, Calls Tryz.prog 44 #[.int .i64 N] (Sort.grow (redrawn V2 d) os) fun e w'' => e = .returned (.string dN) ∧ ∃ p : Regrown, w'' = Sort.grow (redrawn V2 p.d) p.os := fun d os => Calls.regrown_of (unhide DN _)
  have b0 := unhide Hb0
  have b1 := unhide Hb1
  have b2 := unhide Hb2
  have b3 := unhide Hb3
  have b4 := unhide Hb4
  have b5 := unhide Hb5
  have b6 := unhide Hb6
  have b7 := unhide Hb7
  have b8 := unhide Hb8
  clear p0 p1 p2 p3 p4 p5 p6 HBLK2
  refine wp_region_quiet_below (by kernel_rfl) (by kernel_rfl) ?_
  repeat (first | go_big_quiet_step (first | (go_at_call_of 44 I; exact mI _ _) | (go_at_call_of 44 L; exact mL _ _) | (go_at_call_of 44 N; exact mN _ _)) | quiet_step (first | (go_at_call_of 44 I; exact mI _ _) | (go_at_call_of 44 L; exact mL _ _) | (go_at_call_of 44 N; exact mN _ _)))
  refine wpQuiet_nil ?_
  intro _ hw'
  obtain ⟨⟨dr, osr⟩, hw''⟩ := hw'
  subst hw''
  have hB5 := (unhide HB2).trans ((below_regrown V2 dr osr).mono (unhide HB2).size)
  clear y3 y4 y6 y5 mI mL mN b0 b1 b2 b3 b4 b5 b6 b7 b8
  go_wp2_with fail
  go_ret
  exact ⟨rfl, hB5⟩

set_option maxRecDepth 100000 in
set_option maxHeartbeats 4000000 in
theorem specMsgText_ack (F T I L : Int) (k : ByteArray) (N : Int) (w : World) (h : mgOk ⟨2, F, T, I, L, k, N⟩ = true) (hF0 : 0 ≤ F) (hF1 : F ≤ 1000000000) (hT0 : 0 ≤ T) (hT1 : T ≤ 1000000000) (hI0 : 0 ≤ I) (hI1 : I ≤ 1000000000) (hk : k.size ≤ maxLen) : Calls Tryz.prog 19 #[mgv ⟨2, F, T, I, L, k, N⟩] w fun e w' => e = .returned (.string (txAck (dec F) (dec T) (dec I))) ∧ Below w.heap.size w w' := by
  have HO := hide (fun w1 => specMsgOk ⟨2, F, T, I, L, k, N⟩ w1 hk)
  rw [h] at HO
  clear h hk
  unfold txAck
  have DF := hide (fun w1 => specDecB F hF0 hF1 w1)
  have sF := dec_size F hF0 hF1
  have DT := hide (fun w1 => specDecB T hT0 hT1 w1)
  have sT := dec_size T hT0 hT1
  have DI := hide (fun w1 => specDecB I hI0 hI1 w1)
  have sI := dec_size I hI0 hI1
  generalize dec F = dF at *
  generalize dec T = dT at *
  generalize dec I = dI at *
  have hw1 : (⟨#[32]⟩ : ByteArray).size = 1 := rfl
  have hwg : (⟨#[32, 62, 32]⟩ : ByteArray).size = 3 := rfl
  have hw4 : (⟨#[119, 97, 110, 116]⟩ : ByteArray).size = 4 := rfl
  have hw3 : (⟨#[97, 99, 107]⟩ : ByteArray).size = 3 := rfl
  have a0 := fun w1 => run_string_add_sum (P := Tryz.prog) w1 ((⟨#[32]⟩ : ByteArray)) (dF) (by first | omega | (simp only [ByteArray.size_append]; omega))
  have a1 := fun w1 => run_string_add_sum (P := Tryz.prog) w1 ((⟨#[32]⟩ : ByteArray) ++ dF) ((⟨#[32, 62, 32]⟩ : ByteArray)) (by first | omega | (simp only [ByteArray.size_append]; omega))
  have a2 := fun w1 => run_string_add_sum (P := Tryz.prog) w1 ((⟨#[32]⟩ : ByteArray) ++ dF ++ (⟨#[32, 62, 32]⟩ : ByteArray)) (dT) (by first | omega | (simp only [ByteArray.size_append]; omega))
  have b0 := fun w1 => run_string_add_sum (P := Tryz.prog) w1 ((⟨#[97, 99, 107]⟩ : ByteArray)) (((⟨#[32]⟩ : ByteArray) ++ dF ++ (⟨#[32, 62, 32]⟩ : ByteArray) ++ dT)) (by first | omega | (simp only [ByteArray.size_append]; omega))
  have b1 := fun w1 => run_string_add_sum (P := Tryz.prog) w1 ((⟨#[97, 99, 107]⟩ : ByteArray) ++ ((⟨#[32]⟩ : ByteArray) ++ dF ++ (⟨#[32, 62, 32]⟩ : ByteArray) ++ dT)) ((⟨#[32]⟩ : ByteArray)) (by first | omega | (simp only [ByteArray.size_append]; omega))
  have b2 := fun w1 => run_string_add_sum (P := Tryz.prog) w1 ((⟨#[97, 99, 107]⟩ : ByteArray) ++ ((⟨#[32]⟩ : ByteArray) ++ dF ++ (⟨#[32, 62, 32]⟩ : ByteArray) ++ dT) ++ (⟨#[32]⟩ : ByteArray)) (dI) (by first | omega | (simp only [ByteArray.size_append]; omega))
  have Ha0 := hide a0
  have Ha1 := hide a1
  have Ha2 := hide a2
  have Hb0 := hide b0
  have Hb1 := hide b1
  have Hb2 := hide b2
  clear hw1 hwg hw4 hw3 sF hF0 hF1 sT hT0 hT1 sI hI0 hI1 a0 a1 a2 b0 b1 b2 
  go_enter Tryz.func19, Tryz.ntmps19
  go_wp2_with fail
  refine (unhide HO _).mono ?_
  rintro e w1 ⟨rfl, hb1⟩
  have hA := blk_step (heap_alloc_new w _) hb1
  have hB := (below_one w _).trans (hb1.mono (by simp))
  obtain ⟨c0, c1, c2, c3, c4, c5, c6⟩ := cells7 hA
  have hz := blk_lt hA
  clear hb1
  go_upto_region 3 with fail
  refine wp_at (fun V hV => ?_)
  have hblk : V.heap[w.heap.size]? = some (.cells #[.int .i64 2, .int .i64 F, .int .i64 T, .int .i64 I, .int .i64 L, .string k, .int .i64 N] 25 (0, 0)) := by rw [hV]; exact hA
  have HBV := hide (show Below w.heap.size w V by rw [hV]; exact hB)
  have hgV := blk_lt hblk
  obtain ⟨p0, p1, p2, p3, p4, p5, p6⟩ := cells7 hblk
  have HBLK := hide hblk
  clear hV hblk hA hB c0 c1 c2 c3 c4 c5 c6 hz
  have y1 := cell_regrown p1
  have y2 := cell_regrown p2
  have n1 : ∀ d os, Calls Tryz.prog 44 #[.int .i64 F] (Sort.grow (redrawn V d) os) fun e w'' => e = .returned (.string dF) ∧ ∃ p : Regrown, w'' = Sort.grow (redrawn V p.d) p.os := fun d os => Calls.regrown_of (unhide DF _)
  have n2 : ∀ d os, Calls Tryz.prog 44 #[.int .i64 T] (Sort.grow (redrawn V d) os) fun e w'' => e = .returned (.string dT) ∧ ∃ p : Regrown, w'' = Sort.grow (redrawn V p.d) p.os := fun d os => Calls.regrown_of (unhide DT _)
  have a0 := unhide Ha0
  have a1 := unhide Ha1
  have a2 := unhide Ha2
  clear p0 p1 p2 p3 p4 p5 p6
  refine wp_region_quiet_below (by kernel_rfl) (by kernel_rfl) ?_
  repeat (first | go_big_quiet_step (first | (go_at_call_of 44 F; exact n1 _ _) | (go_at_call_of 44 T; exact n2 _ _)) | quiet_step (first | (go_at_call_of 44 F; exact n1 _ _) | (go_at_call_of 44 T; exact n2 _ _)))
  refine wpQuiet_nil ?_
  intro _ hw'
  obtain ⟨⟨dq, osq⟩, hw''⟩ := hw'
  subst hw''
  have hb2 := below_regrown V dq osq
  have HB2 := hide ((unhide HBV).trans (hb2.mono (unhide HBV).size))
  have hblk2 := blk_step (unhide HBLK) hb2
  have hz2 := blk_lt hblk2
  clear hb2 HBV HBLK y1 y2 n1 n2 a0 a1 a2 hgV
  generalize Sort.grow (redrawn V dq) osq = U at *
  obtain ⟨p0, p1, p2, p3, p4, p5, p6⟩ := cells7 hblk2
  have b0 := unhide Hb0
  have b1 := unhide Hb1
  have b2 := unhide Hb2
  clear hblk2
  go_wp2_with fail
  refine (unhide DI _).mono ?_
  rintro e w5 ⟨rfl, hb5⟩
  have hB5 := (unhide HB2).trans (hb5.mono (unhide HB2).size)
  clear hb5 p0 p1 p2 p3 p4 p5 p6
  go_wp2_with fail
  go_ret
  exact ⟨rfl, hB5⟩

theorem specMsgText (m : Mg) (w : World) (hs : m.k.size ≤ maxLen) : Calls Tryz.prog 19 #[mgv m] w fun e w' => e = .returned (.string (msgTx m)) ∧ Below w.heap.size w w' := by
  cases h : mgOk m
  · rw [msgTx_no h]; exact specMsgText_no m w hs h
  obtain ⟨hF, hT, hc⟩ := mg_parts h
  obtain ⟨K, F, T, I, L, k, N⟩ := m
  have hx := h
  unfold msgTx
  rw [if_pos h]
  dsimp only at *
  rcases hc with ⟨rfl, hN, hk⟩ | ⟨rfl, hN, hI, hL, hk⟩ | ⟨rfl, hI⟩
  · exact specMsgText_want F T I L k N w hx (by omega) (by omega) (by omega) (by omega) (by omega) (by omega) hk
  · exact specMsgText_pay F T I L k N w hx (by omega) (by omega) (by omega) (by omega) (by omega) (by omega) (by omega) (by omega) (by omega) (by omega) hk
  · exact specMsgText_ack F T I L k N w hx (by omega) (by omega) (by omega) (by omega) (by omega) (by omega) hs
end Go.Proofs.YtlopllgioobcjaaGreatDoor
namespace Go.Proofs.YtlopllgioobcjaaGreatDoor
open Go.RowKit
open Mth

theorem Tens.below {w w' : World} (h : Tens w) (hb : Below w.heap.size w w') : Tens w' := Lib.tabBelow_of_tabIs h w' hb
theorem implDecB (n : Int) (h0 : 0 ≤ n) (h1 : n ≤ 1000000000) (w : World) (hT : Tens w) : Calls Tryz.prog 57 #[.int .i64 n] w fun e w' => e = .returned (.string (dec n)) ∧ Below w.heap.size w w' :=
  implDec n w (by omega) (by omega) hT

set_option maxRecDepth 100000 in
set_option maxHeartbeats 4000000 in
theorem wordsOf_want (F : Int) (T : Int) (k : ByteArray) (N : Int) (hF0 : 0 ≤ F) (hF1 : F ≤ 1000000000) (hT0 : 0 ≤ T) (hT1 : T ≤ 1000000000) (hN0 : 0 ≤ N) (hN1 : N ≤ 1000000000) (w : World) (hT : Tens w) : Calls Tryz.prog 43 #[.iface 77 (.agg #[.int .i64 F, .int .i64 T, .string k, .int .i64 N])] w fun e w' => ∃ g, e = .returned (.slice (some ⟨g, 0, none⟩) 6 6) ∧ w'.heap[g]? = some (.cells #[.string (⟨#[119, 97, 110, 116]⟩ : ByteArray), .string (dec F), .string (⟨#[62]⟩ : ByteArray), .string (dec T), .string k, .string (dec N)] 9 (0, 0)) ∧ Below w.heap.size w w' := by
  have DF := hide (fun w1 => implDecB F hF0 hF1 w1)
  have DT := hide (fun w1 => implDecB T hT0 hT1 w1)
  have DN := hide (fun w1 => implDecB N hN0 hN1 w1)
  generalize dec F = dF at *
  generalize dec T = dT at *
  generalize dec N = dN at *
  clear hF0 hF1 hT0 hT1 hN0 hN1
  have f0 := as_want_want (.agg #[.int .i64 F, .int .i64 T, .string k, .int .i64 N])
  have HT := hide hT
  clear hT
  go_enter Tryz.func43, Tryz.ntmps43
  go_upto_region 4 with fail
  refine wp_at (fun V hV => ?_)
  have hblk : V.heap[w.heap.size]? = some (.cells #[.int .i64 F, .int .i64 T, .string k, .int .i64 N] 77 (0, 0)) := by rw [hV]; exact heap_alloc_new w _
  have HBV := hide (show Below w.heap.size w V by rw [hV]; exact below_one w _)
  have HTG := hide (fun p : Regrown => ((unhide HT).below (unhide HBV)).below (below_regrown V p.d p.os))
  have hgV := blk_lt hblk
  obtain ⟨p0, p1, p2, p3⟩ := cells4 hblk
  clear hV hblk HT
  have y0 := cell_regrown p0
  have y1 := cell_regrown p1
  have y2 := cell_regrown p2
  have y3 := cell_regrown p3
  clear p0 p1 p2 p3 f0
  refine wp_region_mix (by kernel_rfl) ?_
  show wpMix _ _ _ _ 15 (Array.replicate 15 false) _ _
  refine wpMix_take 0 rfl (by kernel_rfl) (by kernel_rfl) (by kernel_rfl) (fun _ _ _ _ h => h) (fun K hK => ?_)
  go_simp
  first
    | (refine hK _ ?_; clear hK K)
    | (apply Exists.intro
       refine ⟨fun _ => ?_, hK _ ?_⟩
       (fail)
       clear hK K)
  refine wpMix_take 1 rfl (by kernel_rfl) (by kernel_rfl) (by kernel_rfl) (fun _ _ _ _ h => h) (fun K hK => ?_)
  go_simp
  first
    | (refine hK _ ?_; clear hK K)
    | (apply Exists.intro
       refine ⟨fun _ => ?_, hK _ ?_⟩
       (fail)
       clear hK K)
  refine wpMix_take 2 rfl (by kernel_rfl) (by kernel_rfl) (by kernel_rfl) (fun _ _ _ _ h => h) (fun K hK => ?_)
  go_simp
  first
    | (refine hK _ ?_; clear hK K)
    | (apply Exists.intro
       refine ⟨fun _ => ?_, hK _ ?_⟩
       (fail)
       clear hK K)
  refine wpMix_take 3 rfl (by kernel_rfl) (by kernel_rfl) (by kernel_rfl) (fun _ _ _ _ h => h) (fun K hK => ?_)
  go_simp
  first
    | (refine hK _ ?_; clear hK K)
    | (apply Exists.intro
       refine ⟨fun _ => ?_, hK _ ?_⟩
       (exact unhide DF _ (unhide HTG _))
       clear hK K)
  refine wpMix_take 4 rfl (by kernel_rfl) (by kernel_rfl) (by kernel_rfl) (fun _ _ _ _ h => h) (fun K hK => ?_)
  go_simp
  first
    | (refine hK _ ?_; clear hK K)
    | (apply Exists.intro
       refine ⟨fun _ => ?_, hK _ ?_⟩
       (fail)
       clear hK K)
  refine wpMix_take 5 rfl (by kernel_rfl) (by kernel_rfl) (by kernel_rfl) (fun _ _ _ _ h => h) (fun K hK => ?_)
  go_simp
  first
    | (refine hK _ ?_; clear hK K)
    | (apply Exists.intro
       refine ⟨fun _ => ?_, hK _ ?_⟩
       (fail)
       clear hK K)
  refine wpMix_take 6 rfl (by kernel_rfl) (by kernel_rfl) (by kernel_rfl) (fun _ _ _ _ h => h) (fun K hK => ?_)
  go_simp
  first
    | (refine hK _ ?_; clear hK K)
    | (apply Exists.intro
       refine ⟨fun _ => ?_, hK _ ?_⟩
       (fail)
       clear hK K)
  refine wpMix_take 7 rfl (by kernel_rfl) (by kernel_rfl) (by kernel_rfl) (fun _ _ _ _ h => h) (fun K hK => ?_)
  go_simp
  first
    | (refine hK _ ?_; clear hK K)
    | (apply Exists.intro
       refine ⟨fun _ => ?_, hK _ ?_⟩
       (exact unhide DT _ (unhide HTG _))
       clear hK K)
  refine wpMix_take 8 rfl (by kernel_rfl) (by kernel_rfl) (by kernel_rfl) (fun _ _ _ _ h => h) (fun K hK => ?_)
  go_simp
  first
    | (refine hK _ ?_; clear hK K)
    | (apply Exists.intro
       refine ⟨fun _ => ?_, hK _ ?_⟩
       (fail)
       clear hK K)
  refine wpMix_take 9 rfl (by kernel_rfl) (by kernel_rfl) (by kernel_rfl) (fun _ _ _ _ h => h) (fun K hK => ?_)
  go_simp
  first
    | (refine hK _ ?_; clear hK K)
    | (apply Exists.intro
       refine ⟨fun _ => ?_, hK _ ?_⟩
       (fail)
       clear hK K)
  refine wpMix_take 10 rfl (by kernel_rfl) (by kernel_rfl) (by kernel_rfl) (fun _ _ _ _ h => h) (fun K hK => ?_)
  go_simp
  first
    | (refine hK _ ?_; clear hK K)
    | (apply Exists.intro
       refine ⟨fun _ => ?_, hK _ ?_⟩
       (fail)
       clear hK K)
  refine wpMix_take 11 rfl (by kernel_rfl) (by kernel_rfl) (by kernel_rfl) (fun _ _ _ _ h => h) (fun K hK => ?_)
  go_simp
  first
    | (refine hK _ ?_; clear hK K)
    | (apply Exists.intro
       refine ⟨fun _ => ?_, hK _ ?_⟩
       (fail)
       clear hK K)
  refine wpMix_take 12 rfl (by kernel_rfl) (by kernel_rfl) (by kernel_rfl) (fun _ _ _ _ h => h) (fun K hK => ?_)
  go_simp
  first
    | (refine hK _ ?_; clear hK K)
    | (apply Exists.intro
       refine ⟨fun _ => ?_, hK _ ?_⟩
       (exact unhide DN _ (unhide HTG _))
       clear hK K)
  clear y0 y1 y2 y3 HTG DF DT DN
  refine wpMix_one 13 rfl (by kernel_rfl) (by rfl) (fun x hx => ?_)
  go_simp
  refine ⟨below_one x _, ?_⟩
  have hx2 := heap_alloc_new x (.cells #[.string (⟨#[119, 97, 110, 116]⟩ : ByteArray), .string dF, .string (⟨#[62]⟩ : ByteArray), .string dT, .string k, .string dN] 9)
  have HBX := hide (Ge.trans (Ge.trans (unhide HBV) hx) (below_one x (.cells #[.string (⟨#[119, 97, 110, 116]⟩ : ByteArray), .string dF, .string (⟨#[62]⟩ : ByteArray), .string dT, .string k, .string dN] 9)))
  generalize x.alloc (.cells #[.string (⟨#[119, 97, 110, 116]⟩ : ByteArray), .string dF, .string (⟨#[62]⟩ : ByteArray), .string dT, .string k, .string dN] 9) = y at *
  have HX := hide hx2
  clear hx hx2 HBV
  refine wpMix_take 14 rfl (by kernel_rfl) (by kernel_rfl) (by kernel_rfl) (fun _ _ _ _ h => h) (fun K hK => ?_)
  go_simp
  first
    | (refine hK _ ?_; clear hK K)
    | (apply Exists.intro
       refine ⟨fun _ => ?_, hK _ ?_⟩
       (fail)
       clear hK K)
  refine wpMix_done (by kernel_rfl) (fun z hz => ?_)
  have HBZ := hide (Ge.trans (unhide HBX) hz)
  have HZB := hide (blk_step (unhide HX) hz)
  clear hz HBX HX
  go_simp
  go_wp2_with fail
  go_ret
  exact ⟨x.heap.size, rfl, unhide HZB, unhide HBZ⟩

set_option maxRecDepth 100000 in
set_option maxHeartbeats 4000000 in
theorem wordsOf_pay (F : Int) (T : Int) (I : Int) (L : Int) (k : ByteArray) (N : Int) (hF0 : 0 ≤ F) (hF1 : F ≤ 1000000000) (hT0 : 0 ≤ T) (hT1 : T ≤ 1000000000) (hI0 : 0 ≤ I) (hI1 : I ≤ 1000000000) (hL0 : 0 ≤ L) (hL1 : L ≤ 1000000000) (hN0 : 0 ≤ N) (hN1 : N ≤ 1000000000) (w : World) (hT : Tens w) : Calls Tryz.prog 43 #[.iface 79 (.agg #[.int .i64 F, .int .i64 T, .int .i64 I, .int .i64 L, .string k, .int .i64 N])] w fun e w' => ∃ g, e = .returned (.slice (some ⟨g, 0, none⟩) 8 8) ∧ w'.heap[g]? = some (.cells #[.string (⟨#[112, 97, 121]⟩ : ByteArray), .string (dec F), .string (⟨#[62]⟩ : ByteArray), .string (dec T), .string (dec I), .string (dec L), .string k, .string (dec N)] 9 (0, 0)) ∧ Below w.heap.size w w' := by
  have DF := hide (fun w1 => implDecB F hF0 hF1 w1)
  have DT := hide (fun w1 => implDecB T hT0 hT1 w1)
  have DI := hide (fun w1 => implDecB I hI0 hI1 w1)
  have DL := hide (fun w1 => implDecB L hL0 hL1 w1)
  have DN := hide (fun w1 => implDecB N hN0 hN1 w1)
  generalize dec F = dF at *
  generalize dec T = dT at *
  generalize dec I = dI at *
  generalize dec L = dL at *
  generalize dec N = dN at *
  clear hF0 hF1 hT0 hT1 hI0 hI1 hL0 hL1 hN0 hN1
  have f0 := as_pay_want (.agg #[.int .i64 F, .int .i64 T, .int .i64 I, .int .i64 L, .string k, .int .i64 N])
  have f1 := as_pay_pay (.agg #[.int .i64 F, .int .i64 T, .int .i64 I, .int .i64 L, .string k, .int .i64 N])
  have HT := hide hT
  clear hT
  go_enter Tryz.func43, Tryz.ntmps43
  go_upto_region 7 with fail
  refine wp_at (fun V hV => ?_)
  have hblk : V.heap[w.heap.size]? = some (.cells #[.int .i64 F, .int .i64 T, .int .i64 I, .int .i64 L, .string k, .int .i64 N] 79 (0, 0)) := by rw [hV]; exact heap_alloc_new w _
  have HBV := hide (show Below w.heap.size w V by rw [hV]; exact below_one w _)
  have HTG := hide (fun p : Regrown => ((unhide HT).below (unhide HBV)).below (below_regrown V p.d p.os))
  have hgV := blk_lt hblk
  obtain ⟨p0, p1, p2, p3, p4, p5⟩ := cells6 hblk
  clear hV hblk HT
  have y0 := cell_regrown p0
  have y1 := cell_regrown p1
  have y2 := cell_regrown p2
  have y3 := cell_regrown p3
  have y4 := cell_regrown p4
  have y5 := cell_regrown p5
  clear p0 p1 p2 p3 p4 p5 f0 f1
  refine wp_region_mix (by kernel_rfl) ?_
  show wpMix _ _ _ _ 21 (Array.replicate 21 false) _ _
  refine wpMix_take 0 rfl (by kernel_rfl) (by kernel_rfl) (by kernel_rfl) (fun _ _ _ _ h => h) (fun K hK => ?_)
  go_simp
  first
    | (refine hK _ ?_; clear hK K)
    | (apply Exists.intro
       refine ⟨fun _ => ?_, hK _ ?_⟩
       (fail)
       clear hK K)
  refine wpMix_take 1 rfl (by kernel_rfl) (by kernel_rfl) (by kernel_rfl) (fun _ _ _ _ h => h) (fun K hK => ?_)
  go_simp
  first
    | (refine hK _ ?_; clear hK K)
    | (apply Exists.intro
       refine ⟨fun _ => ?_, hK _ ?_⟩
       (fail)
       clear hK K)
  refine wpMix_take 2 rfl (by kernel_rfl) (by kernel_rfl) (by kernel_rfl) (fun _ _ _ _ h => h) (fun K hK => ?_)
  go_simp
  first
    | (refine hK _ ?_; clear hK K)
    | (apply Exists.intro
       refine ⟨fun _ => ?_, hK _ ?_⟩
       (fail)
       clear hK K)
  refine wpMix_take 3 rfl (by kernel_rfl) (by kernel_rfl) (by kernel_rfl) (fun _ _ _ _ h => h) (fun K hK => ?_)
  go_simp
  first
    | (refine hK _ ?_; clear hK K)
    | (apply Exists.intro
       refine ⟨fun _ => ?_, hK _ ?_⟩
       (exact unhide DF _ (unhide HTG _))
       clear hK K)
  refine wpMix_take 4 rfl (by kernel_rfl) (by kernel_rfl) (by kernel_rfl) (fun _ _ _ _ h => h) (fun K hK => ?_)
  go_simp
  first
    | (refine hK _ ?_; clear hK K)
    | (apply Exists.intro
       refine ⟨fun _ => ?_, hK _ ?_⟩
       (fail)
       clear hK K)
  refine wpMix_take 5 rfl (by kernel_rfl) (by kernel_rfl) (by kernel_rfl) (fun _ _ _ _ h => h) (fun K hK => ?_)
  go_simp
  first
    | (refine hK _ ?_; clear hK K)
    | (apply Exists.intro
       refine ⟨fun _ => ?_, hK _ ?_⟩
       (fail)
       clear hK K)
  refine wpMix_take 6 rfl (by kernel_rfl) (by kernel_rfl) (by kernel_rfl) (fun _ _ _ _ h => h) (fun K hK => ?_)
  go_simp
  first
    | (refine hK _ ?_; clear hK K)
    | (apply Exists.intro
       refine ⟨fun _ => ?_, hK _ ?_⟩
       (fail)
       clear hK K)
  refine wpMix_take 7 rfl (by kernel_rfl) (by kernel_rfl) (by kernel_rfl) (fun _ _ _ _ h => h) (fun K hK => ?_)
  go_simp
  first
    | (refine hK _ ?_; clear hK K)
    | (apply Exists.intro
       refine ⟨fun _ => ?_, hK _ ?_⟩
       (exact unhide DT _ (unhide HTG _))
       clear hK K)
  refine wpMix_take 8 rfl (by kernel_rfl) (by kernel_rfl) (by kernel_rfl) (fun _ _ _ _ h => h) (fun K hK => ?_)
  go_simp
  first
    | (refine hK _ ?_; clear hK K)
    | (apply Exists.intro
       refine ⟨fun _ => ?_, hK _ ?_⟩
       (fail)
       clear hK K)
  refine wpMix_take 9 rfl (by kernel_rfl) (by kernel_rfl) (by kernel_rfl) (fun _ _ _ _ h => h) (fun K hK => ?_)
  go_simp
  first
    | (refine hK _ ?_; clear hK K)
    | (apply Exists.intro
       refine ⟨fun _ => ?_, hK _ ?_⟩
       (fail)
       clear hK K)
  refine wpMix_take 10 rfl (by kernel_rfl) (by kernel_rfl) (by kernel_rfl) (fun _ _ _ _ h => h) (fun K hK => ?_)
  go_simp
  first
    | (refine hK _ ?_; clear hK K)
    | (apply Exists.intro
       refine ⟨fun _ => ?_, hK _ ?_⟩
       (exact unhide DI _ (unhide HTG _))
       clear hK K)
  refine wpMix_take 11 rfl (by kernel_rfl) (by kernel_rfl) (by kernel_rfl) (fun _ _ _ _ h => h) (fun K hK => ?_)
  go_simp
  first
    | (refine hK _ ?_; clear hK K)
    | (apply Exists.intro
       refine ⟨fun _ => ?_, hK _ ?_⟩
       (fail)
       clear hK K)
  refine wpMix_take 12 rfl (by kernel_rfl) (by kernel_rfl) (by kernel_rfl) (fun _ _ _ _ h => h) (fun K hK => ?_)
  go_simp
  first
    | (refine hK _ ?_; clear hK K)
    | (apply Exists.intro
       refine ⟨fun _ => ?_, hK _ ?_⟩
       (fail)
       clear hK K)
  refine wpMix_take 13 rfl (by kernel_rfl) (by kernel_rfl) (by kernel_rfl) (fun _ _ _ _ h => h) (fun K hK => ?_)
  go_simp
  first
    | (refine hK _ ?_; clear hK K)
    | (apply Exists.intro
       refine ⟨fun _ => ?_, hK _ ?_⟩
       (exact unhide DL _ (unhide HTG _))
       clear hK K)
  refine wpMix_take 14 rfl (by kernel_rfl) (by kernel_rfl) (by kernel_rfl) (fun _ _ _ _ h => h) (fun K hK => ?_)
  go_simp
  first
    | (refine hK _ ?_; clear hK K)
    | (apply Exists.intro
       refine ⟨fun _ => ?_, hK _ ?_⟩
       (fail)
       clear hK K)
  refine wpMix_take 15 rfl (by kernel_rfl) (by kernel_rfl) (by kernel_rfl) (fun _ _ _ _ h => h) (fun K hK => ?_)
  go_simp
  first
    | (refine hK _ ?_; clear hK K)
    | (apply Exists.intro
       refine ⟨fun _ => ?_, hK _ ?_⟩
       (fail)
       clear hK K)
  refine wpMix_take 16 rfl (by kernel_rfl) (by kernel_rfl) (by kernel_rfl) (fun _ _ _ _ h => h) (fun K hK => ?_)
  go_simp
  first
    | (refine hK _ ?_; clear hK K)
    | (apply Exists.intro
       refine ⟨fun _ => ?_, hK _ ?_⟩
       (fail)
       clear hK K)
  refine wpMix_take 17 rfl (by kernel_rfl) (by kernel_rfl) (by kernel_rfl) (fun _ _ _ _ h => h) (fun K hK => ?_)
  go_simp
  first
    | (refine hK _ ?_; clear hK K)
    | (apply Exists.intro
       refine ⟨fun _ => ?_, hK _ ?_⟩
       (fail)
       clear hK K)
  refine wpMix_take 18 rfl (by kernel_rfl) (by kernel_rfl) (by kernel_rfl) (fun _ _ _ _ h => h) (fun K hK => ?_)
  go_simp
  first
    | (refine hK _ ?_; clear hK K)
    | (apply Exists.intro
       refine ⟨fun _ => ?_, hK _ ?_⟩
       (exact unhide DN _ (unhide HTG _))
       clear hK K)
  clear y0 y1 y2 y3 y4 y5 HTG DF DT DI DL DN
  refine wpMix_one 19 rfl (by kernel_rfl) (by rfl) (fun x hx => ?_)
  go_simp
  refine ⟨below_one x _, ?_⟩
  have hx2 := heap_alloc_new x (.cells #[.string (⟨#[112, 97, 121]⟩ : ByteArray), .string dF, .string (⟨#[62]⟩ : ByteArray), .string dT, .string dI, .string dL, .string k, .string dN] 9)
  have HBX := hide (Ge.trans (Ge.trans (unhide HBV) hx) (below_one x (.cells #[.string (⟨#[112, 97, 121]⟩ : ByteArray), .string dF, .string (⟨#[62]⟩ : ByteArray), .string dT, .string dI, .string dL, .string k, .string dN] 9)))
  generalize x.alloc (.cells #[.string (⟨#[112, 97, 121]⟩ : ByteArray), .string dF, .string (⟨#[62]⟩ : ByteArray), .string dT, .string dI, .string dL, .string k, .string dN] 9) = y at *
  have HX := hide hx2
  clear hx hx2 HBV
  refine wpMix_take 20 rfl (by kernel_rfl) (by kernel_rfl) (by kernel_rfl) (fun _ _ _ _ h => h) (fun K hK => ?_)
  go_simp
  first
    | (refine hK _ ?_; clear hK K)
    | (apply Exists.intro
       refine ⟨fun _ => ?_, hK _ ?_⟩
       (fail)
       clear hK K)
  refine wpMix_done (by kernel_rfl) (fun z hz => ?_)
  have HBZ := hide (Ge.trans (unhide HBX) hz)
  have HZB := hide (blk_step (unhide HX) hz)
  clear hz HBX HX
  go_simp
  go_wp2_with fail
  go_ret
  exact ⟨x.heap.size, rfl, unhide HZB, unhide HBZ⟩

set_option maxRecDepth 100000 in
set_option maxHeartbeats 4000000 in
theorem wordsOf_ack (F : Int) (T : Int) (I : Int) (hF0 : 0 ≤ F) (hF1 : F ≤ 1000000000) (hT0 : 0 ≤ T) (hT1 : T ≤ 1000000000) (hI0 : 0 ≤ I) (hI1 : I ≤ 1000000000) (w : World) (hT : Tens w) : Calls Tryz.prog 43 #[.iface 81 (.agg #[.int .i64 F, .int .i64 T, .int .i64 I])] w fun e w' => ∃ g, e = .returned (.slice (some ⟨g, 0, none⟩) 5 5) ∧ w'.heap[g]? = some (.cells #[.string (⟨#[97, 99, 107]⟩ : ByteArray), .string (dec F), .string (⟨#[62]⟩ : ByteArray), .string (dec T), .string (dec I)] 9 (0, 0)) ∧ Below w.heap.size w w' := by
  have DF := hide (fun w1 => implDecB F hF0 hF1 w1)
  have DT := hide (fun w1 => implDecB T hT0 hT1 w1)
  have DI := hide (fun w1 => implDecB I hI0 hI1 w1)
  generalize dec F = dF at *
  generalize dec T = dT at *
  generalize dec I = dI at *
  clear hF0 hF1 hT0 hT1 hI0 hI1
  have f0 := as_ack_want (.agg #[.int .i64 F, .int .i64 T, .int .i64 I])
  have f1 := as_ack_pay (.agg #[.int .i64 F, .int .i64 T, .int .i64 I])
  have f2 := as_ack_ack (.agg #[.int .i64 F, .int .i64 T, .int .i64 I])
  have HT := hide hT
  clear hT
  go_enter Tryz.func43, Tryz.ntmps43
  go_upto_region 10 with fail
  refine wp_at (fun V hV => ?_)
  have hblk : V.heap[w.heap.size]? = some (.cells #[.int .i64 F, .int .i64 T, .int .i64 I] 81 (0, 0)) := by rw [hV]; exact heap_alloc_new w _
  have HBV := hide (show Below w.heap.size w V by rw [hV]; exact below_one w _)
  have HTG := hide (fun p : Regrown => ((unhide HT).below (unhide HBV)).below (below_regrown V p.d p.os))
  have hgV := blk_lt hblk
  obtain ⟨p0, p1, p2⟩ := cells3 hblk
  clear hV hblk HT
  have y0 := cell_regrown p0
  have y1 := cell_regrown p1
  have y2 := cell_regrown p2
  clear p0 p1 p2 f0 f1 f2
  refine wp_region_mix (by kernel_rfl) ?_
  show wpMix _ _ _ _ 13 (Array.replicate 13 false) _ _
  refine wpMix_take 0 rfl (by kernel_rfl) (by kernel_rfl) (by kernel_rfl) (fun _ _ _ _ h => h) (fun K hK => ?_)
  go_simp
  first
    | (refine hK _ ?_; clear hK K)
    | (apply Exists.intro
       refine ⟨fun _ => ?_, hK _ ?_⟩
       (fail)
       clear hK K)
  refine wpMix_take 1 rfl (by kernel_rfl) (by kernel_rfl) (by kernel_rfl) (fun _ _ _ _ h => h) (fun K hK => ?_)
  go_simp
  first
    | (refine hK _ ?_; clear hK K)
    | (apply Exists.intro
       refine ⟨fun _ => ?_, hK _ ?_⟩
       (fail)
       clear hK K)
  refine wpMix_take 2 rfl (by kernel_rfl) (by kernel_rfl) (by kernel_rfl) (fun _ _ _ _ h => h) (fun K hK => ?_)
  go_simp
  first
    | (refine hK _ ?_; clear hK K)
    | (apply Exists.intro
       refine ⟨fun _ => ?_, hK _ ?_⟩
       (fail)
       clear hK K)
  refine wpMix_take 3 rfl (by kernel_rfl) (by kernel_rfl) (by kernel_rfl) (fun _ _ _ _ h => h) (fun K hK => ?_)
  go_simp
  first
    | (refine hK _ ?_; clear hK K)
    | (apply Exists.intro
       refine ⟨fun _ => ?_, hK _ ?_⟩
       (exact unhide DF _ (unhide HTG _))
       clear hK K)
  refine wpMix_take 4 rfl (by kernel_rfl) (by kernel_rfl) (by kernel_rfl) (fun _ _ _ _ h => h) (fun K hK => ?_)
  go_simp
  first
    | (refine hK _ ?_; clear hK K)
    | (apply Exists.intro
       refine ⟨fun _ => ?_, hK _ ?_⟩
       (fail)
       clear hK K)
  refine wpMix_take 5 rfl (by kernel_rfl) (by kernel_rfl) (by kernel_rfl) (fun _ _ _ _ h => h) (fun K hK => ?_)
  go_simp
  first
    | (refine hK _ ?_; clear hK K)
    | (apply Exists.intro
       refine ⟨fun _ => ?_, hK _ ?_⟩
       (fail)
       clear hK K)
  refine wpMix_take 6 rfl (by kernel_rfl) (by kernel_rfl) (by kernel_rfl) (fun _ _ _ _ h => h) (fun K hK => ?_)
  go_simp
  first
    | (refine hK _ ?_; clear hK K)
    | (apply Exists.intro
       refine ⟨fun _ => ?_, hK _ ?_⟩
       (fail)
       clear hK K)
  refine wpMix_take 7 rfl (by kernel_rfl) (by kernel_rfl) (by kernel_rfl) (fun _ _ _ _ h => h) (fun K hK => ?_)
  go_simp
  first
    | (refine hK _ ?_; clear hK K)
    | (apply Exists.intro
       refine ⟨fun _ => ?_, hK _ ?_⟩
       (exact unhide DT _ (unhide HTG _))
       clear hK K)
  refine wpMix_take 8 rfl (by kernel_rfl) (by kernel_rfl) (by kernel_rfl) (fun _ _ _ _ h => h) (fun K hK => ?_)
  go_simp
  first
    | (refine hK _ ?_; clear hK K)
    | (apply Exists.intro
       refine ⟨fun _ => ?_, hK _ ?_⟩
       (fail)
       clear hK K)
  refine wpMix_take 9 rfl (by kernel_rfl) (by kernel_rfl) (by kernel_rfl) (fun _ _ _ _ h => h) (fun K hK => ?_)
  go_simp
  first
    | (refine hK _ ?_; clear hK K)
    | (apply Exists.intro
       refine ⟨fun _ => ?_, hK _ ?_⟩
       (fail)
       clear hK K)
  refine wpMix_take 10 rfl (by kernel_rfl) (by kernel_rfl) (by kernel_rfl) (fun _ _ _ _ h => h) (fun K hK => ?_)
  go_simp
  first
    | (refine hK _ ?_; clear hK K)
    | (apply Exists.intro
       refine ⟨fun _ => ?_, hK _ ?_⟩
       (exact unhide DI _ (unhide HTG _))
       clear hK K)
  clear y0 y1 y2 HTG DF DT DI
  refine wpMix_one 11 rfl (by kernel_rfl) (by rfl) (fun x hx => ?_)
  go_simp
  refine ⟨below_one x _, ?_⟩
  have hx2 := heap_alloc_new x (.cells #[.string (⟨#[97, 99, 107]⟩ : ByteArray), .string dF, .string (⟨#[62]⟩ : ByteArray), .string dT, .string dI] 9)
  have HBX := hide (Ge.trans (Ge.trans (unhide HBV) hx) (below_one x (.cells #[.string (⟨#[97, 99, 107]⟩ : ByteArray), .string dF, .string (⟨#[62]⟩ : ByteArray), .string dT, .string dI] 9)))
  generalize x.alloc (.cells #[.string (⟨#[97, 99, 107]⟩ : ByteArray), .string dF, .string (⟨#[62]⟩ : ByteArray), .string dT, .string dI] 9) = y at *
  have HX := hide hx2
  clear hx hx2 HBV
  refine wpMix_take 12 rfl (by kernel_rfl) (by kernel_rfl) (by kernel_rfl) (fun _ _ _ _ h => h) (fun K hK => ?_)
  go_simp
  first
    | (refine hK _ ?_; clear hK K)
    | (apply Exists.intro
       refine ⟨fun _ => ?_, hK _ ?_⟩
       (fail)
       clear hK K)
  refine wpMix_done (by kernel_rfl) (fun z hz => ?_)
  have HBZ := hide (Ge.trans (unhide HBX) hz)
  have HZB := hide (blk_step (unhide HX) hz)
  clear hz HBX HX
  go_simp
  go_wp2_with fail
  go_ret
  exact ⟨x.heap.size, rfl, unhide HZB, unhide HBZ⟩

set_option maxRecDepth 100000 in
set_option maxHeartbeats 2000000 in
theorem implMsgText_no (m : Mg) (w : World) (h : mgOk m = false) : Calls Tryz.prog 18 #[mgv m] w fun e w' => e = .returned (.string ByteArray.empty) ∧ Below w.heap.size w w' := by
  have HO := hide (fun w1 => messageOf m w1)
  rw [h] at HO
  clear h
  generalize ifv m = v at *
  obtain ⟨K, F, T, I, L, k, N⟩ := m
  go_enter Tryz.func18, Tryz.ntmps18
  go_wp2_with fail
  refine (unhide HO _).mono ?_
  rintro e w1 ⟨rfl, hb1⟩
  have hB := (below_one w _).trans (hb1.mono (by simp))
  clear hb1
  go_wp2_with fail
  go_ret
  exact ⟨rfl, hB⟩

set_option maxRecDepth 100000 in
set_option maxHeartbeats 2000000 in
theorem implMsgText_want (F T I L : Int) (k : ByteArray) (N : Int) (w : World) (h : mgOk ⟨0, F, T, I, L, k, N⟩ = true) (hF0 : 0 ≤ F) (hF1 : F ≤ 1000000000) (hT0 : 0 ≤ T) (hT1 : T ≤ 1000000000) (hN0 : 0 ≤ N) (hN1 : N ≤ 1000000000) (hk : k.size ≤ 10) (hT : Tens w) : Calls Tryz.prog 18 #[mgv ⟨0, F, T, I, L, k, N⟩] w fun e w' => e = .returned (.string (txWant (dec F) (dec T) k (dec N))) ∧ Below w.heap.size w w' := by
  have HO := hide (fun w1 => messageOf ⟨0, F, T, I, L, k, N⟩ w1)
  rw [h, show ifv ⟨0, F, T, I, L, k, N⟩ = .iface 77 (.agg #[.int .i64 F, .int .i64 T, .string k, .int .i64 N]) by simp [ifv]] at HO
  have HW := hide (fun w1 h => wordsOf_want F T k N hF0 hF1 hT0 hT1 hN0 hN1 w1 h)
  have hjn := joinWant (dec F) (dec T) k (dec N)
  have hlen : (Lib.join (([(⟨#[119, 97, 110, 116]⟩ : ByteArray), dec F, (⟨#[62]⟩ : ByteArray), dec T, k, dec N] : List ByteArray).map (·.data.toList)) (⟨#[32]⟩ : ByteArray).data.toList).length ≤ 140737488355328 := by
    have sF := dec_size F hF0 hF1
    have qF := size_toList (dec F)
    have sT := dec_size T hT0 hT1
    have qT := size_toList (dec T)
    have sN := dec_size N hN0 hN1
    have qN := size_toList (dec N)
    have qk := size_toList k
    simp [Lib.join, List.intercalate, List.intersperse]
    omega
  have HJ := hide (fun g w1 hc hg => Tryz.strings_Join g 0 6 [(⟨#[119, 97, 110, 116]⟩ : ByteArray), dec F, (⟨#[62]⟩ : ByteArray), dec T, k, dec N] ⟨#[32]⟩ w1 hc hg (by simp) (by simp) hlen)
  rw [show (⟨(Lib.join (([(⟨#[119, 97, 110, 116]⟩ : ByteArray), dec F, (⟨#[62]⟩ : ByteArray), dec T, k, dec N] : List ByteArray).map (·.data.toList)) (⟨#[32]⟩ : ByteArray).data.toList).toArray⟩ : ByteArray) = txWant (dec F) (dec T) k (dec N) from hjn] at HJ
  have HT := hide hT
  clear h hjn hlen hT hF0 hF1 hT0 hT1 hN0 hN1 hk
  generalize txWant (dec F) (dec T) k (dec N) = r at *
  generalize dec F = dF at *
  generalize dec T = dT at *
  generalize dec N = dN at *
  go_enter Tryz.func18, Tryz.ntmps18
  go_wp2_with fail
  refine (unhide HO _).mono ?_
  rintro e w1 ⟨rfl, hb1⟩
  have hB := (below_one w _).trans (hb1.mono (by simp))
  clear hb1
  go_wp2_with fail
  refine (unhide HW _ ((unhide HT).below hB)).mono ?_
  rintro e w2 ⟨g, rfl, hg, hb2⟩
  have hB2 := hB.trans (hb2.mono hB.size)
  have hgl := blk_lt hg
  have hc2 := hide (show ∀ (j : Nat) x, ([(⟨#[119, 97, 110, 116]⟩ : ByteArray), dF, (⟨#[62]⟩ : ByteArray), dT, k, dN] : List ByteArray)[j]? = some x → w2.cell? ⟨g, 0 + j, none⟩ = some (.string x) by
    intro j x hx
    rw [Nat.zero_add, cell_of_row w2 g j _ 9 (0, 0) hg]
    rw [show (#[.string (⟨#[119, 97, 110, 116]⟩ : ByteArray), .string dF, .string (⟨#[62]⟩ : ByteArray), .string dT, .string k, .string dN] : Array Value) = (([(⟨#[119, 97, 110, 116]⟩ : ByteArray), dF, (⟨#[62]⟩ : ByteArray), dT, k, dN] : List ByteArray).map Value.string).toArray from rfl]
    simp only [List.getElem?_toArray, List.getElem?_map, hx]
    rfl)
  clear hb2 hB hg
  go_wp2_with fail
  refine (unhide HJ g _ (unhide hc2) hgl).mono ?_
  rintro e w3 ⟨rfl, hb3⟩
  have hB3 := hB2.trans (hb3.mono hB2.size)
  clear hb3 hB2 hc2
  go_wp2_with fail
  go_ret
  exact ⟨rfl, hB3⟩

set_option maxRecDepth 100000 in
set_option maxHeartbeats 2000000 in
theorem implMsgText_pay (F T I L : Int) (k : ByteArray) (N : Int) (w : World) (h : mgOk ⟨1, F, T, I, L, k, N⟩ = true) (hF0 : 0 ≤ F) (hF1 : F ≤ 1000000000) (hT0 : 0 ≤ T) (hT1 : T ≤ 1000000000) (hI0 : 0 ≤ I) (hI1 : I ≤ 1000000000) (hL0 : 0 ≤ L) (hL1 : L ≤ 1000000000) (hN0 : 0 ≤ N) (hN1 : N ≤ 1000000000) (hk : k.size ≤ 10) (hT : Tens w) : Calls Tryz.prog 18 #[mgv ⟨1, F, T, I, L, k, N⟩] w fun e w' => e = .returned (.string (txPay (dec F) (dec T) (dec I) (dec L) k (dec N))) ∧ Below w.heap.size w w' := by
  have HO := hide (fun w1 => messageOf ⟨1, F, T, I, L, k, N⟩ w1)
  rw [h, show ifv ⟨1, F, T, I, L, k, N⟩ = .iface 79 (.agg #[.int .i64 F, .int .i64 T, .int .i64 I, .int .i64 L, .string k, .int .i64 N]) by simp [ifv]] at HO
  have HW := hide (fun w1 h => wordsOf_pay F T I L k N hF0 hF1 hT0 hT1 hI0 hI1 hL0 hL1 hN0 hN1 w1 h)
  have hjn := joinPay (dec F) (dec T) (dec I) (dec L) k (dec N)
  have hlen : (Lib.join (([(⟨#[112, 97, 121]⟩ : ByteArray), dec F, (⟨#[62]⟩ : ByteArray), dec T, dec I, dec L, k, dec N] : List ByteArray).map (·.data.toList)) (⟨#[32]⟩ : ByteArray).data.toList).length ≤ 140737488355328 := by
    have sF := dec_size F hF0 hF1
    have qF := size_toList (dec F)
    have sT := dec_size T hT0 hT1
    have qT := size_toList (dec T)
    have sI := dec_size I hI0 hI1
    have qI := size_toList (dec I)
    have sL := dec_size L hL0 hL1
    have qL := size_toList (dec L)
    have sN := dec_size N hN0 hN1
    have qN := size_toList (dec N)
    have qk := size_toList k
    simp [Lib.join, List.intercalate, List.intersperse]
    omega
  have HJ := hide (fun g w1 hc hg => Tryz.strings_Join g 0 8 [(⟨#[112, 97, 121]⟩ : ByteArray), dec F, (⟨#[62]⟩ : ByteArray), dec T, dec I, dec L, k, dec N] ⟨#[32]⟩ w1 hc hg (by simp) (by simp) hlen)
  rw [show (⟨(Lib.join (([(⟨#[112, 97, 121]⟩ : ByteArray), dec F, (⟨#[62]⟩ : ByteArray), dec T, dec I, dec L, k, dec N] : List ByteArray).map (·.data.toList)) (⟨#[32]⟩ : ByteArray).data.toList).toArray⟩ : ByteArray) = txPay (dec F) (dec T) (dec I) (dec L) k (dec N) from hjn] at HJ
  have HT := hide hT
  clear h hjn hlen hT hF0 hF1 hT0 hT1 hI0 hI1 hL0 hL1 hN0 hN1 hk
  generalize txPay (dec F) (dec T) (dec I) (dec L) k (dec N) = r at *
  generalize dec F = dF at *
  generalize dec T = dT at *
  generalize dec I = dI at *
  generalize dec L = dL at *
  generalize dec N = dN at *
  go_enter Tryz.func18, Tryz.ntmps18
  go_wp2_with fail
  refine (unhide HO _).mono ?_
  rintro e w1 ⟨rfl, hb1⟩
  have hB := (below_one w _).trans (hb1.mono (by simp))
  clear hb1
  go_wp2_with fail
  refine (unhide HW _ ((unhide HT).below hB)).mono ?_
  rintro e w2 ⟨g, rfl, hg, hb2⟩
  have hB2 := hB.trans (hb2.mono hB.size)
  have hgl := blk_lt hg
  have hc2 := hide (show ∀ (j : Nat) x, ([(⟨#[112, 97, 121]⟩ : ByteArray), dF, (⟨#[62]⟩ : ByteArray), dT, dI, dL, k, dN] : List ByteArray)[j]? = some x → w2.cell? ⟨g, 0 + j, none⟩ = some (.string x) by
    intro j x hx
    rw [Nat.zero_add, cell_of_row w2 g j _ 9 (0, 0) hg]
    rw [show (#[.string (⟨#[112, 97, 121]⟩ : ByteArray), .string dF, .string (⟨#[62]⟩ : ByteArray), .string dT, .string dI, .string dL, .string k, .string dN] : Array Value) = (([(⟨#[112, 97, 121]⟩ : ByteArray), dF, (⟨#[62]⟩ : ByteArray), dT, dI, dL, k, dN] : List ByteArray).map Value.string).toArray from rfl]
    simp only [List.getElem?_toArray, List.getElem?_map, hx]
    rfl)
  clear hb2 hB hg
  go_wp2_with fail
  refine (unhide HJ g _ (unhide hc2) hgl).mono ?_
  rintro e w3 ⟨rfl, hb3⟩
  have hB3 := hB2.trans (hb3.mono hB2.size)
  clear hb3 hB2 hc2
  go_wp2_with fail
  go_ret
  exact ⟨rfl, hB3⟩

set_option maxRecDepth 100000 in
set_option maxHeartbeats 2000000 in
theorem implMsgText_ack (F T I L : Int) (k : ByteArray) (N : Int) (w : World) (h : mgOk ⟨2, F, T, I, L, k, N⟩ = true) (hF0 : 0 ≤ F) (hF1 : F ≤ 1000000000) (hT0 : 0 ≤ T) (hT1 : T ≤ 1000000000) (hI0 : 0 ≤ I) (hI1 : I ≤ 1000000000) (hT : Tens w) : Calls Tryz.prog 18 #[mgv ⟨2, F, T, I, L, k, N⟩] w fun e w' => e = .returned (.string (txAck (dec F) (dec T) (dec I))) ∧ Below w.heap.size w w' := by
  have HO := hide (fun w1 => messageOf ⟨2, F, T, I, L, k, N⟩ w1)
  rw [h, show ifv ⟨2, F, T, I, L, k, N⟩ = .iface 81 (.agg #[.int .i64 F, .int .i64 T, .int .i64 I]) by simp [ifv]] at HO
  have HW := hide (fun w1 h => wordsOf_ack F T I hF0 hF1 hT0 hT1 hI0 hI1 w1 h)
  have hjn := joinAck (dec F) (dec T) (dec I)
  have hlen : (Lib.join (([(⟨#[97, 99, 107]⟩ : ByteArray), dec F, (⟨#[62]⟩ : ByteArray), dec T, dec I] : List ByteArray).map (·.data.toList)) (⟨#[32]⟩ : ByteArray).data.toList).length ≤ 140737488355328 := by
    have sF := dec_size F hF0 hF1
    have qF := size_toList (dec F)
    have sT := dec_size T hT0 hT1
    have qT := size_toList (dec T)
    have sI := dec_size I hI0 hI1
    have qI := size_toList (dec I)
    simp [Lib.join, List.intercalate, List.intersperse]
    omega
  have HJ := hide (fun g w1 hc hg => Tryz.strings_Join g 0 5 [(⟨#[97, 99, 107]⟩ : ByteArray), dec F, (⟨#[62]⟩ : ByteArray), dec T, dec I] ⟨#[32]⟩ w1 hc hg (by simp) (by simp) hlen)
  rw [show (⟨(Lib.join (([(⟨#[97, 99, 107]⟩ : ByteArray), dec F, (⟨#[62]⟩ : ByteArray), dec T, dec I] : List ByteArray).map (·.data.toList)) (⟨#[32]⟩ : ByteArray).data.toList).toArray⟩ : ByteArray) = txAck (dec F) (dec T) (dec I) from hjn] at HJ
  have HT := hide hT
  clear h hjn hlen hT hF0 hF1 hT0 hT1 hI0 hI1
  generalize txAck (dec F) (dec T) (dec I) = r at *
  generalize dec F = dF at *
  generalize dec T = dT at *
  generalize dec I = dI at *
  go_enter Tryz.func18, Tryz.ntmps18
  go_wp2_with fail
  refine (unhide HO _).mono ?_
  rintro e w1 ⟨rfl, hb1⟩
  have hB := (below_one w _).trans (hb1.mono (by simp))
  clear hb1
  go_wp2_with fail
  refine (unhide HW _ ((unhide HT).below hB)).mono ?_
  rintro e w2 ⟨g, rfl, hg, hb2⟩
  have hB2 := hB.trans (hb2.mono hB.size)
  have hgl := blk_lt hg
  have hc2 := hide (show ∀ (j : Nat) x, ([(⟨#[97, 99, 107]⟩ : ByteArray), dF, (⟨#[62]⟩ : ByteArray), dT, dI] : List ByteArray)[j]? = some x → w2.cell? ⟨g, 0 + j, none⟩ = some (.string x) by
    intro j x hx
    rw [Nat.zero_add, cell_of_row w2 g j _ 9 (0, 0) hg]
    rw [show (#[.string (⟨#[97, 99, 107]⟩ : ByteArray), .string dF, .string (⟨#[62]⟩ : ByteArray), .string dT, .string dI] : Array Value) = (([(⟨#[97, 99, 107]⟩ : ByteArray), dF, (⟨#[62]⟩ : ByteArray), dT, dI] : List ByteArray).map Value.string).toArray from rfl]
    simp only [List.getElem?_toArray, List.getElem?_map, hx]
    rfl)
  clear hb2 hB hg
  go_wp2_with fail
  refine (unhide HJ g _ (unhide hc2) hgl).mono ?_
  rintro e w3 ⟨rfl, hb3⟩
  have hB3 := hB2.trans (hb3.mono hB2.size)
  clear hb3 hB2 hc2
  go_wp2_with fail
  go_ret
  exact ⟨rfl, hB3⟩

theorem implMsgText (m : Mg) (w : World) (hT : Tens w) : Calls Tryz.prog 18 #[mgv m] w fun e w' => e = .returned (.string (msgTx m)) ∧ Below w.heap.size w w' := by
  cases h : mgOk m
  · rw [msgTx_no h]; exact implMsgText_no m w h
  obtain ⟨hF, hT', hc⟩ := mg_parts h
  obtain ⟨K, F, T, I, L, k, N⟩ := m
  have hx := h
  unfold msgTx
  rw [if_pos h]
  dsimp only at *
  rcases hc with ⟨rfl, hN, hk⟩ | ⟨rfl, hN, hI, hL, hk⟩ | ⟨rfl, hI⟩
  · exact implMsgText_want F T I L k N w hx (by omega) (by omega) (by omega) (by omega) (by omega) (by omega) hk hT
  · exact implMsgText_pay F T I L k N w hx (by omega) (by omega) (by omega) (by omega) (by omega) (by omega) (by omega) (by omega) (by omega) (by omega) hk hT
  · exact implMsgText_ack F T I L k N w hx (by omega) (by omega) (by omega) (by omega) (by omega) (by omega) hT
end Go.Proofs.YtlopllgioobcjaaGreatDoor
