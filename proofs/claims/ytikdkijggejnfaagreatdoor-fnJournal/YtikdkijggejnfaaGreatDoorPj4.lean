/- Parts. -/
import Derived.Test.YtikdkijggejnfaaGreatDoorPj3
import Derived.Test.YtikdkijggejnfaaGreatDoorPj1
import Derived.Deep.RegionHeld
namespace Go.Proofs.YtikdkijggejnfaaGreatDoor
open Go.RowKit

set_option maxRecDepth 100000 in
set_option maxHeartbeats 1000000 in
theorem implKeyOk (s : ByteArray) (w : World) :
    Calls Tryz.prog 75 #[.string s] w fun e w' => e = .returned (.bool (Mth.keyOk s.data.toList)) ∧ w = w' := by
  by_cases hlen : (1 : Int) ≤ (s.size : Int) ∧ (s.size : Int) ≤ 10
  · obtain ⟨hs1, hs2⟩ := hlen
    have hne : s.toList.isEmpty = false := not_empty s (by omega)
    have h10 : decide (10 < (s.size : Int)) = false := by simp; omega
    go_enter Tryz.func75, Tryz.ntmps75
    go_wp2
    go_loop [13] (fun i => ∃ k : Nat, k ≤ s.size ∧ i = .int .i64 k ∧ (s.data.toList.take k).all Mth.keyByte = true) (fun i => s.size - (intOf i).toNat)
    case atStart => exact ⟨0, Nat.zero_le _, rfl, rfl⟩
    case round =>
      obtain ⟨k, hk, rfl, hall⟩ := hrel
      have HA := hide hall
      clear hall
      by_cases hlt : k < s.size
      · have HS : Hid ((s.data.toList.take (k + 1)).all Mth.keyByte = ((s.data.toList.take k).all Mth.keyByte && Mth.keyByte s[k])) := by rw [Mth.take_snoc s k hlt]; exact Mth.all_snoc _ _
        have hc : s[k].toNat < 256 := s[k].toNat_lt
        rcases Mth.byte_cases s[k] with h | h
        · have HK := hide (Mth.keyByte_yes _ h)
          rcases h with ⟨h1, h2⟩ | ⟨h1, h2⟩
          all_goals
            go_wp2_with (first | (go_at_call 97; first | (refine (small_yes _ _ ?_ ?_).mono ?_; omega; omega; rintro e w' ⟨rfl, rfl⟩) | (refine (small_no _ _ ?_).mono ?_; omega; rintro e w' ⟨rfl, rfl⟩)) | (go_at_call 98; first | (refine (digit_yes _ _ ?_ ?_).mono ?_; omega; omega; rintro e w' ⟨rfl, rfl⟩) | (refine (digit_no _ _ ?_).mono ?_; omega; rintro e w' ⟨rfl, rfl⟩)))
            go_round
            case rel => exact ⟨k + 1, by omega, by go_num, by rw [unhide HS, unhide HA, unhide HK]; rfl⟩
            case measure => simp [intOf]; omega
        · have HK := hide (Mth.keyByte_no _ h)
          have HF : Hid (Mth.keyOk s.data.toList = false) := Mth.keyOk_bad _ (k + 1) (by rw [unhide HS, unhide HA, unhide HK]; rfl)
          rcases h with h1 | ⟨h1, h2⟩ | h1
          all_goals
            go_wp2_with (first | (go_at_call 97; first | (refine (small_yes _ _ ?_ ?_).mono ?_; omega; omega; rintro e w' ⟨rfl, rfl⟩) | (refine (small_no _ _ ?_).mono ?_; omega; rintro e w' ⟨rfl, rfl⟩)) | (go_at_call 98; first | (refine (digit_yes _ _ ?_ ?_).mono ?_; omega; omega; rintro e w' ⟨rfl, rfl⟩) | (refine (digit_no _ _ ?_).mono ?_; omega; rintro e w' ⟨rfl, rfl⟩)))
            go_ret
            exact ⟨ret_bool (unhide HF).symm, rfl⟩
      · rw [Mth.take_all s k hlt] at HA
        have HF : Hid (Mth.keyOk s.data.toList = decide (1 ≤ s.data.toList.length ∧ s.data.toList.length ≤ 10)) := Mth.keyOk_all _ (unhide HA)
        rw [size_toList s] at HF
        go_wp2
        go_ret
        exact ⟨ret_bool (by rw [unhide HF]; simp; omega), rfl⟩
  · have HF : Hid (Mth.keyOk s.data.toList = false) := Mth.keyOk_len _ (by rw [size_toList]; omega)
    by_cases h0 : s.size = 0
    · have he : s = ByteArray.empty := eq_empty s h0
      subst he
      go_enter Tryz.func75, Tryz.ntmps75
      go_wp2
      go_ret
      exact ⟨ret_bool (unhide HF).symm, rfl⟩
    · have hne : s.toList.isEmpty = false := not_empty s (by omega)
      have h10 : 10 < (s.size : Int) := by omega
      go_enter Tryz.func75, Tryz.ntmps75
      go_wp2
      go_ret
      exact ⟨ret_bool (unhide HF).symm, rfl⟩
namespace Mth

/-- A message: kind, from, to, id, low, key, n. -/
structure Mg where
  K : Int
  F : Int
  T : Int
  I : Int
  L : Int
  k : ByteArray
  N : Int
abbrev mgv (m : Mg) : Value := .agg #[.int .i64 m.K, .int .i64 m.F, .int .i64 m.T, .int .i64 m.I, .int .i64 m.L, .string m.k, .int .i64 m.N]
def ndB (n : Int) : Bool := decide (0 ≤ n ∧ n ≤ 29)
def smB (n : Int) : Bool := decide (1 ≤ n ∧ n ≤ 1000000000)
def rtB (f t : Int) : Bool := ndB f && ndB t && decide (f ≠ t)
def mgOk (m : Mg) : Bool :=
  rtB m.F m.T &&
    (if m.K = 0 then keyOk m.k.data.toList && smB m.N && decide (m.I = 0) && decide (m.L = 0)
     else if m.K = 1 then keyOk m.k.data.toList && smB m.N && smB m.I && decide (1 ≤ m.L ∧ m.L ≤ m.I)
     else if m.K = 2 then smB m.I && decide (m.k.size = 0) && decide (m.N = 0) && decide (m.L = 0)
     else false)
end Mth
open Mth

theorem wp_at {P : Program} {Q : Exit → Act → World → Prop} {c : Code} {a : Act} {W : World} (h : ∀ W', W' = W → Code.wp P c Q a W') : Code.wp P c Q a W := h W rfl
theorem below_one (w : World) (o : Obj) : Below w.heap.size w (w.alloc o) := (Below.refl _ _).alloc (Nat.le_refl _) _
theorem ret_false {p : Prop} [Decidable p] (h : ¬ p) : Ending.returned (.bool false) = .returned (.bool (decide p)) := by rw [decide_eq_false h]
theorem ret_dec {p q : Prop} [Decidable p] [Decidable q] (h : p ↔ q) : Ending.returned (.bool (decide p)) = .returned (.bool (decide q)) := by rw [decide_eq_decide.2 h]

theorem l01InR (x a b : Int) (r : Bool) (w : World) (h : decide (a ≤ x ∧ x ≤ b) = r) : Calls Tryz.prog 72 #[.int .i64 x, .int .i64 a, .int .i64 b] w fun e w' => e = .returned (.bool r) ∧ w = w' := by
  subst h
  by_cases h : a ≤ x ∧ x ≤ b
  · rw [decide_eq_true h]; exact l01In_yes x a b w h.1 h.2
  · rw [decide_eq_false h]; exact l01In_no x a b w (by omega)
theorem l04Node (n : Int) (r : Bool) (w : World) (h : ndB n = r) : Calls Tryz.prog 96 #[.int .i64 n] w fun e w' => e = .returned (.bool r) ∧ w = w' := by
  go_enter Tryz.func96, Tryz.ntmps96
  go_wp2_with (go_at_call 72; refine (l01InR _ _ _ r _ h).mono ?_; rintro e w1 ⟨rfl, rfl⟩)
  go_ret
  exact ⟨rfl, rfl⟩
theorem l04Some (n : Int) (r : Bool) (w : World) (h : smB n = r) : Calls Tryz.prog 77 #[.int .i64 n] w fun e w' => e = .returned (.bool r) ∧ w = w' := by
  go_enter Tryz.func77, Tryz.ntmps77
  go_wp2_with (go_at_call 72; refine (l01InR _ _ _ r _ h).mono ?_; rintro e w1 ⟨rfl, rfl⟩)
  go_ret
  exact ⟨rfl, rfl⟩
theorem isNode (n : Int) (r : Bool) (w : World) (h : ndB n = r) : Calls Tryz.prog 168 #[.int .i64 n] w fun e w' => e = .returned (.bool r) ∧ w = w' := by
  subst h
  by_cases h0 : 0 ≤ n
  · go_enter Tryz.func168, Tryz.ntmps168
    go_wp2
    go_ret
    exact ⟨ret_dec (by omega), rfl⟩
  · go_enter Tryz.func168, Tryz.ntmps168
    go_wp2
    go_ret
    exact ⟨ret_false (by omega), rfl⟩
theorem isSomeAmount (n : Int) (r : Bool) (w : World) (h : smB n = r) : Calls Tryz.prog 74 #[.int .i64 n] w fun e w' => e = .returned (.bool r) ∧ w = w' := by
  subst h
  by_cases h0 : 1 ≤ n
  · go_enter Tryz.func74, Tryz.ntmps74
    go_wp2
    go_ret
    exact ⟨ret_dec (by omega), rfl⟩
  · go_enter Tryz.func74, Tryz.ntmps74
    go_wp2
    go_ret
    exact ⟨ret_false (by omega), rfl⟩
theorem implKeyR (s : ByteArray) (b : Bool) (w : World) (h : keyOk s.data.toList = b) : Calls Tryz.prog 75 #[.string s] w fun e w' => e = .returned (.bool b) ∧ w = w' := by
  rw [← h]
  exact implKeyOk s w
theorem specKeyB (s : ByteArray) (b : Bool) (w : World) (hs : s.size ≤ maxLen) (h : keyOk s.data.toList = b) : Calls Tryz.prog 76 #[.string s] w fun e w' => e = .returned (.bool b) ∧ w = w' := by
  rw [← h]
  exact specKeyOk s w hs
theorem blk_lt {w : World} {g : Nat} {o : Obj} (h : w.heap[g]? = some o) : g < w.heap.size := by
  rcases Nat.lt_or_ge g w.heap.size with h' | h'
  · exact h'
  · rw [Array.getElem?_eq_none h'] at h; cases h
/-- A block stays behind a call that makes memory alone. -/
theorem blk_step {w w' : World} {g : Nat} {o : Obj} (h : w.heap[g]? = some o) (hb : Below w.heap.size w w') : w'.heap[g]? = some o := by
  rw [hb.block g (blk_lt h)]
  exact h
theorem cells3 {w : World} {g : Nat} {a0 a1 a2 : Value} {t : TypeId} (h : w.heap[g]? = some (.cells #[a0, a1, a2] t (0, 0))) :
    w.cell? ⟨g, 0, none⟩ = some a0 ∧ w.cell? ⟨g, 1, none⟩ = some a1 ∧ w.cell? ⟨g, 2, none⟩ = some a2 := by
  have hc : ∀ i, w.cell? ⟨g, i, none⟩ = #[a0, a1, a2][i]? := fun i => cell_of_row w g i _ t (0, 0) h
  exact ⟨hc 0, hc 1, hc 2⟩
theorem cells4 {w : World} {g : Nat} {a0 a1 a2 a3 : Value} {t : TypeId} (h : w.heap[g]? = some (.cells #[a0, a1, a2, a3] t (0, 0))) :
    w.cell? ⟨g, 0, none⟩ = some a0 ∧ w.cell? ⟨g, 1, none⟩ = some a1 ∧ w.cell? ⟨g, 2, none⟩ = some a2 ∧ w.cell? ⟨g, 3, none⟩ = some a3 := by
  have hc : ∀ i, w.cell? ⟨g, i, none⟩ = #[a0, a1, a2, a3][i]? := fun i => cell_of_row w g i _ t (0, 0) h
  exact ⟨hc 0, hc 1, hc 2, hc 3⟩
theorem cells6 {w : World} {g : Nat} {a0 a1 a2 a3 a4 a5 : Value} {t : TypeId} (h : w.heap[g]? = some (.cells #[a0, a1, a2, a3, a4, a5] t (0, 0))) :
    w.cell? ⟨g, 0, none⟩ = some a0 ∧ w.cell? ⟨g, 1, none⟩ = some a1 ∧ w.cell? ⟨g, 2, none⟩ = some a2 ∧ w.cell? ⟨g, 3, none⟩ = some a3 ∧ w.cell? ⟨g, 4, none⟩ = some a4 ∧ w.cell? ⟨g, 5, none⟩ = some a5 := by
  have hc : ∀ i, w.cell? ⟨g, i, none⟩ = #[a0, a1, a2, a3, a4, a5][i]? := fun i => cell_of_row w g i _ t (0, 0) h
  exact ⟨hc 0, hc 1, hc 2, hc 3, hc 4, hc 5⟩
theorem cells7 {w : World} {g : Nat} {a0 a1 a2 a3 a4 a5 a6 : Value} {t : TypeId} (h : w.heap[g]? = some (.cells #[a0, a1, a2, a3, a4, a5, a6] t (0, 0))) :
    w.cell? ⟨g, 0, none⟩ = some a0 ∧ w.cell? ⟨g, 1, none⟩ = some a1 ∧ w.cell? ⟨g, 2, none⟩ = some a2 ∧ w.cell? ⟨g, 3, none⟩ = some a3 ∧ w.cell? ⟨g, 4, none⟩ = some a4 ∧ w.cell? ⟨g, 5, none⟩ = some a5 ∧ w.cell? ⟨g, 6, none⟩ = some a6 := by
  have hc : ∀ i, w.cell? ⟨g, i, none⟩ = #[a0, a1, a2, a3, a4, a5, a6][i]? := fun i => cell_of_row w g i _ t (0, 0) h
  exact ⟨hc 0, hc 1, hc 2, hc 3, hc 4, hc 5, hc 6⟩

set_option maxRecDepth 100000 in
set_option maxHeartbeats 2000000 in
theorem routeOk (F T : Int) (r : Bool) (w : World) (h : rtB F T = r) : Calls Tryz.prog 167 #[.agg #[.int .i64 F, .int .i64 T]] w fun e w' => e = .returned (.bool r) ∧ Below w.heap.size w w' := by
  subst h
  cases h1 : ndB F
  case' false =>
    have HP := hide (show rtB F T = false by simp [rtB, h1])
    have H1 := hide (fun w1 => isNode F false w1 h1)
    clear h1
    go_enter Tryz.func167, Tryz.ntmps167
    go_wp2_with (first | (go_at_call_of 168 F; refine (unhide H1 _).mono ?_; rintro e w1 ⟨rfl, rfl⟩))
    go_ret
    exact ⟨ret_bool (unhide HP).symm, below_one w _⟩
  have H1 := hide (fun w1 => isNode F true w1 h1)
  cases h2 : ndB T
  case' false =>
    have HP := hide (show rtB F T = false by simp [rtB, h2])
    have H2 := hide (fun w1 => isNode T false w1 h2)
    clear h1 h2
    go_enter Tryz.func167, Tryz.ntmps167
    go_wp2_with (first | (go_at_call_of 168 F; refine (unhide H1 _).mono ?_; rintro e w1 ⟨rfl, rfl⟩) | (go_at_call_of 168 T; refine (unhide H2 _).mono ?_; rintro e w1 ⟨rfl, rfl⟩))
    go_ret
    exact ⟨ret_bool (unhide HP).symm, below_one w _⟩
  have H2 := hide (fun w1 => isNode T true w1 h2)
  by_cases hft : F = T
  case' pos =>
    have HP := hide (show rtB F T = false by simp [rtB, hft])
    clear h1 h2
    subst hft
    go_enter Tryz.func167, Tryz.ntmps167
    go_wp2_with (first | (go_at_call_of 168 F; refine (unhide H1 _).mono ?_; rintro e w1 ⟨rfl, rfl⟩))
    go_ret
    exact ⟨ret_bool (unhide HP).symm, below_one w _⟩
  have HP := hide (show rtB F T = true by simp [rtB, h1, h2, hft])
  have he : (F != T) = true := by simp [hft]
  clear h1 h2
  go_enter Tryz.func167, Tryz.ntmps167
  go_wp2_with (first | (go_at_call_of 168 F; refine (unhide H1 _).mono ?_; rintro e w1 ⟨rfl, rfl⟩) | (go_at_call_of 168 T; refine (unhide H2 _).mono ?_; rintro e w1 ⟨rfl, rfl⟩))
  go_ret
  exact ⟨ret_bool (by first | exact (unhide HP).symm | exact he.trans (unhide HP).symm), below_one w _⟩

set_option maxRecDepth 100000 in
set_option maxHeartbeats 2000000 in
theorem wantOk (F T : Int) (k : ByteArray) (N : Int) (r : Bool) (w : World) (h : (rtB F T && keyOk k.data.toList && smB N) = r) : Calls Tryz.prog 169 #[.agg #[.int .i64 F, .int .i64 T, .string k, .int .i64 N]] w fun e w' => e = .returned (.bool r) ∧ Below w.heap.size w w' := by
  have HQ := hide h
  clear h
  cases hr : rtB F T
  case' false =>
    have HP := hide (show (rtB F T && keyOk k.data.toList && smB N) = false by simp [hr])
    have HR := hide (fun w1 => routeOk F T false w1 hr)
    clear hr
    go_enter Tryz.func169, Tryz.ntmps169
    go_wp2_with (first | (go_at_call 167; refine (unhide HR _).mono ?_; rintro e w2 ⟨rfl, hb2⟩; have hA := blk_step (heap_alloc_new w _) hb2; have hB := (below_one w _).trans (hb2.mono (by simp)); obtain ⟨c0, c1, c2, c3⟩ := cells4 hA; have hz := blk_lt hA; clear hA hb2))
    go_ret
    exact ⟨ret_bool ((unhide HP).symm.trans (unhide HQ)), hB⟩
  have HR := hide (fun w1 => routeOk F T true w1 hr)
  cases hc0 : keyOk k.data.toList
  case' false =>
    have HP := hide (show (rtB F T && keyOk k.data.toList && smB N) = false by simp [hr, hc0])
    have HC0 := hide (fun w1 => implKeyR k false w1 hc0)
    clear hr hc0
    go_enter Tryz.func169, Tryz.ntmps169
    go_wp2_with (first | (go_at_call 167; refine (unhide HR _).mono ?_; rintro e w2 ⟨rfl, hb2⟩; have hA := blk_step (heap_alloc_new w _) hb2; have hB := (below_one w _).trans (hb2.mono (by simp)); obtain ⟨c0, c1, c2, c3⟩ := cells4 hA; have hz := blk_lt hA; clear hA hb2) | (go_at_call_of 75 k; refine (unhide HC0 _).mono ?_; rintro e w1 ⟨rfl, rfl⟩))
    go_ret
    exact ⟨ret_bool ((unhide HP).symm.trans (unhide HQ)), hB⟩
  have HC0 := hide (fun w1 => implKeyR k true w1 hc0)
  cases hc1 : smB N
  case' false =>
    have HP := hide (show (rtB F T && keyOk k.data.toList && smB N) = false by simp [hr, hc0, hc1])
    have HC1 := hide (fun w1 => isSomeAmount N false w1 hc1)
    clear hr hc0 hc1
    go_enter Tryz.func169, Tryz.ntmps169
    go_wp2_with (first | (go_at_call 167; refine (unhide HR _).mono ?_; rintro e w2 ⟨rfl, hb2⟩; have hA := blk_step (heap_alloc_new w _) hb2; have hB := (below_one w _).trans (hb2.mono (by simp)); obtain ⟨c0, c1, c2, c3⟩ := cells4 hA; have hz := blk_lt hA; clear hA hb2) | (go_at_call_of 75 k; refine (unhide HC0 _).mono ?_; rintro e w1 ⟨rfl, rfl⟩) | (go_at_call_of 74 N; refine (unhide HC1 _).mono ?_; rintro e w1 ⟨rfl, rfl⟩))
    go_ret
    exact ⟨ret_bool ((unhide HP).symm.trans (unhide HQ)), hB⟩
  have HC1 := hide (fun w1 => isSomeAmount N true w1 hc1)
  have HP := hide (show (rtB F T && keyOk k.data.toList && smB N) = true by simp [hr, hc0, hc1])
  clear hr hc0 hc1
  go_enter Tryz.func169, Tryz.ntmps169
  go_wp2_with (first | (go_at_call 167; refine (unhide HR _).mono ?_; rintro e w2 ⟨rfl, hb2⟩; have hA := blk_step (heap_alloc_new w _) hb2; have hB := (below_one w _).trans (hb2.mono (by simp)); obtain ⟨c0, c1, c2, c3⟩ := cells4 hA; have hz := blk_lt hA; clear hA hb2) | (go_at_call_of 75 k; refine (unhide HC0 _).mono ?_; rintro e w1 ⟨rfl, rfl⟩) | (go_at_call_of 74 N; refine (unhide HC1 _).mono ?_; rintro e w1 ⟨rfl, rfl⟩))
  go_ret
  exact ⟨ret_bool ((unhide HP).symm.trans (unhide HQ)), hB⟩

set_option maxRecDepth 100000 in
set_option maxHeartbeats 2000000 in
theorem payOk (F T I L : Int) (k : ByteArray) (N : Int) (r : Bool) (w : World) (h : (rtB F T && smB I && decide (1 ≤ L) && decide (L ≤ I) && keyOk k.data.toList && smB N) = r) : Calls Tryz.prog 170 #[.agg #[.int .i64 F, .int .i64 T, .int .i64 I, .int .i64 L, .string k, .int .i64 N]] w fun e w' => e = .returned (.bool r) ∧ Below w.heap.size w w' := by
  have HQ := hide h
  clear h
  cases hr : rtB F T
  case' false =>
    have HP := hide (show (rtB F T && smB I && decide (1 ≤ L) && decide (L ≤ I) && keyOk k.data.toList && smB N) = false by simp [hr])
    have HR := hide (fun w1 => routeOk F T false w1 hr)
    clear hr
    go_enter Tryz.func170, Tryz.ntmps170
    go_wp2_with (first | (go_at_call 167; refine (unhide HR _).mono ?_; rintro e w2 ⟨rfl, hb2⟩; have hA := blk_step (heap_alloc_new w _) hb2; have hB := (below_one w _).trans (hb2.mono (by simp)); obtain ⟨c0, c1, c2, c3, c4, c5⟩ := cells6 hA; have hz := blk_lt hA; clear hA hb2))
    go_ret
    exact ⟨ret_bool ((unhide HP).symm.trans (unhide HQ)), hB⟩
  have HR := hide (fun w1 => routeOk F T true w1 hr)
  cases hc0 : smB I
  case' false =>
    have HP := hide (show (rtB F T && smB I && decide (1 ≤ L) && decide (L ≤ I) && keyOk k.data.toList && smB N) = false by simp [hr, hc0])
    have HC0 := hide (fun w1 => isSomeAmount I false w1 hc0)
    clear hr hc0
    go_enter Tryz.func170, Tryz.ntmps170
    go_wp2_with (first | (go_at_call 167; refine (unhide HR _).mono ?_; rintro e w2 ⟨rfl, hb2⟩; have hA := blk_step (heap_alloc_new w _) hb2; have hB := (below_one w _).trans (hb2.mono (by simp)); obtain ⟨c0, c1, c2, c3, c4, c5⟩ := cells6 hA; have hz := blk_lt hA; clear hA hb2) | (go_at_call_of 74 I; refine (unhide HC0 _).mono ?_; rintro e w1 ⟨rfl, rfl⟩))
    go_ret
    exact ⟨ret_bool ((unhide HP).symm.trans (unhide HQ)), hB⟩
  have HC0 := hide (fun w1 => isSomeAmount I true w1 hc0)
  by_cases hd1 : 1 ≤ L
  case' neg =>
    have HP := hide (show (rtB F T && smB I && decide (1 ≤ L) && decide (L ≤ I) && keyOk k.data.toList && smB N) = false by simp [hr, hc0, hd1])
    clear hr hc0
    go_enter Tryz.func170, Tryz.ntmps170
    go_wp2_with (first | (go_at_call 167; refine (unhide HR _).mono ?_; rintro e w2 ⟨rfl, hb2⟩; have hA := blk_step (heap_alloc_new w _) hb2; have hB := (below_one w _).trans (hb2.mono (by simp)); obtain ⟨c0, c1, c2, c3, c4, c5⟩ := cells6 hA; have hz := blk_lt hA; clear hA hb2) | (go_at_call_of 74 I; refine (unhide HC0 _).mono ?_; rintro e w1 ⟨rfl, rfl⟩))
    go_ret
    exact ⟨ret_bool ((unhide HP).symm.trans (unhide HQ)), hB⟩
  by_cases hd2 : L ≤ I
  case' neg =>
    have HP := hide (show (rtB F T && smB I && decide (1 ≤ L) && decide (L ≤ I) && keyOk k.data.toList && smB N) = false by simp [hr, hc0, hd1, hd2])
    clear hr hc0
    go_enter Tryz.func170, Tryz.ntmps170
    go_wp2_with (first | (go_at_call 167; refine (unhide HR _).mono ?_; rintro e w2 ⟨rfl, hb2⟩; have hA := blk_step (heap_alloc_new w _) hb2; have hB := (below_one w _).trans (hb2.mono (by simp)); obtain ⟨c0, c1, c2, c3, c4, c5⟩ := cells6 hA; have hz := blk_lt hA; clear hA hb2) | (go_at_call_of 74 I; refine (unhide HC0 _).mono ?_; rintro e w1 ⟨rfl, rfl⟩))
    go_ret
    exact ⟨ret_bool ((unhide HP).symm.trans (unhide HQ)), hB⟩
  cases hc1 : keyOk k.data.toList
  case' false =>
    have HP := hide (show (rtB F T && smB I && decide (1 ≤ L) && decide (L ≤ I) && keyOk k.data.toList && smB N) = false by simp [hr, hc0, hd1, hd2, hc1])
    have HC1 := hide (fun w1 => implKeyR k false w1 hc1)
    clear hr hc0 hc1
    go_enter Tryz.func170, Tryz.ntmps170
    go_wp2_with (first | (go_at_call 167; refine (unhide HR _).mono ?_; rintro e w2 ⟨rfl, hb2⟩; have hA := blk_step (heap_alloc_new w _) hb2; have hB := (below_one w _).trans (hb2.mono (by simp)); obtain ⟨c0, c1, c2, c3, c4, c5⟩ := cells6 hA; have hz := blk_lt hA; clear hA hb2) | (go_at_call_of 74 I; refine (unhide HC0 _).mono ?_; rintro e w1 ⟨rfl, rfl⟩) | (go_at_call_of 75 k; refine (unhide HC1 _).mono ?_; rintro e w1 ⟨rfl, rfl⟩))
    go_ret
    exact ⟨ret_bool ((unhide HP).symm.trans (unhide HQ)), hB⟩
  have HC1 := hide (fun w1 => implKeyR k true w1 hc1)
  cases hc2 : smB N
  case' false =>
    have HP := hide (show (rtB F T && smB I && decide (1 ≤ L) && decide (L ≤ I) && keyOk k.data.toList && smB N) = false by simp [hr, hc0, hd1, hd2, hc1, hc2])
    have HC2 := hide (fun w1 => isSomeAmount N false w1 hc2)
    clear hr hc0 hc1 hc2
    go_enter Tryz.func170, Tryz.ntmps170
    go_wp2_with (first | (go_at_call 167; refine (unhide HR _).mono ?_; rintro e w2 ⟨rfl, hb2⟩; have hA := blk_step (heap_alloc_new w _) hb2; have hB := (below_one w _).trans (hb2.mono (by simp)); obtain ⟨c0, c1, c2, c3, c4, c5⟩ := cells6 hA; have hz := blk_lt hA; clear hA hb2) | (go_at_call_of 74 I; refine (unhide HC0 _).mono ?_; rintro e w1 ⟨rfl, rfl⟩) | (go_at_call_of 75 k; refine (unhide HC1 _).mono ?_; rintro e w1 ⟨rfl, rfl⟩) | (go_at_call_of 74 N; refine (unhide HC2 _).mono ?_; rintro e w1 ⟨rfl, rfl⟩))
    go_ret
    exact ⟨ret_bool ((unhide HP).symm.trans (unhide HQ)), hB⟩
  have HC2 := hide (fun w1 => isSomeAmount N true w1 hc2)
  have HP := hide (show (rtB F T && smB I && decide (1 ≤ L) && decide (L ≤ I) && keyOk k.data.toList && smB N) = true by simp [hr, hc0, hd1, hd2, hc1, hc2])
  clear hr hc0 hc1 hc2
  go_enter Tryz.func170, Tryz.ntmps170
  go_wp2_with (first | (go_at_call 167; refine (unhide HR _).mono ?_; rintro e w2 ⟨rfl, hb2⟩; have hA := blk_step (heap_alloc_new w _) hb2; have hB := (below_one w _).trans (hb2.mono (by simp)); obtain ⟨c0, c1, c2, c3, c4, c5⟩ := cells6 hA; have hz := blk_lt hA; clear hA hb2) | (go_at_call_of 74 I; refine (unhide HC0 _).mono ?_; rintro e w1 ⟨rfl, rfl⟩) | (go_at_call_of 75 k; refine (unhide HC1 _).mono ?_; rintro e w1 ⟨rfl, rfl⟩) | (go_at_call_of 74 N; refine (unhide HC2 _).mono ?_; rintro e w1 ⟨rfl, rfl⟩))
  go_ret
  exact ⟨ret_bool ((unhide HP).symm.trans (unhide HQ)), hB⟩

set_option maxRecDepth 100000 in
set_option maxHeartbeats 2000000 in
theorem ackOk (F T I : Int) (r : Bool) (w : World) (h : (rtB F T && smB I) = r) : Calls Tryz.prog 171 #[.agg #[.int .i64 F, .int .i64 T, .int .i64 I]] w fun e w' => e = .returned (.bool r) ∧ Below w.heap.size w w' := by
  have HQ := hide h
  clear h
  cases hr : rtB F T
  case' false =>
    have HP := hide (show (rtB F T && smB I) = false by simp [hr])
    have HR := hide (fun w1 => routeOk F T false w1 hr)
    clear hr
    go_enter Tryz.func171, Tryz.ntmps171
    go_wp2_with (first | (go_at_call 167; refine (unhide HR _).mono ?_; rintro e w2 ⟨rfl, hb2⟩; have hA := blk_step (heap_alloc_new w _) hb2; have hB := (below_one w _).trans (hb2.mono (by simp)); obtain ⟨c0, c1, c2⟩ := cells3 hA; have hz := blk_lt hA; clear hA hb2))
    go_ret
    exact ⟨ret_bool ((unhide HP).symm.trans (unhide HQ)), hB⟩
  have HR := hide (fun w1 => routeOk F T true w1 hr)
  cases hc0 : smB I
  case' false =>
    have HP := hide (show (rtB F T && smB I) = false by simp [hr, hc0])
    have HC0 := hide (fun w1 => isSomeAmount I false w1 hc0)
    clear hr hc0
    go_enter Tryz.func171, Tryz.ntmps171
    go_wp2_with (first | (go_at_call 167; refine (unhide HR _).mono ?_; rintro e w2 ⟨rfl, hb2⟩; have hA := blk_step (heap_alloc_new w _) hb2; have hB := (below_one w _).trans (hb2.mono (by simp)); obtain ⟨c0, c1, c2⟩ := cells3 hA; have hz := blk_lt hA; clear hA hb2) | (go_at_call_of 74 I; refine (unhide HC0 _).mono ?_; rintro e w1 ⟨rfl, rfl⟩))
    go_ret
    exact ⟨ret_bool ((unhide HP).symm.trans (unhide HQ)), hB⟩
  have HC0 := hide (fun w1 => isSomeAmount I true w1 hc0)
  have HP := hide (show (rtB F T && smB I) = true by simp [hr, hc0])
  clear hr hc0
  go_enter Tryz.func171, Tryz.ntmps171
  go_wp2_with (first | (go_at_call 167; refine (unhide HR _).mono ?_; rintro e w2 ⟨rfl, hb2⟩; have hA := blk_step (heap_alloc_new w _) hb2; have hB := (below_one w _).trans (hb2.mono (by simp)); obtain ⟨c0, c1, c2⟩ := cells3 hA; have hz := blk_lt hA; clear hA hb2) | (go_at_call_of 74 I; refine (unhide HC0 _).mono ?_; rintro e w1 ⟨rfl, rfl⟩))
  go_ret
  exact ⟨ret_bool ((unhide HP).symm.trans (unhide HQ)), hB⟩


/-- The kind's byte. -/
def kb (K : Int) : ByteArray := ⟨[UInt8.ofNat K.toNat].toArray⟩
/-- A message's bytes. -/
def mgBytes (m : Mg) : ByteArray := kb m.K ++ putS m.F ++ putS m.T ++ putS m.I ++ putS m.L ++ putT m.k ++ putS m.N
def putMsg (m : Mg) : ByteArray := if mgOk m = true then mgBytes m else ByteArray.empty
theorem putMsg_yes {m : Mg} (h : mgOk m = true) : putMsg m = mgBytes m := by unfold putMsg; rw [if_pos h]
theorem putMsg_no {m : Mg} (h : mgOk m = false) : putMsg m = ByteArray.empty := by unfold putMsg; rw [if_neg (by rw [h]; simp)]
theorem kind_in {m : Mg} (h : mgOk m = true) : 0 ≤ m.K ∧ m.K ≤ 2 := by
  unfold mgOk at h
  simp only [Bool.and_eq_true] at h
  obtain ⟨_, h⟩ := h
  split at h
  · omega
  · split at h
    · omega
    · split at h
      · omega
      · cases h
theorem kb_size (K : Int) : (kb K).size = 1 := rfl
theorem conv_kind (w : World) (g : Nat) (K : Int) (h : 0 ≤ K ∧ K ≤ 2) (hc : w.cell? ⟨g, 0, none⟩ = some (.int .u8 K)) : (convert 30 9 (.slice (some ⟨g, 0, none⟩) 1 1)).run Tryz.prog w = .ok (.string (kb K)) w := by
  refine run_convert_bytes_back (P := Tryz.prog) w 30 9 5 ⟨g, 0, none⟩ 1 [UInt8.ofNat K.toNat] Tryz.underlying30 Tryz.underlying5 Tryz.underlying9 ?_
  intro j hj
  obtain rfl : j = 0 := by simpa using hj
  show w.cell? ⟨g, 0, none⟩ = _
  rw [hc]
  simp only [List.getElem_cons_zero]
  rw [toNat_byte _ (by omega)]
  congr 2
  omega

/-- The number at a place and the place behind it; the text. -/
def rdN (s : ByteArray) (i : Int) : Int := numN (getAt s i)
def rdE (s : ByteArray) (i : Int) : Int := numT (getAt s i) i
def rtS (s : ByteArray) (i : Int) : ByteArray := txtS (textOf s i.toNat (getAt s i))
def rtE (s : ByteArray) (i : Int) : Int := txtE (textOf s i.toNat (getAt s i))
theorem num_piece {s : ByteArray} {i : Int} (h : 0 ≤ rdE s i) : 0 ≤ i ∧ i ≤ rdE s i ∧ rdE s i ≤ s.size ∧ (putS (rdN s i)).data.toList = (s.data.toList.take (rdE s i).toNat).drop i.toNat := by
  unfold rdE rdN at *
  cases hG : getAt s i with
  | none => rw [hG] at h; simp [numT] at h
  | some p =>
    obtain ⟨n, c⟩ := p
    obtain ⟨k, rfl, hk, hc, hn, hput⟩ := read_put hG
    simp only [numT, numN]
    refine ⟨by omega, by omega, by omega, ?_⟩
    rw [← ByteArray.toList_eq, hput, Lib.extract_toList, List.drop_take]
    simp only [Int.toNat_natCast]
    rfl
theorem text_piece {s : ByteArray} {i : Int} (h : 0 ≤ rtE s i) : 0 ≤ i ∧ i ≤ rtE s i ∧ rtE s i ≤ s.size ∧ (rtS s i).size ≤ 1000 ∧ (putT (rtS s i)).data.toList = (s.data.toList.take (rtE s i).toNat).drop i.toNat := by
  unfold rtE rtS at *
  cases hG : textOf s i.toNat (getAt s i) with
  | none => rw [hG] at h; simp [txtE] at h
  | some p =>
    obtain ⟨t, e⟩ := p
    obtain ⟨k, rfl, hk, hc, hn, hput⟩ := read_text hG
    simp only [txtE, txtS]
    refine ⟨by omega, by omega, by omega, hn, ?_⟩
    rw [← ByteArray.toList_eq, hput, Lib.extract_toList, List.drop_take]
    simp only [Int.toNat_natCast]
/-- What stands in a text as a message, right or not, and the place behind it. -/
def candE (s : ByteArray) : Int := rdE s (rtE s (rdE s (rdE s (rdE s (rdE s 1)))))
def cand (s : ByteArray) : Mg :=
  ⟨(s.data.toList.headD 0).toNat, rdN s 1, rdN s (rdE s 1), rdN s (rdE s (rdE s 1)), rdN s (rdE s (rdE s (rdE s 1))), rtS s (rdE s (rdE s (rdE s (rdE s 1)))), rdN s (rtE s (rdE s (rdE s (rdE s (rdE s 1)))))⟩
theorem cut_cut (l : List UInt8) (i j : Nat) (h : i ≤ j) : l.take i ++ (l.take j).drop i = l.take j := by
  have h2 : (l.take j).take i = l.take i := by rw [List.take_take, Nat.min_eq_left h]
  rw [← h2, List.take_append_drop]
/-- Where a message could be read its bytes stand there. -/
theorem cand_bytes {s : ByteArray} (hs : 0 < s.size) (h : 0 ≤ candE s) : candE s ≤ s.size ∧ (mgBytes (cand s)).data.toList = s.data.toList.take (candE s).toNat := by
  unfold candE at h
  obtain ⟨g5, l6, e6, q6⟩ := num_piece h
  obtain ⟨g4, l5, e5, _, q5⟩ := text_piece g5
  obtain ⟨g3, l4, e4, q4⟩ := num_piece g4
  obtain ⟨g2, l3, e3, q3⟩ := num_piece g3
  obtain ⟨g1, l2, e2, q2⟩ := num_piece g2
  obtain ⟨g0, l1, e1, q1⟩ := num_piece g1
  refine ⟨e6, ?_⟩
  unfold mgBytes cand candE
  simp only [ByteArray.data_append, Array.toList_append]
  rw [q1, q2, q3, q4, q5, q6]
  have q0 : (kb ((s.data.toList.headD 0).toNat : Int)).data.toList = s.data.toList.take (1 : Int).toNat := by
    have hl := size_toList s
    unfold kb
    cases hd : s.data.toList with
    | nil => rw [hd] at hl; simp at hl; omega
    | cons b r => simp
  rw [q0, cut_cut _ _ _ (by omega), cut_cut _ _ _ (by omega), cut_cut _ _ _ (by omega), cut_cut _ _ _ (by omega), cut_cut _ _ _ (by omega), cut_cut _ _ _ (by omega)]
/-- The zero message. -/
def mg0 : Mg := ⟨0, 0, 0, 0, 0, ByteArray.empty, 0⟩
def getOk (s : ByteArray) : Bool := decide (0 < s.size) && decide (candE s = s.size) && mgOk (cand s)
def getMg (s : ByteArray) : Mg := if getOk s = true then cand s else mg0
/-- The model's own test comes to the same. -/
theorem getOk_spec {s : ByteArray} (hs : 0 < s.size) : getOk s = (decide (0 ≤ candE s) && decide (putMsg (cand s) = s)) := by
  rw [Bool.eq_iff_iff]
  unfold getOk
  simp only [Bool.and_eq_true, decide_eq_true_iff]
  constructor
  · rintro ⟨⟨_, h1⟩, h2⟩
    have h0 : 0 ≤ candE s := by omega
    refine ⟨h0, ?_⟩
    rw [putMsg_yes h2]
    apply ByteArray.ext
    apply Array.ext'
    rw [(cand_bytes hs h0).2, h1, Int.toNat_natCast, List.take_of_length_le (by rw [size_toList]; exact Nat.le_refl _)]
  · rintro ⟨h0, h1⟩
    obtain ⟨hl, hb⟩ := cand_bytes hs h0
    cases hm : mgOk (cand s) with
    | false =>
      rw [putMsg_no hm] at h1
      rw [← h1] at hs
      exact absurd hs (by decide)
    | true =>
      rw [putMsg_yes hm] at h1
      refine ⟨⟨hs, ?_⟩, rfl⟩
      rw [h1] at hb
      have := congrArg List.length hb
      rw [List.length_take, size_toList] at this
      omega

def getV (s : ByteArray) : Value := .tuple #[mgv (getMg s), .bool (getOk s)]
theorem getV_no {s : ByteArray} (h : getOk s = false) : getV s = .tuple #[.agg #[.int .i64 0, .int .i64 0, .int .i64 0, .int .i64 0, .int .i64 0, .string ⟨#[]⟩, .int .i64 0], .bool false] := by
  unfold getV getMg
  rw [h, if_neg (by simp)]
  rfl
theorem head_at {s : ByteArray} (h : 0 < s.size) : s.data.toList.headD 0 = s[0] := by
  have hl := size_toList s
  rw [List.headD_eq_head?_getD, List.head?_eq_getElem?, List.getElem?_eq_getElem (by omega)]
  rfl
end Go.Proofs.YtikdkijggejnfaaGreatDoor
