/- Parts. -/
import Derived.Test.YtbanjohfcnadfaaGreatDoorPw12
import Derived.Test.YtbanjohfcnadfaaGreatDoorPw5
namespace Go.Proofs.YtbanjohfcnadfaaGreatDoor
open Go.RowKit
open Mth

/-- What was seen, marked from a number on. -/
def mSn (s : Nat) (x : Sn) : Sn := ⟨(s : Int), (s : Int) + 1, mks mkInt 1 (s + 2) x.ids x.ids.length⟩
def eSn (s : Nat) (x : Sn) : Nat := s + 2 + x.ids.length
def mSeen : Nat → List Sn → List Sn
  | _, [] => []
  | s, x :: r => mSn s x :: mSeen (eSn s x) r
def eSeen : Nat → List Sn → Nat
  | s, [] => s
  | s, x :: r => eSeen (eSn s x) r
theorem mSeen_snoc (s : Nat) (l : List Sn) (x : Sn) : mSeen s (l ++ [x]) = mSeen s l ++ [mSn (eSeen s l) x] := by
  induction l generalizing s with
  | nil => rfl
  | cons y l ih => simp [mSeen, eSeen, ih]
theorem eSeen_snoc (s : Nat) (l : List Sn) (x : Sn) : eSeen s (l ++ [x]) = eSn (eSeen s l) x := by
  induction l generalizing s with
  | nil => rfl
  | cons y l ih => simp [eSeen, ih]
theorem mSeen_length (s : Nat) (l : List Sn) : (mSeen s l).length = l.length := by
  induction l generalizing s with
  | nil => rfl
  | cons y l ih => simp [mSeen, ih]
theorem mSn_ids (s : Nat) (x : Sn) : (mSn s x).ids.length = x.ids.length := mks_length mkInt 1 (s + 2) x.ids x.ids.length (Nat.le_refl _)
theorem eSeen_le (s b : Nat) (l : List Sn) (h : ∀ x ∈ l, x.ids.length ≤ b) : s ≤ eSeen s l ∧ eSeen s l ≤ s + l.length * (b + 2) := by
  induction l generalizing s with
  | nil => simp [eSeen]
  | cons y l ih =>
    have h1 := h y (by simp)
    have h2 := ih (eSn s y) (fun x hx => h x (List.mem_cons_of_mem _ hx))
    simp only [eSeen, List.length_cons, Nat.add_mul, Nat.one_mul]
    unfold eSn at *
    omega
/-- The first k marked. -/
def mSk (s : Nat) (l : List Sn) (k : Nat) : List Sn := mSeen s (l.take k) ++ l.drop k
theorem mSk_length (s : Nat) (l : List Sn) (k : Nat) (hk : k ≤ l.length) : (mSk s l k).length = l.length := by simp [mSk, mSeen_length]; omega
theorem mSk_zero (s : Nat) (l : List Sn) : mSk s l 0 = l := rfl
theorem mSk_all (s : Nat) (l : List Sn) : mSk s l l.length = mSeen s l := by simp [mSk]
theorem mSk_at (s : Nat) (l : List Sn) (k : Nat) (hk : k < l.length) : (mSk s l k)[k]'(by rw [mSk_length s l k (by omega)]; exact hk) = l[k] := by
  unfold mSk
  have h1 : (mSeen s (l.take k)).length = k := by rw [mSeen_length]; simp; omega
  rw [List.getElem_append_right (by omega)]
  simp [h1]
theorem mSk_set (s : Nat) (l : List Sn) (k : Nat) (hk : k < l.length) : (mSk s l k).set k (mSn (eSeen s (l.take k)) l[k]) = mSk s l (k + 1) := by
  have h1 : (mSeen s (l.take k)).length = k := by rw [mSeen_length]; simp; omega
  have e : l.drop k = l[k] :: l.drop (k + 1) := List.drop_eq_getElem_cons hk
  unfold mSk
  rw [e, List.set_append_right _ _ (by omega), h1, Nat.sub_self, List.set_cons_zero, List.take_succ_eq_append_getElem hk, mSeen_snoc, List.append_assoc]
  rfl
theorem fpI_congr {I : Nat → Nat} {l l' : List Sn} (hl : l.length = l'.length) (h : ∀ i (h1 : i < l.length) (h2 : i < l'.length), l[i].ids.length = l'[i].ids.length) : fpI I l = fpI I l' := by
  unfold fpI
  rw [hl]
  have : ∀ i ∈ List.range l'.length, fp (I i) (l.getD i default).ids = fp (I i) (l'.getD i default).ids := fun i hi => by
    have h2 := List.mem_range.1 hi
    have h1 : i < l.length := by omega
    apply fp_len
    rw [List.getD_eq_getElem?_getD, List.getElem?_eq_getElem h1, List.getD_eq_getElem?_getD, List.getElem?_eq_getElem h2]
    exact h i h1 h2
  rw [List.flatMap_def, List.flatMap_def, List.map_congr_left this]
theorem SeenW.put {w : World} {a : Option Addr} {g : Nat} {I : Nat → Nat} {l : List Sn} (h : SeenW w a g I l) (k : Nat) (hk : k < l.length) (f lo : Int) (hne : ∀ x ∈ fpI I l, x ≠ g) :
    SeenW ((w.setCell ⟨g, k * 3, none⟩ (.int .i64 f)).setCell ⟨g, k * 3 + 1, none⟩ (.int .i64 lo)) a g I (l.set k ⟨f, lo, l[k].ids⟩) := by
  obtain ⟨T, hT, hl, hr⟩ := h
  obtain ⟨b, c, ht, hi2⟩ := hr k hk
  have hkT : k < T.length := by omega
  have htk : T[k] = ⟨l[k].f, l[k].l, .slice b l[k].ids.length c⟩ := by
    rw [List.getElem?_eq_getElem hkT] at ht
    exact Option.some.inj ht
  have hC := ((GR.W.toC encR3_length (by omega) hT).set (k * 3) (.int .i64 f)).set (k * 3 + 1) (.int .i64 lo)
  have hf := GR.flat_set encR3 3 encR3_length T k ⟨f, lo, .slice b l[k].ids.length c⟩ hkT
  have h3 : (((GR.flat encR3 T).set (k * 3) (.int .i64 f)).set (k * 3 + 1) (.int .i64 lo)).set (k * 3 + 2) (.slice b l[k].ids.length c) = GR.flat encR3 (T.set k ⟨f, lo, .slice b l[k].ids.length c⟩) := hf
  have hat := GR.flat_at encR3 3 encR3_length T k hkT 2 (by omega)
  rw [htk] at hat
  have h4 : ((GR.flat encR3 T).set (k * 3) (.int .i64 f)).set (k * 3 + 1) (.int .i64 lo) = GR.flat encR3 (T.set k ⟨f, lo, .slice b l[k].ids.length c⟩) := by
    rw [← h3]
    apply List.ext_getElem?
    intro j
    by_cases hj : j = k * 3 + 2
    · subst hj
      have hlt : k * 3 + 2 < (GR.flat encR3 T).length := by rw [GR.flat_length encR3 3 encR3_length]; omega
      rw [List.getElem?_set_self (by simpa using hlt), List.getElem?_set_ne (by omega), List.getElem?_set_ne (by omega), hat]
      rfl
    · rw [List.getElem?_set_ne (i := k * 3 + 2) (by omega)]
  rw [h4] at hC
  have hK : KeepsL [g] w ((w.setCell ⟨g, k * 3, none⟩ (.int .i64 f)).setCell ⟨g, k * 3 + 1, none⟩ (.int .i64 lo)) := (KeepsL.set _).trans (KeepsL.set _)
  refine ⟨T.set k ⟨f, lo, .slice b l[k].ids.length c⟩, GR.C.toW encR3_length (by omega) hC, by simpa using hl, fun i hi => ?_⟩
  have hi' : i < l.length := by simpa using hi
  by_cases hik : i = k
  · subst hik
    refine ⟨b, c, ?_, ?_⟩
    · rw [List.getElem?_set_self hkT]; simp
    · rw [List.getElem_set_self]
      exact hi2.keeps hK (fun x hx => by simpa using hne x (fpI_mem hi' x hx))
  · obtain ⟨b', c', ht', hi3⟩ := hr i hi'
    refine ⟨b', c', ?_, ?_⟩
    · rw [List.getElem?_set_ne (by omega), ht', List.getElem_set_ne (by omega)]
    · rw [List.getElem_set_ne (by omega)]
      exact hi3.keeps hK (fun x hx => by simpa using hne x (fpI_mem hi' x hx))
theorem fpI_diff {I : Nat → Nat} {l : List Sn} (hnd : (fpI I l).Nodup) {i k : Nat} (hi : i < l.length) (hk : k < l.length) (hik : i ≠ k) (h1 : 0 < l[i].ids.length) (h2 : 0 < l[k].ids.length) : I i ≠ I k := by
  intro he
  have hd : ∀ j (hj : j < l.length), l.getD j default = l[j] := fun j hj => by rw [List.getD_eq_getElem?_getD, List.getElem?_eq_getElem hj]; rfl
  have key : ∀ a b, a < b → b < l.length → 0 < (l.getD a default).ids.length → 0 < (l.getD b default).ids.length → I a ≠ I b := by
    intro a b hab hb ha1 hb1 hI
    unfold fpI at hnd
    have e1 : List.range l.length = List.range b ++ (List.range (l.length - b)).map (b + ·) := by
      rw [← List.range_add]
      congr 1
      omega
    rw [e1, List.flatMap_append, List.nodup_append] at hnd
    refine hnd.2.2 (I a) ?_ (I b) ?_ hI
    · rw [List.mem_flatMap]
      exact ⟨a, List.mem_range.2 hab, fp_mem ha1⟩
    · rw [List.mem_flatMap]
      exact ⟨b, List.mem_map.2 ⟨0, List.mem_range.2 (by omega), by simp⟩, fp_mem hb1⟩
  rcases Nat.lt_or_gt_of_ne hik with h | h
  · exact key i k h hk (by rw [hd i hi]; exact h1) (by rw [hd k hk]; exact h2) he
  · exact key k i h hi (by rw [hd k hk]; exact h2) (by rw [hd i hi]; exact h1) he.symm
/-- One neighbour's numbers written over. -/
theorem SeenW.ids {w w' : World} {a : Option Addr} {g : Nat} {I : Nat → Nat} {l : List Sn} (h : SeenW w a g I l) (k : Nat) (hk : k < l.length) (b : Option Addr) (c : Nat) (ids : List Int) (hb : w.cell? ⟨g, k * 3 + 2, none⟩ = some (.slice b l[k].ids.length c)) (hlen : ids.length = l[k].ids.length) (hw : GR.W encNum 1 w' b (I k) ids) (hK : KeepsL (fp (I k) l[k].ids) w w')
    (hne : ∀ x ∈ fpI I l, x ≠ g) (hnd : (fpI I l).Nodup) : SeenW w' a g I (l.set k ⟨l[k].f, l[k].l, ids⟩) := by
  obtain ⟨T, hT, hl, hr⟩ := h
  have hkT : k < T.length := by omega
  have hfpk : ∀ x ∈ fp (I k) l[k].ids, x ∈ fpI I l := fpI_mem hk
  have hT' : GR.W encR3 3 w' a g T := hT.keeps hK (fun x hx hx2 => by
    rw [(of_fp hx).1] at hx2
    exact hne _ (hfpk _ hx2) rfl)
  refine ⟨T, hT', by simpa using hl, fun i hi => ?_⟩
  have hi' : i < l.length := by simpa using hi
  obtain ⟨b', c', ht', hi3⟩ := hr i hi'
  by_cases hik : i = k
  · subst hik
    obtain ⟨_, _, hc⟩ := hT i hkT
    have h2 := (hc 2 (by omega)).1
    rw [List.getElem?_eq_getElem hkT] at ht'
    rw [Option.some.inj ht'] at h2
    have h2' : w.cell? ⟨g, i * 3 + 2, none⟩ = some (.slice b' l[i].ids.length c') := h2
    rw [hb] at h2'
    injection h2' with h2'
    injection h2' with e1 e2 e3
    subst e1 e3
    refine ⟨b, c, ?_, ?_⟩
    · rw [List.getElem?_eq_getElem hkT, Option.some.inj ht', List.getElem_set_self]
      simp [hlen]
    · rw [List.getElem_set_self]; exact hw
  · refine ⟨b', c', ?_, ?_⟩
    · rw [ht', List.getElem_set_ne (by omega)]
    · rw [List.getElem_set_ne (by omega)]
      refine hi3.keeps hK (fun x hx hx2 => ?_)
      have e1 := (of_fp hx).1
      have e2 := (of_fp hx2).1
      have hIk : I i = I k := by rw [← e1, ← e2]
      exact fpI_diff hnd hi' hk hik (of_fp hx).2 (of_fp hx2).2 hIk
theorem markIntZ (a : Option Addr) (g c s : Nat) (z : Int) (l : List Int) (w : World) (hz : z = (s : Int)) (hs0 : 0 < s) (hs1 : s ≤ 4000000000000) (hl : l.length ≤ 1048600) (ha : GR.W encNum 1 w a g l) :
    Calls Tryz.prog 27 #[.slice a l.length c, .int .i64 z] w fun e w' => e = .returned (.int .i64 (s + (l.length : Int))) ∧ GR.W encNum 1 w' a g (mks mkInt 1 s l l.length) ∧ KeepsL (fp g l) w w' := by
  subst hz
  exact markIntG a g c s l w hs0 hs1 hl ha
theorem heldIntZ (a : Option Addr) (g c n s : Nat) (z : Int) (l : List Int) (w : World) (hz : z = (s : Int)) (hn : n = l.length) (hs0 : 0 < s) (hs1 : s ≤ 4000000000000) (hl : l.length ≤ 1048600) (ha : GR.W encNum 1 w a g (mks mkInt 1 s l l.length)) :
    Calls Tryz.prog 58 #[.slice a n c, .int .i64 z] w fun e w' => e = .returned (.int .i64 (s + (l.length : Int))) ∧ Below w.heap.size w w' := by
  subst hz
  exact heldIntG a g c n s l w hn hs0 hs1 hl ha
theorem mSeen_at (s : Nat) (l : List Sn) (k : Nat) (hk : k < l.length) : (mSeen s l)[k]'(by rw [mSeen_length]; exact hk) = mSn (eSeen s (l.take k)) l[k] := by
  induction l generalizing s k with
  | nil => simp at hk
  | cons y l ih =>
    cases k with
    | zero => rfl
    | succ k =>
      simp only [mSeen, List.getElem_cons_succ, List.take_succ_cons, eSeen]
      exact ih (eSn s y) k (by simpa using hk)
theorem mSk_len (s : Nat) (l : List Sn) (k : Nat) (hk : k ≤ l.length) : ∀ i (h1 : i < (mSk s l k).length) (h2 : i < l.length), ((mSk s l k)[i]).ids.length = (l[i]).ids.length := by
  induction k with
  | zero => intro i h1 h2; rfl
  | succ k ih =>
    intro i h1 h2
    have hk' : k < l.length := by omega
    have e := mSk_set s l k hk'
    have h3 : i < ((mSk s l k).set k (mSn (eSeen s (l.take k)) l[k])).length := by rw [e]; exact h1
    have h4 : (mSk s l (k + 1))[i] = ((mSk s l k).set k (mSn (eSeen s (l.take k)) l[k]))[i]'h3 := by simp only [e]
    rw [h4]
    by_cases hik : i = k
    · subst hik
      rw [List.getElem_set_self, mSn_ids]
    · rw [List.getElem_set_ne (by omega)]
      exact ih (by omega) i (by simpa using h3) h2
theorem SeenW.three {w : World} {a : Option Addr} {g : Nat} {I : Nat → Nat} {l : List Sn} (h : SeenW w a g I l) (i : Nat) (hi : i < l.length) : ∃ b c, a = some ⟨g, 0, none⟩ ∧ g < w.heap.size ∧ (w.cell? ⟨g, i * 3, none⟩ = some (.int .i64 l[i].f) ∧ w.cell? ⟨g, i * 3 + 1, none⟩ = some (.int .i64 l[i].l) ∧ w.cell? ⟨g, i * 3 + 2, none⟩ = some (.slice b l[i].ids.length c)) ∧ (w.frozen? ⟨g, i * 3, none⟩ = false ∧ w.frozen? ⟨g, i * 3 + 1, none⟩ = false) ∧ GR.W encNum 1 w b (I i) l[i].ids := by
  obtain ⟨T, hT, hl, hr⟩ := h
  obtain ⟨b, c, ht, hi2⟩ := hr i hi
  have hkT : i < T.length := by omega
  obtain ⟨e, hg, hc⟩ := hT i hkT
  rw [List.getElem?_eq_getElem hkT] at ht
  rw [Option.some.inj ht] at hc
  exact ⟨b, c, e, hg, ⟨by simpa using (hc 0 (by omega)).1, by simpa using (hc 1 (by omega)).1, by simpa using (hc 2 (by omega)).1⟩, ⟨by simpa using (hc 0 (by omega)).2, (hc 1 (by omega)).2⟩, hi2⟩
set_option maxRecDepth 100000 in
set_option maxHeartbeats 2000000 in
theorem markSeenG (a : Option Addr) (g c s : Nat) (I : Nat → Nat) (l : List Sn) (w : World) (hs0 : 0 < s) (hs1 : s ≤ 100000000) (hl : l.length ≤ 1048600) (hl2 : ∀ x ∈ l, x.ids.length ≤ 1048600) (hnd : (fp g l ++ fpI I l).Nodup) (ha : SeenW w a g I l) :
    Calls Tryz.prog 53 #[.slice a l.length c, .int .i64 s] w fun e w' => e = .returned (.int .i64 (eSeen s l : Nat)) ∧ SeenW w' a g I (mSeen s l) ∧ KeepsL (fp g l ++ fpI I l) w w' := by
  have HA := hide ha
  have HL2 := hide hl2
  have HND := hide (List.nodup_append.1 hnd)
  clear ha hl2 hnd
  go_enter Tryz.func53, Tryz.ntmps53
  go_wp2_with fail
  go_loopw [1, 5] (fun kk i wr => ∃ k m : Nat, k ≤ l.length ∧ i = .int .i64 k ∧ kk = .int .i64 m ∧ m = eSeen s (l.take k) ∧ SeenW wr a g I (mSk s l k) ∧ KeepsL (fp g l ++ fpI I l) w wr) (fun _ i _ => l.length - (intOf i).toNat)
  case atStart => exact ⟨0, s, Nat.zero_le _, rfl, rfl, rfl, by rw [mSk_zero]; exact unhide HA, KeepsL.refl _ _⟩
  case round =>
    obtain ⟨k, m, hk, rfl, rfl, hm, hR, hkp⟩ := hrel
    have HM := hide hm
    have HR := hide hR
    have HK := hide hkp
    clear hR hkp
    by_cases hlt : k < l.length
    · have hbd := eSeen_le s 1048600 (l.take k) (fun x hx => unhide HL2 x (List.mem_of_mem_take hx))
      rw [← hm, List.length_take, Nat.min_eq_left (by omega)] at hbd
      obtain ⟨hb1, hb2⟩ := hbd
      have hm0 : 0 < m := by omega
      have hm1 : (m : Int) ≤ 92233720368547758 := by omega
      have hk' : k < (mSk s l k).length := by rw [mSk_length s l k hk]; exact hlt
      obtain ⟨b, cc, e0, hg0, ⟨s0, s1, s2⟩, ⟨f0, f1⟩, hI⟩ := SeenW.three (unhide HR) k hk'
      have hpos : 0 < l.length := by omega
      have hgfp : g ∈ fp g l := fp_mem hpos
      have HNE : Hid (∀ x ∈ fpI I (mSk s l k), x ≠ g) := by
        rw [fpI_congr (mSk_length s l k hk) (fun i h1 h2 => mSk_len s l k hk i h1 h2)]
        exact fun x hx e => (unhide HND).2.2 g hgfp x hx e.symm
      have HNI : Hid ((fpI I (mSk s l k)).Nodup) := by
        rw [fpI_congr (mSk_length s l k hk) (fun i h1 h2 => mSk_len s l k hk i h1 h2)]
        exact (unhide HND).2.1
      have hids := unhide HL2 l[k] (List.getElem_mem hlt)
      have hat := mSk_at s l k hlt
      rw [hat] at s0 s1 s2 hI
      have HPT := hide (SeenW.put (unhide HR) k hk' (m : Int) ((m : Int) + 1) (unhide HNE))
      rw [hat] at HPT
      have HSE := hide (mSk_set s l k hlt)
      have HIK := hide (fpI_mem (I := I) hlt)
      subst e0
      have HI := hide hI
      have HE1 : Hid (eSeen s (l.take (k + 1)) = m + 2 + (l[k]).ids.length) := by rw [List.take_succ_eq_append_getElem hlt, eSeen_snoc, ← hm]; rfl
      have HMS : Hid (mSn (eSeen s (l.take k)) l[k] = ⟨(m : Int), (m : Int) + 1, mks mkInt 1 (m + 2) (l[k]).ids (l[k]).ids.length⟩) := by rw [← hm]; rfl
      clear hm hI hat
      have hmz : (mSk s l k)[k] = l[k] := mSk_at s l k hlt
      have HMZ := hide hmz
      clear hmz
      generalize l[k] = sk at *
      obtain ⟨fr, lo, ids⟩ := sk
      dsimp only at s0 s1 s2 HI hids HPT HIK HE1 HMS
      go_wp2_with fail
      have hKK : KeepsL [g] wr ((wr.setCell ⟨g, k * 3, none⟩ (.int .i64 (m : Int))).setCell ⟨g, k * 3 + 1, none⟩ (.int .i64 ((m : Int) + 1))) := (KeepsL.set _).trans (KeepsL.set _)
      have hI2 := (unhide HI).keeps hKK (fun x hx => by
        have h1 := unhide HIK x hx
        have h2 := (unhide HND).2.2 g hgfp x h1
        simp
        exact fun e => h2 e.symm)
      have hc2 : ((wr.setCell ⟨g, k * 3, none⟩ (.int .i64 (m : Int))).setCell ⟨g, k * 3 + 1, none⟩ (.int .i64 ((m : Int) + 1))).cell? ⟨g, k * 3 + 2, none⟩ = some (.slice b ids.length cc) := (World.cell?_setCell_other _ _ _ _ (by simp)).trans ((World.cell?_setCell_other _ _ _ _ (by simp)).trans s2)
      have HC2 := hide hc2
      have HKK := hide hKK
      refine (markIntZ b (I k) cc (m + 2) _ ids _ (by omega) (by omega) (by omega) hids hI2).mono ?_
      rintro e w2 ⟨rfl, hW2, hK2⟩
      have HFIN : Hid (SeenW w2 (some ⟨g, 0, none⟩) g I (mSk s l (k + 1)) ∧ KeepsL (fp g l ++ fpI I l) w w2) := by
        have hk2 : k < ((mSk s l k).set k ⟨(m : Int), (m : Int) + 1, ids⟩).length := by simpa using hk'
        have hcg : fpI I ((mSk s l k).set k ⟨(m : Int), (m : Int) + 1, ids⟩) = fpI I (mSk s l k) := fpI_congr (by simp) (fun i h1 h2 => by
          by_cases hik : i = k
          · subst hik
            rw [List.getElem_set_self, unhide HMZ]
          · rw [List.getElem_set_ne (by omega)])
        have hx := SeenW.ids (unhide HPT) k hk2 b cc (mks mkInt 1 (m + 2) ids ids.length) (by rw [List.getElem_set_self]; exact unhide HC2) (by rw [List.getElem_set_self]; exact mks_length mkInt 1 (m + 2) ids ids.length (Nat.le_refl _)) hW2 (by rw [List.getElem_set_self]; exact hK2) (by rw [hcg]; exact unhide HNE) (by rw [hcg]; exact unhide HNI)
        rw [List.getElem_set_self, List.set_set] at hx
        dsimp only at hx
        rw [← unhide HMS, unhide HSE] at hx
        refine ⟨hx, ((unhide HK).trans ((unhide HKK).mono (fun x hx => ?_))).trans (hK2.mono (fun x hx => List.mem_append_right _ (unhide HIK x hx)))⟩
        have : x = g := by simpa using hx
        rw [this]
        exact List.mem_append_left _ hgfp
      clear hW2 hK2 hc2 hKK hI2
      go_wp2_with fail
      go_roundw
      case rel => exact ⟨k + 1, m + 2 + ids.length, by omega, by go_num, by go_num, (unhide HE1).symm, (unhide HFIN).1, (unhide HFIN).2⟩
      case measure => simp [intOf]; omega
    · have hke : k = l.length := by omega
      subst hke
      have hnlt : decide ((l.length : Int) < (l.length : Int)) = false := by simp
      have h := unhide HM
      rw [List.take_length] at h
      have HME := hide h
      have hS := unhide HR
      rw [mSk_all] at hS
      have HS := hide hS
      clear hm h hS
      go_wp2_with fail
      go_ret
      exact ⟨ret_int (by rw [unhide HME]), unhide HS, unhide HK⟩
set_option maxRecDepth 100000 in
set_option maxHeartbeats 2000000 in
theorem heldSeenG (a : Option Addr) (g c n s : Nat) (I : Nat → Nat) (l : List Sn) (w : World) (hn : n = l.length) (hs0 : 0 < s) (hs1 : s ≤ 100000000) (hl : l.length ≤ 1048600) (hl2 : ∀ x ∈ l, x.ids.length ≤ 1048600) (ha : SeenW w a g I (mSeen s l)) :
    Calls Tryz.prog 61 #[.slice a n c, .int .i64 s] w fun e w' => e = .returned (.int .i64 (eSeen s l : Nat)) ∧ Below w.heap.size w w' := by
  have HA := hide ha
  have HL2 := hide hl2
  clear ha hl2
  subst hn
  go_enter Tryz.func61, Tryz.ntmps61
  go_wp2_with fail
  go_loopw [1, 5] (fun kk i wr => ∃ k m : Nat, k ≤ l.length ∧ i = .int .i64 k ∧ kk = .int .i64 m ∧ m = eSeen s (l.take k) ∧ Below w.heap.size w wr) (fun _ i _ => l.length - (intOf i).toNat)
  case atStart => exact ⟨0, s, Nat.zero_le _, rfl, rfl, rfl, Below.refl _ _⟩
  case round =>
    obtain ⟨k, m, hk, rfl, rfl, hm, hbel⟩ := hrel
    have HM := hide hm
    have HBL := hide hbel
    clear hbel
    by_cases hlt : k < l.length
    · have hbd := eSeen_le s 1048600 (l.take k) (fun x hx => unhide HL2 x (List.mem_of_mem_take hx))
      rw [← hm, List.length_take, Nat.min_eq_left (by omega)] at hbd
      obtain ⟨hb1, hb2⟩ := hbd
      have hm0 : 0 < m := by omega
      have hm1 : (m : Int) ≤ 92233720368547758 := by omega
      have hS : SeenW wr a g I (mSeen s l) := SeenW.keeps (F := []) (unhide HA) (KeepsL.of_below ((unhide HBL).mono (Nat.le_refl _))) (fun _ _ => by simp) (fun _ _ => by simp)
      obtain ⟨b, cc, e0, hg0, ⟨s0, s1, s2⟩, _, hI⟩ := SeenW.three hS k (by rw [mSeen_length]; exact hlt)
      rw [mSeen_at s l k hlt, ← hm] at s0 s1 s2 hI
      have hids := unhide HL2 l[k] (List.getElem_mem hlt)
      have HE1 : Hid (eSeen s (l.take (k + 1)) = m + 2 + (l[k]).ids.length) := by rw [List.take_succ_eq_append_getElem hlt, eSeen_snoc, ← hm]; rfl
      subst e0
      clear hm hS
      generalize l[k] = sk at *
      obtain ⟨fr, lo, ids⟩ := sk
      unfold mSn at s0 s1 s2 hI
      rw [mks_length mkInt 1 (m + 2) ids ids.length (Nat.le_refl _)] at s2
      dsimp only at s0 s1 s2 hI hids HE1
      have HH := hide (fun z (hz : z = ((m + 2 : Nat) : Int)) => heldIntZ b (I k) cc ids.length (m + 2) z ids wr hz rfl (by omega) (by omega) hids hI)
      clear hI
      go_wp2_with (go_at_call 58; refine (unhide HH _ (by omega)).mono ?_; rintro e w1 ⟨rfl, hb5⟩; have HBL1 := hide ((unhide HBL).trans (hb5.mono (unhide HBL).size)); clear hb5)
      go_roundw
      case rel => exact ⟨k + 1, m + 2 + ids.length, by omega, by go_num, by go_num, (unhide HE1).symm, unhide HBL1⟩
      case measure => simp [intOf]; omega
    · have hke : k = l.length := by omega
      subst hke
      have hnlt : decide ((l.length : Int) < (l.length : Int)) = false := by simp
      have h := unhide HM
      rw [List.take_length] at h
      have HME := hide h
      clear hm h
      go_wp2_with fail
      go_ret
      exact ⟨ret_int (by rw [unhide HME]), unhide HBL⟩

theorem markPurseZ (a : Option Addr) (g c s : Nat) (z : Int) (l : List Pu) (w : World) (hz : z = (s : Int)) (hs0 : 0 < s) (hs1 : s ≤ 4000000000000) (hl : l.length ≤ 1048600) (ha : GR.W encP 4 w a g l) :
    Calls Tryz.prog 51 #[.slice a l.length c, .int .i64 z] w fun e w' => e = .returned (.int .i64 (s + 4 * (l.length : Int))) ∧ GR.W encP 4 w' a g (mks mkPurse 4 s l l.length) ∧ KeepsL (fp g l) w w' := by
  subst hz
  exact markPurseG a g c s l w hs0 hs1 hl ha
theorem markSentZ (a : Option Addr) (g c s : Nat) (z : Int) (l : List Snt) (w : World) (hz : z = (s : Int)) (hs0 : 0 < s) (hs1 : s ≤ 4000000000000) (hl : l.length ≤ 1048600) (ha : GR.W encSnt 4 w a g l) :
    Calls Tryz.prog 52 #[.slice a l.length c, .int .i64 z] w fun e w' => e = .returned (.int .i64 (s + 4 * (l.length : Int))) ∧ GR.W encSnt 4 w' a g (mks mkSent 4 s l l.length) ∧ KeepsL (fp g l) w w' := by
  subst hz
  exact markSentG a g c s l w hs0 hs1 hl ha
theorem markReqZ (a : Option Addr) (g c s : Nat) (z : Int) (l : List Rq) (w : World) (hz : z = (s : Int)) (hs0 : 0 < s) (hs1 : s ≤ 4000000000000) (hl : l.length ≤ 1048600) (ha : GR.W encRq 4 w a g l) :
    Calls Tryz.prog 54 #[.slice a l.length c, .int .i64 z] w fun e w' => e = .returned (.int .i64 (s + 4 * (l.length : Int))) ∧ GR.W encRq 4 w' a g (mks mkReq 4 s l l.length) ∧ KeepsL (fp g l) w w' := by
  subst hz
  exact markReqG a g c s l w hs0 hs1 hl ha
theorem markSeenZ (a : Option Addr) (g c s : Nat) (z : Int) (I : Nat → Nat) (l : List Sn) (w : World) (hz : z = (s : Int)) (hs0 : 0 < s) (hs1 : s ≤ 100000000) (hl : l.length ≤ 1048600) (hl2 : ∀ x ∈ l, x.ids.length ≤ 1048600) (hnd : (fp g l ++ fpI I l).Nodup) (ha : SeenW w a g I l) :
    Calls Tryz.prog 53 #[.slice a l.length c, .int .i64 z] w fun e w' => e = .returned (.int .i64 (eSeen s l : Nat)) ∧ SeenW w' a g I (mSeen s l) ∧ KeepsL (fp g l ++ fpI I l) w w' := by
  subst hz
  exact markSeenG a g c s I l w hs0 hs1 hl hl2 hnd ha
theorem heldPurseZ (a : Option Addr) (g c n s : Nat) (z : Int) (l : List Pu) (w : World) (hz : z = (s : Int)) (hn : n = l.length) (hs0 : 0 < s) (hs1 : s ≤ 4000000000000) (hl : l.length ≤ 1048600) (ha : GR.W encP 4 w a g (mks mkPurse 4 s l l.length)) :
    Calls Tryz.prog 59 #[.slice a n c, .int .i64 z] w fun e w' => e = .returned (.int .i64 (s + 4 * (l.length : Int))) ∧ Below w.heap.size w w' := by
  subst hz
  exact heldPurseG a g c n s l w hn hs0 hs1 hl ha
theorem heldSentZ (a : Option Addr) (g c n s : Nat) (z : Int) (l : List Snt) (w : World) (hz : z = (s : Int)) (hn : n = l.length) (hs0 : 0 < s) (hs1 : s ≤ 4000000000000) (hl : l.length ≤ 1048600) (ha : GR.W encSnt 4 w a g (mks mkSent 4 s l l.length)) :
    Calls Tryz.prog 60 #[.slice a n c, .int .i64 z] w fun e w' => e = .returned (.int .i64 (s + 4 * (l.length : Int))) ∧ Below w.heap.size w w' := by
  subst hz
  exact heldSentG a g c n s l w hn hs0 hs1 hl ha
theorem heldReqZ (a : Option Addr) (g c n s : Nat) (z : Int) (l : List Rq) (w : World) (hz : z = (s : Int)) (hn : n = l.length) (hs0 : 0 < s) (hs1 : s ≤ 4000000000000) (hl : l.length ≤ 1048600) (ha : GR.W encRq 4 w a g (mks mkReq 4 s l l.length)) :
    Calls Tryz.prog 62 #[.slice a n c, .int .i64 z] w fun e w' => e = .returned (.int .i64 (s + 4 * (l.length : Int))) ∧ Below w.heap.size w w' := by
  subst hz
  exact heldReqG a g c n s l w hn hs0 hs1 hl ha
theorem heldSeenZ (a : Option Addr) (g c n s : Nat) (z : Int) (I : Nat → Nat) (l : List Sn) (w : World) (hz : z = (s : Int)) (hn : n = l.length) (hs0 : 0 < s) (hs1 : s ≤ 100000000) (hl : l.length ≤ 1048600) (hl2 : ∀ x ∈ l, x.ids.length ≤ 1048600) (ha : SeenW w a g I (mSeen s l)) :
    Calls Tryz.prog 61 #[.slice a n c, .int .i64 z] w fun e w' => e = .returned (.int .i64 (eSeen s l : Nat)) ∧ Below w.heap.size w w' := by
  subst hz
  exact heldSeenG a g c n s I l w hn hs0 hs1 hl hl2 ha
theorem fp_mks {α : Type} {mk : Nat → α} {c s g x : Nat} {l : List α} (h : x ∈ fp g (mks mk c s l l.length)) : x ∈ fp g l := by
  rw [fp_len (mks_length mk c s l l.length (Nat.le_refl _))] at h
  exact h
theorem fp_mS {s g x : Nat} {l : List Sn} (h : x ∈ fp g (mSeen s l)) : x ∈ fp g l := by
  rw [fp_len (mSeen_length s l)] at h
  exact h
theorem fpI_mS {I : Nat → Nat} {s x : Nat} {l : List Sn} (h : x ∈ fpI I (mSeen s l)) : x ∈ fpI I l := by
  rw [fpI_congr (mSeen_length s l) (fun i h1 h2 => by rw [mSeen_at s l i h2, mSn_ids])] at h
  exact h
theorem SeenW.below {w w' : World} {a : Option Addr} {g : Nat} {I : Nat → Nat} {l : List Sn} (h : SeenW w a g I l) (hb : Below w.heap.size w w') : SeenW w' a g I l := h.keeps (F := []) (KeepsL.of_below hb) (fun _ _ => by simp) (fun _ _ => by simp)
theorem W_lt {α : Type} {enc : α → List Value} {sz : Nat} {w : World} {a : Option Addr} {g : Nat} {l : List α} (h : GR.W enc sz w a g l) : ∀ x ∈ fp g l, x < w.heap.size := fun x hx => by
  rw [(of_fp hx).1]
  exact (h 0 (of_fp hx).2).2.1
theorem SeenW_lt {w : World} {a : Option Addr} {g : Nat} {I : Nat → Nat} {l : List Sn} (h : SeenW w a g I l) : ∀ x ∈ fp g l ++ fpI I l, x < w.heap.size := fun x hx => by
  obtain ⟨T, hT, hl, hr⟩ := h
  rcases List.mem_append.1 hx with hx | hx
  · rw [(of_fp hx).1]
    exact (hT 0 (by have := (of_fp hx).2; omega)).2.1
  · obtain ⟨i, hi, rfl, hp⟩ := of_fpI hx
    obtain ⟨b, c, _, hi2⟩ := hr i hi
    exact (hi2 0 hp).2.1
end Go.Proofs.YtbanjohfcnadfaaGreatDoor
