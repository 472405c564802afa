/-
  The model's Mint, Gain, Part, Spend and Unspend.
-/
import Derived.Test.YtdlhlfndobbocaaDoorPuWithIn
import Derived.Test.YtdlhlfndobbocaaDoorPmMoved
namespace Go.Proofs.YtdlhlfndobbocaaDoor
open Go.RowKit
open Mth

/-- What a call of the model leaves that hands a list of purses back. -/
def GivesO (w : World) (r : List Pu × Bool) (e : Ending) (w' : World) : Prop := ∃ v, e = .returned (.tuple #[v, .bool r.2]) ∧ v ≠ .slice none 0 0 ∧ w'.ownsRow w.heap.size 32 4 v r.1.length (GR.flat encP r.1) ∧ Below w.heap.size w w'

theorem Mth.purseOf_am {l : List Pu} {key : ByteArray} (h : psOk l = true) : (0 ≤ (purseOf l key).m ∧ (purseOf l key).m ≤ 1000000000) ∧ (0 ≤ (purseOf l key).f ∧ (purseOf l key).f ≤ 1000000000) ∧ (0 ≤ (purseOf l key).s ∧ (purseOf l key).s ≤ 1000000000) := by
  obtain ⟨h1, _, _⟩ := (psOk_iff l).1 h
  unfold purseOf
  cases hf : l.find? (fun p => p.k.toList == key.toList) with
  | none => simp
  | some q =>
    have hq := h1 q (List.mem_of_find?_eq_some hf)
    unfold puOk at hq
    simp only [Bool.and_eq_true] at hq
    exact ⟨of_decide_eq_true hq.1.1.1.2, of_decide_eq_true hq.1.1.2, of_decide_eq_true hq.1.2⟩

set_option maxRecDepth 100000 in
set_option maxHeartbeats 4000000 in
theorem l03Add (b off cap : Nat) (l : List Pu) (key : ByteArray) (dm df ds n : Int) (w : World) (hl : l.length ≤ 1048600) (hcap : l.length ≤ cap) (hk : ∀ p ∈ l, p.k.size ≤ 1048576) (hkey : key.size ≤ 1048576)
    (hd1 : dm = -1 ∨ dm = 0 ∨ dm = 1) (hd2 : df = -1 ∨ df = 0 ∨ df = 1) (hd3 : ds = -1 ∨ ds = 0 ∨ ds = 1) (ha : PursesAt w (some ⟨b, off, none⟩) l) :
    Calls Tryd.prog 35 #[.slice (some ⟨b, off, none⟩) l.length cap, .string key, .int .i64 dm, .int .i64 df, .int .i64 ds, .int .i64 n] w (GivesO w (addP l key dm df ds n)) := by
  have hkm : ∀ p ∈ l, p.k.size ≤ maxLen := fun p hp => by have := hk p hp; unfold maxLen; omega
  have HPO := hide (specPurseOf (some ⟨b, off, none⟩) cap l key w hl ha)
  have HA := hide ha
  unfold GivesO
  by_cases hin : psOk l = true ∧ 1 ≤ n ∧ n ≤ 1000000000
  · obtain ⟨hok, hn1, hn2⟩ := hin
    obtain ⟨⟨m0, m1⟩, ⟨f0, f1⟩, s0, s1⟩ := purseOf_am (key := key) hok
    obtain ⟨u10, u11⟩ := unit_mul hd1 ⟨hn1, hn2⟩
    obtain ⟨u20, u21⟩ := unit_mul hd2 ⟨hn1, hn2⟩
    obtain ⟨u30, u31⟩ := unit_mul hd3 ⟨hn1, hn2⟩
    have hpk := purseOf_k l key
    have HWI := hide (fun w1 (hb : Below w.heap.size w w1) => l03With_in b off cap l (shiftP (purseOf l key) dm df ds n) n w1 hcap hkm (by show (purseOf l key).k.size ≤ maxLen; rw [hpk]; unfold maxLen; omega) (GR.At.below ha hb) hok ⟨hn1, hn2⟩)
    have hAm : decide (Inn n 0 1000000000) = true := decide_eq_true ⟨by omega, hn2⟩
    unfold addP
    clear ha hok hk hkm hd1 hd2 hd3
    unfold shiftP at *
    generalize purseOf l key = p at *
    obtain ⟨pk, pm, pf, ps⟩ := p
    dsimp only at *
    subst hpk
    generalize withP l ⟨pk, pm + dm * n, pf + df * n, ps + ds * n⟩ n = r at *
    go_enter Tryd.func35, Tryd.ntmps35
    go_wp2_with fail
    refine (unhide HPO).mono ?_
    rintro e w1 ⟨rfl, hb1⟩
    have HB1 := hide hb1
    clear hb1 HPO
    go_wp2_with (go_at_call 38; refine (l01Amount _ _).mono ?_; rintro e w2 ⟨rfl, rfl⟩; rw [hAm])
    refine (unhide HWI _ ((unhide HB1).alloc (unhide HB1).size _)).mono ?_
    rintro e w3 ⟨v, rfl, hv, hown, hb3⟩
    have HB3 := hide (((unhide HB1).alloc (unhide HB1).size _).trans (hb3.mono (by have := (unhide HB1).size; simp; omega)))
    have HO3 := hide (own_lower (b' := w.heap.size) hown (by have := (unhide HB1).size; simp; omega))
    have HV := hide hv
    clear hb3 hown hv
    go_wp2_with fail
    exact bodyPost_ret (v := .tuple #[v, .bool r.2]) (by simp [results, Tryd.results35, go_sem]) rfl ⟨v, rfl, unhide HV, unhide HO3, unhide HB3⟩
  · have hno : psOk l = false ∨ ¬ (1 ≤ n ∧ n ≤ 1000000000) := by
      cases h : psOk l
      · exact .inl rfl
      · exact .inr (fun hn => hin ⟨h, hn⟩)
    have HAD := hide (show addP l key dm df ds n = (l, false) by
      rcases hno with h | h
      · exact addP_list h
      · exact addP_n h)
    have HWN := hide (fun p w1 (hb : Below w.heap.size w w1) => l03With_not (some ⟨b, off, none⟩) cap l p n w1 hl hkm (fun h => by cases h) (GR.At.below ha hb) hno)
    rw [unhide HAD]
    clear ha hin hno hk hkm hd1 hd2 hd3 HAD
    generalize purseOf l key = p at *
    obtain ⟨pk, pm, pf, ps⟩ := p
    cases hAm : decide (Inn n 0 1000000000)
    all_goals
      go_enter Tryd.func35, Tryd.ntmps35
      go_wp2_with fail
      refine (unhide HPO).mono ?_
      rintro e w1 ⟨rfl, hb1⟩
      have HB1 := hide hb1
      clear hb1 HPO
      go_wp2_with (go_at_call 38; refine (l01Amount _ _).mono ?_; rintro e w2 ⟨rfl, rfl⟩; rw [hAm])
      refine (unhide HWN ⟨_, _, _, _⟩ _ ((unhide HB1).alloc (unhide HB1).size _)).mono ?_
      rintro e w3 ⟨v, rfl, hv, hown, hb3⟩
      have HB3 := hide (((unhide HB1).alloc (unhide HB1).size _).trans (hb3.mono (by have := (unhide HB1).size; simp; omega)))
      have HO3 := hide (own_lower (b' := w.heap.size) hown (by have := (unhide HB1).size; simp; omega))
      have HV := hide hv
      clear hb3 hown hv
      go_wp2_with fail
      exact bodyPost_ret (v := .tuple #[v, .bool false]) (by simp [results, Tryd.results35, go_sem]) rfl ⟨v, rfl, unhide HV, unhide HO3, unhide HB3⟩

set_option maxRecDepth 100000 in
theorem specMint (b off cap : Nat) (l : List Pu) (key : ByteArray) (n : Int) (w : World) (hl : l.length ≤ 1048600) (hcap : l.length ≤ cap) (hk : ∀ p ∈ l, p.k.size ≤ 1048576) (hkey : key.size ≤ 1048576) (ha : PursesAt w (some ⟨b, off, none⟩) l) :
    Calls Tryd.prog 17 #[.slice (some ⟨b, off, none⟩) l.length cap, .string key, .int .i64 n] w (GivesO w (addP l key (1) (1) (0) n)) := by
  have H := hide (l03Add b off cap l key (1) (1) (0) n w hl hcap hk hkey (by omega) (by omega) (by omega) ha)
  clear ha hk
  generalize addP l key (1) (1) (0) n = r at *
  unfold GivesO at *
  go_enter Tryd.func17, Tryd.ntmps17
  go_wp2_with fail
  refine (unhide H).mono ?_
  rintro e w1 ⟨v, rfl, hv, hown, hb⟩
  have HV := hide hv
  have HO := hide hown
  have HB := hide hb
  clear hown hb hv
  go_wp2_with fail
  exact bodyPost_ret (v := .tuple #[v, .bool r.2]) (by simp [results, Tryd.results17, go_sem]) rfl ⟨v, rfl, unhide HV, unhide HO, unhide HB⟩

set_option maxRecDepth 100000 in
theorem specGain (b off cap : Nat) (l : List Pu) (key : ByteArray) (n : Int) (w : World) (hl : l.length ≤ 1048600) (hcap : l.length ≤ cap) (hk : ∀ p ∈ l, p.k.size ≤ 1048576) (hkey : key.size ≤ 1048576) (ha : PursesAt w (some ⟨b, off, none⟩) l) :
    Calls Tryd.prog 18 #[.slice (some ⟨b, off, none⟩) l.length cap, .string key, .int .i64 n] w (GivesO w (addP l key (0) (1) (0) n)) := by
  have H := hide (l03Add b off cap l key (0) (1) (0) n w hl hcap hk hkey (by omega) (by omega) (by omega) ha)
  clear ha hk
  generalize addP l key (0) (1) (0) n = r at *
  unfold GivesO at *
  go_enter Tryd.func18, Tryd.ntmps18
  go_wp2_with fail
  refine (unhide H).mono ?_
  rintro e w1 ⟨v, rfl, hv, hown, hb⟩
  have HV := hide hv
  have HO := hide hown
  have HB := hide hb
  clear hown hb hv
  go_wp2_with fail
  exact bodyPost_ret (v := .tuple #[v, .bool r.2]) (by simp [results, Tryd.results18, go_sem]) rfl ⟨v, rfl, unhide HV, unhide HO, unhide HB⟩

set_option maxRecDepth 100000 in
theorem specPart (b off cap : Nat) (l : List Pu) (key : ByteArray) (n : Int) (w : World) (hl : l.length ≤ 1048600) (hcap : l.length ≤ cap) (hk : ∀ p ∈ l, p.k.size ≤ 1048576) (hkey : key.size ≤ 1048576) (ha : PursesAt w (some ⟨b, off, none⟩) l) :
    Calls Tryd.prog 19 #[.slice (some ⟨b, off, none⟩) l.length cap, .string key, .int .i64 n] w (GivesO w (addP l key (0) (-1) (0) n)) := by
  have H := hide (l03Add b off cap l key (0) (-1) (0) n w hl hcap hk hkey (by omega) (by omega) (by omega) ha)
  clear ha hk
  generalize addP l key (0) (-1) (0) n = r at *
  unfold GivesO at *
  go_enter Tryd.func19, Tryd.ntmps19
  go_wp2_with fail
  refine (unhide H).mono ?_
  rintro e w1 ⟨v, rfl, hv, hown, hb⟩
  have HV := hide hv
  have HO := hide hown
  have HB := hide hb
  clear hown hb hv
  go_wp2_with fail
  exact bodyPost_ret (v := .tuple #[v, .bool r.2]) (by simp [results, Tryd.results19, go_sem]) rfl ⟨v, rfl, unhide HV, unhide HO, unhide HB⟩

set_option maxRecDepth 100000 in
theorem specSpend (b off cap : Nat) (l : List Pu) (key : ByteArray) (n : Int) (w : World) (hl : l.length ≤ 1048600) (hcap : l.length ≤ cap) (hk : ∀ p ∈ l, p.k.size ≤ 1048576) (hkey : key.size ≤ 1048576) (ha : PursesAt w (some ⟨b, off, none⟩) l) :
    Calls Tryd.prog 16 #[.slice (some ⟨b, off, none⟩) l.length cap, .string key, .int .i64 n] w (GivesO w (addP l key (0) (-1) (1) n)) := by
  have H := hide (l03Add b off cap l key (0) (-1) (1) n w hl hcap hk hkey (by omega) (by omega) (by omega) ha)
  clear ha hk
  generalize addP l key (0) (-1) (1) n = r at *
  unfold GivesO at *
  go_enter Tryd.func16, Tryd.ntmps16
  go_wp2_with fail
  refine (unhide H).mono ?_
  rintro e w1 ⟨v, rfl, hv, hown, hb⟩
  have HV := hide hv
  have HO := hide hown
  have HB := hide hb
  clear hown hb hv
  go_wp2_with fail
  exact bodyPost_ret (v := .tuple #[v, .bool r.2]) (by simp [results, Tryd.results16, go_sem]) rfl ⟨v, rfl, unhide HV, unhide HO, unhide HB⟩

set_option maxRecDepth 100000 in
theorem specUnspend (b off cap : Nat) (l : List Pu) (key : ByteArray) (n : Int) (w : World) (hl : l.length ≤ 1048600) (hcap : l.length ≤ cap) (hk : ∀ p ∈ l, p.k.size ≤ 1048576) (hkey : key.size ≤ 1048576) (ha : PursesAt w (some ⟨b, off, none⟩) l) :
    Calls Tryd.prog 20 #[.slice (some ⟨b, off, none⟩) l.length cap, .string key, .int .i64 n] w (GivesO w (addP l key (0) (1) (-1) n)) := by
  have H := hide (l03Add b off cap l key (0) (1) (-1) n w hl hcap hk hkey (by omega) (by omega) (by omega) ha)
  clear ha hk
  generalize addP l key (0) (1) (-1) n = r at *
  unfold GivesO at *
  go_enter Tryd.func20, Tryd.ntmps20
  go_wp2_with fail
  refine (unhide H).mono ?_
  rintro e w1 ⟨v, rfl, hv, hown, hb⟩
  have HV := hide hv
  have HO := hide hown
  have HB := hide hb
  clear hown hb hv
  go_wp2_with fail
  exact bodyPost_ret (v := .tuple #[v, .bool r.2]) (by simp [results, Tryd.results20, go_sem]) rfl ⟨v, rfl, unhide HV, unhide HO, unhide HB⟩
end Go.Proofs.YtdlhlfndobbocaaDoor
