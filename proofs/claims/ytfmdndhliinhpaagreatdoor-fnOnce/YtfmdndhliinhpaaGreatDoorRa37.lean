/- Parts. -/
import Derived.Test.YtfmdndhliinhpaaGreatDoorRa7
namespace Go.Proofs.YtfmdndhliinhpaaGreatDoor
open Go.RowKit
open Mth

namespace Mth
theorem zf {m : Nd} {no : Int} {key : ByteArray} {a s : Int} (ho : ¬ no ≤ m.old) (hp : m.reqs.Pairwise (fun s t => s.no < t.no)) (hm : (⟨no, key, a, s⟩ : Rq) ∈ m.reqs) (hs : s = 0 ∨ s = 1) : bV m no key a = (m, s) := by
  obtain ⟨i, hi, e⟩ := List.getElem_of_mem hm
  obtain ⟨e1, e2⟩ := wZ (no := no) hp hi (by rw [e])
  unfold bV
  rw [if_neg ho, if_pos e2, e1, wu hi, e]
  unfold xw
  rcases hs with rfl | rfl <;> simp
theorem I4 {n : Nd} {no : Int} {key : ByteArray} {a : Int} (h : dJ n = true) : (bV (bV n no key a).1 no key a).1 = (bV n no key a).1 ∧ ((bV (bV n no key a).1 no key a).2 = (bV n no key a).2 ∨ no ≤ (bV n no key a).1.old ∧ (bV (bV n no key a).1 no key a).2 = 2) := by
  obtain ⟨_, _, _, _, _, hr⟩ := bf h
  obtain ⟨hp, _, _, _, _⟩ := fF hr
  by_cases h1 : no ≤ n.old
  · have e : bV n no key a = (n, 2) := by unfold bV; rw [if_pos h1]
    rw [e]
    dsimp only
    rw [e]
    exact ⟨rfl, .inl rfl⟩
  · cases hf : jP n.reqs no with
    | true =>
      have e : bV n no key a = (n, if xw (n.reqs.getD (bH n.reqs no) default) key a = true then 0 else 1) := by unfold bV; rw [if_neg h1, if_pos hf]
      rw [e]
      dsimp only
      rw [e]
      exact ⟨rfl, .inl rfl⟩
    | false =>
      obtain ⟨P, hP⟩ : ∃ P, (cK n.pu key 0 (-1) 1 a) = P := ⟨_, rfl⟩
      obtain ⟨s, hs⟩ : ∃ s : Int, (if P.2 = true then 0 else 1) = s := ⟨_, rfl⟩
      have Yo : s = 0 ∨ s = 1 := by rw [← hs]; split <;> simp
      have e : bV n no key a = (iE (setPu n P.1) ⟨no, key, a, s⟩, s) := by
        unfold bV
        rw [if_neg h1, if_neg (by rw [hf]; simp), hP, hs]
      rw [e]
      dsimp only
      have ha : (jN n.reqs ⟨no, key, a, s⟩).Pairwise (fun s t => s.no < t.no) := JH hp hf
      have hmem : (⟨no, key, a, s⟩ : Rq) ∈ jN n.reqs ⟨no, key, a, s⟩ := Vz
      by_cases OJ : 30 < (jN n.reqs ⟨no, key, a, s⟩).length
      · have ek : iE (setPu n P.1) ⟨no, key, a, s⟩ = bZ (iM (setPu n P.1) ((jN n.reqs ⟨no, key, a, s⟩).headD default).no) (jN n.reqs ⟨no, key, a, s⟩).tail := by
          unfold iE
          exact if_pos OJ
        rw [ek]
        generalize jN n.reqs ⟨no, key, a, s⟩ = I at *
        cases I with
        | nil => simp at hmem
        | cons x t =>
          obtain ⟨hx, ht⟩ := List.pairwise_cons.1 ha
          rcases List.mem_cons.1 hmem with hq | hq
          · have e2 : bV (bZ (iM (setPu n P.1) x.no) t) no key a = (bZ (iM (setPu n P.1) x.no) t, 2) := by
              unfold bV
              exact if_pos (show no ≤ x.no by rw [← hq]; exact Int.le_refl _)
            refine ⟨congrArg Prod.fst e2, .inr ⟨?_, congrArg Prod.snd e2⟩⟩
            show no ≤ x.no
            rw [← hq]
            exact Int.le_refl _
          · have e2 := zf (m := bZ (iM (setPu n P.1) x.no) t) (no := no) (key := key) (a := a) (s := s) (show ¬ no ≤ x.no by have := hx _ hq; dsimp only at this; omega) ht hq Yo
            exact ⟨congrArg Prod.fst e2, .inl (congrArg Prod.snd e2)⟩
      · have ek : iE (setPu n P.1) ⟨no, key, a, s⟩ = bZ (setPu n P.1) (jN n.reqs ⟨no, key, a, s⟩) := by
          unfold iE
          exact if_neg OJ
        rw [ek]
        have e2 := zf (m := bZ (setPu n P.1) (jN n.reqs ⟨no, key, a, s⟩)) (no := no) (key := key) (a := a) (s := s) h1 ha hmem Yo
        exact ⟨congrArg Prod.fst e2, .inl (congrArg Prod.snd e2)⟩
theorem Dh {n : Nd} {no : Int} (h : dJ n = true) : aI (aI n no).1 no = aI n no := by
  obtain ⟨_, _, _, _, _, hr⟩ := bf h
  obtain ⟨hp, _, _, _, _⟩ := fF hr
  have stay : ∀ c, aI n no = (n, c) → aI (aI n no).1 no = aI n no := by
    intro c e
    rw [e]
    exact e
  by_cases h1 : no ≤ n.old
  · exact stay 2 (by unfold aI; rw [if_pos h1])
  · cases hf : jP n.reqs no with
    | false => exact stay 1 (by unfold aI; rw [if_neg h1, if_pos hf])
    | true =>
      obtain ⟨hi, hno⟩ := (lu _ _).1 hf
      have hg := wu hi
      have hnf : ¬ jP n.reqs no = false := by rw [hf]; simp
      by_cases s1 : (n.reqs.getD (bH n.reqs no) default).s = 1
      · exact stay 1 (by unfold aI; rw [if_neg h1, if_neg hnf, if_pos s1])
      · by_cases s2 : (n.reqs.getD (bH n.reqs no) default).s = 2
        · exact stay 0 (by unfold aI; rw [if_neg h1, if_neg hnf, if_neg s1, if_pos s2])
        · by_cases hp2 : (cK n.pu (n.reqs.getD (bH n.reqs no) default).k 0 1 (-1) (n.reqs.getD (bH n.reqs no) default).n).2 = true
          · have hk := wT (no := no) h
            have e : aI n no = (bZ (setPu n (cK n.pu (n.reqs.getD (bH n.reqs no) default).k 0 1 (-1) (n.reqs.getD (bH n.reqs no) default).n).1) (n.reqs.set (bH n.reqs no) (iY (n.reqs.getD (bH n.reqs no) default))), 0) := by
              unfold aI
              rw [if_neg h1, if_neg hnf, if_neg s1, if_neg s2, if_pos hp2]
            rw [e] at hk ⊢
            dsimp only at hk ⊢
            rw [hg] at hk ⊢
            generalize (cK n.pu n.reqs[bH n.reqs no].k 0 1 (-1) n.reqs[bH n.reqs no].n).1 = P at *
            have hp' : (n.reqs.set (bH n.reqs no) (iY n.reqs[bH n.reqs no])).Pairwise (fun s t => s.no < t.no) := (fF (bf hk).2.2.2.2.2).1
            have hl' : bH n.reqs no < (n.reqs.set (bH n.reqs no) (iY n.reqs[bH n.reqs no])).length := by rw [List.length_set]; exact hi
            have hat : (n.reqs.set (bH n.reqs no) (iY n.reqs[bH n.reqs no]))[bH n.reqs no] = iY n.reqs[bH n.reqs no] := List.getElem_set_self _
            obtain ⟨e1, e2⟩ := wZ (no := no) hp' hl' (by rw [hat]; exact hno)
            have hd := wu hl'
            rw [hat] at hd
            unfold aI
            show (if no ≤ n.old then _ else _) = _
            rw [if_neg h1]
            show (if jP (n.reqs.set (bH n.reqs no) (iY n.reqs[bH n.reqs no])) no = false then _ else _) = _
            rw [if_neg (by rw [e2]; simp)]
            have hd' : ((bZ (setPu n P) (n.reqs.set (bH n.reqs no) (iY n.reqs[bH n.reqs no]))).reqs.getD (bH (bZ (setPu n P) (n.reqs.set (bH n.reqs no) (iY n.reqs[bH n.reqs no]))).reqs no) default) = iY n.reqs[bH n.reqs no] := by
              show (n.reqs.set (bH n.reqs no) (iY n.reqs[bH n.reqs no])).getD (bH (n.reqs.set (bH n.reqs no) (iY n.reqs[bH n.reqs no])) no) default = _
              rw [e1, hd]
            rw [hd', if_neg (show ¬ (iY n.reqs[bH n.reqs no]).s = 1 from fun (hq : (2 : Int) = 1) => absurd hq (by decide)), if_pos (show (iY n.reqs[bH n.reqs no]).s = 2 from rfl)]
          · exact stay 1 (by unfold aI; rw [if_neg h1, if_neg hnf, if_neg s1, if_neg s2, if_neg hp2])
theorem QI {l : List Sn} {f : Int} {s : Sn} (hi : dU l f < l.length) (hs : s.f = f) : dU (l.set (dU l f) s) f = dU l f := by
  have hl : dU l f < (l.set (dU l f) s).length := by rw [List.length_set]; exact hi
  refine (List.findIdx_eq hl).2 ⟨?_, ?_⟩
  · rw [List.getElem_set_self]
    exact decide_eq_true hs
  · intro j hj
    rw [List.getElem_set_ne (by omega)]
    exact List.not_of_lt_findIdx (p := fun s : Sn => decide (s.f = f)) (xs := l) hj
theorem jX (s : Sn) (low : Int) (X : List Int) (f : Int) : bY ⟨f, bY s low, X⟩ low = bY s low := by
  unfold bY
  dsimp only
  by_cases h : s.l < low
  · rw [if_pos h, if_neg (by omega)]
  · rw [if_neg h, if_neg h]
theorem jW {s : Sn} {low : Int} {X : List Int} {f : Int} (h : ∀ x ∈ X, bY s low ≤ x) : aQ ⟨f, bY s low, X⟩ low = X := by
  unfold aQ
  rw [jX]
  exact List.filter_eq_self.2 (fun x hx => decide_eq_true (h x hx))
theorem Nl {n : Nd} {m : Mg} (h : dJ n = true) (hd : dH n m.F = true) : takeN (takeN n m).1 m = takeN n m := by
  obtain ⟨hi, hf⟩ := xA h hd
  have hg := tY hi
  have at' : ∀ s' : Sn, s'.f = m.F → dU (n.seen.set (dU n.seen m.F) s') m.F = dU n.seen m.F ∧ (n.seen.set (dU n.seen m.F) s').getD (dU n.seen m.F) default = s' := by
    intro s' hs
    refine ⟨QI hi hs, ?_⟩
    rw [tY (by rw [List.length_set]; exact hi)]
    exact List.getElem_set_self _
  have rX : ∀ x ∈ aQ n.seen[dU n.seen m.F] m.L, bY n.seen[dU n.seen m.F] m.L ≤ x := by
    intro x hx
    unfold aQ at hx
    exact of_decide_eq_true (List.mem_filter.1 hx).2
  generalize hI : dU n.seen m.F = i at *
  generalize hS : n.seen[i] = s at *
  cases hh : lT s m.L m.I with
  | true =>
    have e : takeN n m = (bn n (n.seen.set i ⟨m.F, bY s m.L, aQ s m.L⟩), true) := by
      unfold takeN
      rw [hI, hg, if_pos hh]
    obtain ⟨a1, a2⟩ := at' ⟨m.F, bY s m.L, aQ s m.L⟩ rfl
    rw [e]
    dsimp only
    unfold takeN
    show (if lT ((n.seen.set i ⟨m.F, bY s m.L, aQ s m.L⟩).getD (dU (n.seen.set i ⟨m.F, bY s m.L, aQ s m.L⟩) m.F) default) m.L m.I = true then (bn n ((n.seen.set i ⟨m.F, bY s m.L, aQ s m.L⟩).set (dU (n.seen.set i ⟨m.F, bY s m.L, aQ s m.L⟩) m.F) ⟨m.F, bY ((n.seen.set i ⟨m.F, bY s m.L, aQ s m.L⟩).getD (dU (n.seen.set i ⟨m.F, bY s m.L, aQ s m.L⟩) m.F) default) m.L, aQ ((n.seen.set i ⟨m.F, bY s m.L, aQ s m.L⟩).getD (dU (n.seen.set i ⟨m.F, bY s m.L, aQ s m.L⟩) m.F) default) m.L⟩), true) else _) = _
    rw [a1, a2, jX, jW rX, List.set_set, if_pos]
    unfold lT at hh ⊢
    rw [jX, jW rX]
    exact hh
  | false =>
    cases hgb : jE n s m with
    | true =>
      have e : takeN n m = (bn (setPu n (cK n.pu m.k 0 1 0 m.N).1) (n.seen.set i ⟨m.F, bY s m.L, jy (aQ s m.L) m.I⟩), true) := by
        unfold takeN
        rw [hI, hg, if_neg (by rw [hh]; simp), if_pos hgb]
      have acA : ∀ x ∈ jy (aQ s m.L) m.I, bY s m.L ≤ x := by
        intro x hx
        rcases wH.1 hx with rfl | hx
        · exact (FH hh).1
        · exact rX x hx
      have hin : m.I ∈ jy (aQ s m.L) m.I := wH.2 (.inl rfl)
      generalize jy (aQ s m.L) m.I = X at *
      generalize (cK n.pu m.k 0 1 0 m.N).1 = P at *
      obtain ⟨a1, a2⟩ := at' ⟨m.F, bY s m.L, X⟩ rfl
      rw [e]
      dsimp only
      unfold takeN
      show (if lT ((n.seen.set i ⟨m.F, bY s m.L, X⟩).getD (dU (n.seen.set i ⟨m.F, bY s m.L, X⟩) m.F) default) m.L m.I = true then (bn (setPu n P) ((n.seen.set i ⟨m.F, bY s m.L, X⟩).set (dU (n.seen.set i ⟨m.F, bY s m.L, X⟩) m.F) ⟨m.F, bY ((n.seen.set i ⟨m.F, bY s m.L, X⟩).getD (dU (n.seen.set i ⟨m.F, bY s m.L, X⟩) m.F) default) m.L, aQ ((n.seen.set i ⟨m.F, bY s m.L, X⟩).getD (dU (n.seen.set i ⟨m.F, bY s m.L, X⟩) m.F) default) m.L⟩), true) else _) = _
      rw [a1, a2, jX, jW acA, List.set_set, if_pos]
      unfold lT
      rw [jX, jW acA, Bool.or_eq_true]
      right
      unfold hasB
      rw [List.any_eq_true]
      exact ⟨m.I, hin, decide_eq_true rfl⟩
    | false =>
      have e : takeN n m = (bn n (n.seen.set i ⟨m.F, bY s m.L, aQ s m.L⟩), false) := by
        unfold takeN
        rw [hI, hg, if_neg (by rw [hh]; simp), if_neg (by rw [hgb]; simp)]
      obtain ⟨a1, a2⟩ := at' ⟨m.F, bY s m.L, aQ s m.L⟩ rfl
      have hh' : lT ⟨m.F, bY s m.L, aQ s m.L⟩ m.L m.I = false := by
        unfold lT at hh ⊢
        rw [jX, jW rX]
        exact hh
      have hg' : jE (bn n (n.seen.set i ⟨m.F, bY s m.L, aQ s m.L⟩)) ⟨m.F, bY s m.L, aQ s m.L⟩ m = false := by
        unfold jE at hgb ⊢
        rw [jW rX]
        exact hgb
      rw [e]
      dsimp only
      unfold takeN
      have b1 : dU (bn n (n.seen.set i ⟨m.F, bY s m.L, aQ s m.L⟩)).seen m.F = i := a1
      have b2 : (bn n (n.seen.set i ⟨m.F, bY s m.L, aQ s m.L⟩)).seen.getD i default = ⟨m.F, bY s m.L, aQ s m.L⟩ := a2
      rw [b1, b2, if_neg (by rw [hh']; simp), if_neg (by rw [hg']; simp), jX, jW rX]
      show (bn n ((n.seen.set i ⟨m.F, bY s m.L, aQ s m.L⟩).set i ⟨m.F, bY s m.L, aQ s m.L⟩), false) = _
      rw [List.set_set]
theorem Bd {n : Nd} {o : iK} (h : (lK n o).2.2 ≠ 3) : dJ n = true ∧ cZ o = true ∧ mQ n o = true ∧ lK n o = dX n o := by
  cases h1 : dJ n with
  | false => rw [Ak h1] at h; exact absurd rfl h
  | true =>
    rw [rW h1] at h ⊢
    cases h2 : cZ o && mQ n o with
    | false => unfold jJ at h; rw [h2] at h; exact absurd rfl h
    | true =>
      have h3 := h2
      rw [Bool.and_eq_true] at h3
      refine ⟨rfl, h3.1, h3.2, ?_⟩
      unfold jJ
      rw [h2]
      rfl
/-- The same place in the tree. -/
def Like (m n : Nd) : Prop := m.id = n.id ∧ m.par = n.par ∧ m.kids = n.kids
theorem Like.addr {m n : Nd} (h : Like m n) (o : iK) : mQ m o = mQ n o := by
  unfold mQ dH
  rw [h.1, h.2.1, h.2.2]
theorem Qu (n : Nd) (l : List Pu) (q : Rq) : Like (iE (setPu n l) q) n := by
  unfold iE
  split <;> exact ⟨rfl, rfl, rfl⟩
theorem MX (n : Nd) (no : Int) (key : ByteArray) (a : Int) : Like (bV n no key a).1 n := by
  unfold bV
  split
  · exact ⟨rfl, rfl, rfl⟩
  · split
    · exact ⟨rfl, rfl, rfl⟩
    · exact Qu _ _ _
theorem Ga (n : Nd) (no : Int) : Like (aI n no).1 n := by
  unfold aI
  repeat' split
  all_goals exact ⟨rfl, rfl, rfl⟩
theorem Qv (n : Nd) (m : Mg) : Like (takeN n m).1 n := by
  unfold takeN
  repeat' split
  all_goals exact ⟨rfl, rfl, rfl⟩
theorem vY {n m : Nd} {o : iK} (hn : dJ n = true) (ho : cZ o = true) (ha : mQ n o = true) (hm : (lK n o).1 = m) (hl : Like m n) : lK m o = dX m o := by
  have hk : dJ m = true := by rw [← hm]; exact Gb hn
  rw [rW hk]
  unfold jJ
  rw [ho, hl.addr, ha]
  rfl
theorem aen {n : Nd} {o : iK} (h : (lK n o).2.2 ≠ 3) (hK : o.K = 1) : (lK (lK n o).1 o).1 = (lK n o).1 ∧ ((lK (lK n o).1 o).2.2 = (lK n o).2.2 ∨ o.no ≤ (lK n o).1.old ∧ (lK (lK n o).1 o).2.2 = 2) := by
  obtain ⟨h1, h2, h3, h4⟩ := Bd h
  have act : ∀ x, dX x o = ((bV x o.no o.k o.n).1, [], (bV x o.no o.k o.n).2) := by
    intro x
    unfold dX
    rw [if_neg (by omega), if_pos hK]
  have e : (lK n o).1 = (bV n o.no o.k o.n).1 := by rw [h4, act]
  have e2 := vY h1 h2 h3 e (MX _ _ _ _)
  rw [e, e2, h4, act, act]
  exact I4 h1
theorem YF {n : Nd} {o : iK} (h : (lK n o).2.2 ≠ 3) (hK : o.K = 2) : (lK (lK n o).1 o).1 = (lK n o).1 ∧ (lK (lK n o).1 o).2.2 = (lK n o).2.2 := by
  obtain ⟨h1, h2, h3, h4⟩ := Bd h
  have act : ∀ x, dX x o = ((aI x o.no).1, [], (aI x o.no).2) := by
    intro x
    unfold dX
    rw [if_neg (by omega), if_neg (by omega), if_pos hK]
  have e : (lK n o).1 = (aI n o.no).1 := by rw [h4, act]
  have e2 := vY h1 h2 h3 e (Ga _ _)
  rw [e, e2, h4, act, act, Dh h1]
  exact ⟨rfl, rfl⟩
theorem aeL {n : Nd} {o : iK} (h : (lK n o).2.2 ≠ 3) (hK : o.K = 6) (hM : o.m.K ≠ 0) : (lK (lK n o).1 o).1 = (lK n o).1 ∧ (lK (lK n o).1 o).2.2 = (lK n o).2.2 ∧ ((lK n o).2.2 = 0 → o.m.K = 1 → ∃ x, (lK (lK n o).1 o).2.1 = [x] ∧ x.K = 2 ∧ x.I = o.m.I) := by
  obtain ⟨h1, h2, h3, h4⟩ := Bd h
  have act : ∀ x, dX x o = eD x o.m := by
    intro x
    unfold dX
    rw [if_neg (by omega), if_neg (by omega), if_neg (by omega), if_neg (by omega), if_neg (by omega), if_neg (by omega)]
  obtain ⟨_, arP⟩ := uO h3 hK
  by_cases hp : o.m.K = 1
  · have hear : ∀ x, eD x o.m = ((takeN x o.m).1, if (takeN x o.m).2 = true then [LZ x o.m] else [], if (takeN x o.m).2 = true then 0 else 1) := by
      intro x
      unfold eD
      rw [if_pos hp]
    have e : (lK n o).1 = (takeN n o.m).1 := by rw [h4, act, hear]
    have e2 := vY h1 h2 h3 e (Qv _ _)
    rw [e, e2, h4, act, act, hear, hear, Nl h1 arP]
    refine ⟨rfl, rfl, ?_⟩
    dsimp only
    cases (takeN n o.m).2 with
    | true => intro _ _; exact ⟨_, rfl, rfl, rfl⟩
    | false => intro hc; exact absurd hc (by decide)
  · have hk2 : o.m.K = 2 := by
      rcases yN (yP h2 hK) with h | h | h
      · exact absurd h hM
      · exact absurd h hp
      · exact h
    have hear : ∀ x, eD x o.m = (setOut x (x.out.filter (fun s => !gK o.m s)), [], 0) := by
      intro x
      unfold eD
      rw [if_neg hp, if_pos hk2]
    have e : (lK n o).1 = setOut n (n.out.filter (fun s => !gK o.m s)) := by rw [h4, act, hear]
    have e2 := vY h1 h2 h3 e ⟨rfl, rfl, rfl⟩
    rw [e, e2, h4, act, act, hear, hear]
    refine ⟨?_, rfl, fun _ h => absurd h hp⟩
    show setOut n ((n.out.filter (fun s => !gK o.m s)).filter (fun s => !gK o.m s)) = _
    rw [List.filter_filter]
    simp only [Bool.and_self]
end Mth

namespace Mth
theorem Ho : kN ⟨0, 0, 0, 0, 0, ByteArray.empty, 0⟩ = true := decide_eq_true ⟨rfl, rfl, rfl, rfl, rfl, by rw [ByteArray.toList_eq]; rfl, rfl⟩
/-- The aeM operations. -/
def CQ (k : ByteArray) (no : Int) : iK := ⟨1, no, k, 1, ⟨0, 0, 0, 0, 0, ByteArray.empty, 0⟩⟩
def VR (no : Int) : iK := ⟨2, no, ByteArray.empty, 0, ⟨0, 0, 0, 0, 0, ByteArray.empty, 0⟩⟩
/-- A node that was asked so many: what was there before, then the new ones. -/
structure rQ (i : Nat) (n : Nd) : Prop where
  ok : dJ n = true
  old : i ≤ 30 → n.old < 5000
  end_ : i = 31 → n.old = 5000
  rows : ∃ pre mid : List Rq, n.reqs = pre ++ mid ∧ (∀ q ∈ pre, q.no < 5000) ∧ mid.length = min i 30 ∧ (∀ j (hj : j < mid.length), (mid[j]).no = 5000 + (i - mid.length + j : Nat))
theorem Cj {α : Type} {p : α → Bool} {l : List α} (h : (l.takeWhile p).length < l.length) : p l[(l.takeWhile p).length] = false := by
  induction l with
  | nil => simp at h
  | cons x l ih =>
    cases hx : p x with
    | false => simp [hx]
    | true =>
      simp only [List.takeWhile_cons, hx, if_true, List.length_cons, List.getElem_cons_succ] at h ⊢
      exact ih (by omega)
theorem Vn {l : List Rq} {q : Rq} (h : ∀ r ∈ l, r.no < q.no) : jN l q = l ++ [q] := by
  have e : bH l q.no = l.length := by
    refine Nat.le_antisymm (qP _ _) (Nat.le_of_not_lt (fun hlt => ?_))
    have h1 := h l[bH l q.no] (List.getElem_mem hlt)
    unfold bH at hlt h1
    have h2 := Cj (p := fun r : Rq => decide (r.no < q.no)) hlt
    rw [decide_eq_true h1] at h2
    cases h2
  unfold jN
  rw [e, List.take_length, List.drop_length]
theorem rQ.below {i : Nat} {n : Nd} (h : rQ i n) (hi : i ≤ 31) : ∀ r ∈ n.reqs, r.no < 5000 + (i : Int) := by
  obtain ⟨pre, mid, e, h1, h2, h3⟩ := h.rows
  intro r hr
  rw [e] at hr
  rcases List.mem_append.1 hr with hr | hr
  · have := h1 r hr
    omega
  · obtain ⟨j, hj, e2⟩ := List.getElem_of_mem hr
    have := h3 j hj
    rw [e2] at this
    omega
theorem rQ.grown {i : Nat} {mid : List Rq} {k : ByteArray} {s : Int} (h2 : mid.length = min i 30) (h3 : ∀ j (hj : j < mid.length), (mid[j]).no = 5000 + (i - mid.length + j : Nat)) (hne : i ≠ 30) (hi : i ≤ 30) : ∀ j (hj : j < (mid ++ [(⟨5000 + (i : Int), k, 1, s⟩ : Rq)]).length), ((mid ++ [(⟨5000 + (i : Int), k, 1, s⟩ : Rq)])[j]).no = 5000 + (i + 1 - (mid ++ [(⟨5000 + (i : Int), k, 1, s⟩ : Rq)]).length + j : Nat) := by
  have hm : mid.length = i := by omega
  intro j hj
  by_cases hjt : j < mid.length
  · rw [List.getElem_append_left hjt, h3 j hjt]
    exact XT
  · have ej : j = mid.length := by simp only [List.length_append, List.length_cons, List.length_nil] at hj; omega
    exact ari
theorem rQ.step {i : Nat} {n : Nd} {k : ByteArray} (hk : keyOk k.data.toList = true) (h : rQ i n) (hi : i ≤ 30) : rQ (i + 1) (lK n (CQ k (5000 + (i : Int)))).1 ∧ ((lK n (CQ k (5000 + (i : Int)))).2.2 = 0 ∨ (lK n (CQ k (5000 + (i : Int)))).2.2 = 1) := by
  have hb := h.below (by omega)
  have hold := h.old hi
  have hok := Gb (o := CQ k (5000 + (i : Int))) h.ok
  obtain ⟨_, hlen, _, _, _⟩ := fF (bf h.ok).2.2.2.2.2
  have hop : cZ (CQ k (5000 + (i : Int))) = true := by
    have h1 : eU (5000 + (i : Int)) = true := decide_eq_true ⟨by omega, by omega⟩
    unfold cZ CQ
    dsimp only
    rw [if_neg (by decide), if_pos rfl, hk, h1, Ho]
    rfl
  have hdo : lK n (CQ k (5000 + (i : Int))) = ((bV n (5000 + (i : Int)) k 1).1, [], (bV n (5000 + (i : Int)) k 1).2) := by
    rw [rW h.ok]
    unfold jJ
    rw [hop]
    rfl
  have hf : jP n.reqs (5000 + (i : Int)) = false := EG (fun q hq => by have := hb q hq; omega)
  obtain ⟨P, hP⟩ : ∃ P, (cK n.pu k 0 (-1) 1 1) = P := ⟨_, rfl⟩
  obtain ⟨s, hs⟩ : ∃ s : Int, (if P.2 = true then 0 else 1) = s := ⟨_, rfl⟩
  have Yo : s = 0 ∨ s = 1 := by rw [← hs]; split <;> simp
  have ea : bV n (5000 + (i : Int)) k 1 = (iE (setPu n P.1) ⟨5000 + (i : Int), k, 1, s⟩, s) := by
    unfold bV
    rw [if_neg (by omega), if_neg (by rw [hf]; simp), hP, hs]
  rw [hdo] at hok ⊢
  dsimp only at hok ⊢
  rw [ea] at hok ⊢
  refine ⟨?_, Yo⟩
  dsimp only at hok ⊢
  have eI : jN n.reqs ⟨5000 + (i : Int), k, 1, s⟩ = n.reqs ++ [⟨5000 + (i : Int), k, 1, s⟩] := Vn hb
  obtain ⟨pre, mid, e, h1, h2, h3⟩ := h.rows
  have hlp : pre.length + mid.length ≤ 30 := by rw [e, List.length_append] at hlen; exact hlen
  unfold iE at hok ⊢
  have eR : (setPu n P.1).reqs = n.reqs := rfl
  rw [eR, eI, e] at hok ⊢
  by_cases OJ : 30 < (pre ++ mid ++ [(⟨5000 + (i : Int), k, 1, s⟩ : Rq)]).length
  · rw [if_pos OJ] at hok ⊢
    have Mt : pre.length + mid.length = 30 := by simp only [List.length_append, List.length_cons, List.length_nil] at OJ; omega
    by_cases arL : i = 30
    · subst arL
      have UH : mid.length = 30 := by omega
      have hp0 : pre = [] := List.eq_nil_of_length_eq_zero (by omega)
      subst hp0
      match mid, UH, h2, h3, hok with
      | x :: t, UH, h2, h3, hok =>
        have hx : x.no = 5000 := by
          have hq := h3 0 (by simp)
          rw [List.getElem_cons_zero, UH] at hq
          exact hq
        refine ⟨hok, fun h => by omega, fun _ => hx, ⟨[], t ++ [⟨5000 + ((30 : Nat) : Int), k, 1, s⟩], rfl, fun q hq => by simp at hq, ?_, ?_⟩⟩
        · simp only [List.length_append, List.length_cons, List.length_nil] at UH ⊢
          omega
        · intro j hj
          have ht : t.length = 29 := by simpa using UH
          by_cases hjt : j < t.length
          · rw [List.getElem_append_left hjt]
            have := h3 (j + 1) (by simp only [List.length_cons]; omega)
            rw [List.getElem_cons_succ] at this
            rw [this]
            exact XT
          · have ej : j = t.length := by simp only [List.length_append, List.length_cons, List.length_nil] at hj; omega
            exact ari
    · match pre, Mt, h1, hok with
      | [], Mt, h1, hok => exact absurd Mt (by simp only [List.length_nil]; omega)
      | x :: t, Mt, h1, hok =>
        have hx := h1 x (by simp)
        refine ⟨hok, fun _ => hx, fun h => by omega, ⟨t, mid ++ [⟨5000 + (i : Int), k, 1, s⟩], by simp [bZ, iM, setPu], fun q hq => h1 q (by simp [hq]), ?_, ?_⟩⟩
        · exact XT
        · exact rQ.grown h2 h3 arL hi
  · rw [if_neg OJ] at hok ⊢
    have Mt : pre.length + mid.length < 30 := by simp only [List.length_append, List.length_cons, List.length_nil] at OJ; omega
    refine ⟨hok, fun _ => hold, fun h => by omega, ⟨pre, mid ++ [⟨5000 + (i : Int), k, 1, s⟩], by simp [bZ, setPu], h1, ?_, ?_⟩⟩
    · exact XT
    · exact rQ.grown h2 h3 (by omega) hi
theorem rQ.start {n : Nd} (h : dJ n = true) (ho : n.old ≤ 1000) (hl : ∀ h : 0 < n.reqs.length, (n.reqs[n.reqs.length - 1]).no < 5000) : rQ 0 n := by
  obtain ⟨hp, _, _, _, _⟩ := fF (bf h).2.2.2.2.2
  refine ⟨h, fun _ => by omega, fun h => by omega, ⟨n.reqs, [], by simp, ?_, by simp, fun j hj => by simp at hj⟩⟩
  intro q hq
  obtain ⟨j, hj, e⟩ := List.getElem_of_mem hq
  have h0 := hl (by omega)
  by_cases hj2 : j = n.reqs.length - 1
  · subst hj2
    rw [e] at h0
    exact h0
  · have h1 := List.pairwise_iff_getElem.1 hp j (n.reqs.length - 1) hj (by omega) (by omega)
    rw [e] at h1
    omega
theorem aeO {n : Nd} {k : ByteArray} (hk : keyOk k.data.toList = true) (h : rQ 31 n) : lK n (CQ k 5000) = (n, [], 2) ∧ lK n (VR 5000) = (n, [], 2) ∧ (lK n (VR 5030)).2.2 ≠ 2 ∧ n.old = 5000 ∧ n.reqs.length = 30 := by
  have ho := h.end_ rfl
  obtain ⟨_, hlen, _, _, _⟩ := fF (bf h.ok).2.2.2.2.2
  obtain ⟨pre, mid, e, h1, h2, h3⟩ := h.rows
  have opR : ∀ x : Int, 1 ≤ x → x ≤ 1000000000 → cZ (VR x) = true := by
    intro x hx1 hx2
    have hs : eU x = true := decide_eq_true ⟨hx1, hx2⟩
    have hz : ByteArray.empty.toList = [] := by rw [ByteArray.toList_eq]; rfl
    unfold cZ VR
    dsimp only
    rw [if_neg (by decide), if_neg (by decide), if_pos rfl, hs, Ho, decide_eq_true hz]
    rfl
  have opA : cZ (CQ k 5000) = true := by
    have h1 : eU 5000 = true := decide_eq_true ⟨by omega, by omega⟩
    unfold cZ CQ
    dsimp only
    rw [if_neg (by decide), if_pos rfl, hk, h1, Ho]
    rfl
  have rel : ∀ x : Int, 1 ≤ x → x ≤ 1000000000 → lK n (VR x) = ((aI n x).1, [], (aI n x).2) := by
    intro x hx1 hx2
    rw [rW h.ok]
    unfold jJ
    rw [opR x hx1 hx2]
    rfl
  refine ⟨?_, ?_, ?_, ho, ?_⟩
  · rw [rW h.ok]
    unfold jJ
    rw [opA]
    show ((bV n 5000 k 1).1, [], (bV n 5000 k 1).2) = _
    unfold bV
    rw [if_pos (by omega)]
  · rw [rel 5000 (by omega) (by omega)]
    unfold aI
    rw [if_pos (by omega)]
  · rw [rel 5030 (by omega) (by omega)]
    unfold aI
    rw [if_neg (by omega)]
    repeat' split
    all_goals (intro hq; simp at hq)
  · rw [e, List.length_append] at hlen ⊢
    omega
end Mth
end Go.Proofs.YtfmdndhliinhpaaGreatDoor
