/-
  FnPurse: what purses come to in plain terms (PuBack), the laws' samePurses at two lists alike (PuSame), the lists in memory all at once and what each call leaves of them (PurseHelp): three texts in one, so that the claim stays small.
-/
import Derived.Test.YtdlhlfndobbocaaDoorPmFive
import Derived.Test.YtdlhlfndobbocaaDoorPuAdd
import Derived.Test.YtdlhlfndobbocaaDoorGrpDr
import Derived.Deep.QuietTactic
import Derived.BigQuiet
namespace Go.Proofs.YtdlhlfndobbocaaDoor
namespace Mth

theorem found_mem {l : List Pu} (hp : l.Pairwise klt) {q : Pu} (hq : q ∈ l) : found l q.k = true := by
  have h := head_from l q.k
  rw [← h] at hq
  rcases List.mem_append.1 hq with hq | hq
  · exact absurd (head_lt hq) (List.lt_irrefl _)
  · have hp2 : (fromP l q.k).Pairwise klt := hp.sublist (List.dropWhile_sublist _)
    unfold found
    cases hf : fromP l q.k with
    | nil => rw [hf] at hq; simp at hq
    | cons x r =>
      rw [hf] at hq hp2
      dsimp only
      rcases List.mem_cons.1 hq with rfl | hq
      · simp
      · exact absurd ((List.pairwise_cons.1 hp2).1 q hq) (from_head l q.k x r hf)
/-- What a move that is right comes to. -/
theorem addP_yes {l : List Pu} {key : ByteArray} {dm df ds n : Int} (h : (addP l key dm df ds n).2 = true) :
    psOk l = true ∧ (1 ≤ n ∧ n ≤ 1000000000) ∧ psOk (addP l key dm df ds n).1 = true ∧ puOk (shiftP (purseOf l key) dm df ds n) = true ∧ keyOk key.data.toList = true ∧ purseOf (addP l key dm df ds n).1 key = shiftP (purseOf l key) dm df ds n := by
  have hk : (shiftP (purseOf l key) dm df ds n).k = key := purseOf_k l key
  unfold addP withP at *
  split at h
  · rename_i hc
    rw [if_pos hc]
    simp only [Bool.and_eq_true, decide_eq_true_iff] at hc
    obtain ⟨⟨h1, h2⟩, h3⟩ := hc
    obtain ⟨g1, g2, _⟩ := (psOk_iff _).1 h3
    have hm : shiftP (purseOf l key) dm df ds n ∈ putP l (shiftP (purseOf l key) dm df ds n) := by unfold putP; simp
    have hpo := g1 _ hm
    have hko : keyOk key.data.toList = true := by
      have := hpo
      unfold puOk at this
      simp only [Bool.and_eq_true] at this
      rw [hk] at this
      exact this.1.1.1.1
    refine ⟨h1, h2, h3, hpo, hko, ?_⟩
    have := purseOf_mem g2 hm
    rw [hk] at this
    exact this
  · cases h
/-- What was spent comes back. -/
theorem spend_back {l : List Pu} {key : ByteArray} {n : Int} (h : (addP l key 0 (-1) 1 n).2 = true) :
    (addP (addP l key 0 (-1) 1 n).1 key 0 1 (-1) n).2 = true ∧ purseOf (addP (addP l key 0 (-1) 1 n).1 key 0 1 (-1) n).1 key = purseOf l key := by
  obtain ⟨h1, h2, h3, h4, h5, h6⟩ := addP_yes h
  have hk0 : (purseOf l key).k = key := purseOf_k l key
  generalize (addP l key 0 (-1) 1 n).1 = s at *
  have hsh : shiftP (purseOf s key) 0 1 (-1) n = purseOf l key := by
    rw [h6]
    unfold shiftP
    generalize purseOf l key = p
    obtain ⟨pk, pm, pf, ps⟩ := p
    simp
    omega
  have hp0 := purseOf_ok (key := key) h1 h5
  obtain ⟨g1, g2, g3⟩ := (psOk_iff s).1 h3
  have hfo : found s key = true := by
    cases hf : found s key with
    | true => rfl
    | false =>
      have hno : ∀ q ∈ s, q.k ≠ key := fun q hq e => by
        have := found_mem g2 hq
        rw [e, hf] at this
        cases this
      have hz := purseOf_none hno
      rw [h6] at hz
      unfold shiftP at hz
      injection hz with e1 e2 e3 e4
      unfold puOk at hp0
      simp only [Bool.and_eq_true] at hp0
      have b2 : 0 ≤ (purseOf l key).f ∧ (purseOf l key).f ≤ 1000000000 := of_decide_eq_true hp0.1.1.2
      have b3 : 0 ≤ (purseOf l key).s ∧ (purseOf l key).s ≤ 1000000000 := of_decide_eq_true hp0.1.2
      omega
  have hlen : (putP s (purseOf l key)).length ≤ 20 := by
    rw [put_length_found (by rw [hk0]; exact hfo)]
    exact g3
  have hb : (addP s key 0 1 (-1) n).2 = true := by
    rw [addP_in h3 h2, hsh, hp0, decide_eq_true hlen]
    rfl
  refine ⟨hb, ?_⟩
  rw [(addP_yes hb).2.2.2.2.2, hsh]
/-- Free and spent together of a key. -/
def hold (l : List Pu) (key : ByteArray) : Int := (purseOf l key).f + (purseOf l key).s
theorem hold_in {l : List Pu} {key : ByteArray} {dm df ds n : Int} (h : (addP l key dm df ds n).2 = true) : 0 ≤ hold l key ∧ hold l key ≤ 1000000000 ∧ 0 ≤ hold (addP l key dm df ds n).1 key ∧ hold (addP l key dm df ds n).1 key ≤ 1000000000 ∧
    hold (addP l key dm df ds n).1 key = hold l key + (df * n + ds * n) ∧ (purseOf (addP l key dm df ds n).1 key).m = (purseOf l key).m + dm * n ∧ 0 ≤ (purseOf l key).m ∧ (purseOf l key).m ≤ 1000000000 := by
  obtain ⟨h1, h2, h3, h4, h5, h6⟩ := addP_yes h
  have hp0 := purseOf_ok (key := key) h1 h5
  unfold hold
  rw [h6]
  unfold puOk at hp0 h4
  simp only [Bool.and_eq_true] at hp0 h4
  have b1 : 0 ≤ (purseOf l key).m ∧ (purseOf l key).m ≤ 1000000000 := of_decide_eq_true hp0.1.1.1.2
  have b2 : 0 ≤ (purseOf l key).f ∧ (purseOf l key).f ≤ 1000000000 := of_decide_eq_true hp0.1.1.2
  have b3 : 0 ≤ (purseOf l key).s ∧ (purseOf l key).s ≤ 1000000000 := of_decide_eq_true hp0.1.2
  have b4 : 0 ≤ (purseOf l key).f + (purseOf l key).s ∧ (purseOf l key).f + (purseOf l key).s ≤ 1000000000 := of_decide_eq_true hp0.2
  have c2 : 0 ≤ (purseOf l key).f + df * n ∧ (purseOf l key).f + df * n ≤ 1000000000 := of_decide_eq_true h4.1.1.2
  have c3 : 0 ≤ (purseOf l key).s + ds * n ∧ (purseOf l key).s + ds * n ≤ 1000000000 := of_decide_eq_true h4.1.2
  have c4 : 0 ≤ ((purseOf l key).f + df * n) + ((purseOf l key).s + ds * n) ∧ ((purseOf l key).f + df * n) + ((purseOf l key).s + ds * n) ≤ 1000000000 := of_decide_eq_true h4.2
  unfold shiftP
  dsimp only
  generalize df * n = x at *
  generalize ds * n = y at *
  refine ⟨b4.1, b4.2, c4.1, c4.2, by omega, rfl, b1.1, b1.2⟩
end Mth
open Go.RowKit
open Mth

set_option maxRecDepth 100000 in
set_option maxHeartbeats 2000000 in
theorem samePurses (a b : Option Addr) (ca cb : Nat) (l : List Pu) (w : World) (hl : l.length ≤ 1048600) (ha : PursesAt w a l) (hb : PursesAt w b l) :
    Calls Tryd.prog 21 #[.slice a l.length ca, .slice b l.length cb] w fun e w' => e = .returned (.bool true) ∧ ∃ q, w' = w.drewN q := by
  have HA := hide ha
  have HB := hide hb
  clear ha hb
  go_enter Tryd.func21, Tryd.ntmps21
  go_wp2_with fail
  go_loopw [5] (fun i wr => ∃ k q : Nat, k ≤ l.length ∧ i = .int .i64 k ∧ wr = w.drewN q) (fun i _ => l.length - (intOf i).toNat)
  case atStart => exact ⟨0, 0, Nat.zero_le _, rfl, rfl⟩
  case round =>
    obtain ⟨k, q, hk, rfl, rfl⟩ := hrel
    by_cases hlt : k < l.length
    · obtain ⟨g1, o1, rfl, hg1, s0, s1, s2, s3⟩ := PursesAt.four (unhide HA) k hlt
      obtain ⟨g2, o2, rfl, hg2, t0, t1, t2, t3⟩ := PursesAt.four (unhide HB) k hlt
      generalize l[k] = pu at *
      obtain ⟨pk, pm, pf, ps⟩ := pu
      dsimp only at s0 s1 s2 s3 t0 t1 t2 t3
      go_wp2_with fail
      go_quiet (fail)
      go_wp2
      go_roundw
      case rel => exact ⟨k + 1, _, by omega, by go_num, rfl⟩
      case measure => simp [intOf]; omega
    · have hke : k = l.length := by omega
      subst hke
      have hnlt : decide ((l.length : Int) < (l.length : Int)) = false := by simp
      go_wp2_with fail
      go_ret
      exact ⟨rfl, q, rfl⟩

theorem Mth.addP_facts {l : List Pu} {key : ByteArray} {dm df ds n : Int} (hl : l.length ≤ 30) (hk : ∀ p ∈ l, p.k.size ≤ 100) :
    (addP l key dm df ds n).1.length ≤ 30 ∧ (∀ p ∈ (addP l key dm df ds n).1, p.k.size ≤ 100) ∧ ((addP l key dm df ds n).2 = false → (addP l key dm df ds n).1 = l) := by
  cases h : (addP l key dm df ds n).2 with
  | true =>
    obtain ⟨_, _, h3, _, _, _⟩ := addP_yes h
    obtain ⟨g1, _, g3⟩ := (psOk_iff _).1 h3
    refine ⟨by omega, fun p hp => ?_, fun e => by cases e⟩
    have := g1 p hp
    unfold puOk at this
    simp only [Bool.and_eq_true] at this
    have hko := this.1.1.1.1
    unfold keyOk at hko
    simp only [Bool.and_eq_true, decide_eq_true_iff] at hko
    have hs : p.k.data.toList.length = p.k.size := size_toList _
    omega
  | false =>
    have he : (addP l key dm df ds n).1 = l := by
      unfold addP withP at *
      split at h
      · cases h
      · rename_i hc
        rw [if_neg hc]
    rw [he]
    exact ⟨hl, hk, fun _ => rfl⟩
theorem below_draws (w : World) (q : Nat) : Below w.heap.size w (w.drewN q) := ⟨rfl, rfl, rfl, Nat.le_refl _, fun _ _ => rfl⟩
/-- The named errors, and lists of purses each at its place. -/
structure St (w : World) (E : Nat → Addr) (fs : List (Option Addr × List Pu)) (W : World) : Prop where
  err : Errs W E
  lies : ∀ x ∈ fs, PursesAt W x.1 x.2
  bel : Below w.heap.size w W
theorem St.step {w W W' : World} {E : Nat → Addr} {fs : List (Option Addr × List Pu)} (h : St w E fs W) (hb : Below W.heap.size W W') : St w E fs W' :=
  ⟨h.err.below hb, fun x hx => GR.At.below (h.lies x hx) hb, h.bel.trans (hb.mono h.bel.size)⟩
theorem St.put {w W : World} {E : Nat → Addr} {fs : List (Option Addr × List Pu)} {a : Option Addr} {l : List Pu} (h : St w E fs W) (ha : PursesAt W a l) : St w E ((a, l) :: fs) W :=
  ⟨h.err, fun x hx => by
    rcases List.mem_cons.1 hx with rfl | hx
    · exact ha
    · exact h.lies x hx, h.bel⟩
/-- A list and a yes or no, the list laid. -/
def Gives (w : World) (E : Nat → Addr) (fs : List (Option Addr × List Pu)) (r : List Pu × Bool) (e : Ending) (w' : World) : Prop :=
  ∃ a c, e = .returned (.tuple #[.slice a r.1.length c, .bool r.2]) ∧ St w E ((a, r.1) :: fs) w'
theorem gives_p {w W : World} {E : Nat → Addr} {fs : List (Option Addr × List Pu)} {r : List Pu × Bool} {f : FuncId} {args : Array Value} (hs : St w E fs W) (h : Calls Tryd.prog f args W (GivesP W r)) : Calls Tryd.prog f args W (Gives w E fs r) :=
  h.mono fun _ _ ⟨_, _, _, _, he, hb, hbel⟩ => ⟨_, _, he, (hs.step hbel).put (PuW.at hb)⟩
theorem gives_o {w W : World} {E : Nat → Addr} {fs : List (Option Addr × List Pu)} {r : List Pu × Bool} {f : FuncId} {args : Array Value} (hs : St w E fs W) (h : Calls Tryd.prog f args W (GivesO W r)) : Calls Tryd.prog f args W (Gives w E fs r) :=
  h.mono fun _ _ ⟨_, he, _, hown, hbel⟩ => by
    obtain ⟨a0, c0, rfl, hat⟩ := GR.own_at encP_length hown
    exact ⟨_, _, he, (hs.step hbel).put hat⟩
/-- A value, and all as before. -/
theorem gives_v {w W : World} {E : Nat → Addr} {fs : List (Option Addr × List Pu)} {v : Value} {f : FuncId} {args : Array Value} (hs : St w E fs W) (h : Calls Tryd.prog f args W fun e w' => e = .returned v ∧ Below W.heap.size W w') :
    Calls Tryd.prog f args W fun e w' => e = .returned v ∧ St w E fs w' :=
  h.mono fun _ _ ⟨he, hb⟩ => ⟨he, hs.step hb⟩
/-- What the law's walk is told of a list: it is short, its keys too. -/
def Short (l : List Pu) : Prop := l.length ≤ 30 ∧ ∀ p ∈ l, p.k.size ≤ 100
section
variable {w W : World} {E : Nat → Addr} {fs : List (Option Addr × List Pu)}
theorem cSame (a b : Option Addr) (ca cb : Nat) (l : List Pu) (hl : Short l) (ha : (a, l) ∈ fs) (hb : (b, l) ∈ fs) (hs : St w E fs W) :
    Calls Tryd.prog 21 #[.slice a l.length ca, .slice b l.length cb] W fun e w' => e = .returned (.bool true) ∧ St w E fs w' :=
  (samePurses a b ca cb l W (by have := hl.1; omega) (hs.lies _ ha) (hs.lies _ hb)).mono fun _ _ ⟨he, _, hq⟩ => ⟨he, by subst hq; exact hs.step (below_draws _ _)⟩
theorem cSameE (a b : Option Addr) (ca cb : Nat) (L l : List Pu) (h : L = l) (hl : Short l) (ha : (a, L) ∈ fs) (hb : (b, l) ∈ fs) (hs : St w E fs W) :
    Calls Tryd.prog 21 #[.slice a L.length ca, .slice b l.length cb] W fun e w' => e = .returned (.bool true) ∧ St w E fs w' := by
  subst h
  exact cSame a b ca cb L hl ha hb hs
theorem St.drop {x : Option Addr × List Pu} (h : St w E (x :: fs) W) : St w E fs W := ⟨h.err, fun y hy => h.lies y (List.mem_cons_of_mem _ hy), h.bel⟩
theorem cOkI (a : Option Addr) (c : Nat) (l : List Pu) (hl : Short l) (ha : (a, l) ∈ fs) (hs : St w E fs W) :
    Calls Tryd.prog 22 #[.slice a l.length c] W fun e w' => e = .returned (.bool (psOk l)) ∧ St w E fs w' :=
  gives_v hs (implPursesOk a c l W (by have := hl.1; omega) (hs.lies _ ha))
theorem cOkS (a : Option Addr) (c : Nat) (l : List Pu) (hl : Short l) (ha : (a, l) ∈ fs) (hs : St w E fs W) :
    Calls Tryd.prog 23 #[.slice a l.length c] W fun e w' => e = .returned (.bool (psOk l)) ∧ St w E fs w' :=
  gives_v hs (specPursesOk a c l W (by have := hl.1; omega) (fun p hp => Nat.le_trans (hl.2 p hp) (by unfold maxLen; omega)) (hs.lies _ ha))
theorem cOfI (a : Option Addr) (c : Nat) (l : List Pu) (key : ByteArray) (hl : Short l) (hk : key.size ≤ 20) (ha : (a, l) ∈ fs) (hs : St w E fs W) :
    Calls Tryd.prog 24 #[.slice a l.length c, .string key] W fun e w' => e = .returned (puv (purseOf l key)) ∧ St w E fs w' :=
  gives_v hs (implPurseOf a c l key W (by have := hl.1; omega) (fun p hp => Nat.le_trans (hl.2 p hp) (by omega)) (by omega) (hs.lies _ ha))
theorem cOfS (a : Option Addr) (c : Nat) (l : List Pu) (key : ByteArray) (hl : Short l) (ha : (a, l) ∈ fs) (hs : St w E fs W) :
    Calls Tryd.prog 25 #[.slice a l.length c, .string key] W fun e w' => e = .returned (puv (purseOf l key)) ∧ St w E fs w' :=
  gives_v hs (specPurseOf a c l key W (by have := hl.1; omega) (hs.lies _ ha))
theorem cHoI (a : Option Addr) (c : Nat) (l : List Pu) (key : ByteArray) (hl : Short l) (hk : key.size ≤ 20) (ha : (a, l) ∈ fs) (hs : St w E fs W) :
    Calls Tryd.prog 26 #[.slice a l.length c, .string key] W fun e w' => e = .returned (.int .i64 (wrap64 (hold l key))) ∧ St w E fs w' :=
  gives_v hs (implHolding a c l key W (by have := hl.1; omega) (fun p hp => Nat.le_trans (hl.2 p hp) (by omega)) (by omega) (hs.lies _ ha))
theorem cHoS (a : Option Addr) (c : Nat) (l : List Pu) (key : ByteArray) (hl : Short l) (ha : (a, l) ∈ fs) (hs : St w E fs W) :
    Calls Tryd.prog 27 #[.slice a l.length c, .string key] W fun e w' => e = .returned (.int .i64 (wrap64 (hold l key))) ∧ St w E fs w' :=
  gives_v hs (specHolding a c l key W (by have := hl.1; omega) (hs.lies _ ha))
end
/-- A purse's second field read off its value. -/
theorem fieldM (k : ByteArray) (m f s : Int) (w : World) : (Instr.field 32 (.agg #[.string k, .int .i64 m, .int .i64 f, .int .i64 s]) 1).run Tryd.prog w = .ok (.int .i64 m) w := by kernel_rfl
/-- What a move's list and answer come to, in plain numbers. -/
structure Moved (l : List Pu) (key : ByteArray) (n dh dm : Int) (r : List Pu × Bool) : Prop where
  short : Short r.1
  no : r.2 = false → r.1 = l
  yes : r.2 = true → psOk r.1 = true ∧ (1 ≤ n ∧ n ≤ 1000000000) ∧ (0 ≤ wrap64 (hold l key) ∧ wrap64 (hold l key) ≤ 1000000000) ∧ wrap64 (hold r.1 key) = wrap64 (hold l key) + dh ∧ (purseOf r.1 key).m = (purseOf l key).m + dm ∧ 0 ≤ (purseOf l key).m ∧ (purseOf l key).m ≤ 1000000000
theorem moved {l : List Pu} {key : ByteArray} {dm df ds n : Int} (hl : Short l) : Moved l key n (df * n + ds * n) (dm * n) (addP l key dm df ds n) := by
  obtain ⟨f1, f2, f3⟩ := addP_facts (key := key) (dm := dm) (df := df) (ds := ds) (n := n) hl.1 hl.2
  refine ⟨⟨f1, f2⟩, f3, fun h => ?_⟩
  obtain ⟨y1, y2, y3, y4, y5, y6⟩ := addP_yes h
  obtain ⟨h1, h2, h3, h4, h5, h6, h7, h8⟩ := hold_in h
  have e0 : wrap64 (hold l key) = hold l key := IntWalk.wrap64_in _ ⟨by omega, by omega⟩
  have e1 : wrap64 (hold (addP l key dm df ds n).1 key) = hold (addP l key dm df ds n).1 key := IntWalk.wrap64_in _ ⟨by omega, by omega⟩
  rw [e0, e1]
  exact ⟨y3, y2, ⟨h1, h2⟩, h5, h6, h7, h8⟩
end Go.Proofs.YtdlhlfndobbocaaDoor
