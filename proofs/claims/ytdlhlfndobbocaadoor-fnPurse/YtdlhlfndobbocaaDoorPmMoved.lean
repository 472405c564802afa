/-
  The program's moved and movedOrSame: a list of purses with amounts of a key more or fewer, where that is right; else the list as it was.
-/
import Derived.Test.YtdlhlfndobbocaaDoorPmMove
import Derived.Test.YtdlhlfndobbocaaDoorPmOf
import Derived.Test.YtdlhlfndobbocaaDoorPmList
import Derived.Test.YtdlhlfndobbocaaDoorPmErr2
import Derived.Test.YtdlhlfndobbocaaDoorMgMath
namespace Go.Proofs.YtdlhlfndobbocaaDoor
open Go.RowKit Go.Maps
open Mth

namespace Mth
/-- The list with amounts of a key more or fewer, and whether that is right; else the list as it was. -/
def addP (l : List Pu) (key : ByteArray) (dm df ds n : Int) : List Pu × Bool := withP l (shiftP (purseOf l key) dm df ds n) n
theorem put_at {l : List Pu} (hp : l.Pairwise klt) (p : Pu) : ∀ q ∈ putP l p, upd (purseOf l) p q.k = q := by
  intro q hq
  obtain ⟨i, hi, rfl⟩ := List.mem_iff_getElem.1 hq
  have h := put_map hp p
  have h2 := congrArg (fun x => x[i]?) h
  simp only [List.getElem?_map, List.getElem?_eq_getElem hi, Option.map_some, Option.some.injEq] at h2
  exact h2
theorem put_mem {l : List Pu} {p q : Pu} (h : q ∈ putP l p) : q = p ∨ q ∈ l := by
  unfold putP at h
  rcases List.mem_append.1 h with h | h
  · exact .inr ((List.takeWhile_sublist _).mem h)
  · rcases List.mem_cons.1 h with h | h
    · exact .inl h
    · exact .inr ((List.dropWhile_sublist _).mem (tail_sub l p.k q h))
theorem addP_list {l : List Pu} {key : ByteArray} {dm df ds n : Int} (h : psOk l = false) : addP l key dm df ds n = (l, false) := by
  unfold addP withP
  rw [h]
  rfl
theorem addP_n {l : List Pu} {key : ByteArray} {dm df ds n : Int} (h : ¬ (1 ≤ n ∧ n ≤ 1000000000)) : addP l key dm df ds n = (l, false) := by
  unfold addP withP
  rw [decide_eq_false h]
  simp
theorem addP_in {l : List Pu} {key : ByteArray} {dm df ds n : Int} (h : psOk l = true) (hn : 1 ≤ n ∧ n ≤ 1000000000) :
    addP l key dm df ds n = if puOk (shiftP (purseOf l key) dm df ds n) && decide ((putP l (shiftP (purseOf l key) dm df ds n)).length ≤ 20) then (putP l (shiftP (purseOf l key) dm df ds n), true) else (l, false) := by
  unfold addP withP
  rw [psOk_put _ h, h, decide_eq_true hn]
  rfl
theorem shift_key {l : List Pu} {key : ByteArray} {dm df ds n : Int} (h : keyOk key.data.toList = false) : puOk (shiftP (purseOf l key) dm df ds n) = false := by
  unfold puOk
  have : (shiftP (purseOf l key) dm df ds n).k = key := purseOf_k l key
  rw [this, h]
  rfl
theorem purseOf_ok {l : List Pu} {key : ByteArray} (h : psOk l = true) (hk : keyOk key.data.toList = true) : puOk (purseOf l key) = true := by
  obtain ⟨h1, _, _⟩ := (psOk_iff l).1 h
  unfold purseOf
  cases hf : l.find? (fun p => p.k.toList == key.toList) with
  | none => simp [puOk, amB, hk]
  | some q => exact h1 q (List.mem_of_find?_eq_some hf)
theorem unit_mul {d n : Int} (hd : d = -1 ∨ d = 0 ∨ d = 1) (hn : 1 ≤ n ∧ n ≤ 1000000000) : -1000000000 ≤ d * n ∧ d * n ≤ 1000000000 := by
  rcases hd with rfl | rfl | rfl <;> omega
end Mth

set_option maxRecDepth 100000 in
set_option maxHeartbeats 4000000 in
theorem implMoved (a : Option Addr) (cap : Nat) (l : List Pu) (key : ByteArray) (dm df ds n : Int) (E : Nat → Addr) (w : World) (hl : l.length ≤ 1048576) (hks : ∀ p ∈ l, p.k.size ≤ 1048576) (hkey : key.size ≤ 1048576)
    (hd1 : dm = -1 ∨ dm = 0 ∨ dm = 1) (hd2 : df = -1 ∨ df = 0 ∨ df = 1) (hd3 : ds = -1 ∨ ds = 0 ∨ ds = 1) (ha : PursesAt w a l) (he : Errs w E) :
    Calls Tryd.prog 49 #[.slice a l.length cap, .string key, .int .i64 n, shv dm df ds] w fun e w' => Below w.heap.size w w' ∧
      (((addP l key dm df ds n).2 = false ∧ ∃ i, i < 5 ∧ e = .returned (.tuple #[.slice none 0 0, errV (E i)])) ∨
       ((addP l key dm df ds n).2 = true ∧ ∃ g, w.heap.size ≤ g ∧ e = .returned (.tuple #[.slice (some ⟨g, 0, none⟩) (addP l key dm df ds n).1.length (addP l key dm df ds n).1.length, .nilIface]) ∧ puBlk w' g (addP l key dm df ds n).1)) := by
  have hb0 := below_one' w (.cells #[.int .i64 dm, .int .i64 df, .int .i64 ds] 42)
  cases hok : psOk l
  · have HNO := hide (implMapOf_no a cap l E _ (by omega) (GR.At.below ha hb0) (he.below hb0) hok)
    have HAD := hide (addP_list (key := key) (dm := dm) (df := df) (ds := ds) (n := n) hok)
    clear ha he hks hok hb0 hd1 hd2 hd3
    go_enter Tryd.func49, Tryd.ntmps49
    go_wp2_with fail
    refine (unhide HNO).mono ?_
    rintro e w1 ⟨rfl, hb1⟩
    have HB1 := hide (Fo.one_block hb1).2.2
    clear hb1
    go_wp2_with fail
    go_ret2
    exact ⟨unhide HB1, .inl ⟨by rw [unhide HAD], _, by omega, rfl⟩⟩
  have HOF := hide (implMapOf_yes a cap l _ (GR.At.below ha hb0) hks hok)
  have HE := hide he
  cases hkk : keyOk key.data.toList
  · have HK := hide (fun w1 => implKeyB key false w1 hkk)
    have HAD : Hid ((addP l key dm df ds n).2 = false) := by
      by_cases hn : 1 ≤ n ∧ n ≤ 1000000000
      · rw [addP_in hok hn, shift_key hkk]
        rfl
      · rw [addP_n hn]
        exact hide rfl
    clear ha he hks hok hb0 hd1 hd2 hd3 hkk
    go_enter Tryd.func49, Tryd.ntmps49
    go_wp2_with fail
    refine (unhide HOF).mono ?_
    rintro e w1 ⟨mp, mb, v, rfl, hPM, hb1⟩
    have HB1 := hide (Fo.one_block hb1).2.2
    have ve := ((unhide HE).below (unhide HB1)).var 0 (by omega)
    clear hb1 hPM HOF
    go_wp2_with (go_at_call 53; refine (unhide HK _).mono ?_; rintro e w2 ⟨rfl, rfl⟩)
    go_quiet (fail)
    go_wp2_with fail
    go_ret2
    exact ⟨(unhide HB1).trans ⟨rfl, rfl, rfl, Nat.le_refl _, fun _ _ => rfl⟩, .inl ⟨unhide HAD, _, by omega, rfl⟩⟩
  have HK := hide (fun w1 => implKeyB key true w1 hkk)
  by_cases hn : 1 ≤ n ∧ n ≤ 1000000000
  case' neg =>
    have HAD := hide (addP_n (l := l) (key := key) (dm := dm) (df := df) (ds := ds) hn)
    have HAM := hide (fun w1 => isSomeAmount n false w1 (decide_eq_false hn))
    clear ha he hks hok hb0 hd1 hd2 hd3 hkk
    go_enter Tryd.func49, Tryd.ntmps49
    go_wp2_with fail
    refine (unhide HOF).mono ?_
    rintro e w1 ⟨mp, mb, v, rfl, hPM, hb1⟩
    have HB1 := hide (Fo.one_block hb1).2.2
    have ve := ((unhide HE).below (unhide HB1)).var 1 (by omega)
    clear hb1 hPM HOF
    go_wp2_with (first | (go_at_call 53; refine (unhide HK _).mono ?_; rintro e w2 ⟨rfl, rfl⟩) | (go_at_call 62; refine (unhide HAM _).mono ?_; rintro e w2 ⟨rfl, rfl⟩))
    go_quiet (fail)
    go_wp2_with fail
    go_ret2
    exact ⟨(unhide HB1).trans ⟨rfl, rfl, rfl, Nat.le_refl _, fun _ _ => rfl⟩, .inl ⟨by rw [unhide HAD], _, by omega, rfl⟩⟩
  have HAM := hide (fun w1 => isSomeAmount n true w1 (decide_eq_true hn))
  have hpo := purseOf_ok (l := l) (key := key) hok hkk
  have u1 := unit_mul hd1 hn
  have u2 := unit_mul hd2 hn
  have u3 := unit_mul hd3 hn
  obtain ⟨_, hpw, hl20⟩ := (psOk_iff l).1 hok
  have HAI := hide (addP_in (key := key) (dm := dm) (df := df) (ds := ds) hok hn)
  have HKS := hide hks
  cases hsp : puOk (shiftP (purseOf l key) dm df ds n)
  · have HMV := hide (fun B mp mb n0 v w1 (h : PM w1 B mp mb n0 v (l.map (·.k)) (purseOf l)) (he1 : Errs w1 E) => implMove_bad B mp mb n0 v l key dm df ds n E w1 hkey hpo u1 u2 u3 h he1 hsp)
    have HAD : Hid ((addP l key dm df ds n).2 = false) := by
      rw [unhide HAI, hsp]
      rfl
    clear ha he hks hok hb0 hd1 hd2 hd3 hkk hpo u1 u2 u3 hpw hsp HAI
    go_enter Tryd.func49, Tryd.ntmps49
    go_wp2_with fail
    refine (unhide HOF).mono ?_
    rintro e w1 ⟨mp, mb, v, rfl, hPM, hb1⟩
    obtain ⟨hblk, hlt1, hbw⟩ := Fo.one_block hb1
    have HB1 := hide hbw
    have c0 : w1.cell? ⟨w.heap.size, 0, none⟩ = some (.int .i64 dm) := by rw [cell_of_row w1 _ _ _ _ (0, 0) hblk]; rfl
    have c1 : w1.cell? ⟨w.heap.size, 1, none⟩ = some (.int .i64 df) := by rw [cell_of_row w1 _ _ _ _ (0, 0) hblk]; rfl
    have c2 : w1.cell? ⟨w.heap.size, 2, none⟩ = some (.int .i64 ds) := by rw [cell_of_row w1 _ _ _ _ (0, 0) hblk]; rfl
    have HMX := hide (unhide HMV _ mp mb _ v w1 hPM ((unhide HE).below hbw))
    clear hb1 hPM HOF hblk hbw HMV
    go_wp2_with (first | (go_at_call 53; refine (unhide HK _).mono ?_; rintro e w2 ⟨rfl, rfl⟩) | (go_at_call 62; refine (unhide HAM _).mono ?_; rintro e w2 ⟨rfl, rfl⟩) | (go_at_call 63; refine (unhide HMX).mono ?_; rintro e w3 ⟨i, hi, rfl, hb3⟩))
    go_ret2
    exact ⟨(unhide HB1).trans (hb3.mono (unhide HB1).size), .inl ⟨unhide HAD, i, hi, rfl⟩⟩
  · have HMV := hide (fun B mp mb n0 v w1 (hB : B ≤ w1.heap.size) (hn0 : n0 < maxLen) (h : PM w1 B mp mb n0 v (l.map (·.k)) (purseOf l)) (he1 : Errs w1 E) => implMove_ok B mp mb n0 v l key dm df ds n E w1 hB hkey hn0 hl20 hpw hpo u1 u2 u3 h he1 hsp)
    have hkp : (shiftP (purseOf l key) dm df ds n).k = key := purseOf_k l key
    have HFULL : Hid (found l key = false → l.length = 20 → (addP l key dm df ds n).2 = false) := by
      intro hf h20
      have hlen := put_length_not (l := l) (p := shiftP (purseOf l key) dm df ds n) (by rw [hkp]; exact hf)
      rw [unhide HAI, hsp, decide_eq_false (by omega)]
      rfl
    have HROOM : Hid ((found l key = true ∨ l.length < 20) → addP l key dm df ds n = (putP l (shiftP (purseOf l key) dm df ds n), true) ∧ (putP l (shiftP (purseOf l key) dm df ds n)).length ≤ 20) := by
      intro hf
      have hlen : (putP l (shiftP (purseOf l key) dm df ds n)).length ≤ 20 := by
        cases hff : found l key
        · have := put_length_not (l := l) (p := shiftP (purseOf l key) dm df ds n) (by rw [hkp]; exact hff)
          rcases hf with hf | hf
          · rw [hff] at hf; cases hf
          · omega
        · have := put_length_found (l := l) (p := shiftP (purseOf l key) dm df ds n) (by rw [hkp]; exact hff)
          omega
      rw [unhide HAI, hsp, decide_eq_true hlen]
      exact ⟨rfl, hlen⟩
    have HPK : Hid (∀ q ∈ putP l (shiftP (purseOf l key) dm df ds n), q.k.size ≤ 1048576) := by
      intro q hq
      rcases put_mem hq with rfl | hq
      · rw [hkp]; exact hkey
      · exact unhide HKS q hq
    have HPA := hide (put_at hpw (shiftP (purseOf l key) dm df ds n))
    clear ha he hks hok hb0 hd1 hd2 hd3 hkk hpo u1 u2 u3 hpw hsp HAI hkp
    generalize putP l (shiftP (purseOf l key) dm df ds n) = PL at *
    generalize upd (purseOf l) (shiftP (purseOf l key) dm df ds n) = G2 at *
    go_enter Tryd.func49, Tryd.ntmps49
    go_wp2_with fail
    refine (unhide HOF).mono ?_
    rintro e w1 ⟨mp, mb, v, rfl, hPM, hb1⟩
    obtain ⟨hblk, hlt1, hbw⟩ := Fo.one_block hb1
    have HB1 := hide hbw
    have c0 : w1.cell? ⟨w.heap.size, 0, none⟩ = some (.int .i64 dm) := by rw [cell_of_row w1 _ _ _ _ (0, 0) hblk]; rfl
    have c1 : w1.cell? ⟨w.heap.size, 1, none⟩ = some (.int .i64 df) := by rw [cell_of_row w1 _ _ _ _ (0, 0) hblk]; rfl
    have c2 : w1.cell? ⟨w.heap.size, 2, none⟩ = some (.int .i64 ds) := by rw [cell_of_row w1 _ _ _ _ (0, 0) hblk]; rfl
    have HMX := hide (unhide HMV _ mp mb _ v w1 hb1.size (by unfold maxLen; omega) hPM ((unhide HE).below hbw))
    clear hb1 hPM HOF hblk hbw HMV
    go_wp2_with (first | (go_at_call 53; refine (unhide HK _).mono ?_; rintro e w2 ⟨rfl, rfl⟩) | (go_at_call 62; refine (unhide HAM _).mono ?_; rintro e w2 ⟨rfl, rfl⟩))
    refine (unhide HMX).mono ?_
    rintro e w3 ⟨hb3, hcase⟩
    have HB3 := hide ((unhide HB1).trans (Below.mono hb3 (by simp)))
    clear hb3 HMX
    rcases hcase with ⟨hf, h20, rfl⟩ | ⟨hf, rfl, v', hPM3⟩
    · have HAD := hide (unhide HFULL hf h20)
      clear hf h20 HFULL HROOM
      go_wp2_with fail
      go_ret2
      exact ⟨unhide HB3, .inl ⟨unhide HAD, _, by omega, rfl⟩⟩
    · obtain ⟨hadd, hlen⟩ := unhide HROOM hf
      have HADD := hide hadd
      have HLS := hide (implList _ mp mb _ v' PL G2 w3 hlen (unhide HPA) (unhide HPK) hPM3)
      clear hf HFULL HROOM hadd hPM3
      go_wp2_with fail
      refine (unhide HLS).mono ?_
      rintro e w4 ⟨rfl, hblk4, hb4⟩
      have HB4 := hide ((unhide HB3).trans (hb4.mono (unhide HB3).size))
      have HK4 := hide hblk4
      clear hb4 hblk4
      go_wp2_with fail
      go_ret2
      rw [unhide HADD]
      exact ⟨unhide HB4, .inr ⟨rfl, _, (unhide HB3).size, rfl, unhide HK4⟩⟩
end Go.Proofs.YtdlhlfndobbocaaDoor
