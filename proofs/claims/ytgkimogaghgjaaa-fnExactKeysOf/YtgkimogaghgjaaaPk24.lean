/- Parts. -/
import Derived.Test.YtgkimogaghgjaaaPk3
import Derived.Test.YtgkimogaghgjaaaPk4
import Derived.Test.YtgkimogaghgjaaaPk16
import Derived.Test.YtgkimogaghgjaaaPk18
import Derived.Deep.QuietTactic
import Derived.BigQuiet
import Derived.Deep.RegionWith
import Derived.OneCell
namespace Go.Proofs.Ytgkimogaghgjaaa
open Go.RowKit

/-- The marks from a number on. -/
def marks (k n : Nat) : List ByteArray := (List.range n).map fun i => mark (k + i)
theorem marks_length (k n : Nat) : (marks k n).length = n := by simp [marks]
theorem marks_step (k i : Nat) (xs : List ByteArray) (hi : i < xs.length) : (marks k i ++ xs.drop i).set i (mark (k + i)) = marks k (i + 1) ++ xs.drop (i + 1) := by
  have e : xs.drop i = xs[i] :: xs.drop (i + 1) := List.drop_eq_getElem_cons hi
  rw [e, List.set_append_right _ _ (by rw [marks_length]; omega), marks_length, Nat.sub_self, List.set_cons_zero]
  simp [marks, List.range_succ]

open Mth

theorem StrW.one {w : World} {a : Option Addr} {g : Nat} {l : List ByteArray} (h : GR.W encStr 1 w a g l) (i : Nat) (hi : i < l.length) : a = some ⟨g, 0, none⟩ ∧ g < w.heap.size ∧ w.cell? ⟨g, i, none⟩ = some (.string l[i]) ∧ w.frozen? ⟨g, i, none⟩ = false := by
  obtain ⟨e, hg, hc⟩ := h i hi
  exact ⟨e, hg, by simpa using (hc 0 (by omega)).1, by simpa using (hc 0 (by omega)).2⟩
theorem StrW.set {w : World} {a : Option Addr} {g : Nat} {l : List ByteArray} (h : GR.W encStr 1 w a g l) (i : Nat) (x : ByteArray) (hi : i < l.length) : GR.W encStr 1 (w.setCell ⟨g, i, none⟩ (.string x)) a g (l.set i x) := by
  have h2 := GR.W.set encStr_length h i x hi
  rw [Nat.mul_one] at h2
  exact h2
set_option maxRecDepth 100000 in
set_option maxHeartbeats 1000000 in
theorem markStrW (a : Option Addr) (g ca k0 : Nat) (xs : List ByteArray) (w : World) (h0 : 0 < k0) (hmax : ((k0 + xs.length : Nat) : Int) ≤ 9223372036854775806) (ha : GR.W encStr 1 w a g xs) :
    Calls Try.prog 14 #[.slice a xs.length ca, .int .i64 k0] w fun e w' => e = .returned (.int .i64 (k0 + xs.length : Nat)) ∧ GR.W encStr 1 w' a g (marks k0 xs.length) ∧ KeepsL (fp g xs) w w' := by
  have HA := hide ha
  clear ha
  go_enter Try.func14, Try.ntmps14
  go_wp2_with fail
  go_loopw [1, 5] (fun c i wr => ∃ j m : Nat, j ≤ xs.length ∧ i = .int .i64 j ∧ c = .int .i64 m ∧ m = k0 + j ∧ GR.W encStr 1 wr a g (marks k0 j ++ xs.drop j) ∧ KeepsL (fp g xs) w wr) (fun _ i _ => xs.length - (intOf i).toNat)
  case atStart => exact ⟨0, k0, Nat.zero_le _, rfl, rfl, rfl, by simpa [marks] using unhide HA, KeepsL.refl _ _⟩
  case round =>
    obtain ⟨j, m, hj, rfl, rfl, hm, hblk, hkeep⟩ := hrel
    have HM := hide hm
    have HK := hide hkeep
    have hlen : (marks k0 j ++ xs.drop j).length = xs.length := by simp [marks_length]; omega
    by_cases hlt : j < xs.length
    · have HS := hide (marks_step k0 j xs hlt)
      have hm0 : 0 < m := by omega
      have hm1 : (m : Int) ≤ 9223372036854775806 := by omega
      have HB := hide hblk
      have HLN := hide hlen
      have e0 := (StrW.one hblk j (by omega)).1
      subst e0
      clear hm hkeep hblk hlen
      go_wp2_with fail
      refine (markText m _ hm0 (by omega)).mono ?_
      rintro e w1 ⟨rfl, hb1⟩
      have HB1 := hide ((unhide HB).below hb1)
      have HK1 := hide ((unhide HK).trans (KeepsL.of_below hb1))
      obtain ⟨_, hg1, c1, f1⟩ := StrW.one (unhide HB1) j (by rw [unhide HLN]; exact hlt)
      clear hb1 HB HK
      go_wp2_with fail
      go_roundw
      case rel => exact ⟨j + 1, m + 1, by omega, by go_num, by go_num, by have := unhide HM; omega, by rw [← unhide HS, ← unhide HM]; exact StrW.set (unhide HB1) j (mark m) (by rw [unhide HLN]; exact hlt), (unhide HK1).trans (fp_keeps (KeepsL.set _) (by omega))⟩
      case measure => simp [intOf]; omega
    · have hj' : j = xs.length := by omega
      subst hj'
      have HE := hide (show GR.W encStr 1 wr a g (marks k0 xs.length) by simpa using hblk)
      have hnlt : decide ((xs.length : Int) < (xs.length : Int)) = false := by simp
      clear hm hkeep hblk hlen
      go_wp2_with fail
      go_ret
      exact ⟨ret_int (by have := unhide HM; omega), unhide HE, unhide HK⟩
set_option maxRecDepth 100000 in
set_option maxHeartbeats 1000000 in
theorem heldStrW (a : Option Addr) (g ca k0 n : Nat) (w : World) (h0 : 0 < k0) (hmax : ((k0 + n : Nat) : Int) ≤ 9223372036854775806) (ha : GR.W encStr 1 w a g (marks k0 n)) :
    Calls Try.prog 15 #[.slice a n ca, .int .i64 k0] w fun e w' => e = .returned (.int .i64 (k0 + n : Nat)) ∧ Below w.heap.size w w' := by
  have HA := hide ha
  clear ha
  go_enter Try.func15, Try.ntmps15
  go_wp2_with fail
  go_loopw [1, 5] (fun c i wr => ∃ j m : Nat, j ≤ n ∧ i = .int .i64 j ∧ c = .int .i64 m ∧ m = k0 + j ∧ Below w.heap.size w wr) (fun _ i _ => n - (intOf i).toNat)
  case atStart => exact ⟨0, k0, Nat.zero_le _, rfl, rfl, rfl, Below.refl _ _⟩
  case round =>
    obtain ⟨j, m, hj, rfl, rfl, hm, hbel⟩ := hrel
    have HM := hide hm
    by_cases hlt : j < n
    · have hm0 : 0 < m := by omega
      have hm1 : (m : Int) ≤ 9223372036854775806 := by omega
      obtain ⟨e0, hgl, c1, _⟩ := StrW.one ((unhide HA).below hbel) j (by rw [marks_length]; exact hlt)
      subst e0
      rw [show (marks k0 n)[j]'(by rw [marks_length]; exact hlt) = mark m by simp [marks, hm]] at c1
      clear hm
      go_wp2_with fail
      go_region_with (go_at_call 39; refine (markText m _ hm0 (by omega)).mono ?_; rintro e w1 ⟨rfl, hb1⟩; have hc1 := (bcell hb1).1 g j (by simpa using hgl))
      all_goals
        go_wp2_with fail
        go_roundw
        case rel => exact ⟨j + 1, m + 1, by omega, by go_num, by go_num, by have := unhide HM; omega, hbel.trans (((Below.refl _ _).drew.trans hb1).mono hbel.size)⟩
        case measure => simp [intOf]; omega
    · have hj' : j = n := by omega
      subst hj'
      have hnlt : decide ((j : Int) < (j : Int)) = false := by simp
      clear hm
      go_wp2_with fail
      go_ret
      exact ⟨ret_int (by have := unhide HM; omega), hbel⟩

/-- What stands in a keeper's cells that are lists. -/
def hdK (x : KpI) : Nat → Option Value
  | 2 => some (.slice x.2.b.k x.1.base.kids.length x.2.b.ck)
  | 4 => some (.slice x.2.b.p x.1.base.pu.length x.2.b.cp)
  | 5 => some (.slice x.2.b.o x.1.base.out.length x.2.b.co)
  | 6 => some (.slice x.2.b.s x.1.base.seen.length x.2.b.cs)
  | 8 => some (.slice x.2.b.r x.1.base.reqs.length x.2.b.cr)
  | 11 => some (.slice x.2.n.k x.1.node.kids.length x.2.n.ck)
  | 13 => some (.slice x.2.n.p x.1.node.pu.length x.2.n.cp)
  | 14 => some (.slice x.2.n.o x.1.node.out.length x.2.n.co)
  | 15 => some (.slice x.2.n.s x.1.node.seen.length x.2.n.cs)
  | 17 => some (.slice x.2.n.r x.1.node.reqs.length x.2.n.cr)
  | 20 => some (.slice x.2.wa x.1.wait.length x.2.wc)
  | 21 => some (.slice x.2.aa x.1.asked.length x.2.ac)
  | _ => none
structure RowC (w : World) (g o : Nat) (x : KpI) : Prop where
  lt : g < w.heap.size
  hd : ∀ c v, hdK x c = some v → w.cell? ⟨g, o + c, none⟩ = some v
  so : ∀ c, c < 22 → (w.cell? ⟨g, o + c, none⟩).isSome = true
  fz : ∀ c, c < 22 → w.frozen? ⟨g, o + c, none⟩ = false
theorem RowC.scr {T : Nat → Prop} {w w' : World} {g o : Nat} {x : KpI} (h : RowC w g o x) (hs : Scr T w w') (hT : ¬ T g) : RowC w' g o x :=
  ⟨Nat.lt_of_lt_of_le h.lt hs.size, fun c v hv => hs.hdr (h.hd c v hv) hT, fun c hc => hs.cell _ _ (h.so c hc), fun c hc => (hs.froz _ _ h.lt).trans (h.fz c hc)⟩
theorem RowC.set {w : World} {g o : Nat} {x : KpI} (h : RowC w g o x) (o' : Nat) (v : Value) (hn : ∀ c v, hdK x c = some v → o + c ≠ o') : RowC (w.setCell ⟨g, o', none⟩ v) g o x :=
  ⟨by simpa using h.lt, fun c u hv => by rw [World.cell?_setCell_other _ _ _ _ (by have := hn c u hv; simp <;> omega)]; exact h.hd c u hv, fun c hc => isSome_set _ _ _ _ (h.so c hc), fun c hc => by rw [World.frozen?_setCell]; exact h.fz c hc⟩
theorem hdK_no {x : KpI} {c : Nat} {v : Value} (h : hdK x c = some v) : c ≠ 0 ∧ c ≠ 1 ∧ c ≠ 3 ∧ c ≠ 7 ∧ c ≠ 9 ∧ c ≠ 10 ∧ c ≠ 12 ∧ c ≠ 16 ∧ c ≠ 18 ∧ c ≠ 19 ∧ c < 22 := by
  unfold hdK at h
  split at h <;> first | omega | (cases h)
theorem RowC.of {w : World} {g : Nat} {M : List KpI} (h : GR.Blk encK 63 w g M) (i : Nat) (hi : i < M.length) : RowC w g (i * 22) M[i] := by
  have hc : ∀ c, c < 22 → w.cell? ⟨g, i * 22 + c, none⟩ = (encK M[i])[c]? := fun c hc => GR.Blk.cell h encK_length i hi c hc
  refine ⟨GR.Blk.lt h, fun c v hv => ?_, fun c hlt => ?_, fun c _ => GR.Blk.free h _⟩
  · rw [hc c (hdK_no hv).2.2.2.2.2.2.2.2.2.2, ← hv]
    unfold hdK at hv ⊢
    split at hv <;> first | rfl | (cases hv)
  · rw [hc c hlt, List.getElem?_eq_getElem (by rw [encK_length]; exact hlt)]
    rfl
end Go.Proofs.Ytgkimogaghgjaaa
