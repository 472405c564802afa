/-
  The model's l04Nums at the four numbers of a message.
-/
import Derived.Test.YtiinpdkgnflmeaaDoorMgGetM
import Derived.Deep.AppendLies
namespace Go.Proofs.YtiinpdkgnflmeaaDoor
open Go.RowKit
open Mth

/-- The place ahead of the j-th number. -/
def posN (s : ByteArray) : Nat → Int
  | 0 => 1
  | j + 1 => rdE s (posN s j)
def numsL (s : ByteArray) (j : Nat) : List Value := (List.range j).map fun i => .int .i64 (rdN s (posN s i))
theorem numsL_succ (s : ByteArray) (j : Nat) : numsL s (j + 1) = numsL s j ++ [.int .i64 (rdN s (posN s j))] := by unfold numsL; rw [List.range_succ, List.map_append]; rfl
theorem numsL_len (s : ByteArray) (j : Nat) : (numsL s j).length = j := by simp [numsL]
theorem infoInt : (Tryd.prog.info? 3).map (fun i => (i.zero, i.size, i.bytes)) = some (some (.int .i64 0), 1, 8) := by kernel_rfl
theorem own_below {w w' : World} {base size n : Nat} {e : TypeId} {v : Value} {xs : List Value} (h : w.ownsRow base e size v n xs) (hb : Below w.heap.size w w') : w'.ownsRow base e size v n xs := by
  refine h.kept (row := none) ⟨hb.os, hb.tape, hb.output, hb.size, fun k hk _ => hb.block k hk⟩ ?_
  cases hv : v.ownBlock with
  | none => exact .inl rfl
  | some k => right; simp
theorem specRd (s : ByteArray) (i : Int) (hs : s.size ≤ maxLen) (w : World) : Calls Tryd.prog 18 #[.string s, .int .i64 i] w fun e w' => e = .returned (.tuple #[.int .i64 (rdN s i), .int .i64 (rdE s i)]) ∧ Below w.heap.size w w' := by
  have h := specGetNumI s i w hs
  rw [getRes_two] at h
  exact h
theorem specRt (s : ByteArray) (i : Int) (hs : s.size ≤ maxLen) (w : World) : Calls Tryd.prog 19 #[.string s, .int .i64 i] w fun e w' => e = .returned (.tuple #[.string (rtS s i), .int .i64 (rtE s i)]) ∧ Below w.heap.size w w' := by
  have h := specGetText s i w hs
  rw [textRes_two] at h
  exact h

set_option maxRecDepth 100000 in
set_option maxHeartbeats 2000000 in
theorem l04Nums (s : ByteArray) (hs : s.size ≤ maxLen) (w : World) : Calls Tryd.prog 40 #[.string s, .int .i64 1, .int .i64 4] w fun e w' =>
    ∃ g cap, e = .returned (.tuple #[.slice (some ⟨g, 0, none⟩) 4 cap, .int .i64 (posN s 4)]) ∧ g < w'.heap.size ∧ (w'.cell? ⟨g, 0, none⟩ = some (.int .i64 (rdN s (posN s 0))) ∧ w'.cell? ⟨g, 1, none⟩ = some (.int .i64 (rdN s (posN s 1))) ∧ w'.cell? ⟨g, 2, none⟩ = some (.int .i64 (rdN s (posN s 2))) ∧ w'.cell? ⟨g, 3, none⟩ = some (.int .i64 (rdN s (posN s 3)))) ∧ Below w.heap.size w w' := by
  obtain ⟨i0, hi, hz0, hz1, hz2⟩ := info_parts infoInt
  have HG := hide (fun i w1 => specRd s i hs w1)
  clear hs
  go_enter Tryd.func40, Tryd.ntmps40
  go_wp2_with fail
  go_loopw [8, 9, 10] (fun v a k wr => ∃ j, j ≤ 4 ∧ k = .int .i64 (j : Nat) ∧ a = .int .i64 (posN s j) ∧ wr.ownsRow w.heap.size 3 1 v j (numsL s j) ∧ Below w.heap.size w wr) (fun _ _ k _ => 4 - (intOf k).toNat)
  case atStart => exact ⟨0, by omega, rfl, rfl, World.ownsRow_lit _ #[] 0 (Nat.le_refl _) (by decide) rfl, (Below.refl _ _).alloc (Nat.le_refl _) _⟩
  case round =>
    obtain ⟨j, hj, rfl, rfl, hown, hbel⟩ := hrel
    by_cases hlt : j < 4
    · have HN := hide (numsL_succ s j)
      have HP := hide (show posN s (j + 1) = rdE s (posN s j) from rfl)
      have hg := fun w1 => unhide HG (posN s j) w1
      generalize rdN s (posN s j) = x at *
      generalize rdE s (posN s j) = a' at *
      generalize posN s j = a at *
      have HGA := hide hg
      clear hg
      go_wp2_with fail
      refine (unhide HGA _).mono ?_
      rintro e w5 ⟨rfl, hb5⟩
      have hown5 := own_below hown hb5
      have hbel5 := hbel.trans (hb5.mono hbel.size)
      clear hb5 hown hbel
      go_wp2_with (at_builtin; refine wpList_append_own _ rfl _ _ 65 rfl w.heap.size 3 i0 (.int .i64 0) 1 8 Tryd.underlying65 hi hz0 hz1 hz2 rfl (by decide) _ _ _ rfl (hown5.alloc _) ⟨w5.heap.size, 0, none⟩ 1 1 [.int .i64 x] rfl rfl ?c1 ?c2 ?c3 ?c4 ?c5 ?_)
      case c1 => exact cell_one_new _ _ _
      case c2 => intro u hu; simp at hu; subst hu; rfl
      case c3 => unfold maxLen; omega
      case c4 => omega
      case c5 => have := hbel5.size; simp; omega
      intro v' w6 hown' hgrow _
      have hbel' := below_append hbel5 hown5 hgrow
      rw [← unhide HN] at hown'
      clear hgrow hown5 hbel5 HN
      go_wp2_with fail
      go_roundw
      case rel => exact ⟨j + 1, by omega, by go_num, by rw [unhide HP], hown', hbel'⟩
      case measure => simp [intOf]; omega
    · obtain rfl : j = 4 := by omega
      obtain ⟨g, cap, rfl, _, _⟩ := World.ownsRow.form hown (by omega)
      have hc := hide (hown.cells (g := g) rfl)
      have hlt := (hown.lt g rfl).2
      have HB := hide hbel
      clear hown hbel
      go_wp2_with fail
      exact bodyPost_ret (v := .tuple #[.slice (some ⟨g, 0, none⟩) 4 cap, .int .i64 (posN s 4)]) (by simp [results, Tryd.results40, go_sem]) rfl ⟨g, cap, rfl, hlt, ⟨unhide hc 0 _ rfl, unhide hc 1 _ rfl, unhide hc 2 _ rfl, unhide hc 3 _ rfl⟩, unhide HB⟩
end Go.Proofs.YtiinpdkgnflmeaaDoor
