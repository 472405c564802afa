/- Parts. -/
import Derived.Test.YtgkimogaghgjaaaPk11
import Derived.Test.YtgkimogaghgjaaaPk10
import Derived.Test.YtgkimogaghgjaaaPk12
import Derived.Test.YtgkimogaghgjaaaPk4
import Derived.Deep.RegionHeld
namespace Go.Proofs.Ytgkimogaghgjaaa
open Go.RowKit
open Mth

/-- An answer; what was told; what was given back. -/
structure An where
  o : Op5
  c : Int
structure Td where
  a : Int
  n : An
structure Gv where
  a : Int
  no : Int
abbrev encMg (x : Mg) : List Value := [.int .i64 x.K, .int .i64 x.F, .int .i64 x.T, .int .i64 x.I, .int .i64 x.L, .string x.k, .int .i64 x.N]
theorem encMg_length (x : Mg) : (encMg x).length = 7 := rfl
abbrev encAn (x : An) : List Value := [.int .i64 x.o.K, .int .i64 x.o.no, .string x.o.k, .int .i64 x.o.n, .int .i64 x.o.m.K, .int .i64 x.o.m.F, .int .i64 x.o.m.T, .int .i64 x.o.m.I, .int .i64 x.o.m.L, .string x.o.m.k, .int .i64 x.o.m.N, .int .i64 x.c]
theorem encAn_length (x : An) : (encAn x).length = 12 := rfl
abbrev anv (x : An) : Value := .agg #[.int .i64 x.o.K, .int .i64 x.o.no, .string x.o.k, .int .i64 x.o.n, .int .i64 x.o.m.K, .int .i64 x.o.m.F, .int .i64 x.o.m.T, .int .i64 x.o.m.I, .int .i64 x.o.m.L, .string x.o.m.k, .int .i64 x.o.m.N, .int .i64 x.c]
abbrev encTd (x : Td) : List Value := [.int .i64 x.a, .int .i64 x.n.o.K, .int .i64 x.n.o.no, .string x.n.o.k, .int .i64 x.n.o.n, .int .i64 x.n.o.m.K, .int .i64 x.n.o.m.F, .int .i64 x.n.o.m.T, .int .i64 x.n.o.m.I, .int .i64 x.n.o.m.L, .string x.n.o.m.k, .int .i64 x.n.o.m.N, .int .i64 x.n.c]
theorem encTd_length (x : Td) : (encTd x).length = 13 := rfl
abbrev tdv (x : Td) : Value := .agg #[.int .i64 x.a, .int .i64 x.n.o.K, .int .i64 x.n.o.no, .string x.n.o.k, .int .i64 x.n.o.n, .int .i64 x.n.o.m.K, .int .i64 x.n.o.m.F, .int .i64 x.n.o.m.T, .int .i64 x.n.o.m.I, .int .i64 x.n.o.m.L, .string x.n.o.m.k, .int .i64 x.n.o.m.N, .int .i64 x.n.c]
abbrev encGv (x : Gv) : List Value := [.int .i64 x.a, .int .i64 x.no]
theorem encGv_length (x : Gv) : (encGv x).length = 2 := rfl
abbrev gvv (x : Gv) : Value := .agg #[.int .i64 x.a, .int .i64 x.no]
theorem take_setW {α : Type} (l : List α) (z : α) (k : Nat) (hk : k < l.length) : (l.take k ++ List.replicate (l.length - k) z).set k l[k] = l.take (k + 1) ++ List.replicate (l.length - (k + 1)) z := by
  have hlen : (l.take k).length = k := by simp; omega
  rw [List.set_append_right _ _ (by omega), hlen, Nat.sub_self]
  have e : l.length - k = (l.length - (k + 1)) + 1 := by omega
  rw [e, List.replicate_succ, List.take_succ_eq_append_getElem hk, List.append_assoc]
  rfl
theorem GR.Blk.stepW {α : Type} {enc : α → List Value} {t : TypeId} {w w' : World} {g : Nat} {l : List α} (h : GR.Blk enc t w g l) (hb : Below w.heap.size w w') : GR.Blk enc t w' g l := by
  have hl := GR.Blk.lt h
  unfold GR.Blk at *
  rw [hb.block g hl]
  exact h
theorem szMsgQ (m : Mg) (z : Int) (w : World) (h0 : 0 ≤ z) (h1 : z ≤ 1048576) (h2 : m.k.size ≤ maxLen) : Calls Try.prog 77 #[mgv m, .int .i64 z] w fun e w' => ∃ r : Int, e = .returned (.int .i64 r) ∧ (r = -1 ∨ 0 ≤ r ∧ r ≤ z ∧ m.k.size ≤ 1048576) ∧ Below w.heap.size w w' := by
  refine (szMsgL m z w h0 h1 h2).mono ?_
  rintro e w1 ⟨rfl, hb⟩
  by_cases hc : z - m.k.size < 0
  · exact ⟨-1, by rw [if_pos hc], .inl rfl, hb⟩
  · exact ⟨z - m.k.size, by rw [if_neg hc], .inr ⟨by omega, by omega, by omega⟩, hb⟩
theorem eqMsgW (m : Mg) (w : World) : Calls Try.prog 89 #[mgv m, mgv m] w fun e w' => e = .returned (.bool true) ∧ Below w.heap.size w w' := by
  obtain ⟨mK, mF, mT, mI, mL, mk, mN⟩ := m
  go_enter Try.func89, Try.ntmps89
  go_wp2_with fail
  go_ret
  exact ⟨rfl, ((Below.refl _ _).alloc (Nat.le_refl _) _).alloc (by simp) _⟩
set_option maxRecDepth 100000 in
set_option maxHeartbeats 8000000 in
theorem toAnswer (x : An) (w : World) : Calls Try.prog 68 #[anv x] w fun e w' => e = .returned (anv x) ∧ Below w.heap.size w w' := by
  obtain ⟨o, ac⟩ := x
  have HT := hide (fun w1 => toOp o w1)
  obtain ⟨oK, ono, ok, on, ⟨mK, mF, mT, mI, mL, mk, mN⟩⟩ := o
  obtain ⟨hP0, hR0, hO0, hB0⟩ := allocsL3 w (.cells #[.int .i64 oK, .int .i64 ono, .string ok, .int .i64 on, .int .i64 mK, .int .i64 mF, .int .i64 mT, .int .i64 mI, .int .i64 mL, .string mk, .int .i64 mN, .int .i64 ac] 101) (.cells #[.int .i64 0, .int .i64 0, .string ⟨#[]⟩, .int .i64 0, .int .i64 0, .int .i64 0, .int .i64 0, .int .i64 0, .int .i64 0, .string ⟨#[]⟩, .int .i64 0, .int .i64 0] 110) (.cells #[.int .i64 0, .int .i64 0, .string ⟨#[]⟩, .int .i64 0, .int .i64 0, .int .i64 0, .int .i64 0, .int .i64 0, .int .i64 0, .string ⟨#[]⟩, .int .i64 0, .int .i64 0] 110)
  have hS0 : (((w.alloc (.cells #[.int .i64 oK, .int .i64 ono, .string ok, .int .i64 on, .int .i64 mK, .int .i64 mF, .int .i64 mT, .int .i64 mI, .int .i64 mL, .string mk, .int .i64 mN, .int .i64 ac] 101)).alloc (.cells #[.int .i64 0, .int .i64 0, .string ⟨#[]⟩, .int .i64 0, .int .i64 0, .int .i64 0, .int .i64 0, .int .i64 0, .int .i64 0, .string ⟨#[]⟩, .int .i64 0, .int .i64 0] 110)).alloc (.cells #[.int .i64 0, .int .i64 0, .string ⟨#[]⟩, .int .i64 0, .int .i64 0, .int .i64 0, .int .i64 0, .int .i64 0, .int .i64 0, .string ⟨#[]⟩, .int .i64 0, .int .i64 0] 110)).heap.size = w.heap.size + 3 := by simp
  go_enter Try.func68, Try.ntmps68
  go_upto_region 2 with fail
  generalize ((w.alloc (.cells #[.int .i64 oK, .int .i64 ono, .string ok, .int .i64 on, .int .i64 mK, .int .i64 mF, .int .i64 mT, .int .i64 mI, .int .i64 mL, .string mk, .int .i64 mN, .int .i64 ac] 101)).alloc (.cells #[.int .i64 0, .int .i64 0, .string ⟨#[]⟩, .int .i64 0, .int .i64 0, .int .i64 0, .int .i64 0, .int .i64 0, .int .i64 0, .string ⟨#[]⟩, .int .i64 0, .int .i64 0] 110)).alloc (.cells #[.int .i64 0, .int .i64 0, .string ⟨#[]⟩, .int .i64 0, .int .i64 0, .int .i64 0, .int .i64 0, .int .i64 0, .int .i64 0, .string ⟨#[]⟩, .int .i64 0, .int .i64 0] 110) = W0 at *
  have HP0 := hide hP0
  have HR0 := hide hR0
  have HO0 := hide hO0
  have HB0 := hide hB0
  have hs0 : w.heap.size + 3 ≤ W0.heap.size := Nat.le_of_eq hS0.symm
  clear hP0 hR0 hO0 hB0 hS0
  have p0 : W0.cell? ⟨w.heap.size, 0, none⟩ = some (.int .i64 oK) := cell_of_row _ _ 0 _ _ _ (unhide HP0)
  have p1 : W0.cell? ⟨w.heap.size, 1, none⟩ = some (.int .i64 ono) := cell_of_row _ _ 1 _ _ _ (unhide HP0)
  have p2 : W0.cell? ⟨w.heap.size, 2, none⟩ = some (.string ok) := cell_of_row _ _ 2 _ _ _ (unhide HP0)
  have p3 : W0.cell? ⟨w.heap.size, 3, none⟩ = some (.int .i64 on) := cell_of_row _ _ 3 _ _ _ (unhide HP0)
  have p4 : W0.cell? ⟨w.heap.size, 4, none⟩ = some (.int .i64 mK) := cell_of_row _ _ 4 _ _ _ (unhide HP0)
  have p5 : W0.cell? ⟨w.heap.size, 5, none⟩ = some (.int .i64 mF) := cell_of_row _ _ 5 _ _ _ (unhide HP0)
  have p6 : W0.cell? ⟨w.heap.size, 6, none⟩ = some (.int .i64 mT) := cell_of_row _ _ 6 _ _ _ (unhide HP0)
  have p7 : W0.cell? ⟨w.heap.size, 7, none⟩ = some (.int .i64 mI) := cell_of_row _ _ 7 _ _ _ (unhide HP0)
  have p8 : W0.cell? ⟨w.heap.size, 8, none⟩ = some (.int .i64 mL) := cell_of_row _ _ 8 _ _ _ (unhide HP0)
  have p9 : W0.cell? ⟨w.heap.size, 9, none⟩ = some (.string mk) := cell_of_row _ _ 9 _ _ _ (unhide HP0)
  have p10 : W0.cell? ⟨w.heap.size, 10, none⟩ = some (.int .i64 mN) := cell_of_row _ _ 10 _ _ _ (unhide HP0)
  have hpl := obj_lt (unhide HP0)
  go_wp2_with fail
  refine (unhide HT W0).mono ?_
  rintro e v0 ⟨rfl, hb⟩
  have HP0a := hide (obj_step (unhide HP0) hb)
  have HR0a := hide (obj_step (unhide HR0) hb)
  have HO0a := hide (obj_step (unhide HO0) hb)
  have HB0a := hide ((unhide HB0).trans (hb.mono (unhide HB0).size))
  have hs0a : w.heap.size + 3 ≤ v0.heap.size := Nat.le_trans hs0 hb.size
  clear hb hpl p0 p1 p2 p3 p4 p5 p6 p7 p8 p9 p10 HP0 HR0 HO0 HB0 hs0
  have o0 : v0.cell? ⟨w.heap.size + 1 + 1, 0, none⟩ = some (.int .i64 0) := cell_of_row _ _ 0 _ _ _ (unhide HO0a)
  have o1 : v0.cell? ⟨w.heap.size + 1 + 1, 1, none⟩ = some (.int .i64 0) := cell_of_row _ _ 1 _ _ _ (unhide HO0a)
  have o2 : v0.cell? ⟨w.heap.size + 1 + 1, 2, none⟩ = some (.string ⟨#[]⟩) := cell_of_row _ _ 2 _ _ _ (unhide HO0a)
  have o3 : v0.cell? ⟨w.heap.size + 1 + 1, 3, none⟩ = some (.int .i64 0) := cell_of_row _ _ 3 _ _ _ (unhide HO0a)
  have o4 : v0.cell? ⟨w.heap.size + 1 + 1, 4, none⟩ = some (.int .i64 0) := cell_of_row _ _ 4 _ _ _ (unhide HO0a)
  have o5 : v0.cell? ⟨w.heap.size + 1 + 1, 5, none⟩ = some (.int .i64 0) := cell_of_row _ _ 5 _ _ _ (unhide HO0a)
  have o6 : v0.cell? ⟨w.heap.size + 1 + 1, 6, none⟩ = some (.int .i64 0) := cell_of_row _ _ 6 _ _ _ (unhide HO0a)
  have o7 : v0.cell? ⟨w.heap.size + 1 + 1, 7, none⟩ = some (.int .i64 0) := cell_of_row _ _ 7 _ _ _ (unhide HO0a)
  have o8 : v0.cell? ⟨w.heap.size + 1 + 1, 8, none⟩ = some (.int .i64 0) := cell_of_row _ _ 8 _ _ _ (unhide HO0a)
  have o9 : v0.cell? ⟨w.heap.size + 1 + 1, 9, none⟩ = some (.string ⟨#[]⟩) := cell_of_row _ _ 9 _ _ _ (unhide HO0a)
  have o10 : v0.cell? ⟨w.heap.size + 1 + 1, 10, none⟩ = some (.int .i64 0) := cell_of_row _ _ 10 _ _ _ (unhide HO0a)
  have f0 := obj_free (unhide HO0a) 0
  have f1 := obj_free (unhide HO0a) 1
  have f2 := obj_free (unhide HO0a) 2
  have f3 := obj_free (unhide HO0a) 3
  have f4 := obj_free (unhide HO0a) 4
  have f5 := obj_free (unhide HO0a) 5
  have f6 := obj_free (unhide HO0a) 6
  have f7 := obj_free (unhide HO0a) 7
  have f8 := obj_free (unhide HO0a) 8
  have f9 := obj_free (unhide HO0a) 9
  have f10 := obj_free (unhide HO0a) 10
  go_upto_region 3 with fail
  refine wp_at (fun W1 hW => ?_)
  have hk : KeepsL [w.heap.size + 1 + 1] v0 W1 := by rw [hW]; exact setW_keeps [.int .i64 oK, .int .i64 ono, .string ok, .int .i64 on, .int .i64 mK, .int .i64 mF, .int .i64 mT, .int .i64 mI, .int .i64 mL, .string mk, .int .i64 mN] v0 0
  have HO1 : Hid (W1.heap[w.heap.size + 1 + 1]? = some (.cells #[.int .i64 oK, .int .i64 ono, .string ok, .int .i64 on, .int .i64 mK, .int .i64 mF, .int .i64 mT, .int .i64 mI, .int .i64 mL, .string mk, .int .i64 mN, .int .i64 0] 110 (0, 0))) := by rw [hW]; exact GR.setW_blk [.int .i64 oK, .int .i64 ono, .string ok, .int .i64 on, .int .i64 mK, .int .i64 mF, .int .i64 mT, .int .i64 mI, .int .i64 mL, .string mk, .int .i64 mN] (o := 0) (xs := [.int .i64 0, .int .i64 0, .string ⟨#[]⟩, .int .i64 0, .int .i64 0, .int .i64 0, .int .i64 0, .int .i64 0, .int .i64 0, .string ⟨#[]⟩, .int .i64 0, .int .i64 0]) (unhide HO0a)
  have HP1 := hide (hk.obj (unhide HP0a) (fun hx => by have h := List.mem_singleton.1 hx; omega))
  have HR1 := hide (hk.obj (unhide HR0a) (fun hx => by have h := List.mem_singleton.1 hx; omega))
  have HB1 := hide ((unhide HB0a).trans (hk.below (B := w.heap.size) (fun x hx => by have : x = w.heap.size + 1 + 1 := (by simpa using hx); omega) (by omega)))
  have hs1 : w.heap.size + 3 ≤ W1.heap.size := Nat.le_trans hs0a hk.size
  clear hW hk o0 o1 o2 o3 o4 o5 o6 o7 o8 o9 o10 f0 f1 f2 f3 f4 f5 f6 f7 f8 f9 f10 HP0a HR0a HO0a HB0a hs0a
  have p11 : W1.cell? ⟨w.heap.size, 11, none⟩ = some (.int .i64 ac) := cell_of_row _ _ 11 _ _ _ (unhide HP1)
  have o11 : W1.cell? ⟨w.heap.size + 1 + 1, 11, none⟩ = some (.int .i64 0) := cell_of_row _ _ 11 _ _ _ (unhide HO1)
  have f11 := obj_free (unhide HO1) 11
  go_upto_region 4 with fail
  refine wp_at (fun W2 hW => ?_)
  have hk : KeepsL [w.heap.size + 1 + 1] W1 W2 := by rw [hW]; exact setW_keeps [.int .i64 ac] W1 11
  have HO2 : Hid (W2.heap[w.heap.size + 1 + 1]? = some (.cells #[.int .i64 oK, .int .i64 ono, .string ok, .int .i64 on, .int .i64 mK, .int .i64 mF, .int .i64 mT, .int .i64 mI, .int .i64 mL, .string mk, .int .i64 mN, .int .i64 ac] 110 (0, 0))) := by rw [hW]; exact GR.setW_blk [.int .i64 ac] (o := 11) (xs := [.int .i64 oK, .int .i64 ono, .string ok, .int .i64 on, .int .i64 mK, .int .i64 mF, .int .i64 mT, .int .i64 mI, .int .i64 mL, .string mk, .int .i64 mN, .int .i64 0]) (unhide HO1)
  have HP2 := hide (hk.obj (unhide HP1) (fun hx => by have h := List.mem_singleton.1 hx; omega))
  have HR2 := hide (hk.obj (unhide HR1) (fun hx => by have h := List.mem_singleton.1 hx; omega))
  have HB2 := hide ((unhide HB1).trans (hk.below (B := w.heap.size) (fun x hx => by have : x = w.heap.size + 1 + 1 := (by simpa using hx); omega) (by omega)))
  have hs2 : w.heap.size + 3 ≤ W2.heap.size := Nat.le_trans hs1 hk.size
  clear hW hk o11 f11 HP1 HR1 HO1 HB1 hs1 p11
  have o0 : W2.cell? ⟨w.heap.size + 1 + 1, 0, none⟩ = some (.int .i64 oK) := cell_of_row _ _ 0 _ _ _ (unhide HO2)
  have o1 : W2.cell? ⟨w.heap.size + 1 + 1, 1, none⟩ = some (.int .i64 ono) := cell_of_row _ _ 1 _ _ _ (unhide HO2)
  have o2 : W2.cell? ⟨w.heap.size + 1 + 1, 2, none⟩ = some (.string ok) := cell_of_row _ _ 2 _ _ _ (unhide HO2)
  have o3 : W2.cell? ⟨w.heap.size + 1 + 1, 3, none⟩ = some (.int .i64 on) := cell_of_row _ _ 3 _ _ _ (unhide HO2)
  have o4 : W2.cell? ⟨w.heap.size + 1 + 1, 4, none⟩ = some (.int .i64 mK) := cell_of_row _ _ 4 _ _ _ (unhide HO2)
  have o5 : W2.cell? ⟨w.heap.size + 1 + 1, 5, none⟩ = some (.int .i64 mF) := cell_of_row _ _ 5 _ _ _ (unhide HO2)
  have o6 : W2.cell? ⟨w.heap.size + 1 + 1, 6, none⟩ = some (.int .i64 mT) := cell_of_row _ _ 6 _ _ _ (unhide HO2)
  have o7 : W2.cell? ⟨w.heap.size + 1 + 1, 7, none⟩ = some (.int .i64 mI) := cell_of_row _ _ 7 _ _ _ (unhide HO2)
  have o8 : W2.cell? ⟨w.heap.size + 1 + 1, 8, none⟩ = some (.int .i64 mL) := cell_of_row _ _ 8 _ _ _ (unhide HO2)
  have o9 : W2.cell? ⟨w.heap.size + 1 + 1, 9, none⟩ = some (.string mk) := cell_of_row _ _ 9 _ _ _ (unhide HO2)
  have o10 : W2.cell? ⟨w.heap.size + 1 + 1, 10, none⟩ = some (.int .i64 mN) := cell_of_row _ _ 10 _ _ _ (unhide HO2)
  have o11 : W2.cell? ⟨w.heap.size + 1 + 1, 11, none⟩ = some (.int .i64 ac) := cell_of_row _ _ 11 _ _ _ (unhide HO2)
  have r0 : W2.cell? ⟨w.heap.size + 1, 0, none⟩ = some (.int .i64 0) := cell_of_row _ _ 0 _ _ _ (unhide HR2)
  have r1 : W2.cell? ⟨w.heap.size + 1, 1, none⟩ = some (.int .i64 0) := cell_of_row _ _ 1 _ _ _ (unhide HR2)
  have r2 : W2.cell? ⟨w.heap.size + 1, 2, none⟩ = some (.string ⟨#[]⟩) := cell_of_row _ _ 2 _ _ _ (unhide HR2)
  have r3 : W2.cell? ⟨w.heap.size + 1, 3, none⟩ = some (.int .i64 0) := cell_of_row _ _ 3 _ _ _ (unhide HR2)
  have r4 : W2.cell? ⟨w.heap.size + 1, 4, none⟩ = some (.int .i64 0) := cell_of_row _ _ 4 _ _ _ (unhide HR2)
  have r5 : W2.cell? ⟨w.heap.size + 1, 5, none⟩ = some (.int .i64 0) := cell_of_row _ _ 5 _ _ _ (unhide HR2)
  have r6 : W2.cell? ⟨w.heap.size + 1, 6, none⟩ = some (.int .i64 0) := cell_of_row _ _ 6 _ _ _ (unhide HR2)
  have r7 : W2.cell? ⟨w.heap.size + 1, 7, none⟩ = some (.int .i64 0) := cell_of_row _ _ 7 _ _ _ (unhide HR2)
  have r8 : W2.cell? ⟨w.heap.size + 1, 8, none⟩ = some (.int .i64 0) := cell_of_row _ _ 8 _ _ _ (unhide HR2)
  have r9 : W2.cell? ⟨w.heap.size + 1, 9, none⟩ = some (.string ⟨#[]⟩) := cell_of_row _ _ 9 _ _ _ (unhide HR2)
  have r10 : W2.cell? ⟨w.heap.size + 1, 10, none⟩ = some (.int .i64 0) := cell_of_row _ _ 10 _ _ _ (unhide HR2)
  have r11 : W2.cell? ⟨w.heap.size + 1, 11, none⟩ = some (.int .i64 0) := cell_of_row _ _ 11 _ _ _ (unhide HR2)
  have f0 := obj_free (unhide HR2) 0
  have f1 := obj_free (unhide HR2) 1
  have f2 := obj_free (unhide HR2) 2
  have f3 := obj_free (unhide HR2) 3
  have f4 := obj_free (unhide HR2) 4
  have f5 := obj_free (unhide HR2) 5
  have f6 := obj_free (unhide HR2) 6
  have f7 := obj_free (unhide HR2) 7
  have f8 := obj_free (unhide HR2) 8
  have f9 := obj_free (unhide HR2) 9
  have f10 := obj_free (unhide HR2) 10
  have f11 := obj_free (unhide HR2) 11
  have hrl := obj_lt (unhide HR2)
  go_wp2_with fail
  refine bodyPost_atN (fun W' hW' => ?_)
  have hk : KeepsL [w.heap.size + 1] W2 W' := by rw [hW']; exact setW_keeps [.int .i64 oK, .int .i64 ono, .string ok, .int .i64 on, .int .i64 mK, .int .i64 mF, .int .i64 mT, .int .i64 mI, .int .i64 mL, .string mk, .int .i64 mN, .int .i64 ac] W2 0
  have hX : W'.heap[w.heap.size + 1]? = some (.cells #[.int .i64 oK, .int .i64 ono, .string ok, .int .i64 on, .int .i64 mK, .int .i64 mF, .int .i64 mT, .int .i64 mI, .int .i64 mL, .string mk, .int .i64 mN, .int .i64 ac] 110 (0, 0)) := by rw [hW']; exact GR.setW_blk [.int .i64 oK, .int .i64 ono, .string ok, .int .i64 on, .int .i64 mK, .int .i64 mF, .int .i64 mT, .int .i64 mI, .int .i64 mL, .string mk, .int .i64 mN, .int .i64 ac] (o := 0) (xs := [.int .i64 0, .int .i64 0, .string ⟨#[]⟩, .int .i64 0, .int .i64 0, .int .i64 0, .int .i64 0, .int .i64 0, .int .i64 0, .string ⟨#[]⟩, .int .i64 0, .int .i64 0]) (unhide HR2)
  have hBB := (unhide HB2).trans (hk.below (B := w.heap.size) (fun x hx => by have : x = w.heap.size + 1 := (by simpa using hx); omega) (by omega))
  have x0 : W'.cell? ⟨w.heap.size + 1, 0, none⟩ = some (.int .i64 oK) := cell_of_row _ _ 0 _ _ _ hX
  have x1 : W'.cell? ⟨w.heap.size + 1, 1, none⟩ = some (.int .i64 ono) := cell_of_row _ _ 1 _ _ _ hX
  have x2 : W'.cell? ⟨w.heap.size + 1, 2, none⟩ = some (.string ok) := cell_of_row _ _ 2 _ _ _ hX
  have x3 : W'.cell? ⟨w.heap.size + 1, 3, none⟩ = some (.int .i64 on) := cell_of_row _ _ 3 _ _ _ hX
  have x4 : W'.cell? ⟨w.heap.size + 1, 4, none⟩ = some (.int .i64 mK) := cell_of_row _ _ 4 _ _ _ hX
  have x5 : W'.cell? ⟨w.heap.size + 1, 5, none⟩ = some (.int .i64 mF) := cell_of_row _ _ 5 _ _ _ hX
  have x6 : W'.cell? ⟨w.heap.size + 1, 6, none⟩ = some (.int .i64 mT) := cell_of_row _ _ 6 _ _ _ hX
  have x7 : W'.cell? ⟨w.heap.size + 1, 7, none⟩ = some (.int .i64 mI) := cell_of_row _ _ 7 _ _ _ hX
  have x8 : W'.cell? ⟨w.heap.size + 1, 8, none⟩ = some (.int .i64 mL) := cell_of_row _ _ 8 _ _ _ hX
  have x9 : W'.cell? ⟨w.heap.size + 1, 9, none⟩ = some (.string mk) := cell_of_row _ _ 9 _ _ _ hX
  have x10 : W'.cell? ⟨w.heap.size + 1, 10, none⟩ = some (.int .i64 mN) := cell_of_row _ _ 10 _ _ _ hX
  have x11 : W'.cell? ⟨w.heap.size + 1, 11, none⟩ = some (.int .i64 ac) := cell_of_row _ _ 11 _ _ _ hX
  exact bodyPost_ret (v := .agg #[.int .i64 oK, .int .i64 ono, .string ok, .int .i64 on, .int .i64 mK, .int .i64 mF, .int .i64 mT, .int .i64 mI, .int .i64 mL, .string mk, .int .i64 mN, .int .i64 ac]) (by simp [results, Try.results68, go_sem, x0, x1, x2, x3, x4, x5, x6, x7, x8, x9, x10, x11]) rfl ⟨rfl, hBB⟩
set_option maxRecDepth 100000 in
set_option maxHeartbeats 8000000 in
theorem toTold (x : Td) (w : World) : Calls Try.prog 45 #[tdv x] w fun e w' => e = .returned (tdv x) ∧ Below w.heap.size w w' := by
  obtain ⟨ta, n⟩ := x
  have HT := hide (fun w1 => toAnswer n w1)
  obtain ⟨⟨oK, ono, ok, on, ⟨mK, mF, mT, mI, mL, mk, mN⟩⟩, ac⟩ := n
  obtain ⟨hP0, hR0, hO0, hB0⟩ := allocsL3 w (.cells #[.int .i64 ta, .int .i64 oK, .int .i64 ono, .string ok, .int .i64 on, .int .i64 mK, .int .i64 mF, .int .i64 mT, .int .i64 mI, .int .i64 mL, .string mk, .int .i64 mN, .int .i64 ac] 103) (.cells #[.int .i64 0, .int .i64 0, .int .i64 0, .string ⟨#[]⟩, .int .i64 0, .int .i64 0, .int .i64 0, .int .i64 0, .int .i64 0, .int .i64 0, .string ⟨#[]⟩, .int .i64 0, .int .i64 0] 112) (.cells #[.int .i64 0, .int .i64 0, .int .i64 0, .string ⟨#[]⟩, .int .i64 0, .int .i64 0, .int .i64 0, .int .i64 0, .int .i64 0, .int .i64 0, .string ⟨#[]⟩, .int .i64 0, .int .i64 0] 112)
  have hS0 : (((w.alloc (.cells #[.int .i64 ta, .int .i64 oK, .int .i64 ono, .string ok, .int .i64 on, .int .i64 mK, .int .i64 mF, .int .i64 mT, .int .i64 mI, .int .i64 mL, .string mk, .int .i64 mN, .int .i64 ac] 103)).alloc (.cells #[.int .i64 0, .int .i64 0, .int .i64 0, .string ⟨#[]⟩, .int .i64 0, .int .i64 0, .int .i64 0, .int .i64 0, .int .i64 0, .int .i64 0, .string ⟨#[]⟩, .int .i64 0, .int .i64 0] 112)).alloc (.cells #[.int .i64 0, .int .i64 0, .int .i64 0, .string ⟨#[]⟩, .int .i64 0, .int .i64 0, .int .i64 0, .int .i64 0, .int .i64 0, .int .i64 0, .string ⟨#[]⟩, .int .i64 0, .int .i64 0] 112)).heap.size = w.heap.size + 3 := by simp
  go_enter Try.func45, Try.ntmps45
  go_upto_region 2 with fail
  generalize ((w.alloc (.cells #[.int .i64 ta, .int .i64 oK, .int .i64 ono, .string ok, .int .i64 on, .int .i64 mK, .int .i64 mF, .int .i64 mT, .int .i64 mI, .int .i64 mL, .string mk, .int .i64 mN, .int .i64 ac] 103)).alloc (.cells #[.int .i64 0, .int .i64 0, .int .i64 0, .string ⟨#[]⟩, .int .i64 0, .int .i64 0, .int .i64 0, .int .i64 0, .int .i64 0, .int .i64 0, .string ⟨#[]⟩, .int .i64 0, .int .i64 0] 112)).alloc (.cells #[.int .i64 0, .int .i64 0, .int .i64 0, .string ⟨#[]⟩, .int .i64 0, .int .i64 0, .int .i64 0, .int .i64 0, .int .i64 0, .int .i64 0, .string ⟨#[]⟩, .int .i64 0, .int .i64 0] 112) = W0 at *
  have HP0 := hide hP0
  have HR0 := hide hR0
  have HO0 := hide hO0
  have HB0 := hide hB0
  have hs0 : w.heap.size + 3 ≤ W0.heap.size := Nat.le_of_eq hS0.symm
  clear hP0 hR0 hO0 hB0 hS0
  have p0 : W0.cell? ⟨w.heap.size, 0, none⟩ = some (.int .i64 ta) := cell_of_row _ _ 0 _ _ _ (unhide HP0)
  have o0 : W0.cell? ⟨w.heap.size + 1 + 1, 0, none⟩ = some (.int .i64 0) := cell_of_row _ _ 0 _ _ _ (unhide HO0)
  have f0 := obj_free (unhide HO0) 0
  go_upto_region 3 with fail
  refine wp_at (fun W1 hW => ?_)
  have hk : KeepsL [w.heap.size + 1 + 1] W0 W1 := by rw [hW]; exact setW_keeps [.int .i64 ta] W0 0
  have HO1 : Hid (W1.heap[w.heap.size + 1 + 1]? = some (.cells #[.int .i64 ta, .int .i64 0, .int .i64 0, .string ⟨#[]⟩, .int .i64 0, .int .i64 0, .int .i64 0, .int .i64 0, .int .i64 0, .int .i64 0, .string ⟨#[]⟩, .int .i64 0, .int .i64 0] 112 (0, 0))) := by rw [hW]; exact GR.setW_blk [.int .i64 ta] (o := 0) (xs := [.int .i64 0, .int .i64 0, .int .i64 0, .string ⟨#[]⟩, .int .i64 0, .int .i64 0, .int .i64 0, .int .i64 0, .int .i64 0, .int .i64 0, .string ⟨#[]⟩, .int .i64 0, .int .i64 0]) (unhide HO0)
  have HP1 := hide (hk.obj (unhide HP0) (fun hx => by have h := List.mem_singleton.1 hx; omega))
  have HR1 := hide (hk.obj (unhide HR0) (fun hx => by have h := List.mem_singleton.1 hx; omega))
  have HB1 := hide ((unhide HB0).trans (hk.below (B := w.heap.size) (fun x hx => by have : x = w.heap.size + 1 + 1 := (by simpa using hx); omega) (by omega)))
  have hs1 : w.heap.size + 3 ≤ W1.heap.size := Nat.le_trans hs0 hk.size
  clear hW hk o0 f0 HP0 HR0 HO0 HB0 hs0 p0
  have p1 : W1.cell? ⟨w.heap.size, 1, none⟩ = some (.int .i64 oK) := cell_of_row _ _ 1 _ _ _ (unhide HP1)
  have p2 : W1.cell? ⟨w.heap.size, 2, none⟩ = some (.int .i64 ono) := cell_of_row _ _ 2 _ _ _ (unhide HP1)
  have p3 : W1.cell? ⟨w.heap.size, 3, none⟩ = some (.string ok) := cell_of_row _ _ 3 _ _ _ (unhide HP1)
  have p4 : W1.cell? ⟨w.heap.size, 4, none⟩ = some (.int .i64 on) := cell_of_row _ _ 4 _ _ _ (unhide HP1)
  have p5 : W1.cell? ⟨w.heap.size, 5, none⟩ = some (.int .i64 mK) := cell_of_row _ _ 5 _ _ _ (unhide HP1)
  have p6 : W1.cell? ⟨w.heap.size, 6, none⟩ = some (.int .i64 mF) := cell_of_row _ _ 6 _ _ _ (unhide HP1)
  have p7 : W1.cell? ⟨w.heap.size, 7, none⟩ = some (.int .i64 mT) := cell_of_row _ _ 7 _ _ _ (unhide HP1)
  have p8 : W1.cell? ⟨w.heap.size, 8, none⟩ = some (.int .i64 mI) := cell_of_row _ _ 8 _ _ _ (unhide HP1)
  have p9 : W1.cell? ⟨w.heap.size, 9, none⟩ = some (.int .i64 mL) := cell_of_row _ _ 9 _ _ _ (unhide HP1)
  have p10 : W1.cell? ⟨w.heap.size, 10, none⟩ = some (.string mk) := cell_of_row _ _ 10 _ _ _ (unhide HP1)
  have p11 : W1.cell? ⟨w.heap.size, 11, none⟩ = some (.int .i64 mN) := cell_of_row _ _ 11 _ _ _ (unhide HP1)
  have p12 : W1.cell? ⟨w.heap.size, 12, none⟩ = some (.int .i64 ac) := cell_of_row _ _ 12 _ _ _ (unhide HP1)
  have hpl := obj_lt (unhide HP1)
  go_wp2_with fail
  refine (unhide HT W1).mono ?_
  rintro e v1 ⟨rfl, hb⟩
  have HP1a := hide (obj_step (unhide HP1) hb)
  have HR1a := hide (obj_step (unhide HR1) hb)
  have HO1a := hide (obj_step (unhide HO1) hb)
  have HB1a := hide ((unhide HB1).trans (hb.mono (unhide HB1).size))
  have hs1a : w.heap.size + 3 ≤ v1.heap.size := Nat.le_trans hs1 hb.size
  clear hb hpl p1 p2 p3 p4 p5 p6 p7 p8 p9 p10 p11 p12 HP1 HR1 HO1 HB1 hs1
  have o1 : v1.cell? ⟨w.heap.size + 1 + 1, 1, none⟩ = some (.int .i64 0) := cell_of_row _ _ 1 _ _ _ (unhide HO1a)
  have o2 : v1.cell? ⟨w.heap.size + 1 + 1, 2, none⟩ = some (.int .i64 0) := cell_of_row _ _ 2 _ _ _ (unhide HO1a)
  have o3 : v1.cell? ⟨w.heap.size + 1 + 1, 3, none⟩ = some (.string ⟨#[]⟩) := cell_of_row _ _ 3 _ _ _ (unhide HO1a)
  have o4 : v1.cell? ⟨w.heap.size + 1 + 1, 4, none⟩ = some (.int .i64 0) := cell_of_row _ _ 4 _ _ _ (unhide HO1a)
  have o5 : v1.cell? ⟨w.heap.size + 1 + 1, 5, none⟩ = some (.int .i64 0) := cell_of_row _ _ 5 _ _ _ (unhide HO1a)
  have o6 : v1.cell? ⟨w.heap.size + 1 + 1, 6, none⟩ = some (.int .i64 0) := cell_of_row _ _ 6 _ _ _ (unhide HO1a)
  have o7 : v1.cell? ⟨w.heap.size + 1 + 1, 7, none⟩ = some (.int .i64 0) := cell_of_row _ _ 7 _ _ _ (unhide HO1a)
  have o8 : v1.cell? ⟨w.heap.size + 1 + 1, 8, none⟩ = some (.int .i64 0) := cell_of_row _ _ 8 _ _ _ (unhide HO1a)
  have o9 : v1.cell? ⟨w.heap.size + 1 + 1, 9, none⟩ = some (.int .i64 0) := cell_of_row _ _ 9 _ _ _ (unhide HO1a)
  have o10 : v1.cell? ⟨w.heap.size + 1 + 1, 10, none⟩ = some (.string ⟨#[]⟩) := cell_of_row _ _ 10 _ _ _ (unhide HO1a)
  have o11 : v1.cell? ⟨w.heap.size + 1 + 1, 11, none⟩ = some (.int .i64 0) := cell_of_row _ _ 11 _ _ _ (unhide HO1a)
  have o12 : v1.cell? ⟨w.heap.size + 1 + 1, 12, none⟩ = some (.int .i64 0) := cell_of_row _ _ 12 _ _ _ (unhide HO1a)
  have f1 := obj_free (unhide HO1a) 1
  have f2 := obj_free (unhide HO1a) 2
  have f3 := obj_free (unhide HO1a) 3
  have f4 := obj_free (unhide HO1a) 4
  have f5 := obj_free (unhide HO1a) 5
  have f6 := obj_free (unhide HO1a) 6
  have f7 := obj_free (unhide HO1a) 7
  have f8 := obj_free (unhide HO1a) 8
  have f9 := obj_free (unhide HO1a) 9
  have f10 := obj_free (unhide HO1a) 10
  have f11 := obj_free (unhide HO1a) 11
  have f12 := obj_free (unhide HO1a) 12
  go_upto_region 4 with fail
  refine wp_at (fun W2 hW => ?_)
  have hk : KeepsL [w.heap.size + 1 + 1] v1 W2 := by rw [hW]; exact setW_keeps [.int .i64 oK, .int .i64 ono, .string ok, .int .i64 on, .int .i64 mK, .int .i64 mF, .int .i64 mT, .int .i64 mI, .int .i64 mL, .string mk, .int .i64 mN, .int .i64 ac] v1 1
  have HO2 : Hid (W2.heap[w.heap.size + 1 + 1]? = some (.cells #[.int .i64 ta, .int .i64 oK, .int .i64 ono, .string ok, .int .i64 on, .int .i64 mK, .int .i64 mF, .int .i64 mT, .int .i64 mI, .int .i64 mL, .string mk, .int .i64 mN, .int .i64 ac] 112 (0, 0))) := by rw [hW]; exact GR.setW_blk [.int .i64 oK, .int .i64 ono, .string ok, .int .i64 on, .int .i64 mK, .int .i64 mF, .int .i64 mT, .int .i64 mI, .int .i64 mL, .string mk, .int .i64 mN, .int .i64 ac] (o := 1) (xs := [.int .i64 ta, .int .i64 0, .int .i64 0, .string ⟨#[]⟩, .int .i64 0, .int .i64 0, .int .i64 0, .int .i64 0, .int .i64 0, .int .i64 0, .string ⟨#[]⟩, .int .i64 0, .int .i64 0]) (unhide HO1a)
  have HP2 := hide (hk.obj (unhide HP1a) (fun hx => by have h := List.mem_singleton.1 hx; omega))
  have HR2 := hide (hk.obj (unhide HR1a) (fun hx => by have h := List.mem_singleton.1 hx; omega))
  have HB2 := hide ((unhide HB1a).trans (hk.below (B := w.heap.size) (fun x hx => by have : x = w.heap.size + 1 + 1 := (by simpa using hx); omega) (by omega)))
  have hs2 : w.heap.size + 3 ≤ W2.heap.size := Nat.le_trans hs1a hk.size
  clear hW hk o1 o2 o3 o4 o5 o6 o7 o8 o9 o10 o11 o12 f1 f2 f3 f4 f5 f6 f7 f8 f9 f10 f11 f12 HP1a HR1a HO1a HB1a hs1a
  have o0 : W2.cell? ⟨w.heap.size + 1 + 1, 0, none⟩ = some (.int .i64 ta) := cell_of_row _ _ 0 _ _ _ (unhide HO2)
  have o1 : W2.cell? ⟨w.heap.size + 1 + 1, 1, none⟩ = some (.int .i64 oK) := cell_of_row _ _ 1 _ _ _ (unhide HO2)
  have o2 : W2.cell? ⟨w.heap.size + 1 + 1, 2, none⟩ = some (.int .i64 ono) := cell_of_row _ _ 2 _ _ _ (unhide HO2)
  have o3 : W2.cell? ⟨w.heap.size + 1 + 1, 3, none⟩ = some (.string ok) := cell_of_row _ _ 3 _ _ _ (unhide HO2)
  have o4 : W2.cell? ⟨w.heap.size + 1 + 1, 4, none⟩ = some (.int .i64 on) := cell_of_row _ _ 4 _ _ _ (unhide HO2)
  have o5 : W2.cell? ⟨w.heap.size + 1 + 1, 5, none⟩ = some (.int .i64 mK) := cell_of_row _ _ 5 _ _ _ (unhide HO2)
  have o6 : W2.cell? ⟨w.heap.size + 1 + 1, 6, none⟩ = some (.int .i64 mF) := cell_of_row _ _ 6 _ _ _ (unhide HO2)
  have o7 : W2.cell? ⟨w.heap.size + 1 + 1, 7, none⟩ = some (.int .i64 mT) := cell_of_row _ _ 7 _ _ _ (unhide HO2)
  have o8 : W2.cell? ⟨w.heap.size + 1 + 1, 8, none⟩ = some (.int .i64 mI) := cell_of_row _ _ 8 _ _ _ (unhide HO2)
  have o9 : W2.cell? ⟨w.heap.size + 1 + 1, 9, none⟩ = some (.int .i64 mL) := cell_of_row _ _ 9 _ _ _ (unhide HO2)
  have o10 : W2.cell? ⟨w.heap.size + 1 + 1, 10, none⟩ = some (.string mk) := cell_of_row _ _ 10 _ _ _ (unhide HO2)
  have o11 : W2.cell? ⟨w.heap.size + 1 + 1, 11, none⟩ = some (.int .i64 mN) := cell_of_row _ _ 11 _ _ _ (unhide HO2)
  have o12 : W2.cell? ⟨w.heap.size + 1 + 1, 12, none⟩ = some (.int .i64 ac) := cell_of_row _ _ 12 _ _ _ (unhide HO2)
  have r0 : W2.cell? ⟨w.heap.size + 1, 0, none⟩ = some (.int .i64 0) := cell_of_row _ _ 0 _ _ _ (unhide HR2)
  have r1 : W2.cell? ⟨w.heap.size + 1, 1, none⟩ = some (.int .i64 0) := cell_of_row _ _ 1 _ _ _ (unhide HR2)
  have r2 : W2.cell? ⟨w.heap.size + 1, 2, none⟩ = some (.int .i64 0) := cell_of_row _ _ 2 _ _ _ (unhide HR2)
  have r3 : W2.cell? ⟨w.heap.size + 1, 3, none⟩ = some (.string ⟨#[]⟩) := cell_of_row _ _ 3 _ _ _ (unhide HR2)
  have r4 : W2.cell? ⟨w.heap.size + 1, 4, none⟩ = some (.int .i64 0) := cell_of_row _ _ 4 _ _ _ (unhide HR2)
  have r5 : W2.cell? ⟨w.heap.size + 1, 5, none⟩ = some (.int .i64 0) := cell_of_row _ _ 5 _ _ _ (unhide HR2)
  have r6 : W2.cell? ⟨w.heap.size + 1, 6, none⟩ = some (.int .i64 0) := cell_of_row _ _ 6 _ _ _ (unhide HR2)
  have r7 : W2.cell? ⟨w.heap.size + 1, 7, none⟩ = some (.int .i64 0) := cell_of_row _ _ 7 _ _ _ (unhide HR2)
  have r8 : W2.cell? ⟨w.heap.size + 1, 8, none⟩ = some (.int .i64 0) := cell_of_row _ _ 8 _ _ _ (unhide HR2)
  have r9 : W2.cell? ⟨w.heap.size + 1, 9, none⟩ = some (.int .i64 0) := cell_of_row _ _ 9 _ _ _ (unhide HR2)
  have r10 : W2.cell? ⟨w.heap.size + 1, 10, none⟩ = some (.string ⟨#[]⟩) := cell_of_row _ _ 10 _ _ _ (unhide HR2)
  have r11 : W2.cell? ⟨w.heap.size + 1, 11, none⟩ = some (.int .i64 0) := cell_of_row _ _ 11 _ _ _ (unhide HR2)
  have r12 : W2.cell? ⟨w.heap.size + 1, 12, none⟩ = some (.int .i64 0) := cell_of_row _ _ 12 _ _ _ (unhide HR2)
  have f0 := obj_free (unhide HR2) 0
  have f1 := obj_free (unhide HR2) 1
  have f2 := obj_free (unhide HR2) 2
  have f3 := obj_free (unhide HR2) 3
  have f4 := obj_free (unhide HR2) 4
  have f5 := obj_free (unhide HR2) 5
  have f6 := obj_free (unhide HR2) 6
  have f7 := obj_free (unhide HR2) 7
  have f8 := obj_free (unhide HR2) 8
  have f9 := obj_free (unhide HR2) 9
  have f10 := obj_free (unhide HR2) 10
  have f11 := obj_free (unhide HR2) 11
  have f12 := obj_free (unhide HR2) 12
  have hrl := obj_lt (unhide HR2)
  go_wp2_with fail
  refine bodyPost_atN (fun W' hW' => ?_)
  have hk : KeepsL [w.heap.size + 1] W2 W' := by rw [hW']; exact setW_keeps [.int .i64 ta, .int .i64 oK, .int .i64 ono, .string ok, .int .i64 on, .int .i64 mK, .int .i64 mF, .int .i64 mT, .int .i64 mI, .int .i64 mL, .string mk, .int .i64 mN, .int .i64 ac] W2 0
  have hX : W'.heap[w.heap.size + 1]? = some (.cells #[.int .i64 ta, .int .i64 oK, .int .i64 ono, .string ok, .int .i64 on, .int .i64 mK, .int .i64 mF, .int .i64 mT, .int .i64 mI, .int .i64 mL, .string mk, .int .i64 mN, .int .i64 ac] 112 (0, 0)) := by rw [hW']; exact GR.setW_blk [.int .i64 ta, .int .i64 oK, .int .i64 ono, .string ok, .int .i64 on, .int .i64 mK, .int .i64 mF, .int .i64 mT, .int .i64 mI, .int .i64 mL, .string mk, .int .i64 mN, .int .i64 ac] (o := 0) (xs := [.int .i64 0, .int .i64 0, .int .i64 0, .string ⟨#[]⟩, .int .i64 0, .int .i64 0, .int .i64 0, .int .i64 0, .int .i64 0, .int .i64 0, .string ⟨#[]⟩, .int .i64 0, .int .i64 0]) (unhide HR2)
  have hBB := (unhide HB2).trans (hk.below (B := w.heap.size) (fun x hx => by have : x = w.heap.size + 1 := (by simpa using hx); omega) (by omega))
  have x0 : W'.cell? ⟨w.heap.size + 1, 0, none⟩ = some (.int .i64 ta) := cell_of_row _ _ 0 _ _ _ hX
  have x1 : W'.cell? ⟨w.heap.size + 1, 1, none⟩ = some (.int .i64 oK) := cell_of_row _ _ 1 _ _ _ hX
  have x2 : W'.cell? ⟨w.heap.size + 1, 2, none⟩ = some (.int .i64 ono) := cell_of_row _ _ 2 _ _ _ hX
  have x3 : W'.cell? ⟨w.heap.size + 1, 3, none⟩ = some (.string ok) := cell_of_row _ _ 3 _ _ _ hX
  have x4 : W'.cell? ⟨w.heap.size + 1, 4, none⟩ = some (.int .i64 on) := cell_of_row _ _ 4 _ _ _ hX
  have x5 : W'.cell? ⟨w.heap.size + 1, 5, none⟩ = some (.int .i64 mK) := cell_of_row _ _ 5 _ _ _ hX
  have x6 : W'.cell? ⟨w.heap.size + 1, 6, none⟩ = some (.int .i64 mF) := cell_of_row _ _ 6 _ _ _ hX
  have x7 : W'.cell? ⟨w.heap.size + 1, 7, none⟩ = some (.int .i64 mT) := cell_of_row _ _ 7 _ _ _ hX
  have x8 : W'.cell? ⟨w.heap.size + 1, 8, none⟩ = some (.int .i64 mI) := cell_of_row _ _ 8 _ _ _ hX
  have x9 : W'.cell? ⟨w.heap.size + 1, 9, none⟩ = some (.int .i64 mL) := cell_of_row _ _ 9 _ _ _ hX
  have x10 : W'.cell? ⟨w.heap.size + 1, 10, none⟩ = some (.string mk) := cell_of_row _ _ 10 _ _ _ hX
  have x11 : W'.cell? ⟨w.heap.size + 1, 11, none⟩ = some (.int .i64 mN) := cell_of_row _ _ 11 _ _ _ hX
  have x12 : W'.cell? ⟨w.heap.size + 1, 12, none⟩ = some (.int .i64 ac) := cell_of_row _ _ 12 _ _ _ hX
  exact bodyPost_ret (v := .agg #[.int .i64 ta, .int .i64 oK, .int .i64 ono, .string ok, .int .i64 on, .int .i64 mK, .int .i64 mF, .int .i64 mT, .int .i64 mI, .int .i64 mL, .string mk, .int .i64 mN, .int .i64 ac]) (by simp [results, Try.results45, go_sem, x0, x1, x2, x3, x4, x5, x6, x7, x8, x9, x10, x11, x12]) rfl ⟨rfl, hBB⟩
set_option maxRecDepth 100000 in
theorem toGiven (x : Gv) (w : World) : Calls Try.prog 46 #[gvv x] w fun e w' => e = .returned (gvv x) ∧ Below w.heap.size w w' := by
  obtain ⟨ga, gn⟩ := x
  go_enter Try.func46, Try.ntmps46
  go_wp2_with fail
  refine bodyPost_ret (v := .agg #[.int .i64 ga, .int .i64 gn]) (by simp [results, Try.results46, go_sem]) rfl ⟨rfl, ?_⟩
  exact (((Below.refl _ _).alloc (Nat.le_refl _) _).alloc (by simp) _).alloc (by simp; omega) _
set_option maxRecDepth 100000 in
theorem eqGivenW (x : Gv) (w : World) : Calls Try.prog 51 #[gvv x, gvv x] w fun e w' => e = .returned (.bool true) ∧ Below w.heap.size w w' := by
  obtain ⟨ga, gn⟩ := x
  go_enter Try.func51, Try.ntmps51
  go_wp2_with fail
  go_ret
  exact ⟨rfl, ((Below.refl _ _).alloc (Nat.le_refl _) _).alloc (by simp) _⟩
set_option maxRecDepth 100000 in
set_option maxHeartbeats 2000000 in
theorem eqOpW (o : Op5) (w : World) : Calls Try.prog 90 #[opw o, opw o] w fun e w' => e = .returned (.bool true) ∧ Below w.heap.size w w' := by
  obtain ⟨K, no, k, n, m⟩ := o
  have HQ := hide (fun w1 => eqMsgW m w1)
  obtain ⟨mK, mF, mT, mI, mL, mk, mN⟩ := m
  go_enter Try.func90, Try.ntmps90
  go_wp2_with fail
  refine (unhide HQ _).mono ?_
  rintro e w1 ⟨rfl, hb1⟩
  have hB := ((below_one w _).trans ((below_one (w.alloc _) _).mono (by simp))).trans (hb1.mono (by simp; omega))
  clear hb1
  go_wp2_with fail
  go_ret
  exact ⟨rfl, hB⟩
set_option maxRecDepth 100000 in
set_option maxHeartbeats 2000000 in
theorem eqAnswerW (x : An) (w : World) : Calls Try.prog 72 #[anv x, anv x] w fun e w' => e = .returned (.bool true) ∧ Below w.heap.size w w' := by
  have HQ := hide (fun w1 => eqOpW x.o w1)
  obtain ⟨⟨oK, ono, ok, on, ⟨mK, mF, mT, mI, mL, mk, mN⟩⟩, ac⟩ := x
  have hB0 := (below_one w (.cells #[.int .i64 oK, .int .i64 ono, .string ok, .int .i64 on, .int .i64 mK, .int .i64 mF, .int .i64 mT, .int .i64 mI, .int .i64 mL, .string mk, .int .i64 mN, .int .i64 ac] 110)).trans ((below_one (w.alloc (.cells #[.int .i64 oK, .int .i64 ono, .string ok, .int .i64 on, .int .i64 mK, .int .i64 mF, .int .i64 mT, .int .i64 mI, .int .i64 mL, .string mk, .int .i64 mN, .int .i64 ac] 110)) (.cells #[.int .i64 oK, .int .i64 ono, .string ok, .int .i64 on, .int .i64 mK, .int .i64 mF, .int .i64 mT, .int .i64 mI, .int .i64 mL, .string mk, .int .i64 mN, .int .i64 ac] 110)).mono (by simp))
  have HB0 := hide hB0
  have h1 := obj_step (heap_alloc_new w (.cells #[.int .i64 oK, .int .i64 ono, .string ok, .int .i64 on, .int .i64 mK, .int .i64 mF, .int .i64 mT, .int .i64 mI, .int .i64 mL, .string mk, .int .i64 mN, .int .i64 ac] 110)) (below_one (w.alloc (.cells #[.int .i64 oK, .int .i64 ono, .string ok, .int .i64 on, .int .i64 mK, .int .i64 mF, .int .i64 mT, .int .i64 mI, .int .i64 mL, .string mk, .int .i64 mN, .int .i64 ac] 110)) (.cells #[.int .i64 oK, .int .i64 ono, .string ok, .int .i64 on, .int .i64 mK, .int .i64 mF, .int .i64 mT, .int .i64 mI, .int .i64 mL, .string mk, .int .i64 mN, .int .i64 ac] 110))
  have h2 := heap_alloc_new (w.alloc (.cells #[.int .i64 oK, .int .i64 ono, .string ok, .int .i64 on, .int .i64 mK, .int .i64 mF, .int .i64 mT, .int .i64 mI, .int .i64 mL, .string mk, .int .i64 mN, .int .i64 ac] 110)) (.cells #[.int .i64 oK, .int .i64 ono, .string ok, .int .i64 on, .int .i64 mK, .int .i64 mF, .int .i64 mT, .int .i64 mI, .int .i64 mL, .string mk, .int .i64 mN, .int .i64 ac] 110)
  have hS : (w.alloc (.cells #[.int .i64 oK, .int .i64 ono, .string ok, .int .i64 on, .int .i64 mK, .int .i64 mF, .int .i64 mT, .int .i64 mI, .int .i64 mL, .string mk, .int .i64 mN, .int .i64 ac] 110)).heap.size = w.heap.size + 1 := by simp
  rw [hS] at h2
  have HA1 := hide h1
  have HA2 := hide h2
  clear hB0 h1 h2 hS
  go_enter Try.func72, Try.ntmps72
  go_wp2_with fail
  refine (unhide HQ _).mono ?_
  rintro e w1 ⟨rfl, hb1⟩
  have HB1 := hide ((unhide HB0).trans (hb1.mono (unhide HB0).size))
  have c1 : w1.cell? ⟨w.heap.size, 11, none⟩ = some (.int .i64 ac) := cell_of_row _ _ 11 _ _ _ (obj_step (unhide HA1) hb1)
  have c2 : w1.cell? ⟨w.heap.size + 1, 11, none⟩ = some (.int .i64 ac) := cell_of_row _ _ 11 _ _ _ (obj_step (unhide HA2) hb1)
  clear hb1 HA1 HA2
  go_wp2_with fail
  go_ret
  exact ⟨rfl, unhide HB1⟩
set_option maxRecDepth 100000 in
set_option maxHeartbeats 2000000 in
theorem eqToldW (x : Td) (w : World) : Calls Try.prog 50 #[tdv x, tdv x] w fun e w' => e = .returned (.bool true) ∧ Below w.heap.size w w' := by
  have HQ := hide (fun w1 => eqAnswerW x.n w1)
  obtain ⟨ta, ⟨⟨oK, ono, ok, on, ⟨mK, mF, mT, mI, mL, mk, mN⟩⟩, ac⟩⟩ := x
  have hB0 := (below_one w (.cells #[.int .i64 ta, .int .i64 oK, .int .i64 ono, .string ok, .int .i64 on, .int .i64 mK, .int .i64 mF, .int .i64 mT, .int .i64 mI, .int .i64 mL, .string mk, .int .i64 mN, .int .i64 ac] 112)).trans ((below_one (w.alloc (.cells #[.int .i64 ta, .int .i64 oK, .int .i64 ono, .string ok, .int .i64 on, .int .i64 mK, .int .i64 mF, .int .i64 mT, .int .i64 mI, .int .i64 mL, .string mk, .int .i64 mN, .int .i64 ac] 112)) (.cells #[.int .i64 ta, .int .i64 oK, .int .i64 ono, .string ok, .int .i64 on, .int .i64 mK, .int .i64 mF, .int .i64 mT, .int .i64 mI, .int .i64 mL, .string mk, .int .i64 mN, .int .i64 ac] 112)).mono (by simp))
  have HB0 := hide hB0
  have h1 := obj_step (heap_alloc_new w (.cells #[.int .i64 ta, .int .i64 oK, .int .i64 ono, .string ok, .int .i64 on, .int .i64 mK, .int .i64 mF, .int .i64 mT, .int .i64 mI, .int .i64 mL, .string mk, .int .i64 mN, .int .i64 ac] 112)) (below_one (w.alloc (.cells #[.int .i64 ta, .int .i64 oK, .int .i64 ono, .string ok, .int .i64 on, .int .i64 mK, .int .i64 mF, .int .i64 mT, .int .i64 mI, .int .i64 mL, .string mk, .int .i64 mN, .int .i64 ac] 112)) (.cells #[.int .i64 ta, .int .i64 oK, .int .i64 ono, .string ok, .int .i64 on, .int .i64 mK, .int .i64 mF, .int .i64 mT, .int .i64 mI, .int .i64 mL, .string mk, .int .i64 mN, .int .i64 ac] 112))
  have h2 := heap_alloc_new (w.alloc (.cells #[.int .i64 ta, .int .i64 oK, .int .i64 ono, .string ok, .int .i64 on, .int .i64 mK, .int .i64 mF, .int .i64 mT, .int .i64 mI, .int .i64 mL, .string mk, .int .i64 mN, .int .i64 ac] 112)) (.cells #[.int .i64 ta, .int .i64 oK, .int .i64 ono, .string ok, .int .i64 on, .int .i64 mK, .int .i64 mF, .int .i64 mT, .int .i64 mI, .int .i64 mL, .string mk, .int .i64 mN, .int .i64 ac] 112)
  have hS : (w.alloc (.cells #[.int .i64 ta, .int .i64 oK, .int .i64 ono, .string ok, .int .i64 on, .int .i64 mK, .int .i64 mF, .int .i64 mT, .int .i64 mI, .int .i64 mL, .string mk, .int .i64 mN, .int .i64 ac] 112)).heap.size = w.heap.size + 1 := by simp
  rw [hS] at h2
  have HA1 := hide h1
  have HA2 := hide h2
  clear hB0 h1 h2 hS
  go_enter Try.func50, Try.ntmps50
  go_wp2_with fail
  refine (unhide HQ _).mono ?_
  rintro e w1 ⟨rfl, hb1⟩
  have HB1 := hide ((unhide HB0).trans (hb1.mono (unhide HB0).size))
  have c1 : w1.cell? ⟨w.heap.size, 0, none⟩ = some (.int .i64 ta) := cell_of_row _ _ 0 _ _ _ (obj_step (unhide HA1) hb1)
  have c2 : w1.cell? ⟨w.heap.size + 1, 0, none⟩ = some (.int .i64 ta) := cell_of_row _ _ 0 _ _ _ (obj_step (unhide HA2) hb1)
  clear hb1 HA1 HA2
  go_wp2_with fail
  go_ret
  exact ⟨rfl, unhide HB1⟩
set_option maxRecDepth 100000 in
set_option maxHeartbeats 2000000 in
theorem szAnswerQ (x : An) (z : Int) (w : World) (h0 : 0 ≤ z) (h1 : z ≤ 1048576) (h2 : x.o.k.size ≤ maxLen ∧ x.o.m.k.size ≤ maxLen) : Calls Try.prog 64 #[anv x, .int .i64 z] w fun e w' => ∃ r : Int, e = .returned (.int .i64 r) ∧ (r = -1 ∨ 0 ≤ r ∧ r ≤ z ∧ (x.o.k.size ≤ 1048576 ∧ x.o.m.k.size ≤ 1048576)) ∧ Below w.heap.size w w' := by
  have HQ := hide (fun w1 => szOp x.o z w1 h0 h1 h2.1 h2.2)
  obtain ⟨⟨oK, ono, ok, on, ⟨mK, mF, mT, mI, mL, mk, mN⟩⟩, ac⟩ := x
  dsimp only at HQ
  clear h2
  go_enter Try.func64, Try.ntmps64
  go_wp2_with fail
  refine (unhide HQ _).mono ?_
  rintro e w1 ⟨r, rfl, hcase, hb1⟩
  have HB := hide ((below_one w _).trans (hb1.mono (by simp)))
  clear hb1 HQ
  rcases hcase with rfl | ⟨r0, r1, hq⟩
  · go_wp2_with fail
    go_ret
    exact ⟨-1, rfl, .inl rfl, unhide HB⟩
  · have hn : decide (r < 0) = false := decide_eq_false (by omega)
    have HQQ := hide hq
    clear hq
    go_wp2_with fail
    go_ret
    exact ⟨r, rfl, .inr ⟨r0, r1, unhide HQQ⟩, unhide HB⟩
set_option maxRecDepth 100000 in
set_option maxHeartbeats 2000000 in
theorem szToldQ (x : Td) (z : Int) (w : World) (h0 : 0 ≤ z) (h1 : z ≤ 1048576) (h2 : x.n.o.k.size ≤ maxLen ∧ x.n.o.m.k.size ≤ maxLen) : Calls Try.prog 42 #[tdv x, .int .i64 z] w fun e w' => ∃ r : Int, e = .returned (.int .i64 r) ∧ (r = -1 ∨ 0 ≤ r ∧ r ≤ z ∧ (x.n.o.k.size ≤ 1048576 ∧ x.n.o.m.k.size ≤ 1048576)) ∧ Below w.heap.size w w' := by
  have HQ := hide (fun w1 => szAnswerQ x.n z w1 h0 h1 h2)
  obtain ⟨ta, ⟨⟨oK, ono, ok, on, ⟨mK, mF, mT, mI, mL, mk, mN⟩⟩, ac⟩⟩ := x
  dsimp only at HQ
  clear h2
  go_enter Try.func42, Try.ntmps42
  go_wp2_with fail
  refine (unhide HQ _).mono ?_
  rintro e w1 ⟨r, rfl, hcase, hb1⟩
  have HB := hide ((below_one w _).trans (hb1.mono (by simp)))
  clear hb1 HQ
  rcases hcase with rfl | ⟨r0, r1, hq⟩
  · go_wp2_with fail
    go_ret
    exact ⟨-1, rfl, .inl rfl, unhide HB⟩
  · have hn : decide (r < 0) = false := decide_eq_false (by omega)
    have HQQ := hide hq
    clear hq
    go_wp2_with fail
    go_ret
    exact ⟨r, rfl, .inr ⟨r0, r1, unhide HQQ⟩, unhide HB⟩
end Go.Proofs.Ytgkimogaghgjaaa
