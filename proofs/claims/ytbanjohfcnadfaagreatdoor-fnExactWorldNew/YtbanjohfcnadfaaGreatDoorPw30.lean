/- Parts. -/
import Derived.Test.YtbanjohfcnadfaaGreatDoorPw28
import Derived.Test.YtbanjohfcnadfaaGreatDoorPw29
import Derived.Test.YtbanjohfcnadfaaGreatDoorPw9
import Derived.Test.YtbanjohfcnadfaaGreatDoorPw13
import Derived.Test.YtbanjohfcnadfaaGreatDoorPw14
import Derived.Test.YtbanjohfcnadfaaGreatDoorPw27
import Derived.Test.YtbanjohfcnadfaaGreatDoorPw15
import Derived.Test.YtbanjohfcnadfaaGreatDoorPw1
import Derived.Test.YtbanjohfcnadfaaGreatDoorPw19
import Derived.Test.YtbanjohfcnadfaaGreatDoorPw10
import Derived.Test.YtbanjohfcnadfaaGreatDoorPw11
import Derived.ProofKit
import Derived.Deep.DeepCutAuto
import Derived.Deep.RegionHeld
namespace Go.Proofs.YtbanjohfcnadfaaGreatDoor
open Go.RowKit
open Mth

/-- What the model's KeeperNew answers. -/
def GivesL (w : World) (n : Nd) (e : Ending) (w' : World) : Prop :=
  (ndOk n = false ∧ e = .returned (.tuple #[.agg zk22, .bool false]) ∧ Below w.heap.size w w') ∨
  (ndOk n = true ∧ ∃ A1 A2, e = .returned (.tuple #[.agg (nkc n A1 A2), .bool true]) ∧ NodeAt w' A1 n ∧ NodeAt w' A2 n ∧ Below w.heap.size w w')


def sPk (s0 : Nat) (n : Nd) : Nat := s0 + n.kids.length
def sOk (s0 : Nat) (n : Nd) : Nat := sPk s0 n + 4 * n.pu.length
def sSk (s0 : Nat) (n : Nd) : Nat := sOk s0 n + 4 * n.out.length
def sRk (s0 : Nat) (n : Nd) : Nat := eSeen (sSk s0 n) n.seen
/-- A node, marked from a number on. -/
def mNodeK (s0 : Nat) (n : Nd) : Nd := ⟨n.id, n.par, mks mkInt 1 s0 n.kids n.kids.length, n.next, mks mkPurse 4 (sPk s0 n) n.pu n.pu.length, mks mkSent 4 (sOk s0 n) n.out n.out.length, mSeen (sSk s0 n) n.seen, n.old, mks mkReq 4 (sRk s0 n) n.reqs n.reqs.length⟩

/-- Lists of blocks of different colours. -/
theorem nodup_col {c : Nat → Nat} {a : Nat} {l m : List Nat} (hl : l.Nodup) (hm : m.Nodup) (h1 : ∀ x ∈ l, c x = a) (h2 : ∀ x ∈ m, c x ≠ a) : (l ++ m).Nodup := by
  rw [List.nodup_append]
  exact ⟨hl, hm, fun x hx y hy e => h2 y hy (by rw [← e]; exact h1 x hx)⟩
theorem NO.full {w : World} {B : Nat} {n : Nd} {A : Ads} {G : Blks} {c : Nat → Nat} (h : NO w B n A G c) :
    ∃ G2, NodeW w A G2 n ∧ G2.Sep n B w.heap.size ∧ ∀ x ∈ G2.all n, c x ≠ 0 ∧ c x ≤ 6 := by
  obtain ⟨_, _, go, eo, hWo, hro, hoo⟩ := GR.W.of_own (enc := encSnt) encSnt_length h.o
  cases eo
  obtain ⟨_, _, gr, er, hWr, hrr, hor⟩ := GR.W.of_own (enc := encRq) encRq_length h.r
  cases er
  have c1 := h.ck
  have c2 := h.cp
  have c3 : ∀ x ∈ fp go n.out, c x = 3 := fun x hx => h.co x (hoo x hx)
  have c4 := h.c4
  have c5 := h.ci
  have c6 : ∀ x ∈ fp gr n.reqs, c x = 6 := fun x hx => h.cr x (hor x hx)
  have hcol : ∀ x ∈ Blks.all ⟨G.k, G.p, go, G.s, gr, G.i⟩ n, c x ≠ 0 ∧ c x ≤ 6 := fun x hx => by
    rcases Blks.mem_all.1 hx with h1 | h1 | h1 | h1 | h1 | h1
    · have := c1 x h1; omega
    · have := c2 x h1; omega
    · have := c3 x h1; omega
    · have := c4 x h1; omega
    · have := c5 x h1; omega
    · have := c6 x h1; omega
  refine ⟨⟨G.k, G.p, go, G.s, gr, G.i⟩, ⟨h.k, h.p, hWo, h.s, hWr⟩, ⟨?_, fun x hx => ⟨?_, ?_⟩⟩, hcol⟩
  · unfold Blks.all
    refine nodup_col (c := c) (a := 1) (fp_nodup _ _) ?_ c1 (fun x hx => ?_)
    · refine nodup_col (c := c) (a := 2) (fp_nodup _ _) ?_ c2 (fun x hx => ?_)
      · refine nodup_col (c := c) (a := 3) (fp_nodup _ _) ?_ c3 (fun x hx => ?_)
        · refine nodup_col (c := c) (a := 4) (fp_nodup _ _) ?_ c4 (fun x hx => ?_)
          · refine nodup_col (c := c) (a := 5) h.ni (fp_nodup _ _) c5 (fun x hx => ?_)
            have := c6 x hx; omega
          · rcases List.mem_append.1 hx with h1 | h1
            · have := c5 x h1; omega
            · have := c6 x h1; omega
        · rcases List.mem_append.1 hx with h1 | h1
          · have := c4 x h1; omega
          · rcases List.mem_append.1 h1 with h1 | h1
            · have := c5 x h1; omega
            · have := c6 x h1; omega
      · rcases List.mem_append.1 hx with h1 | h1
        · have := c3 x h1; omega
        · rcases List.mem_append.1 h1 with h1 | h1
          · have := c4 x h1; omega
          · rcases List.mem_append.1 h1 with h1 | h1
            · have := c5 x h1; omega
            · have := c6 x h1; omega
    · rcases List.mem_append.1 hx with h1 | h1
      · have := c2 x h1; omega
      · rcases List.mem_append.1 h1 with h1 | h1
        · have := c3 x h1; omega
        · rcases List.mem_append.1 h1 with h1 | h1
          · have := c4 x h1; omega
          · rcases List.mem_append.1 h1 with h1 | h1
            · have := c5 x h1; omega
            · have := c6 x h1; omega
  · by_cases hlt : x < B
    · have := h.lo x hlt
      have := hcol x hx
      omega
    · omega
  · rcases Blks.mem_all.1 hx with h1 | h1 | h1 | h1 | h1 | h1
    · exact fpW_lt h.k x h1
    · exact fpW_lt h.p x h1
    · exact fpW_lt hWo x h1
    · exact (seen_lt h.s).1 x h1
    · exact (seen_lt h.s).2 x h1
    · exact fpW_lt hWr x h1

set_option maxRecDepth 100000 in
theorem markMsg0 (k : Int) (w : World) : Calls Tryz.prog 56 #[.slice none 0 0, .int .i64 k] w fun e w' => e = .returned (.int .i64 k) ∧ w = w' := by
  go_enter Tryz.func56, Tryz.ntmps56
  go_wp2_with fail
  go_loopw [1, 5] (fun lf i wr => lf = .int .i64 k ∧ i = .int .i64 0 ∧ wr = w) (fun _ _ _ => 0)
  case atStart => exact ⟨rfl, rfl, rfl⟩
  case round =>
    obtain ⟨rfl, rfl, rfl⟩ := hrel
    have hnlt : decide ((0 : Int) < ((0 : Nat) : Int)) = false := by simp
    go_wp2_with fail
    go_ret
    exact ⟨rfl, rfl⟩

set_option maxRecDepth 100000 in
theorem markAns0 (k : Int) (w : World) : Calls Tryz.prog 57 #[.slice none 0 0, .int .i64 k] w fun e w' => e = .returned (.int .i64 k) ∧ w = w' := by
  go_enter Tryz.func57, Tryz.ntmps57
  go_wp2_with fail
  go_loopw [1, 5] (fun lf i wr => lf = .int .i64 k ∧ i = .int .i64 0 ∧ wr = w) (fun _ _ _ => 0)
  case atStart => exact ⟨rfl, rfl, rfl⟩
  case round =>
    obtain ⟨rfl, rfl, rfl⟩ := hrel
    have hnlt : decide ((0 : Int) < ((0 : Nat) : Int)) = false := by simp
    go_wp2_with fail
    go_ret
    exact ⟨rfl, rfl⟩

set_option maxRecDepth 100000 in
theorem heldMsg0 (k : Int) (w : World) : Calls Tryz.prog 63 #[.slice none 0 0, .int .i64 k] w fun e w' => e = .returned (.int .i64 k) ∧ w = w' := by
  go_enter Tryz.func63, Tryz.ntmps63
  go_wp2_with fail
  go_loopw [1, 5] (fun lf i wr => lf = .int .i64 k ∧ i = .int .i64 0 ∧ wr = w) (fun _ _ _ => 0)
  case atStart => exact ⟨rfl, rfl, rfl⟩
  case round =>
    obtain ⟨rfl, rfl, rfl⟩ := hrel
    have hnlt : decide ((0 : Int) < ((0 : Nat) : Int)) = false := by simp
    go_wp2_with fail
    go_ret
    exact ⟨rfl, rfl⟩

set_option maxRecDepth 100000 in
theorem heldAns0 (k : Int) (w : World) : Calls Tryz.prog 64 #[.slice none 0 0, .int .i64 k] w fun e w' => e = .returned (.int .i64 k) ∧ w = w' := by
  go_enter Tryz.func64, Tryz.ntmps64
  go_wp2_with fail
  go_loopw [1, 5] (fun lf i wr => lf = .int .i64 k ∧ i = .int .i64 0 ∧ wr = w) (fun _ _ _ => 0)
  case atStart => exact ⟨rfl, rfl, rfl⟩
  case round =>
    obtain ⟨rfl, rfl, rfl⟩ := hrel
    have hnlt : decide ((0 : Int) < ((0 : Nat) : Int)) = false := by simp
    go_wp2_with fail
    go_ret
    exact ⟨rfl, rfl⟩

theorem all_lt {w : World} {A : Ads} {G : Blks} {n : Nd} (h : NodeW w A G n) : ∀ x ∈ G.all n, x < w.heap.size := fun x hx => by
  rcases Blks.mem_all.1 hx with h1 | h1 | h1 | h1 | h1 | h1
  · exact W_lt h.k x h1
  · exact W_lt h.p x h1
  · exact W_lt h.o x h1
  · exact SeenW_lt h.s x (List.mem_append.2 (.inl h1))
  · exact SeenW_lt h.s x (List.mem_append.2 (.inr h1))
  · exact W_lt h.r x h1
/-- A keeper's two nodes in rows of their own. -/
structure TwoW (w : World) (n : Nd) (A2 A1 : Ads) (G2 G1 : Blks) (s2 s1 : Nat) : Prop where
  b : NodeW w A2 G2 (mNodeK s2 n)
  n : NodeW w A1 G1 (mNodeK s1 n)


namespace Mth
/-- An operation: kind, number, key, amount, message. -/
structure Op5 where
  K : Int
  no : Int
  k : ByteArray
  n : Int
  m : Mg
end Mth
abbrev opw (o : Op5) : Value := .agg #[.int .i64 o.K, .int .i64 o.no, .string o.k, .int .i64 o.n, .int .i64 o.m.K, .int .i64 o.m.F, .int .i64 o.m.T, .int .i64 o.m.I, .int .i64 o.m.L, .string o.m.k, .int .i64 o.m.N]
open Go.WideShapes



/-- An answer; what was told; what was given back. -/
structure An where
  o : Op5
  c : Int
structure Td where
  a : Int
  n : An
structure Gv where
  a : Int
  no : Int
abbrev encMg (x : Mg) : List Value := [.int .i64 x.K, .int .i64 x.F, .int .i64 x.T, .int .i64 x.I, .int .i64 x.L, .string x.k, .int .i64 x.N]
theorem encMg_length (x : Mg) : (encMg x).length = 7 := rfl
abbrev encAn (x : An) : List Value := [.int .i64 x.o.K, .int .i64 x.o.no, .string x.o.k, .int .i64 x.o.n, .int .i64 x.o.m.K, .int .i64 x.o.m.F, .int .i64 x.o.m.T, .int .i64 x.o.m.I, .int .i64 x.o.m.L, .string x.o.m.k, .int .i64 x.o.m.N, .int .i64 x.c]
theorem encAn_length (x : An) : (encAn x).length = 12 := rfl
abbrev anv (x : An) : Value := .agg #[.int .i64 x.o.K, .int .i64 x.o.no, .string x.o.k, .int .i64 x.o.n, .int .i64 x.o.m.K, .int .i64 x.o.m.F, .int .i64 x.o.m.T, .int .i64 x.o.m.I, .int .i64 x.o.m.L, .string x.o.m.k, .int .i64 x.o.m.N, .int .i64 x.c]
abbrev encTd (x : Td) : List Value := [.int .i64 x.a, .int .i64 x.n.o.K, .int .i64 x.n.o.no, .string x.n.o.k, .int .i64 x.n.o.n, .int .i64 x.n.o.m.K, .int .i64 x.n.o.m.F, .int .i64 x.n.o.m.T, .int .i64 x.n.o.m.I, .int .i64 x.n.o.m.L, .string x.n.o.m.k, .int .i64 x.n.o.m.N, .int .i64 x.n.c]
abbrev tdv (x : Td) : Value := .agg #[.int .i64 x.a, .int .i64 x.n.o.K, .int .i64 x.n.o.no, .string x.n.o.k, .int .i64 x.n.o.n, .int .i64 x.n.o.m.K, .int .i64 x.n.o.m.F, .int .i64 x.n.o.m.T, .int .i64 x.n.o.m.I, .int .i64 x.n.o.m.L, .string x.n.o.m.k, .int .i64 x.n.o.m.N, .int .i64 x.n.c]
abbrev encGv (x : Gv) : List Value := [.int .i64 x.a, .int .i64 x.no]
abbrev gvv (x : Gv) : Value := .agg #[.int .i64 x.a, .int .i64 x.no]
theorem eqMsgW (m : Mg) (w : World) : Calls Tryz.prog 110 #[mgv m, mgv m] w fun e w' => e = .returned (.bool true) ∧ Below w.heap.size w w' := by
  obtain ⟨mK, mF, mT, mI, mL, mk, mN⟩ := m
  go_enter Tryz.func110, Tryz.ntmps110
  go_wp2_with fail
  go_ret
  exact ⟨rfl, ((Below.refl _ _).alloc (Nat.le_refl _) _).alloc (by simp) _⟩
set_option maxRecDepth 100000 in
theorem eqGivenW (x : Gv) (w : World) : Calls Tryz.prog 50 #[gvv x, gvv x] w fun e w' => e = .returned (.bool true) ∧ Below w.heap.size w w' := by
  obtain ⟨ga, gn⟩ := x
  go_enter Tryz.func50, Tryz.ntmps50
  go_wp2_with fail
  go_ret
  exact ⟨rfl, ((Below.refl _ _).alloc (Nat.le_refl _) _).alloc (by simp) _⟩
set_option maxRecDepth 100000 in
set_option maxHeartbeats 2000000 in
theorem eqOpW (o : Op5) (w : World) : Calls Tryz.prog 111 #[opw o, opw o] w fun e w' => e = .returned (.bool true) ∧ Below w.heap.size w w' := by
  obtain ⟨K, no, k, n, m⟩ := o
  have HQ := hide (fun w1 => eqMsgW m w1)
  obtain ⟨mK, mF, mT, mI, mL, mk, mN⟩ := m
  go_enter Tryz.func111, Tryz.ntmps111
  go_wp2_with fail
  refine (unhide HQ _).mono ?_
  rintro e w1 ⟨rfl, hb1⟩
  have hB := ((below_one w _).trans ((below_one (w.alloc _) _).mono (by simp))).trans (hb1.mono (by simp; omega))
  clear hb1
  go_wp2_with fail
  go_ret
  exact ⟨rfl, hB⟩
set_option maxRecDepth 100000 in
set_option maxHeartbeats 2000000 in
theorem eqAnswerW (x : An) (w : World) : Calls Tryz.prog 85 #[anv x, anv x] w fun e w' => e = .returned (.bool true) ∧ Below w.heap.size w w' := by
  have HQ := hide (fun w1 => eqOpW x.o w1)
  obtain ⟨⟨oK, ono, ok, on, ⟨mK, mF, mT, mI, mL, mk, mN⟩⟩, ac⟩ := x
  have hB0 := (below_one w (.cells #[.int .i64 oK, .int .i64 ono, .string ok, .int .i64 on, .int .i64 mK, .int .i64 mF, .int .i64 mT, .int .i64 mI, .int .i64 mL, .string mk, .int .i64 mN, .int .i64 ac] 86)).trans ((below_one (w.alloc (.cells #[.int .i64 oK, .int .i64 ono, .string ok, .int .i64 on, .int .i64 mK, .int .i64 mF, .int .i64 mT, .int .i64 mI, .int .i64 mL, .string mk, .int .i64 mN, .int .i64 ac] 86)) (.cells #[.int .i64 oK, .int .i64 ono, .string ok, .int .i64 on, .int .i64 mK, .int .i64 mF, .int .i64 mT, .int .i64 mI, .int .i64 mL, .string mk, .int .i64 mN, .int .i64 ac] 86)).mono (by simp))
  have HB0 := hide hB0
  have h1 := obj_step (heap_alloc_new w (.cells #[.int .i64 oK, .int .i64 ono, .string ok, .int .i64 on, .int .i64 mK, .int .i64 mF, .int .i64 mT, .int .i64 mI, .int .i64 mL, .string mk, .int .i64 mN, .int .i64 ac] 86)) (below_one (w.alloc (.cells #[.int .i64 oK, .int .i64 ono, .string ok, .int .i64 on, .int .i64 mK, .int .i64 mF, .int .i64 mT, .int .i64 mI, .int .i64 mL, .string mk, .int .i64 mN, .int .i64 ac] 86)) (.cells #[.int .i64 oK, .int .i64 ono, .string ok, .int .i64 on, .int .i64 mK, .int .i64 mF, .int .i64 mT, .int .i64 mI, .int .i64 mL, .string mk, .int .i64 mN, .int .i64 ac] 86))
  have h2 := heap_alloc_new (w.alloc (.cells #[.int .i64 oK, .int .i64 ono, .string ok, .int .i64 on, .int .i64 mK, .int .i64 mF, .int .i64 mT, .int .i64 mI, .int .i64 mL, .string mk, .int .i64 mN, .int .i64 ac] 86)) (.cells #[.int .i64 oK, .int .i64 ono, .string ok, .int .i64 on, .int .i64 mK, .int .i64 mF, .int .i64 mT, .int .i64 mI, .int .i64 mL, .string mk, .int .i64 mN, .int .i64 ac] 86)
  have hS : (w.alloc (.cells #[.int .i64 oK, .int .i64 ono, .string ok, .int .i64 on, .int .i64 mK, .int .i64 mF, .int .i64 mT, .int .i64 mI, .int .i64 mL, .string mk, .int .i64 mN, .int .i64 ac] 86)).heap.size = w.heap.size + 1 := by simp
  rw [hS] at h2
  have HA1 := hide h1
  have HA2 := hide h2
  clear hB0 h1 h2 hS
  go_enter Tryz.func85, Tryz.ntmps85
  go_wp2_with fail
  refine (unhide HQ _).mono ?_
  rintro e w1 ⟨rfl, hb1⟩
  have HB1 := hide ((unhide HB0).trans (hb1.mono (unhide HB0).size))
  have c1 : w1.cell? ⟨w.heap.size, 11, none⟩ = some (.int .i64 ac) := cell_of_row _ _ 11 _ _ _ (obj_step (unhide HA1) hb1)
  have c2 : w1.cell? ⟨w.heap.size + 1, 11, none⟩ = some (.int .i64 ac) := cell_of_row _ _ 11 _ _ _ (obj_step (unhide HA2) hb1)
  clear hb1 HA1 HA2
  go_wp2_with fail
  go_ret
  exact ⟨rfl, unhide HB1⟩
set_option maxRecDepth 100000 in
set_option maxHeartbeats 2000000 in
theorem eqToldW (x : Td) (w : World) : Calls Tryz.prog 49 #[tdv x, tdv x] w fun e w' => e = .returned (.bool true) ∧ Below w.heap.size w w' := by
  have HQ := hide (fun w1 => eqAnswerW x.n w1)
  obtain ⟨ta, ⟨⟨oK, ono, ok, on, ⟨mK, mF, mT, mI, mL, mk, mN⟩⟩, ac⟩⟩ := x
  have hB0 := (below_one w (.cells #[.int .i64 ta, .int .i64 oK, .int .i64 ono, .string ok, .int .i64 on, .int .i64 mK, .int .i64 mF, .int .i64 mT, .int .i64 mI, .int .i64 mL, .string mk, .int .i64 mN, .int .i64 ac] 88)).trans ((below_one (w.alloc (.cells #[.int .i64 ta, .int .i64 oK, .int .i64 ono, .string ok, .int .i64 on, .int .i64 mK, .int .i64 mF, .int .i64 mT, .int .i64 mI, .int .i64 mL, .string mk, .int .i64 mN, .int .i64 ac] 88)) (.cells #[.int .i64 ta, .int .i64 oK, .int .i64 ono, .string ok, .int .i64 on, .int .i64 mK, .int .i64 mF, .int .i64 mT, .int .i64 mI, .int .i64 mL, .string mk, .int .i64 mN, .int .i64 ac] 88)).mono (by simp))
  have HB0 := hide hB0
  have h1 := obj_step (heap_alloc_new w (.cells #[.int .i64 ta, .int .i64 oK, .int .i64 ono, .string ok, .int .i64 on, .int .i64 mK, .int .i64 mF, .int .i64 mT, .int .i64 mI, .int .i64 mL, .string mk, .int .i64 mN, .int .i64 ac] 88)) (below_one (w.alloc (.cells #[.int .i64 ta, .int .i64 oK, .int .i64 ono, .string ok, .int .i64 on, .int .i64 mK, .int .i64 mF, .int .i64 mT, .int .i64 mI, .int .i64 mL, .string mk, .int .i64 mN, .int .i64 ac] 88)) (.cells #[.int .i64 ta, .int .i64 oK, .int .i64 ono, .string ok, .int .i64 on, .int .i64 mK, .int .i64 mF, .int .i64 mT, .int .i64 mI, .int .i64 mL, .string mk, .int .i64 mN, .int .i64 ac] 88))
  have h2 := heap_alloc_new (w.alloc (.cells #[.int .i64 ta, .int .i64 oK, .int .i64 ono, .string ok, .int .i64 on, .int .i64 mK, .int .i64 mF, .int .i64 mT, .int .i64 mI, .int .i64 mL, .string mk, .int .i64 mN, .int .i64 ac] 88)) (.cells #[.int .i64 ta, .int .i64 oK, .int .i64 ono, .string ok, .int .i64 on, .int .i64 mK, .int .i64 mF, .int .i64 mT, .int .i64 mI, .int .i64 mL, .string mk, .int .i64 mN, .int .i64 ac] 88)
  have hS : (w.alloc (.cells #[.int .i64 ta, .int .i64 oK, .int .i64 ono, .string ok, .int .i64 on, .int .i64 mK, .int .i64 mF, .int .i64 mT, .int .i64 mI, .int .i64 mL, .string mk, .int .i64 mN, .int .i64 ac] 88)).heap.size = w.heap.size + 1 := by simp
  rw [hS] at h2
  have HA1 := hide h1
  have HA2 := hide h2
  clear hB0 h1 h2 hS
  go_enter Tryz.func49, Tryz.ntmps49
  go_wp2_with fail
  refine (unhide HQ _).mono ?_
  rintro e w1 ⟨rfl, hb1⟩
  have HB1 := hide ((unhide HB0).trans (hb1.mono (unhide HB0).size))
  have c1 : w1.cell? ⟨w.heap.size, 0, none⟩ = some (.int .i64 ta) := cell_of_row _ _ 0 _ _ _ (obj_step (unhide HA1) hb1)
  have c2 : w1.cell? ⟨w.heap.size + 1, 0, none⟩ = some (.int .i64 ta) := cell_of_row _ _ 0 _ _ _ (obj_step (unhide HA2) hb1)
  clear hb1 HA1 HA2
  go_wp2_with fail
  go_ret
  exact ⟨rfl, unhide HB1⟩
end Go.Proofs.YtbanjohfcnadfaaGreatDoor
