/- Parts. -/
import Derived.Test.YtikdkijggejnfaaGreatDoorPj10
import Derived.Test.YtikdkijggejnfaaGreatDoorPj7
import Derived.RegionTactic
namespace Go.Proofs.YtikdkijggejnfaaGreatDoor
open Go.RowKit
open Mth

theorem Below.setNew {B g i : Nat} {w w' : World} {v : Value} (h : Below B w w') (hg : B ≤ g) : Below B w (w'.setCell ⟨g, i, none⟩ v) :=
  ⟨h.os, h.tape, h.output, by simpa [World.setCell] using h.size, fun k hk => by
    have hkg : k ≠ g := by omega
    rw [Below.heap_setCell _ _ _ _ hkg]
    exact h.block k hk⟩
theorem op_free {w : World} {g : Nat} {cs : Array Value} {t : TypeId} (h : w.heap[g]? = some (.cells cs t (0, 0))) (i : Nat) : w.frozen? ⟨g, i, none⟩ = false := by unfold World.frozen?; rw [h]; simp
theorem allocsO (w : World) (a b : Obj) : ((w.alloc a).alloc b).heap[w.heap.size]? = some a ∧ ((w.alloc a).alloc b).heap[w.heap.size + 1]? = some b := by
  have h1 := blk_step (heap_alloc_new w a) (below_one (w.alloc a) b)
  have h2 := heap_alloc_new (w.alloc a) b
  rw [show (w.alloc a).heap.size = w.heap.size + 1 by simp] at h2
  exact ⟨h1, h2⟩
theorem below_two (w : World) (a b : Obj) : Below w.heap.size w ((w.alloc a).alloc b) := (below_one w a).alloc (by simp) b

theorem elevenC {w : World} {g : Nat} {v0 v1 v2 v3 v4 v5 v6 v7 v8 v9 v10 : Value} {t : TypeId} (h : w.heap[g]? = some (.cells #[v0, v1, v2, v3, v4, v5, v6, v7, v8, v9, v10] t (0, 0))) :
    w.cell? ⟨g, 0, none⟩ = some v0 ∧ w.cell? ⟨g, 1, none⟩ = some v1 ∧ w.cell? ⟨g, 2, none⟩ = some v2 ∧ w.cell? ⟨g, 3, none⟩ = some v3 ∧ w.cell? ⟨g, 4, none⟩ = some v4 ∧ w.cell? ⟨g, 5, none⟩ = some v5 ∧ w.cell? ⟨g, 6, none⟩ = some v6 ∧ w.cell? ⟨g, 7, none⟩ = some v7 ∧ w.cell? ⟨g, 8, none⟩ = some v8 ∧ w.cell? ⟨g, 9, none⟩ = some v9 ∧ w.cell? ⟨g, 10, none⟩ = some v10 := by
  have hc : ∀ i, w.cell? ⟨g, i, none⟩ = #[v0, v1, v2, v3, v4, v5, v6, v7, v8, v9, v10][i]? := fun i => cell_of_row w g i _ t (0, 0) h
  exact ⟨hc 0, hc 1, hc 2, hc 3, hc 4, hc 5, hc 6, hc 7, hc 8, hc 9, hc 10⟩
set_option maxRecDepth 100000 in
set_option maxHeartbeats 4000000 in
theorem implOpOk_mint (no : Int) (k : ByteArray) (n : Int) (m : Mg) (w : World) : Calls Tryz.prog 51 #[opw ⟨0, no, k, n, m⟩] w fun e w' => e = .returned (.bool (opOk ⟨0, no, k, n, m⟩)) ∧ Below w.heap.size w w' := by
  obtain ⟨mK, mF, mT, mI, mL, mk, mN⟩ := m
  obtain ⟨R, hR⟩ : ∃ R, opOk ⟨0, no, k, n, ⟨mK, mF, mT, mI, mL, mk, mN⟩⟩ = R := ⟨_, rfl⟩
  rw [hR]
  have HR := hide hR
  clear hR
  cases hk : keyOk k.data.toList
  · have HK := hide (fun w1 => implKeyR k false w1 hk)
    cases hn : smB n
    · have HN := hide (fun w1 => isSomeAmount n false w1 hn)
      have HP := hide (show R = (decide (no = 0) && false && false && zmB ⟨mK, mF, mT, mI, mL, mk, mN⟩) by rw [← unhide HR]; simp [opOk, hk, hn])
      clear HR
      clear hk hn
      go_enter Tryz.func51, Tryz.ntmps51
      go_wp2_with (first | (go_at_call_of 75 k; refine (unhide HK _).mono ?_; rintro e w1 ⟨rfl, rfl⟩) | (go_at_call_of 74 n; refine (unhide HN _).mono ?_; rintro e w1 ⟨rfl, rfl⟩))
      go_ret
      exact ⟨ret_bool (by rw [unhide HP]; simp), by first | exact below_two w _ _ | exact Below.setNew (below_two w _ _) (by omega)⟩
    · have HN := hide (fun w1 => isSomeAmount n true w1 hn)
      have HP := hide (show R = (decide (no = 0) && false && true && zmB ⟨mK, mF, mT, mI, mL, mk, mN⟩) by rw [← unhide HR]; simp [opOk, hk, hn])
      clear HR
      clear hk hn
      go_enter Tryz.func51, Tryz.ntmps51
      go_wp2_with (first | (go_at_call_of 75 k; refine (unhide HK _).mono ?_; rintro e w1 ⟨rfl, rfl⟩) | (go_at_call_of 74 n; refine (unhide HN _).mono ?_; rintro e w1 ⟨rfl, rfl⟩))
      go_ret
      exact ⟨ret_bool (by rw [unhide HP]; simp), by first | exact below_two w _ _ | exact Below.setNew (below_two w _ _) (by omega)⟩
  · have HK := hide (fun w1 => implKeyR k true w1 hk)
    cases hn : smB n
    · have HN := hide (fun w1 => isSomeAmount n false w1 hn)
      have HP := hide (show R = (decide (no = 0) && true && false && zmB ⟨mK, mF, mT, mI, mL, mk, mN⟩) by rw [← unhide HR]; simp [opOk, hk, hn])
      clear HR
      clear hk hn
      go_enter Tryz.func51, Tryz.ntmps51
      go_wp2_with (first | (go_at_call_of 75 k; refine (unhide HK _).mono ?_; rintro e w1 ⟨rfl, rfl⟩) | (go_at_call_of 74 n; refine (unhide HN _).mono ?_; rintro e w1 ⟨rfl, rfl⟩))
      go_ret
      exact ⟨ret_bool (by rw [unhide HP]; simp), by first | exact below_two w _ _ | exact Below.setNew (below_two w _ _) (by omega)⟩
    · have HN := hide (fun w1 => isSomeAmount n true w1 hn)
      have HP := hide (show R = (decide (no = 0) && true && true && zmB ⟨mK, mF, mT, mI, mL, mk, mN⟩) by rw [← unhide HR]; simp [opOk, hk, hn])
      clear HR
      clear hk hn
      go_enter Tryz.func51, Tryz.ntmps51
      go_wp2_with (first | (go_at_call_of 75 k; refine (unhide HK _).mono ?_; rintro e w1 ⟨rfl, rfl⟩) | (go_at_call_of 74 n; refine (unhide HN _).mono ?_; rintro e w1 ⟨rfl, rfl⟩))
      go_region
      go_upto_region 23 with fail
      refine wp_at (fun W hW => ?_)
      have HBW : Hid (Below w.heap.size w W) := by rw [hW]; first | exact below_two w _ _ | exact (below_two w _ _).drew
      have hX : W.heap[w.heap.size + 1]? = some (.cells #[.int .i64 0, .int .i64 0, .string k, .int .i64 n, .int .i64 0, .int .i64 0, .int .i64 0, .int .i64 0, .int .i64 0, .string ⟨#[]⟩, .int .i64 0] 25 (0, 0)) := by rw [hW]; exact (allocsO w _ _).2
      have hY : W.heap[w.heap.size]? = some (.cells #[.int .i64 0, .int .i64 no, .string k, .int .i64 n, .int .i64 mK, .int .i64 mF, .int .i64 mT, .int .i64 mI, .int .i64 mL, .string mk, .int .i64 mN] 25 (0, 0)) := by rw [hW]; exact (allocsO w _ _).1
      clear hW
      obtain ⟨x0, x1, x2, x3, x4, x5, x6, x7, x8, x9, x10⟩ := elevenC hX
      obtain ⟨y0, y1, y2, y3, y4, y5, y6, y7, y8, y9, y10⟩ := elevenC hY
      clear hX hY
      by_cases hno : no = 0
      case' neg =>
        have hno' : ¬ (0 : Int) = no := fun e => hno e.symm
        go_wp2_with fail
        go_ret
        exact ⟨ret_bool (by rw [unhide HP]; simp [zmB, hno]), unhide HBW⟩
      subst hno
      by_cases hmK : mK = 0
      case' neg =>
        have hmK' : ¬ (0 : Int) = mK := fun e => hmK e.symm
        go_wp2_with fail
        go_ret
        exact ⟨ret_bool (by rw [unhide HP]; simp [zmB, hmK]), unhide HBW⟩
      subst hmK
      by_cases hmF : mF = 0
      case' neg =>
        have hmF' : ¬ (0 : Int) = mF := fun e => hmF e.symm
        go_wp2_with fail
        go_ret
        exact ⟨ret_bool (by rw [unhide HP]; simp [zmB, hmF]), unhide HBW⟩
      subst hmF
      by_cases hmT : mT = 0
      case' neg =>
        have hmT' : ¬ (0 : Int) = mT := fun e => hmT e.symm
        go_wp2_with fail
        go_ret
        exact ⟨ret_bool (by rw [unhide HP]; simp [zmB, hmT]), unhide HBW⟩
      subst hmT
      by_cases hmI : mI = 0
      case' neg =>
        have hmI' : ¬ (0 : Int) = mI := fun e => hmI e.symm
        go_wp2_with fail
        go_ret
        exact ⟨ret_bool (by rw [unhide HP]; simp [zmB, hmI]), unhide HBW⟩
      subst hmI
      by_cases hmL : mL = 0
      case' neg =>
        have hmL' : ¬ (0 : Int) = mL := fun e => hmL e.symm
        go_wp2_with fail
        go_ret
        exact ⟨ret_bool (by rw [unhide HP]; simp [zmB, hmL]), unhide HBW⟩
      subst hmL
      by_cases hmk : mk.toList = []
      case' neg =>
        go_wp2_with fail
        go_ret
        exact ⟨ret_bool (by rw [unhide HP]; simp [zmB, hmk]), unhide HBW⟩
      by_cases hmN : mN = 0
      case' neg =>
        have hmN' : ¬ (0 : Int) = mN := fun e => hmN e.symm
        go_wp2_with fail
        go_ret
        exact ⟨ret_bool (by rw [unhide HP]; simp [zmB, hmk, hmN]), unhide HBW⟩
      subst hmN
      go_wp2_with fail
      go_ret
      exact ⟨ret_bool (by rw [unhide HP]; simp [zmB, hmk]), unhide HBW⟩
set_option maxRecDepth 100000 in
set_option maxHeartbeats 4000000 in
theorem implOpOk_want (no : Int) (k : ByteArray) (n : Int) (m : Mg) (w : World) : Calls Tryz.prog 51 #[opw ⟨3, no, k, n, m⟩] w fun e w' => e = .returned (.bool (opOk ⟨3, no, k, n, m⟩)) ∧ Below w.heap.size w w' := by
  obtain ⟨mK, mF, mT, mI, mL, mk, mN⟩ := m
  obtain ⟨R, hR⟩ : ∃ R, opOk ⟨3, no, k, n, ⟨mK, mF, mT, mI, mL, mk, mN⟩⟩ = R := ⟨_, rfl⟩
  rw [hR]
  have HR := hide hR
  clear hR
  cases hk : keyOk k.data.toList
  · have HK := hide (fun w1 => implKeyR k false w1 hk)
    cases hn : smB n
    · have HN := hide (fun w1 => isSomeAmount n false w1 hn)
      have HP := hide (show R = (decide (no = 0) && false && false && zmB ⟨mK, mF, mT, mI, mL, mk, mN⟩) by rw [← unhide HR]; simp [opOk, hk, hn])
      clear HR
      clear hk hn
      go_enter Tryz.func51, Tryz.ntmps51
      go_wp2_with (first | (go_at_call_of 75 k; refine (unhide HK _).mono ?_; rintro e w1 ⟨rfl, rfl⟩) | (go_at_call_of 74 n; refine (unhide HN _).mono ?_; rintro e w1 ⟨rfl, rfl⟩))
      go_ret
      exact ⟨ret_bool (by rw [unhide HP]; simp), by first | exact below_two w _ _ | exact Below.setNew (below_two w _ _) (by omega)⟩
    · have HN := hide (fun w1 => isSomeAmount n true w1 hn)
      have HP := hide (show R = (decide (no = 0) && false && true && zmB ⟨mK, mF, mT, mI, mL, mk, mN⟩) by rw [← unhide HR]; simp [opOk, hk, hn])
      clear HR
      clear hk hn
      go_enter Tryz.func51, Tryz.ntmps51
      go_wp2_with (first | (go_at_call_of 75 k; refine (unhide HK _).mono ?_; rintro e w1 ⟨rfl, rfl⟩) | (go_at_call_of 74 n; refine (unhide HN _).mono ?_; rintro e w1 ⟨rfl, rfl⟩))
      go_ret
      exact ⟨ret_bool (by rw [unhide HP]; simp), by first | exact below_two w _ _ | exact Below.setNew (below_two w _ _) (by omega)⟩
  · have HK := hide (fun w1 => implKeyR k true w1 hk)
    cases hn : smB n
    · have HN := hide (fun w1 => isSomeAmount n false w1 hn)
      have HP := hide (show R = (decide (no = 0) && true && false && zmB ⟨mK, mF, mT, mI, mL, mk, mN⟩) by rw [← unhide HR]; simp [opOk, hk, hn])
      clear HR
      clear hk hn
      go_enter Tryz.func51, Tryz.ntmps51
      go_wp2_with (first | (go_at_call_of 75 k; refine (unhide HK _).mono ?_; rintro e w1 ⟨rfl, rfl⟩) | (go_at_call_of 74 n; refine (unhide HN _).mono ?_; rintro e w1 ⟨rfl, rfl⟩))
      go_ret
      exact ⟨ret_bool (by rw [unhide HP]; simp), by first | exact below_two w _ _ | exact Below.setNew (below_two w _ _) (by omega)⟩
    · have HN := hide (fun w1 => isSomeAmount n true w1 hn)
      have HP := hide (show R = (decide (no = 0) && true && true && zmB ⟨mK, mF, mT, mI, mL, mk, mN⟩) by rw [← unhide HR]; simp [opOk, hk, hn])
      clear HR
      clear hk hn
      go_enter Tryz.func51, Tryz.ntmps51
      go_wp2_with (first | (go_at_call_of 75 k; refine (unhide HK _).mono ?_; rintro e w1 ⟨rfl, rfl⟩) | (go_at_call_of 74 n; refine (unhide HN _).mono ?_; rintro e w1 ⟨rfl, rfl⟩))
      go_region
      go_upto_region 23 with fail
      refine wp_at (fun W hW => ?_)
      have HBW : Hid (Below w.heap.size w W) := by rw [hW]; first | exact below_two w _ _ | exact (below_two w _ _).drew
      have hX : W.heap[w.heap.size + 1]? = some (.cells #[.int .i64 3, .int .i64 0, .string k, .int .i64 n, .int .i64 0, .int .i64 0, .int .i64 0, .int .i64 0, .int .i64 0, .string ⟨#[]⟩, .int .i64 0] 25 (0, 0)) := by rw [hW]; exact (allocsO w _ _).2
      have hY : W.heap[w.heap.size]? = some (.cells #[.int .i64 3, .int .i64 no, .string k, .int .i64 n, .int .i64 mK, .int .i64 mF, .int .i64 mT, .int .i64 mI, .int .i64 mL, .string mk, .int .i64 mN] 25 (0, 0)) := by rw [hW]; exact (allocsO w _ _).1
      clear hW
      obtain ⟨x0, x1, x2, x3, x4, x5, x6, x7, x8, x9, x10⟩ := elevenC hX
      obtain ⟨y0, y1, y2, y3, y4, y5, y6, y7, y8, y9, y10⟩ := elevenC hY
      clear hX hY
      by_cases hno : no = 0
      case' neg =>
        have hno' : ¬ (0 : Int) = no := fun e => hno e.symm
        go_wp2_with fail
        go_ret
        exact ⟨ret_bool (by rw [unhide HP]; simp [zmB, hno]), unhide HBW⟩
      subst hno
      by_cases hmK : mK = 0
      case' neg =>
        have hmK' : ¬ (0 : Int) = mK := fun e => hmK e.symm
        go_wp2_with fail
        go_ret
        exact ⟨ret_bool (by rw [unhide HP]; simp [zmB, hmK]), unhide HBW⟩
      subst hmK
      by_cases hmF : mF = 0
      case' neg =>
        have hmF' : ¬ (0 : Int) = mF := fun e => hmF e.symm
        go_wp2_with fail
        go_ret
        exact ⟨ret_bool (by rw [unhide HP]; simp [zmB, hmF]), unhide HBW⟩
      subst hmF
      by_cases hmT : mT = 0
      case' neg =>
        have hmT' : ¬ (0 : Int) = mT := fun e => hmT e.symm
        go_wp2_with fail
        go_ret
        exact ⟨ret_bool (by rw [unhide HP]; simp [zmB, hmT]), unhide HBW⟩
      subst hmT
      by_cases hmI : mI = 0
      case' neg =>
        have hmI' : ¬ (0 : Int) = mI := fun e => hmI e.symm
        go_wp2_with fail
        go_ret
        exact ⟨ret_bool (by rw [unhide HP]; simp [zmB, hmI]), unhide HBW⟩
      subst hmI
      by_cases hmL : mL = 0
      case' neg =>
        have hmL' : ¬ (0 : Int) = mL := fun e => hmL e.symm
        go_wp2_with fail
        go_ret
        exact ⟨ret_bool (by rw [unhide HP]; simp [zmB, hmL]), unhide HBW⟩
      subst hmL
      by_cases hmk : mk.toList = []
      case' neg =>
        go_wp2_with fail
        go_ret
        exact ⟨ret_bool (by rw [unhide HP]; simp [zmB, hmk]), unhide HBW⟩
      by_cases hmN : mN = 0
      case' neg =>
        have hmN' : ¬ (0 : Int) = mN := fun e => hmN e.symm
        go_wp2_with fail
        go_ret
        exact ⟨ret_bool (by rw [unhide HP]; simp [zmB, hmk, hmN]), unhide HBW⟩
      subst hmN
      go_wp2_with fail
      go_ret
      exact ⟨ret_bool (by rw [unhide HP]; simp [zmB, hmk]), unhide HBW⟩
set_option maxRecDepth 100000 in
set_option maxHeartbeats 4000000 in
theorem implOpOk_back (no : Int) (k : ByteArray) (n : Int) (m : Mg) (w : World) : Calls Tryz.prog 51 #[opw ⟨4, no, k, n, m⟩] w fun e w' => e = .returned (.bool (opOk ⟨4, no, k, n, m⟩)) ∧ Below w.heap.size w w' := by
  obtain ⟨mK, mF, mT, mI, mL, mk, mN⟩ := m
  obtain ⟨R, hR⟩ : ∃ R, opOk ⟨4, no, k, n, ⟨mK, mF, mT, mI, mL, mk, mN⟩⟩ = R := ⟨_, rfl⟩
  rw [hR]
  have HR := hide hR
  clear hR
  cases hk : keyOk k.data.toList
  · have HK := hide (fun w1 => implKeyR k false w1 hk)
    cases hn : smB n
    · have HN := hide (fun w1 => isSomeAmount n false w1 hn)
      have HP := hide (show R = (decide (no = 0) && false && false && zmB ⟨mK, mF, mT, mI, mL, mk, mN⟩) by rw [← unhide HR]; simp [opOk, hk, hn])
      clear HR
      clear hk hn
      go_enter Tryz.func51, Tryz.ntmps51
      go_wp2_with (first | (go_at_call_of 75 k; refine (unhide HK _).mono ?_; rintro e w1 ⟨rfl, rfl⟩) | (go_at_call_of 74 n; refine (unhide HN _).mono ?_; rintro e w1 ⟨rfl, rfl⟩))
      go_ret
      exact ⟨ret_bool (by rw [unhide HP]; simp), by first | exact below_two w _ _ | exact Below.setNew (below_two w _ _) (by omega)⟩
    · have HN := hide (fun w1 => isSomeAmount n true w1 hn)
      have HP := hide (show R = (decide (no = 0) && false && true && zmB ⟨mK, mF, mT, mI, mL, mk, mN⟩) by rw [← unhide HR]; simp [opOk, hk, hn])
      clear HR
      clear hk hn
      go_enter Tryz.func51, Tryz.ntmps51
      go_wp2_with (first | (go_at_call_of 75 k; refine (unhide HK _).mono ?_; rintro e w1 ⟨rfl, rfl⟩) | (go_at_call_of 74 n; refine (unhide HN _).mono ?_; rintro e w1 ⟨rfl, rfl⟩))
      go_ret
      exact ⟨ret_bool (by rw [unhide HP]; simp), by first | exact below_two w _ _ | exact Below.setNew (below_two w _ _) (by omega)⟩
  · have HK := hide (fun w1 => implKeyR k true w1 hk)
    cases hn : smB n
    · have HN := hide (fun w1 => isSomeAmount n false w1 hn)
      have HP := hide (show R = (decide (no = 0) && true && false && zmB ⟨mK, mF, mT, mI, mL, mk, mN⟩) by rw [← unhide HR]; simp [opOk, hk, hn])
      clear HR
      clear hk hn
      go_enter Tryz.func51, Tryz.ntmps51
      go_wp2_with (first | (go_at_call_of 75 k; refine (unhide HK _).mono ?_; rintro e w1 ⟨rfl, rfl⟩) | (go_at_call_of 74 n; refine (unhide HN _).mono ?_; rintro e w1 ⟨rfl, rfl⟩))
      go_ret
      exact ⟨ret_bool (by rw [unhide HP]; simp), by first | exact below_two w _ _ | exact Below.setNew (below_two w _ _) (by omega)⟩
    · have HN := hide (fun w1 => isSomeAmount n true w1 hn)
      have HP := hide (show R = (decide (no = 0) && true && true && zmB ⟨mK, mF, mT, mI, mL, mk, mN⟩) by rw [← unhide HR]; simp [opOk, hk, hn])
      clear HR
      clear hk hn
      go_enter Tryz.func51, Tryz.ntmps51
      go_wp2_with (first | (go_at_call_of 75 k; refine (unhide HK _).mono ?_; rintro e w1 ⟨rfl, rfl⟩) | (go_at_call_of 74 n; refine (unhide HN _).mono ?_; rintro e w1 ⟨rfl, rfl⟩))
      go_region
      go_upto_region 23 with fail
      refine wp_at (fun W hW => ?_)
      have HBW : Hid (Below w.heap.size w W) := by rw [hW]; first | exact below_two w _ _ | exact (below_two w _ _).drew
      have hX : W.heap[w.heap.size + 1]? = some (.cells #[.int .i64 4, .int .i64 0, .string k, .int .i64 n, .int .i64 0, .int .i64 0, .int .i64 0, .int .i64 0, .int .i64 0, .string ⟨#[]⟩, .int .i64 0] 25 (0, 0)) := by rw [hW]; exact (allocsO w _ _).2
      have hY : W.heap[w.heap.size]? = some (.cells #[.int .i64 4, .int .i64 no, .string k, .int .i64 n, .int .i64 mK, .int .i64 mF, .int .i64 mT, .int .i64 mI, .int .i64 mL, .string mk, .int .i64 mN] 25 (0, 0)) := by rw [hW]; exact (allocsO w _ _).1
      clear hW
      obtain ⟨x0, x1, x2, x3, x4, x5, x6, x7, x8, x9, x10⟩ := elevenC hX
      obtain ⟨y0, y1, y2, y3, y4, y5, y6, y7, y8, y9, y10⟩ := elevenC hY
      clear hX hY
      by_cases hno : no = 0
      case' neg =>
        have hno' : ¬ (0 : Int) = no := fun e => hno e.symm
        go_wp2_with fail
        go_ret
        exact ⟨ret_bool (by rw [unhide HP]; simp [zmB, hno]), unhide HBW⟩
      subst hno
      by_cases hmK : mK = 0
      case' neg =>
        have hmK' : ¬ (0 : Int) = mK := fun e => hmK e.symm
        go_wp2_with fail
        go_ret
        exact ⟨ret_bool (by rw [unhide HP]; simp [zmB, hmK]), unhide HBW⟩
      subst hmK
      by_cases hmF : mF = 0
      case' neg =>
        have hmF' : ¬ (0 : Int) = mF := fun e => hmF e.symm
        go_wp2_with fail
        go_ret
        exact ⟨ret_bool (by rw [unhide HP]; simp [zmB, hmF]), unhide HBW⟩
      subst hmF
      by_cases hmT : mT = 0
      case' neg =>
        have hmT' : ¬ (0 : Int) = mT := fun e => hmT e.symm
        go_wp2_with fail
        go_ret
        exact ⟨ret_bool (by rw [unhide HP]; simp [zmB, hmT]), unhide HBW⟩
      subst hmT
      by_cases hmI : mI = 0
      case' neg =>
        have hmI' : ¬ (0 : Int) = mI := fun e => hmI e.symm
        go_wp2_with fail
        go_ret
        exact ⟨ret_bool (by rw [unhide HP]; simp [zmB, hmI]), unhide HBW⟩
      subst hmI
      by_cases hmL : mL = 0
      case' neg =>
        have hmL' : ¬ (0 : Int) = mL := fun e => hmL e.symm
        go_wp2_with fail
        go_ret
        exact ⟨ret_bool (by rw [unhide HP]; simp [zmB, hmL]), unhide HBW⟩
      subst hmL
      by_cases hmk : mk.toList = []
      case' neg =>
        go_wp2_with fail
        go_ret
        exact ⟨ret_bool (by rw [unhide HP]; simp [zmB, hmk]), unhide HBW⟩
      by_cases hmN : mN = 0
      case' neg =>
        have hmN' : ¬ (0 : Int) = mN := fun e => hmN e.symm
        go_wp2_with fail
        go_ret
        exact ⟨ret_bool (by rw [unhide HP]; simp [zmB, hmk, hmN]), unhide HBW⟩
      subst hmN
      go_wp2_with fail
      go_ret
      exact ⟨ret_bool (by rw [unhide HP]; simp [zmB, hmk]), unhide HBW⟩
set_option maxRecDepth 100000 in
set_option maxHeartbeats 4000000 in
theorem implOpOk_admit (no : Int) (k : ByteArray) (n : Int) (m : Mg) (w : World) : Calls Tryz.prog 51 #[opw ⟨1, no, k, n, m⟩] w fun e w' => e = .returned (.bool (opOk ⟨1, no, k, n, m⟩)) ∧ Below w.heap.size w w' := by
  obtain ⟨mK, mF, mT, mI, mL, mk, mN⟩ := m
  obtain ⟨R, hR⟩ : ∃ R, opOk ⟨1, no, k, n, ⟨mK, mF, mT, mI, mL, mk, mN⟩⟩ = R := ⟨_, rfl⟩
  rw [hR]
  have HR := hide hR
  clear hR
  cases ho : smB no
  · have HO := hide (fun w1 => isSomeAmount no false w1 ho)
    cases hk : keyOk k.data.toList
    · have HK := hide (fun w1 => implKeyR k false w1 hk)
      cases hn : smB n
      · have HN := hide (fun w1 => isSomeAmount n false w1 hn)
        have HP := hide (show R = (false && false && false && zmB ⟨mK, mF, mT, mI, mL, mk, mN⟩) by rw [← unhide HR]; simp [opOk, ho, hk, hn])
        clear HR
        clear ho hk hn
        go_enter Tryz.func51, Tryz.ntmps51
        go_wp2_with (first | (go_at_call_of 74 no; refine (unhide HO _).mono ?_; rintro e w1 ⟨rfl, rfl⟩) | (go_at_call_of 75 k; refine (unhide HK _).mono ?_; rintro e w1 ⟨rfl, rfl⟩) | (go_at_call_of 74 n; refine (unhide HN _).mono ?_; rintro e w1 ⟨rfl, rfl⟩))
        go_ret
        exact ⟨ret_bool (by rw [unhide HP]; simp), by first | exact below_two w _ _ | exact Below.setNew (below_two w _ _) (by omega)⟩
      · have HN := hide (fun w1 => isSomeAmount n true w1 hn)
        have HP := hide (show R = (false && false && true && zmB ⟨mK, mF, mT, mI, mL, mk, mN⟩) by rw [← unhide HR]; simp [opOk, ho, hk, hn])
        clear HR
        clear ho hk hn
        go_enter Tryz.func51, Tryz.ntmps51
        go_wp2_with (first | (go_at_call_of 74 no; refine (unhide HO _).mono ?_; rintro e w1 ⟨rfl, rfl⟩) | (go_at_call_of 75 k; refine (unhide HK _).mono ?_; rintro e w1 ⟨rfl, rfl⟩) | (go_at_call_of 74 n; refine (unhide HN _).mono ?_; rintro e w1 ⟨rfl, rfl⟩))
        go_ret
        exact ⟨ret_bool (by rw [unhide HP]; simp), by first | exact below_two w _ _ | exact Below.setNew (below_two w _ _) (by omega)⟩
    · have HK := hide (fun w1 => implKeyR k true w1 hk)
      cases hn : smB n
      · have HN := hide (fun w1 => isSomeAmount n false w1 hn)
        have HP := hide (show R = (false && true && false && zmB ⟨mK, mF, mT, mI, mL, mk, mN⟩) by rw [← unhide HR]; simp [opOk, ho, hk, hn])
        clear HR
        clear ho hk hn
        go_enter Tryz.func51, Tryz.ntmps51
        go_wp2_with (first | (go_at_call_of 74 no; refine (unhide HO _).mono ?_; rintro e w1 ⟨rfl, rfl⟩) | (go_at_call_of 75 k; refine (unhide HK _).mono ?_; rintro e w1 ⟨rfl, rfl⟩) | (go_at_call_of 74 n; refine (unhide HN _).mono ?_; rintro e w1 ⟨rfl, rfl⟩))
        go_ret
        exact ⟨ret_bool (by rw [unhide HP]; simp), by first | exact below_two w _ _ | exact Below.setNew (below_two w _ _) (by omega)⟩
      · have HN := hide (fun w1 => isSomeAmount n true w1 hn)
        have HP := hide (show R = (false && true && true && zmB ⟨mK, mF, mT, mI, mL, mk, mN⟩) by rw [← unhide HR]; simp [opOk, ho, hk, hn])
        clear HR
        clear ho hk hn
        go_enter Tryz.func51, Tryz.ntmps51
        go_wp2_with (first | (go_at_call_of 74 no; refine (unhide HO _).mono ?_; rintro e w1 ⟨rfl, rfl⟩) | (go_at_call_of 75 k; refine (unhide HK _).mono ?_; rintro e w1 ⟨rfl, rfl⟩) | (go_at_call_of 74 n; refine (unhide HN _).mono ?_; rintro e w1 ⟨rfl, rfl⟩))
        go_ret
        exact ⟨ret_bool (by rw [unhide HP]; simp), by first | exact below_two w _ _ | exact Below.setNew (below_two w _ _) (by omega)⟩
  · have HO := hide (fun w1 => isSomeAmount no true w1 ho)
    cases hk : keyOk k.data.toList
    · have HK := hide (fun w1 => implKeyR k false w1 hk)
      cases hn : smB n
      · have HN := hide (fun w1 => isSomeAmount n false w1 hn)
        have HP := hide (show R = (true && false && false && zmB ⟨mK, mF, mT, mI, mL, mk, mN⟩) by rw [← unhide HR]; simp [opOk, ho, hk, hn])
        clear HR
        clear ho hk hn
        go_enter Tryz.func51, Tryz.ntmps51
        go_wp2_with (first | (go_at_call_of 74 no; refine (unhide HO _).mono ?_; rintro e w1 ⟨rfl, rfl⟩) | (go_at_call_of 75 k; refine (unhide HK _).mono ?_; rintro e w1 ⟨rfl, rfl⟩) | (go_at_call_of 74 n; refine (unhide HN _).mono ?_; rintro e w1 ⟨rfl, rfl⟩))
        go_ret
        exact ⟨ret_bool (by rw [unhide HP]; simp), by first | exact below_two w _ _ | exact Below.setNew (below_two w _ _) (by omega)⟩
      · have HN := hide (fun w1 => isSomeAmount n true w1 hn)
        have HP := hide (show R = (true && false && true && zmB ⟨mK, mF, mT, mI, mL, mk, mN⟩) by rw [← unhide HR]; simp [opOk, ho, hk, hn])
        clear HR
        clear ho hk hn
        go_enter Tryz.func51, Tryz.ntmps51
        go_wp2_with (first | (go_at_call_of 74 no; refine (unhide HO _).mono ?_; rintro e w1 ⟨rfl, rfl⟩) | (go_at_call_of 75 k; refine (unhide HK _).mono ?_; rintro e w1 ⟨rfl, rfl⟩) | (go_at_call_of 74 n; refine (unhide HN _).mono ?_; rintro e w1 ⟨rfl, rfl⟩))
        go_ret
        exact ⟨ret_bool (by rw [unhide HP]; simp), by first | exact below_two w _ _ | exact Below.setNew (below_two w _ _) (by omega)⟩
    · have HK := hide (fun w1 => implKeyR k true w1 hk)
      cases hn : smB n
      · have HN := hide (fun w1 => isSomeAmount n false w1 hn)
        have HP := hide (show R = (true && true && false && zmB ⟨mK, mF, mT, mI, mL, mk, mN⟩) by rw [← unhide HR]; simp [opOk, ho, hk, hn])
        clear HR
        clear ho hk hn
        go_enter Tryz.func51, Tryz.ntmps51
        go_wp2_with (first | (go_at_call_of 74 no; refine (unhide HO _).mono ?_; rintro e w1 ⟨rfl, rfl⟩) | (go_at_call_of 75 k; refine (unhide HK _).mono ?_; rintro e w1 ⟨rfl, rfl⟩) | (go_at_call_of 74 n; refine (unhide HN _).mono ?_; rintro e w1 ⟨rfl, rfl⟩))
        go_ret
        exact ⟨ret_bool (by rw [unhide HP]; simp), by first | exact below_two w _ _ | exact Below.setNew (below_two w _ _) (by omega)⟩
      · have HN := hide (fun w1 => isSomeAmount n true w1 hn)
        have HP := hide (show R = (true && true && true && zmB ⟨mK, mF, mT, mI, mL, mk, mN⟩) by rw [← unhide HR]; simp [opOk, ho, hk, hn])
        clear HR
        clear ho hk hn
        go_enter Tryz.func51, Tryz.ntmps51
        go_wp2_with (first | (go_at_call_of 74 no; refine (unhide HO _).mono ?_; rintro e w1 ⟨rfl, rfl⟩) | (go_at_call_of 75 k; refine (unhide HK _).mono ?_; rintro e w1 ⟨rfl, rfl⟩) | (go_at_call_of 74 n; refine (unhide HN _).mono ?_; rintro e w1 ⟨rfl, rfl⟩))
        go_region
        go_upto_region 23 with fail
        refine wp_at (fun W hW => ?_)
        have HBW : Hid (Below w.heap.size w W) := by rw [hW]; first | exact below_two w _ _ | exact (below_two w _ _).drew
        have hX : W.heap[w.heap.size + 1]? = some (.cells #[.int .i64 1, .int .i64 no, .string k, .int .i64 n, .int .i64 0, .int .i64 0, .int .i64 0, .int .i64 0, .int .i64 0, .string ⟨#[]⟩, .int .i64 0] 25 (0, 0)) := by rw [hW]; exact (allocsO w _ _).2
        have hY : W.heap[w.heap.size]? = some (.cells #[.int .i64 1, .int .i64 no, .string k, .int .i64 n, .int .i64 mK, .int .i64 mF, .int .i64 mT, .int .i64 mI, .int .i64 mL, .string mk, .int .i64 mN] 25 (0, 0)) := by rw [hW]; exact (allocsO w _ _).1
        clear hW
        obtain ⟨x0, x1, x2, x3, x4, x5, x6, x7, x8, x9, x10⟩ := elevenC hX
        obtain ⟨y0, y1, y2, y3, y4, y5, y6, y7, y8, y9, y10⟩ := elevenC hY
        clear hX hY
        by_cases hmK : mK = 0
        case' neg =>
          have hmK' : ¬ (0 : Int) = mK := fun e => hmK e.symm
          go_wp2_with fail
          go_ret
          exact ⟨ret_bool (by rw [unhide HP]; simp [zmB, hmK]), unhide HBW⟩
        subst hmK
        by_cases hmF : mF = 0
        case' neg =>
          have hmF' : ¬ (0 : Int) = mF := fun e => hmF e.symm
          go_wp2_with fail
          go_ret
          exact ⟨ret_bool (by rw [unhide HP]; simp [zmB, hmF]), unhide HBW⟩
        subst hmF
        by_cases hmT : mT = 0
        case' neg =>
          have hmT' : ¬ (0 : Int) = mT := fun e => hmT e.symm
          go_wp2_with fail
          go_ret
          exact ⟨ret_bool (by rw [unhide HP]; simp [zmB, hmT]), unhide HBW⟩
        subst hmT
        by_cases hmI : mI = 0
        case' neg =>
          have hmI' : ¬ (0 : Int) = mI := fun e => hmI e.symm
          go_wp2_with fail
          go_ret
          exact ⟨ret_bool (by rw [unhide HP]; simp [zmB, hmI]), unhide HBW⟩
        subst hmI
        by_cases hmL : mL = 0
        case' neg =>
          have hmL' : ¬ (0 : Int) = mL := fun e => hmL e.symm
          go_wp2_with fail
          go_ret
          exact ⟨ret_bool (by rw [unhide HP]; simp [zmB, hmL]), unhide HBW⟩
        subst hmL
        by_cases hmk : mk.toList = []
        case' neg =>
          go_wp2_with fail
          go_ret
          exact ⟨ret_bool (by rw [unhide HP]; simp [zmB, hmk]), unhide HBW⟩
        by_cases hmN : mN = 0
        case' neg =>
          have hmN' : ¬ (0 : Int) = mN := fun e => hmN e.symm
          go_wp2_with fail
          go_ret
          exact ⟨ret_bool (by rw [unhide HP]; simp [zmB, hmk, hmN]), unhide HBW⟩
        subst hmN
        go_wp2_with fail
        go_ret
        exact ⟨ret_bool (by rw [unhide HP]; simp [zmB, hmk]), unhide HBW⟩
set_option maxRecDepth 100000 in
set_option maxHeartbeats 4000000 in
theorem implOpOk_release (no : Int) (k : ByteArray) (n : Int) (m : Mg) (w : World) : Calls Tryz.prog 51 #[opw ⟨2, no, k, n, m⟩] w fun e w' => e = .returned (.bool (opOk ⟨2, no, k, n, m⟩)) ∧ Below w.heap.size w w' := by
  obtain ⟨mK, mF, mT, mI, mL, mk, mN⟩ := m
  obtain ⟨R, hR⟩ : ∃ R, opOk ⟨2, no, k, n, ⟨mK, mF, mT, mI, mL, mk, mN⟩⟩ = R := ⟨_, rfl⟩
  rw [hR]
  have HR := hide hR
  clear hR
  cases ho : smB no
  · have HO := hide (fun w1 => isSomeAmount no false w1 ho)
    have HP := hide (show R = (decide (k.toList = []) && decide (n = 0) && false && zmB ⟨mK, mF, mT, mI, mL, mk, mN⟩) by rw [← unhide HR]; simp [opOk, ho])
    clear HR
    clear ho
    go_enter Tryz.func51, Tryz.ntmps51
    go_wp2_with (first | (go_at_call_of 74 no; refine (unhide HO _).mono ?_; rintro e w1 ⟨rfl, rfl⟩))
    go_ret
    exact ⟨ret_bool (by rw [unhide HP]; simp), by first | exact below_two w _ _ | exact Below.setNew (below_two w _ _) (by omega)⟩
  · have HO := hide (fun w1 => isSomeAmount no true w1 ho)
    have HP := hide (show R = (decide (k.toList = []) && decide (n = 0) && true && zmB ⟨mK, mF, mT, mI, mL, mk, mN⟩) by rw [← unhide HR]; simp [opOk, ho])
    clear HR
    clear ho
    go_enter Tryz.func51, Tryz.ntmps51
    go_upto_region 23 with (first | (go_at_call_of 74 no; refine (unhide HO _).mono ?_; rintro e w1 ⟨rfl, rfl⟩))
    refine wp_at (fun W hW => ?_)
    have HBW : Hid (Below w.heap.size w W) := by rw [hW]; first | exact below_two w _ _ | exact (below_two w _ _).drew
    have hX : W.heap[w.heap.size + 1]? = some (.cells #[.int .i64 2, .int .i64 no, .string ⟨#[]⟩, .int .i64 0, .int .i64 0, .int .i64 0, .int .i64 0, .int .i64 0, .int .i64 0, .string ⟨#[]⟩, .int .i64 0] 25 (0, 0)) := by rw [hW]; exact (allocsO w _ _).2
    have hY : W.heap[w.heap.size]? = some (.cells #[.int .i64 2, .int .i64 no, .string k, .int .i64 n, .int .i64 mK, .int .i64 mF, .int .i64 mT, .int .i64 mI, .int .i64 mL, .string mk, .int .i64 mN] 25 (0, 0)) := by rw [hW]; exact (allocsO w _ _).1
    clear hW
    obtain ⟨x0, x1, x2, x3, x4, x5, x6, x7, x8, x9, x10⟩ := elevenC hX
    obtain ⟨y0, y1, y2, y3, y4, y5, y6, y7, y8, y9, y10⟩ := elevenC hY
    clear hX hY
    by_cases hk : k.toList = []
    case' neg =>
      go_wp2_with fail
      go_ret
      exact ⟨ret_bool (by rw [unhide HP]; simp [zmB, hk]), unhide HBW⟩
    by_cases hn : n = 0
    case' neg =>
      have hn' : ¬ (0 : Int) = n := fun e => hn e.symm
      go_wp2_with fail
      go_ret
      exact ⟨ret_bool (by rw [unhide HP]; simp [zmB, hk, hn]), unhide HBW⟩
    subst hn
    by_cases hmK : mK = 0
    case' neg =>
      have hmK' : ¬ (0 : Int) = mK := fun e => hmK e.symm
      go_wp2_with fail
      go_ret
      exact ⟨ret_bool (by rw [unhide HP]; simp [zmB, hk, hmK]), unhide HBW⟩
    subst hmK
    by_cases hmF : mF = 0
    case' neg =>
      have hmF' : ¬ (0 : Int) = mF := fun e => hmF e.symm
      go_wp2_with fail
      go_ret
      exact ⟨ret_bool (by rw [unhide HP]; simp [zmB, hk, hmF]), unhide HBW⟩
    subst hmF
    by_cases hmT : mT = 0
    case' neg =>
      have hmT' : ¬ (0 : Int) = mT := fun e => hmT e.symm
      go_wp2_with fail
      go_ret
      exact ⟨ret_bool (by rw [unhide HP]; simp [zmB, hk, hmT]), unhide HBW⟩
    subst hmT
    by_cases hmI : mI = 0
    case' neg =>
      have hmI' : ¬ (0 : Int) = mI := fun e => hmI e.symm
      go_wp2_with fail
      go_ret
      exact ⟨ret_bool (by rw [unhide HP]; simp [zmB, hk, hmI]), unhide HBW⟩
    subst hmI
    by_cases hmL : mL = 0
    case' neg =>
      have hmL' : ¬ (0 : Int) = mL := fun e => hmL e.symm
      go_wp2_with fail
      go_ret
      exact ⟨ret_bool (by rw [unhide HP]; simp [zmB, hk, hmL]), unhide HBW⟩
    subst hmL
    by_cases hmk : mk.toList = []
    case' neg =>
      go_wp2_with fail
      go_ret
      exact ⟨ret_bool (by rw [unhide HP]; simp [zmB, hk, hmk]), unhide HBW⟩
    by_cases hmN : mN = 0
    case' neg =>
      have hmN' : ¬ (0 : Int) = mN := fun e => hmN e.symm
      go_wp2_with fail
      go_ret
      exact ⟨ret_bool (by rw [unhide HP]; simp [zmB, hk, hmk, hmN]), unhide HBW⟩
    subst hmN
    go_wp2_with fail
    go_ret
    exact ⟨ret_bool (by rw [unhide HP]; simp [zmB, hk, hmk]), unhide HBW⟩
set_option maxRecDepth 100000 in
set_option maxHeartbeats 4000000 in
theorem implOpOk_tick (no : Int) (k : ByteArray) (n : Int) (m : Mg) (w : World) : Calls Tryz.prog 51 #[opw ⟨5, no, k, n, m⟩] w fun e w' => e = .returned (.bool (opOk ⟨5, no, k, n, m⟩)) ∧ Below w.heap.size w w' := by
  obtain ⟨mK, mF, mT, mI, mL, mk, mN⟩ := m
  obtain ⟨R, hR⟩ : ∃ R, opOk ⟨5, no, k, n, ⟨mK, mF, mT, mI, mL, mk, mN⟩⟩ = R := ⟨_, rfl⟩
  rw [hR]
  have HR := hide hR
  clear hR
  have HP := hide (show R = (decide (k.toList = []) && decide (n = 0) && decide (no = 0) && zmB ⟨mK, mF, mT, mI, mL, mk, mN⟩) by rw [← unhide HR]; simp [opOk])
  clear HR
  go_enter Tryz.func51, Tryz.ntmps51
  go_upto_region 23 with fail
  refine wp_at (fun W hW => ?_)
  have HBW : Hid (Below w.heap.size w W) := by rw [hW]; first | exact below_two w _ _ | exact (below_two w _ _).drew
  have hX : W.heap[w.heap.size + 1]? = some (.cells #[.int .i64 5, .int .i64 0, .string ⟨#[]⟩, .int .i64 0, .int .i64 0, .int .i64 0, .int .i64 0, .int .i64 0, .int .i64 0, .string ⟨#[]⟩, .int .i64 0] 25 (0, 0)) := by rw [hW]; exact (allocsO w _ _).2
  have hY : W.heap[w.heap.size]? = some (.cells #[.int .i64 5, .int .i64 no, .string k, .int .i64 n, .int .i64 mK, .int .i64 mF, .int .i64 mT, .int .i64 mI, .int .i64 mL, .string mk, .int .i64 mN] 25 (0, 0)) := by rw [hW]; exact (allocsO w _ _).1
  clear hW
  obtain ⟨x0, x1, x2, x3, x4, x5, x6, x7, x8, x9, x10⟩ := elevenC hX
  obtain ⟨y0, y1, y2, y3, y4, y5, y6, y7, y8, y9, y10⟩ := elevenC hY
  clear hX hY
  by_cases hno : no = 0
  case' neg =>
    have hno' : ¬ (0 : Int) = no := fun e => hno e.symm
    go_wp2_with fail
    go_ret
    exact ⟨ret_bool (by rw [unhide HP]; simp [zmB, hno]), unhide HBW⟩
  subst hno
  by_cases hk : k.toList = []
  case' neg =>
    go_wp2_with fail
    go_ret
    exact ⟨ret_bool (by rw [unhide HP]; simp [zmB, hk]), unhide HBW⟩
  by_cases hn : n = 0
  case' neg =>
    have hn' : ¬ (0 : Int) = n := fun e => hn e.symm
    go_wp2_with fail
    go_ret
    exact ⟨ret_bool (by rw [unhide HP]; simp [zmB, hk, hn]), unhide HBW⟩
  subst hn
  by_cases hmK : mK = 0
  case' neg =>
    have hmK' : ¬ (0 : Int) = mK := fun e => hmK e.symm
    go_wp2_with fail
    go_ret
    exact ⟨ret_bool (by rw [unhide HP]; simp [zmB, hk, hmK]), unhide HBW⟩
  subst hmK
  by_cases hmF : mF = 0
  case' neg =>
    have hmF' : ¬ (0 : Int) = mF := fun e => hmF e.symm
    go_wp2_with fail
    go_ret
    exact ⟨ret_bool (by rw [unhide HP]; simp [zmB, hk, hmF]), unhide HBW⟩
  subst hmF
  by_cases hmT : mT = 0
  case' neg =>
    have hmT' : ¬ (0 : Int) = mT := fun e => hmT e.symm
    go_wp2_with fail
    go_ret
    exact ⟨ret_bool (by rw [unhide HP]; simp [zmB, hk, hmT]), unhide HBW⟩
  subst hmT
  by_cases hmI : mI = 0
  case' neg =>
    have hmI' : ¬ (0 : Int) = mI := fun e => hmI e.symm
    go_wp2_with fail
    go_ret
    exact ⟨ret_bool (by rw [unhide HP]; simp [zmB, hk, hmI]), unhide HBW⟩
  subst hmI
  by_cases hmL : mL = 0
  case' neg =>
    have hmL' : ¬ (0 : Int) = mL := fun e => hmL e.symm
    go_wp2_with fail
    go_ret
    exact ⟨ret_bool (by rw [unhide HP]; simp [zmB, hk, hmL]), unhide HBW⟩
  subst hmL
  by_cases hmk : mk.toList = []
  case' neg =>
    go_wp2_with fail
    go_ret
    exact ⟨ret_bool (by rw [unhide HP]; simp [zmB, hk, hmk]), unhide HBW⟩
  by_cases hmN : mN = 0
  case' neg =>
    have hmN' : ¬ (0 : Int) = mN := fun e => hmN e.symm
    go_wp2_with fail
    go_ret
    exact ⟨ret_bool (by rw [unhide HP]; simp [zmB, hk, hmk, hmN]), unhide HBW⟩
  subst hmN
  go_wp2_with fail
  go_ret
  exact ⟨ret_bool (by rw [unhide HP]; simp [zmB, hk, hmk]), unhide HBW⟩
set_option maxRecDepth 100000 in
set_option maxHeartbeats 4000000 in
theorem implOpOk_hear (no : Int) (k : ByteArray) (n : Int) (m : Mg) (w : World) : Calls Tryz.prog 51 #[opw ⟨6, no, k, n, m⟩] w fun e w' => e = .returned (.bool (opOk ⟨6, no, k, n, m⟩)) ∧ Below w.heap.size w w' := by
  have HM := hide (fun w1 => implMsgOk m w1)
  obtain ⟨R, hR⟩ : ∃ R, opOk ⟨6, no, k, n, m⟩ = R := ⟨_, rfl⟩
  rw [hR]
  have HP := hide (show R = (decide (k.toList = []) && decide (n = 0) && decide (no = 0) && mgOk m) by rw [← hR]; simp [opOk])
  clear hR
  generalize mgOk m = OK at *
  obtain ⟨mK, mF, mT, mI, mL, mk, mN⟩ := m
  have HX := hide (heap_alloc_new (w.alloc (.cells #[.int .i64 6, .int .i64 no, .string k, .int .i64 n, .int .i64 mK, .int .i64 mF, .int .i64 mT, .int .i64 mI, .int .i64 mL, .string mk, .int .i64 mN] 25)) (.cells #[.int .i64 6, .int .i64 0, .string ⟨#[]⟩, .int .i64 0, .int .i64 0, .int .i64 0, .int .i64 0, .int .i64 0, .int .i64 0, .string ⟨#[]⟩, .int .i64 0] 25))
  have HY := hide (blk_step (heap_alloc_new w (.cells #[.int .i64 6, .int .i64 no, .string k, .int .i64 n, .int .i64 mK, .int .i64 mF, .int .i64 mT, .int .i64 mI, .int .i64 mL, .string mk, .int .i64 mN] 25)) (below_one _ (.cells #[.int .i64 6, .int .i64 0, .string ⟨#[]⟩, .int .i64 0, .int .i64 0, .int .i64 0, .int .i64 0, .int .i64 0, .int .i64 0, .string ⟨#[]⟩, .int .i64 0] 25)))
  rw [show (w.alloc (.cells #[.int .i64 6, .int .i64 no, .string k, .int .i64 n, .int .i64 mK, .int .i64 mF, .int .i64 mT, .int .i64 mI, .int .i64 mL, .string mk, .int .i64 mN] 25)).heap.size = w.heap.size + 1 by simp] at HX
  go_enter Tryz.func51, Tryz.ntmps51
  go_wp2_with fail
  refine (unhide HM _).mono ?_
  rintro e w1 ⟨rfl, hb1⟩
  have HX1 := hide (blk_step (unhide HX) hb1)
  have HY1 := hide (blk_step (unhide HY) hb1)
  have HB1 := hide ((below_two w _ _).trans (hb1.mono (by simp; omega)))
  clear hb1 HX HY
  obtain ⟨x0, x1, x2, x3, x4, x5, x6, x7, x8, x9, x10⟩ := elevenC (unhide HX1)
  obtain ⟨y0, y1, y2, y3, y4, y5, y6, y7, y8, y9, y10⟩ := elevenC (unhide HY1)
  have f4 := op_free (unhide HX1) 4
  have f5 := op_free (unhide HX1) 5
  have f6 := op_free (unhide HX1) 6
  have f7 := op_free (unhide HX1) 7
  have f8 := op_free (unhide HX1) 8
  have f9 := op_free (unhide HX1) 9
  have f10 := op_free (unhide HX1) 10
  cases hOK : OK
  · go_wp2_with fail
    all_goals
      go_ret
      refine ⟨ret_bool ?_, ?_⟩
      · rw [unhide HP]
        simp [hOK]
      · repeat (refine Below.setNew ?_ (by omega))
        exact unhide HB1
  have HKK := hide hOK
  clear hOK
  by_cases hno : no = 0
  case' neg =>
    have hno' : ¬ (0 : Int) = no := fun e => hno e.symm
    go_wp2_with fail
    all_goals
      go_ret
      refine ⟨ret_bool ?_, ?_⟩
      · rw [unhide HP]
        simp [hno]
      · repeat (refine Below.setNew ?_ (by omega))
        exact unhide HB1
  subst hno
  by_cases hk : k.toList = []
  case' neg =>
    go_wp2_with fail
    all_goals
      go_ret
      refine ⟨ret_bool ?_, ?_⟩
      · rw [unhide HP]
        simp [hk]
      · repeat (refine Below.setNew ?_ (by omega))
        exact unhide HB1
  by_cases hn : n = 0
  case' neg =>
    have hn' : ¬ (0 : Int) = n := fun e => hn e.symm
    go_wp2_with fail
    all_goals
      go_ret
      refine ⟨ret_bool ?_, ?_⟩
      · rw [unhide HP]
        simp [hn, hk]
      · repeat (refine Below.setNew ?_ (by omega))
        exact unhide HB1
  subst hn
  go_wp2_with fail
  all_goals
    go_ret
    refine ⟨ret_bool ?_, ?_⟩
    · rw [unhide HP]
      simp [hk, unhide HKK]
    · repeat (refine Below.setNew ?_ (by omega))
      exact unhide HB1
set_option maxRecDepth 100000 in
set_option maxHeartbeats 4000000 in
theorem implOpOk_else (K no : Int) (k : ByteArray) (n : Int) (m : Mg) (w : World) (h0 : ¬ K = 0) (h1 : ¬ K = 1) (h2 : ¬ K = 2) (h3 : ¬ K = 3) (h4 : ¬ K = 4) (h5 : ¬ K = 5) (h6 : ¬ K = 6) : Calls Tryz.prog 51 #[opw ⟨K, no, k, n, m⟩] w fun e w' => e = .returned (.bool (opOk ⟨K, no, k, n, m⟩)) ∧ Below w.heap.size w w' := by
  have HP := hide (show opOk ⟨K, no, k, n, m⟩ = false by simp [opOk, h0, h1, h2, h3, h4, h5, h6])
  obtain ⟨mK, mF, mT, mI, mL, mk, mN⟩ := m
  go_enter Tryz.func51, Tryz.ntmps51
  go_wp2_with fail
  go_ret
  exact ⟨ret_bool (unhide HP).symm, below_two w _ _⟩
theorem implOpOk (o : Op5) (w : World) : Calls Tryz.prog 51 #[opw o] w fun e w' => e = .returned (.bool (opOk o)) ∧ Below w.heap.size w w' := by
  obtain ⟨K, no, k, n, m⟩ := o
  by_cases h0 : K = 0
  · subst h0; exact implOpOk_mint no k n m w
  by_cases h1 : K = 1
  · subst h1; exact implOpOk_admit no k n m w
  by_cases h2 : K = 2
  · subst h2; exact implOpOk_release no k n m w
  by_cases h3 : K = 3
  · subst h3; exact implOpOk_want no k n m w
  by_cases h4 : K = 4
  · subst h4; exact implOpOk_back no k n m w
  by_cases h5 : K = 5
  · subst h5; exact implOpOk_tick no k n m w
  by_cases h6 : K = 6
  · subst h6; exact implOpOk_hear no k n m w
  exact implOpOk_else K no k n m w h0 h1 h2 h3 h4 h5 h6
end Go.Proofs.YtikdkijggejnfaaGreatDoor
