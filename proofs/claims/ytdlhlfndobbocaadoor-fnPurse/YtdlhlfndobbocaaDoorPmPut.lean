/-
  The program's map of purses: a purse put in, a purse asked for.
-/
import Derived.Test.YtdlhlfndobbocaaDoorPmMap
import Derived.Deep.DeepCutAuto
import Derived.Deep.RegionHeld
import Derived.Deep.RegionWith
namespace Go.Proofs.YtdlhlfndobbocaaDoor
open Go.RowKit Go.Maps
open Mth

set_option maxRecDepth 100000 in
set_option maxHeartbeats 1000000 in
theorem implNothing (p : Pu) (w : World) : Calls Tryd.prog 77 #[puv p] w fun e w' => e = .returned (.bool (nothing p)) ∧ Below w.heap.size w w' := by
  obtain ⟨pk, pm, pf, ps⟩ := p
  go_enter Tryd.func77, Tryd.ntmps77
  go_wp2
  all_goals
    go_ret
    exact ⟨by simp [nothing, *], below_one' w _⟩

theorem two_at {w : World} {g : Nat} {a0 a1 : Value} {t : TypeId} (h : w.heap[g]? = some (.cells #[a0, a1] t (0, 0))) :
    (w.cell? ⟨g, 0, none⟩ = some a0 ∧ w.cell? ⟨g, 1, none⟩ = some a1) ∧ (w.frozen? ⟨g, 0, none⟩ = false ∧ w.frozen? ⟨g, 1, none⟩ = false) := by
  have hc : ∀ i, w.cell? ⟨g, i, none⟩ = #[a0, a1][i]? := fun i => cell_of_row w g i _ t (0, 0) h
  have hf : ∀ i, w.frozen? ⟨g, i, none⟩ = false := fun i => by unfold World.frozen?; rw [h]; simp
  exact ⟨⟨hc 0, hc 1⟩, hf 0, hf 1⟩
theorem MapIs.mono {w : World} {mb n n' : Nat} {G : ByteArray → Pu} (h : MapIs w mb n G) (hn : n ≤ n') : MapIs w mb n' G := by
  obtain ⟨D, h1, h2⟩ := h
  exact ⟨D, h1.mono hn, h2⟩

set_option maxRecDepth 100000 in
set_option maxHeartbeats 2000000 in
theorem implPut (mp mb n : Nat) (v : Value) (G : ByteArray → Pu) (p : Pu) (w : World) (hk : p.k.size ≤ 1048576) (hn : n < maxLen) (hm : w.heap[mp]? = some (.cells #[v, .map (some mb)] 85 (0, 0))) (hM : MapIs w mb n G) :
    Calls Tryd.prog 71 #[.pointer (some ⟨mp, 0, none⟩), puv p] w fun e w' => e = .returned (.tuple #[]) ∧ MapIs w' mb (n + 1) (upd G p) ∧ Keeps mb w w' := by
  have HN := hide (fun w1 => implNothing p w1)
  have HM := hide hm
  have HI := hide hM
  have hkm : p.k.size ≤ maxLen := by unfold maxLen; omega
  have hmp := Fo.lt_of_blk hm
  have hmb := hM.lt
  cases hno : nothing p
  · obtain ⟨pk, pm, pf, ps⟩ := p
    have HST := hide (fun w1 h => MapIs.store (w := w1) (mb := mb) (n := n) (G := G) h ⟨pk, pm, pf, ps⟩ hkm hn hno)
    clear hm hM
    go_enter Tryd.func71, Tryd.ntmps71
    go_wp2_with fail
    refine (unhide HN _).mono ?_
    rintro e w1 ⟨rfl, hb1⟩
    rw [hno]
    obtain ⟨hA, hz, hbel⟩ := Fo.one_block hb1
    obtain ⟨⟨p0, p1, p2, p3⟩, _⟩ := four_at hA
    have hm1 : w1.heap[mp]? = some (.cells #[v, .map (some mb)] 85 (0, 0)) := by rw [hbel.block _ hmp]; exact unhide HM
    obtain ⟨⟨m0, m1⟩, _⟩ := two_at hm1
    have hI1 : MapIs w1.drew mb n G := (unhide HI).kept (by rw [← hbel.block _ hmb]; rfl)
    obtain ⟨w2, hrun, hI2, hK2⟩ := unhide HST _ hI1
    have HI2 := hide hI2
    have HK2 := hide ((Keeps.of_below (g := mb) hbel).trans (Keeps.trans (b := w1.drew) (Keeps.of_below (Below.refl _ _).drew) hK2))
    clear hb1 hA hbel hm1 hI1 hI2 hK2 HST HN
    go_wp2_with fail
    go_region
    all_goals
      go_wp2_with fail
      exact bodyPost_end (v := .tuple #[]) (by simp [results, Tryd.results71, go_sem]) rfl ⟨rfl, unhide HI2, unhide HK2⟩
  · obtain ⟨pk, pm, pf, ps⟩ := p
    have HST := hide (fun w1 ty h => MapIs.drop (w := w1) (mb := mb) (n := n) (G := G) h ⟨pk, pm, pf, ps⟩ hkm hno ty)
    clear hm hM
    go_enter Tryd.func71, Tryd.ntmps71
    go_wp2_with fail
    refine (unhide HN _).mono ?_
    rintro e w1 ⟨rfl, hb1⟩
    rw [hno]
    obtain ⟨hA, hz, hbel⟩ := Fo.one_block hb1
    obtain ⟨⟨p0, p1, p2, p3⟩, _⟩ := four_at hA
    have hm1 : w1.heap[mp]? = some (.cells #[v, .map (some mb)] 85 (0, 0)) := by rw [hbel.block _ hmp]; exact unhide HM
    obtain ⟨⟨m0, m1⟩, _⟩ := two_at hm1
    have hI1 : MapIs w1.drew mb n G := (unhide HI).kept (by rw [← hbel.block _ hmb]; rfl)
    obtain ⟨w2, hrun, hI2, hK2⟩ := unhide HST _ 0 hI1
    have HI2 := hide (hI2.mono (Nat.le_succ n))
    have HK2 := hide ((Keeps.of_below (g := mb) hbel).trans (Keeps.trans (b := w1.drew) (Keeps.of_below (Below.refl _ _).drew) hK2))
    clear hb1 hA hbel hm1 hI1 hI2 hK2 HST HN
    go_wp2_with fail
    go_region
    all_goals
      go_wp2_with fail
      exact bodyPost_ret (v := .tuple #[]) (by simp [results, Tryd.results71, go_sem]) rfl ⟨rfl, unhide HI2, unhide HK2⟩

set_option maxRecDepth 100000 in
set_option maxHeartbeats 2000000 in
theorem implGet (mp mb n : Nat) (v : Value) (G : ByteArray → Pu) (k : ByteArray) (w : World) (hk : k.size ≤ 1048576) (hm : w.heap[mp]? = some (.cells #[v, .map (some mb)] 85 (0, 0))) (hM : MapIs w mb n G) :
    Calls Tryd.prog 72 #[.pointer (some ⟨mp, 0, none⟩), .string k] w fun e w' => e = .returned (puv (G k)) ∧ Below w.heap.size w w' := by
  have hmp := Fo.lt_of_blk hm
  have hmb := hM.lt
  obtain ⟨⟨m0, m1⟩, _⟩ := two_at hm
  have hGk := (hM.choose_spec.2 k).1
  have hrun := (MapIs.kept (w' := w.alloc (.cells #[.string ⟨#[]⟩, .int .i64 0, .int .i64 0, .int .i64 0] 32)) hM (by rw [Below.heap_alloc _ _ _ hmb])).look k (by unfold maxLen; omega)
  clear hm hM
  cases hno : nothing (G k)
  · rw [hno] at hrun
    generalize G k = p at *
    obtain ⟨pk, pm, pf, ps⟩ := p
    dsimp only at hGk
    subst hGk
    simp only [Bool.not_false, if_neg Bool.false_ne_true] at hrun
    go_enter Tryd.func72, Tryd.ntmps72
    go_wp2_with fail
    exact bodyPost_ret (v := .agg #[.string pk, .int .i64 pm, .int .i64 pf, .int .i64 ps]) (by simp [results, Tryd.results72, go_sem]) rfl ⟨rfl, ((Below.refl _ _).alloc (Nat.le_refl _) _).alloc (by simp) _⟩
  · have hG0 : G k = ⟨k, 0, 0, 0⟩ := by
      obtain ⟨h1, h2, h3⟩ := (nothing_iff _).1 hno
      generalize G k = p at *
      obtain ⟨pk, pm, pf, ps⟩ := p
      dsimp only at hGk h1 h2 h3
      rw [hGk, h1, h2, h3]
    rw [hno] at hrun
    rw [hG0]
    clear hno hG0 hGk
    simp only [Bool.not_true, if_pos] at hrun
    go_enter Tryd.func72, Tryd.ntmps72
    go_wp2_with fail
    exact bodyPost_ret (v := .agg #[.string k, .int .i64 0, .int .i64 0, .int .i64 0]) (by simp [results, Tryd.results72, go_sem]) rfl ⟨rfl, ((Below.refl _ _).alloc (Nat.le_refl _) _).alloc (by simp) _⟩
end Go.Proofs.YtdlhlfndobbocaaDoor
