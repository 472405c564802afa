/-
  The draws of chapter 11: DrawDemandAsk, DrawForecast, DrawSurplus, DrawLack, whatever they draw.
-/
import Derived.Test.YtmflajfddjnmhaaDmDraw
namespace Go.Proofs.Ytmflajfddjnmhaa
open Go.RowKit
open Mth

/-- A list of numbers lies in block g. -/
def Lit (w : World) (g : Nat) (zs : List Int) : Prop := g < w.heap.size ∧ ∀ i (hi : i < zs.length), w.cell? ⟨g, i, none⟩ = some (.int .i64 zs[i])
theorem Lit.make {w : World} {g : Nat} {zs : List Int} {cs : Array Value} {t : TypeId} (h : g = w.heap.size) (hcs : cs = (zs.map (Value.int .i64)).toArray) : Lit (w.alloc (.cells cs t)) g zs := by
  subst h hcs
  exact ⟨by simp, fun i hi => lit_ints w zs t i hi⟩
theorem Lit.alloc {w : World} {g : Nat} {zs : List Int} (o : Obj) (h : Lit w g zs) : Lit (w.alloc o) g zs :=
  ⟨by have := h.1; simp; omega, fun i hi => by rw [World.cell?_alloc_lt _ _ ⟨g, i, none⟩ h.1]; exact h.2 i hi⟩
theorem Lit.keeps {w w' : World} {g c : Nat} {zs : List Int} (hk : Keeps c w w') (hne : g ≠ c) (h : Lit w g zs) : Lit w' g zs :=
  ⟨Nat.lt_of_lt_of_le h.1 hk.size, fun i hi => (World.cell?_of_block (w := w) (hk.block g h.1 hne)).trans (h.2 i hi)⟩
theorem Lit.drew {w : World} {g : Nat} {zs : List Int} (h : Lit w g zs) : Lit w.drew g zs := h
theorem dm_cd {w : World} {c : Nat} (h : Cur w c) : Cur w.drew c := h
theorem pickL {c g cap n : Nat} {zs : List Int} {w : World} (hc : Cur w c) (hl : Lit w g zs) (hn : n = zs.length) (hne : g ≠ c) (hp : 0 < zs.length) (hm : zs.length ≤ 1000) :
    Calls Try.prog 32 #[.pointer (some ⟨c, 0, none⟩), .slice (some ⟨g, 0, none⟩) n cap] w fun e w' => ∃ z : Int, e = .returned (.int .i64 z) ∧ Cur w' c ∧ Keeps c w w' := by
  subst hn
  refine (l01PickInt c g cap zs w hc hne hp hm hl.2 hl.1).mono ?_
  rintro e w' ⟨z, rfl, _, h1, h2⟩
  exact ⟨z, rfl, h1, h2⟩

theorem dm_asz (w : World) (o : Obj) : (w.alloc o).heap.size = w.heap.size + 1 := by simp
theorem dmNew (a : Option Addr) (len cap : Nat) (w : World) (o : Obj) (h : CodeOk w a len) : Calls Try.prog 30 #[.slice a len cap] (w.alloc o) fun e w' => e = .returned (.pointer (some ⟨w.heap.size + 1, 0, none⟩)) ∧ Cur w' (w.heap.size + 1) ∧ w'.heap[w.heap.size]? = some o ∧ Below w.heap.size w w' := by
  have h1 := h.below (dm_one w o)
  refine (l01New a len cap _ h1.1 h1.2).mono ?_
  rintro e w' ⟨rfl, hc, hb⟩
  rw [dm_asz] at hc hb ⊢
  have hb' : Below (w.alloc o).heap.size (w.alloc o) w' := by rw [dm_asz]; exact hb
  exact ⟨rfl, hc, dm_step (heap_alloc_new w o) hb', (dm_one w o).trans (hb.mono (by omega))⟩

/-- Where the walk of a draw stands: the result's block, the cursor, the demand's own block. -/
structure DRes (w : World) (g : Nat) (d : Dm) (w' : World) : Prop where
  res : w'.heap[w.heap.size]? = some (dmo ⟨0, 0, 0⟩)
  cur : Cur w' (w.heap.size + 1)
  below : Below w.heap.size w w'
  own : w'.heap[g]? = some (dmo d)
  beyond : w.heap.size + 1 < g
theorem DRes.step {w w1 w2 : World} {g : Nat} {d : Dm} (h : DRes w g d w1) (hc : Cur w2 (w.heap.size + 1)) (hk : Keeps (w.heap.size + 1) w1 w2) : DRes w g d w2 :=
  ⟨dm_keeps h.res hk (by omega), hc, h.below.trans (hk.below (B := w.heap.size) (by omega) h.below.size), dm_keeps h.own hk (by have := h.beyond; omega), h.beyond⟩
theorem DRes.make {w w1 : World} {d : Dm} (hr : w1.heap[w.heap.size]? = some (dmo ⟨0, 0, 0⟩)) (hc : Cur w1 (w.heap.size + 1)) (hb : Below w.heap.size w w1) : DRes w w1.heap.size d (w1.alloc (dmo d)) := by
  have hl := hc.lt
  exact ⟨dm_keeps (c := w.heap.size + 1) hr (keeps_new _) (by omega), cur_new hc _, hb.alloc hb.size _, heap_alloc_new w1 _, hl⟩
theorem dm_kd {c : Nat} {w w' : World} (h : Keeps c w.drew w') : Keeps c w w' := ⟨h.os, h.tape, h.output, h.size, h.block⟩
/-- The demand handed back beside something else. -/
theorem DRes.done {w w1 : World} {g : Nat} {d : Dm} (h : DRes w g d w1) {W' : World} (hW : W' = ((w1.setCell ⟨w.heap.size, 0, none⟩ (.int .i64 d.A)).setCell ⟨w.heap.size, 1, none⟩ (.int .i64 d.C)).setCell ⟨w.heap.size, 2, none⟩ (.int .i64 d.O)) :
    W'.heap[w.heap.size]? = some (dmo d) ∧ Below w.heap.size w W' := by
  subst hW
  exact ⟨dm_all h.res, dm_below h.below (Nat.le_refl _)⟩

set_option maxRecDepth 100000 in
set_option maxHeartbeats 4000000 in
theorem drawDemandAsk (a : Option Addr) (len cap : Nat) (w : World) (hcode : CodeOk w a len) : Calls Try.prog 11 #[.slice a len cap] w fun e w' => ∃ (d : Dm) (z1 : Int), e = .returned (.tuple #[dmv d, .int .i64 z1]) ∧ Below w.heap.size w w' := by
  have HC := hide hcode
  clear hcode
  go_enter Try.func11, Try.ntmps11
  go_wp2_with fail
  refine (dmNew a len cap w _ (unhide HC)).mono ?_
  rintro e w1 ⟨rfl, hc1, hr1, hb1⟩
  go_wp2_with fail
  refine (l11Demand _ _ hc1).mono ?_
  rintro e w2 ⟨d, rfl, hc2, hk2⟩
  have HR2 := hide (dm_keeps hr1 hk2 (by omega))
  have HB2 := hide (hb1.trans (hk2.below (B := w.heap.size) (by omega) hb1.size))
  have HC2 := hide hc2
  clear hr1 hb1 hc1 hc2 hk2
  obtain ⟨A, C, O⟩ := d
  go_upto_region 3 with fail
  refine dm_wp (fun W3 hW3 => ?_)
  have HM : Hid (DRes w w2.heap.size ⟨A, C, O⟩ W3) := by
    subst hW3
    exact DRes.make (unhide HR2) (unhide HC2) (unhide HB2)
  clear hW3 HR2 HC2 HB2 HC
  have hbg := (unhide HM).beyond
  generalize w2.heap.size = g at *
  obtain ⟨⟨c0, c1, c2⟩, _⟩ := dm_at (unhide HM).own
  dsimp only at c0 c1 c2
  have hne1 : w.heap.size ≠ g := by omega
  have hne2 : g ≠ w.heap.size := by omega
  have hcd : Cur W3 (w.heap.size + 1) := (unhide HM).cur
  have hl0 : w.heap.size + 1 < W3.heap.size := hcd.lt
  go_region_held (fun w' => w'.cell? ⟨g, 0, none⟩ = some (.int .i64 A) ∧ w'.cell? ⟨g, 1, none⟩ = some (.int .i64 C) ∧ w'.cell? ⟨g, 2, none⟩ = some (.int .i64 O)) (go_keep)
    (first
      | (go_at_call 32; refine (pickL (zs := [0, 5, 1000000000, 1000000001, -1, 17]) (by refine dm_cd ?_; (repeat refine cur_new ?_ _); exact hcd) (by refine Lit.drew ?_; repeat (first | exact Lit.make (by simp) rfl | (refine Lit.alloc _ ?_))) rfl (by omega) (by simp) (by simp)).mono ?_; rintro e v1 ⟨z1, rfl, hc1, hq1⟩; have hk1 : Keeps (w.heap.size + 1) W3 v1 := (by first | exact dm_kd hq1 | exact (keeps_new _).trans (dm_kd hq1) | exact (keeps_new _).trans ((keeps_new _).trans (dm_kd hq1)) | exact (keeps_new _).trans ((keeps_new _).trans ((keeps_new _).trans (dm_kd hq1)))); have HM1 := hide ((unhide HM).step hc1 (hk1)); have hl1 := hc1.lt; obtain ⟨⟨a10, a11, a12⟩, _⟩ := dm_at (unhide HM1).own; dsimp only at a10 a11 a12; obtain ⟨⟨d0, d1, d2⟩, f0, f1, f2⟩ := dm_at (unhide HM1).res; dsimp only at d0 d1 d2))
  all_goals
    go_wp2_with fail
    refine dm_post (fun W' hW' => ?_)
    obtain ⟨hblk, hbl⟩ := (unhide HM1).done hW'
    obtain ⟨⟨r0, r1, r2⟩, _⟩ := dm_at hblk
    dsimp only at r0 r1 r2
    refine bodyPost_ret (v := .tuple #[.agg #[.int .i64 A, .int .i64 C, .int .i64 O], .int .i64 z1]) (by simp [results, Try.results11, go_sem, r0, r1, r2]) rfl ⟨⟨A, C, O⟩, z1, rfl, hbl⟩

set_option maxRecDepth 100000 in
set_option maxHeartbeats 4000000 in
theorem drawForecast (a : Option Addr) (len cap : Nat) (w : World) (hcode : CodeOk w a len) : Calls Try.prog 14 #[.slice a len cap] w fun e w' => ∃ (d : Dm) (z1 : Int), e = .returned (.tuple #[dmv d, .int .i64 z1]) ∧ Below w.heap.size w w' := by
  have HC := hide hcode
  clear hcode
  go_enter Try.func14, Try.ntmps14
  go_wp2_with fail
  refine (dmNew a len cap w _ (unhide HC)).mono ?_
  rintro e w1 ⟨rfl, hc1, hr1, hb1⟩
  go_wp2_with fail
  refine (l11Demand _ _ hc1).mono ?_
  rintro e w2 ⟨d, rfl, hc2, hk2⟩
  have HR2 := hide (dm_keeps hr1 hk2 (by omega))
  have HB2 := hide (hb1.trans (hk2.below (B := w.heap.size) (by omega) hb1.size))
  have HC2 := hide hc2
  clear hr1 hb1 hc1 hc2 hk2
  obtain ⟨A, C, O⟩ := d
  go_upto_region 3 with fail
  refine dm_wp (fun W3 hW3 => ?_)
  have HM : Hid (DRes w w2.heap.size ⟨A, C, O⟩ W3) := by
    subst hW3
    exact DRes.make (unhide HR2) (unhide HC2) (unhide HB2)
  clear hW3 HR2 HC2 HB2 HC
  have hbg := (unhide HM).beyond
  generalize w2.heap.size = g at *
  obtain ⟨⟨c0, c1, c2⟩, _⟩ := dm_at (unhide HM).own
  dsimp only at c0 c1 c2
  have hne1 : w.heap.size ≠ g := by omega
  have hne2 : g ≠ w.heap.size := by omega
  have hcd : Cur W3 (w.heap.size + 1) := (unhide HM).cur
  have hl0 : w.heap.size + 1 < W3.heap.size := hcd.lt
  go_region_held (fun w' => w'.cell? ⟨g, 0, none⟩ = some (.int .i64 A) ∧ w'.cell? ⟨g, 1, none⟩ = some (.int .i64 C) ∧ w'.cell? ⟨g, 2, none⟩ = some (.int .i64 O)) (go_keep)
    (first
      | (go_at_call 32; refine (pickL (zs := [0, 1, 3, 1000, 1001, -1]) (by refine dm_cd ?_; (repeat refine cur_new ?_ _); exact hcd) (by refine Lit.drew ?_; repeat (first | exact Lit.make (by simp) rfl | (refine Lit.alloc _ ?_))) rfl (by omega) (by simp) (by simp)).mono ?_; rintro e v1 ⟨z1, rfl, hc1, hq1⟩; have hk1 : Keeps (w.heap.size + 1) W3 v1 := (by first | exact dm_kd hq1 | exact (keeps_new _).trans (dm_kd hq1) | exact (keeps_new _).trans ((keeps_new _).trans (dm_kd hq1)) | exact (keeps_new _).trans ((keeps_new _).trans ((keeps_new _).trans (dm_kd hq1)))); have HM1 := hide ((unhide HM).step hc1 (hk1)); have hl1 := hc1.lt; obtain ⟨⟨a10, a11, a12⟩, _⟩ := dm_at (unhide HM1).own; dsimp only at a10 a11 a12; obtain ⟨⟨d0, d1, d2⟩, f0, f1, f2⟩ := dm_at (unhide HM1).res; dsimp only at d0 d1 d2))
  all_goals
    go_wp2_with fail
    refine dm_post (fun W' hW' => ?_)
    obtain ⟨hblk, hbl⟩ := (unhide HM1).done hW'
    obtain ⟨⟨r0, r1, r2⟩, _⟩ := dm_at hblk
    dsimp only at r0 r1 r2
    refine bodyPost_ret (v := .tuple #[.agg #[.int .i64 A, .int .i64 C, .int .i64 O], .int .i64 z1]) (by simp [results, Try.results14, go_sem, r0, r1, r2]) rfl ⟨⟨A, C, O⟩, z1, rfl, hbl⟩

set_option maxRecDepth 100000 in
set_option maxHeartbeats 4000000 in
theorem drawSurplus (a : Option Addr) (len cap : Nat) (w : World) (hcode : CodeOk w a len) : Calls Try.prog 17 #[.slice a len cap] w fun e w' => ∃ (d : Dm) (z1 z2 : Int), e = .returned (.tuple #[dmv d, .int .i64 z1, .int .i64 z2]) ∧ Below w.heap.size w w' := by
  have HC := hide hcode
  clear hcode
  go_enter Try.func17, Try.ntmps17
  go_wp2_with fail
  refine (dmNew a len cap w _ (unhide HC)).mono ?_
  rintro e w1 ⟨rfl, hc1, hr1, hb1⟩
  go_wp2_with fail
  refine (l11Demand _ _ hc1).mono ?_
  rintro e w2 ⟨d, rfl, hc2, hk2⟩
  have HR2 := hide (dm_keeps hr1 hk2 (by omega))
  have HB2 := hide (hb1.trans (hk2.below (B := w.heap.size) (by omega) hb1.size))
  have HC2 := hide hc2
  clear hr1 hb1 hc1 hc2 hk2
  obtain ⟨A, C, O⟩ := d
  go_upto_region 3 with fail
  refine dm_wp (fun W3 hW3 => ?_)
  have HM : Hid (DRes w w2.heap.size ⟨A, C, O⟩ W3) := by
    subst hW3
    exact DRes.make (unhide HR2) (unhide HC2) (unhide HB2)
  clear hW3 HR2 HC2 HB2 HC
  have hbg := (unhide HM).beyond
  generalize w2.heap.size = g at *
  obtain ⟨⟨c0, c1, c2⟩, _⟩ := dm_at (unhide HM).own
  dsimp only at c0 c1 c2
  have hne1 : w.heap.size ≠ g := by omega
  have hne2 : g ≠ w.heap.size := by omega
  have hcd : Cur W3 (w.heap.size + 1) := (unhide HM).cur
  have hl0 : w.heap.size + 1 < W3.heap.size := hcd.lt
  go_region_held (fun w' => w'.cell? ⟨g, 0, none⟩ = some (.int .i64 A) ∧ w'.cell? ⟨g, 1, none⟩ = some (.int .i64 C) ∧ w'.cell? ⟨g, 2, none⟩ = some (.int .i64 O)) (go_keep)
    (first
      | (go_at_call 32; refine (pickL (zs := [0, 5, 30, 1000000000, -1]) (by refine dm_cd ?_; (repeat refine cur_new ?_ _); exact hcd) (by refine Lit.drew ?_; repeat (first | exact Lit.make (by simp) rfl | (refine Lit.alloc _ ?_))) rfl (by omega) (by simp) (by simp)).mono ?_; rintro e v1 ⟨z1, rfl, hc1, hq1⟩; have hk1 : Keeps (w.heap.size + 1) W3 v1 := (by first | exact dm_kd hq1 | exact (keeps_new _).trans (dm_kd hq1) | exact (keeps_new _).trans ((keeps_new _).trans (dm_kd hq1)) | exact (keeps_new _).trans ((keeps_new _).trans ((keeps_new _).trans (dm_kd hq1)))); have HM1 := hide ((unhide HM).step hc1 (hk1)); have hl1 := hc1.lt; obtain ⟨⟨a10, a11, a12⟩, _⟩ := dm_at (unhide HM1).own; dsimp only at a10 a11 a12)
      | (go_at_call 32; refine (pickL (zs := [0, 1, 4, 10, 1001]) (by (repeat refine cur_new ?_ _); exact hc1) (by repeat (first | exact Lit.make (by simp) rfl | (refine Lit.alloc _ ?_) | (refine Lit.keeps hq1 (by omega) ?_) | (refine Lit.drew ?_))) rfl (by omega) (by simp) (by simp)).mono ?_; rintro e v2 ⟨z2, rfl, hc2, hq2⟩; have hk2 : Keeps (w.heap.size + 1) v1 v2 := (by first | exact hq2 | exact (keeps_new _).trans (hq2) | exact (keeps_new _).trans ((keeps_new _).trans (hq2)) | exact (keeps_new _).trans ((keeps_new _).trans ((keeps_new _).trans (hq2)))); have HM2 := hide ((unhide HM1).step hc2 (hk2)); have hl2 := hc2.lt; obtain ⟨⟨a20, a21, a22⟩, _⟩ := dm_at (unhide HM2).own; dsimp only at a20 a21 a22; obtain ⟨⟨d0, d1, d2⟩, f0, f1, f2⟩ := dm_at (unhide HM2).res; dsimp only at d0 d1 d2))
  all_goals
    go_wp2_with fail
    refine dm_post (fun W' hW' => ?_)
    obtain ⟨hblk, hbl⟩ := (unhide HM2).done hW'
    obtain ⟨⟨r0, r1, r2⟩, _⟩ := dm_at hblk
    dsimp only at r0 r1 r2
    refine bodyPost_ret (v := .tuple #[.agg #[.int .i64 A, .int .i64 C, .int .i64 O], .int .i64 z1, .int .i64 z2]) (by simp [results, Try.results17, go_sem, r0, r1, r2]) rfl ⟨⟨A, C, O⟩, z1, z2, rfl, hbl⟩
end Go.Proofs.Ytmflajfddjnmhaa
