/-
  The draw for Lack, whatever it draws: three choices in one region that draws its order.
-/
import Derived.Test.YtmflajfddjnmhaaDmDraw2
import Derived.Test.YtmflajfddjnmhaaAnyInd
namespace Go.Proofs.Ytmflajfddjnmhaa
open Go.RowKit
open Mth

/-- A choice's list lies, in a block that is not the cursor's. -/
def LitV (x : World) (c : Nat) (v : Value) (zs : List Int) : Prop := ∃ h, v = .slice (some ⟨h, 0, none⟩) zs.length zs.length ∧ Lit x h zs ∧ h ≠ c
theorem LitV.keeps {x y : World} {c : Nat} {v : Value} {zs : List Int} (h : LitV x c v zs) (hk : Keeps c x y) : LitV y c v zs := by
  obtain ⟨g, rfl, h1, h2⟩ := h
  exact ⟨g, rfl, Lit.keeps hk h2 h1, h2⟩
def IntV (v : Value) : Prop := ∃ z : Int, v = .int .i64 z
/-- What has come up so far. -/
structure LkS (w : World) (g : Nat) (d : Dm) (b0 b2 b3 b5 b6 b8 b9 : Bool) (t12 t14 t15 t17 t18 t20 t21 : Value) (x : World) : Prop where
  res : DRes w g d x
  v12 : b0 = true → t12 = dmv d
  v14 : b2 = true → LitV x (w.heap.size + 1) t14 [0, 5, 30, 1000000000, -1]
  v15 : b3 = true → IntV t15
  v17 : b5 = true → LitV x (w.heap.size + 1) t17 [0, 1, 2, 5]
  v18 : b6 = true → IntV t18
  v20 : b8 = true → LitV x (w.heap.size + 1) t20 [0, 1, 4, 10, 1001]
  v21 : b9 = true → IntV t21
  c3 : b3 = true → b2 = true
  c6 : b6 = true → b3 = true ∧ b5 = true
  c9 : b9 = true → b6 = true ∧ b8 = true
def cnt7 (b0 b2 b3 b5 b6 b8 b9 : Bool) : Nat := (!b0).toNat + (!b2).toNat + (!b3).toNat + (!b5).toNat + (!b6).toNat + (!b8).toNat + (!b9).toNat
abbrev lkA (s p c g dv t12 t14 t15 t17 t18 t20 t21 : Value) : Act := { tmps := #[s, undef, p, .int .i64 0, .int .i64 0, .int .i64 0, c, g, s, c, c, dv, t12, c, t14, t15, c, t17, t18, c, t20, t21], defers := [] }
def LkJ (w : World) (g : Nat) (d : Dm) (s : Value) (f : Nat) (L : Array Bool) (a : Act) (x : World) : Prop :=
  ∃ b0 b2 b3 b5 b6 b8 b9 t12 t14 t15 t17 t18 t20 t21, f = 4 + cnt7 b0 b2 b3 b5 b6 b8 b9 ∧ L = #[b0, true, b2, b3, true, b5, b6, true, b8, b9, false, false, false, false] ∧
    a = lkA s (.pointer (some ⟨w.heap.size, 0, none⟩)) (.pointer (some ⟨w.heap.size + 1, 0, none⟩)) (.pointer (some ⟨g, 0, none⟩)) (dmv d) t12 t14 t15 t17 t18 t20 t21 ∧
    LkS w g d b0 b2 b3 b5 b6 b8 b9 t12 t14 t15 t17 t18 t20 t21 x
theorem LkS.keeps {w x y : World} {g : Nat} {d : Dm} {b0 b2 b3 b5 b6 b8 b9 : Bool} {t12 t14 t15 t17 t18 t20 t21 : Value} (h : LkS w g d b0 b2 b3 b5 b6 b8 b9 t12 t14 t15 t17 t18 t20 t21 x) (hc : Cur y (w.heap.size + 1)) (hk : Keeps (w.heap.size + 1) x y) : LkS w g d b0 b2 b3 b5 b6 b8 b9 t12 t14 t15 t17 t18 t20 t21 y :=
  ⟨h.res.step hc hk, h.v12, fun e => (h.v14 e).keeps hk, h.v15, fun e => (h.v17 e).keeps hk, h.v18, fun e => (h.v20 e).keeps hk, h.v21, h.c3, h.c6, h.c9⟩

set_option maxRecDepth 100000 in
set_option maxHeartbeats 4000000 in
theorem drawLack (a : Option Addr) (len cap : Nat) (w : World) (hcode : CodeOk w a len) : Calls Try.prog 15 #[.slice a len cap] w fun e w' => ∃ (d : Dm) (z1 z2 z3 : Int), e = .returned (.tuple #[dmv d, .int .i64 z1, .int .i64 z2, .int .i64 z3]) ∧ Below w.heap.size w w' := by
  have HC := hide hcode
  clear hcode
  go_enter Try.func15, Try.ntmps15
  go_wp2_with fail
  refine (dmNew a len cap w _ (unhide HC)).mono ?_
  rintro e w1 ⟨rfl, hc1, hr1, hb1⟩
  go_wp2_with fail
  refine (l11Demand _ _ hc1).mono ?_
  rintro e w2 ⟨d, rfl, hc2, hk2⟩
  have HR2 := hide (dm_keeps hr1 hk2 (by omega))
  have HB2 := hide (hb1.trans (hk2.below (B := w.heap.size) (by omega) hb1.size))
  have HC2 := hide hc2
  clear hr1 hb1 hc1 hc2 hk2
  obtain ⟨A, C, O⟩ := d
  go_upto_region 3 with fail
  refine dm_wp (fun W3 hW3 => ?_)
  have HM : Hid (DRes w w2.heap.size ⟨A, C, O⟩ W3) := by
    subst hW3
    exact DRes.make (unhide HR2) (unhide HC2) (unhide HB2)
  clear hW3 HR2 HC2 HB2 HC
  generalize w2.heap.size = g at *
  refine wp_region_any (by kernel_rfl) ?_
  show wpAny _ _ _ _ 14 (Array.replicate 14 false) _ _
  refine wpAny_fst 1 rfl (by kernel_rfl) (by kernel_rfl) (by kernel_rfl) (fun _ _ _ _ h => h) _ (by rfl) (fun _ => rfl) ?_
  refine wpAny_fst 4 rfl (by kernel_rfl) (by kernel_rfl) (by kernel_rfl) (fun _ _ _ _ h => h) _ (by rfl) (fun _ => rfl) ?_
  refine wpAny_fst 7 rfl (by kernel_rfl) (by kernel_rfl) (by kernel_rfl) (fun _ _ _ _ h => h) _ (by rfl) (fun _ => rfl) ?_
  show wpAny _ _ _ _ 11 #[false, true, false, false, true, false, false, true, false, false, false, false, false, false] (lkA (.slice a len cap) (.pointer (some ⟨w.heap.size, 0, none⟩)) (.pointer (some ⟨w.heap.size + 1, 0, none⟩)) (.pointer (some ⟨g, 0, none⟩)) (dmv ⟨A, C, O⟩) undef undef undef undef undef undef undef) _
  refine wpAny_ind (J := LkJ w g ⟨A, C, O⟩ (.slice a len cap)) ?_ _ _ _ _ ⟨false, false, false, false, false, false, false, undef, undef, undef, undef, undef, undef, undef, rfl, rfl, rfl, ⟨⟨(unhide HM).res, (unhide HM).cur, (unhide HM).below.drew, (unhide HM).own, (unhide HM).beyond⟩, by simp, by simp, by simp, by simp, by simp, by simp, by simp, by simp, by simp, by simp⟩⟩
  rintro f L a1 x ⟨b0, b2, b3, b5, b6, b8, b9, t12, t14, t15, t17, t18, t20, t21, rfl, rfl, rfl, hS⟩
  have hbg := hS.res.beyond
  have hxl : w.heap.size + 1 < x.heap.size := hS.res.cur.lt
  have hgl := dm_lt hS.res.own
  obtain ⟨⟨c0, c1, c2⟩, _⟩ := dm_at hS.res.own
  obtain ⟨⟨d0, d1, d2⟩, f0, f1, f2⟩ := dm_at hS.res.res
  dsimp only at c0 c1 c2 d0 d1 d2
  have HS := hide hS
  clear hS HM
  by_cases hall : (b0 && b2 && b3 && b5 && b6 && b8 && b9) = true
  · left
    simp only [Bool.and_eq_true] at hall
    obtain ⟨⟨⟨⟨⟨⟨rfl, rfl⟩, rfl⟩, rfl⟩, rfl⟩, rfl⟩, rfl⟩ := hall
    obtain rfl := (unhide HS).v12 rfl
    obtain ⟨z1, rfl⟩ := (unhide HS).v15 rfl
    obtain ⟨z2, rfl⟩ := (unhide HS).v18 rfl
    obtain ⟨z3, rfl⟩ := (unhide HS).v21 rfl
    clear c0 c1 c2
    show wpAny _ _ _ _ 4 _ _ _
    refine wpAny_nxt 10 rfl (by kernel_rfl) (by rfl) ?_
    go_simp
    refine wpAny_nxt 11 rfl (by kernel_rfl) (by rfl) ?_
    go_simp
    refine wpAny_nxt 12 rfl (by kernel_rfl) (by rfl) ?_
    go_simp
    refine wpAny_nxt 13 rfl (by kernel_rfl) (by rfl) ?_
    go_simp
    refine ⟨by kernel_rfl, ?_⟩
    go_wp2_with fail
    refine dm_post (fun W' hW' => ?_)
    obtain ⟨hblk, hbl⟩ := (unhide HS).res.done hW'
    obtain ⟨⟨r0, r1, r2⟩, _⟩ := dm_at hblk
    dsimp only at r0 r1 r2
    refine bodyPost_ret (v := .tuple #[.agg #[.int .i64 A, .int .i64 C, .int .i64 O], .int .i64 z1, .int .i64 z2, .int .i64 z3]) (by simp [results, Try.results15, go_sem, r0, r1, r2]) rfl ⟨⟨A, C, O⟩, z1, z2, z3, rfl, hbl⟩
  · right
    refine ⟨3 + cnt7 b0 b2 b3 b5 b6 b8 b9, by omega, ?_, ?_⟩
    · cases b2
      · exact ready_of (j := 2) rfl rfl (by kernel_rfl)
      cases b5
      · exact ready_of (j := 5) rfl rfl (by kernel_rfl)
      cases b8
      · exact ready_of (j := 8) rfl rfl (by kernel_rfl)
      cases b0
      · exact ready_of (j := 0) rfl rfl (by kernel_rfl)
      cases b3
      · exact ready_of (j := 3) rfl rfl (by kernel_rfl)
      cases b6
      · exact ready_of (j := 6) rfl rfl (by kernel_rfl)
      cases b9
      · exact ready_of (j := 9) rfl rfl (by kernel_rfl)
      exact absurd rfl hall
    · intro i hi
      obtain ⟨h1, o, ho, h2⟩ := mem_ready.1 hi
      have hlt : i < 14 := (Array.getElem?_eq_some_iff.1 ho).1
      have hcase : i = 0 ∨ i = 1 ∨ i = 2 ∨ i = 3 ∨ i = 4 ∨ i = 5 ∨ i = 6 ∨ i = 7 ∨ i = 8 ∨ i = 9 ∨ i = 10 ∨ i = 11 ∨ i = 12 ∨ i = 13 := by omega
      clear hi hlt
      rcases hcase with rfl | rfl | rfl | rfl | rfl | rfl | rfl | rfl | rfl | rfl | rfl | rfl | rfl | rfl
      · obtain rfl : b0 = false := h1
        clear ho h2 hall
        refine wpOp_one rfl (by rfl) ?_
        go_simp
        exact ⟨true, b2, b3, b5, b6, b8, b9, dmv ⟨A, C, O⟩, t14, t15, t17, t18, t20, t21, by simp [cnt7]; omega, rfl, rfl, ⟨(unhide HS).res, fun _ => rfl, (unhide HS).v14, (unhide HS).v15, (unhide HS).v17, (unhide HS).v18, (unhide HS).v20, (unhide HS).v21, (unhide HS).c3, (unhide HS).c6, (unhide HS).c9⟩⟩
      · cases h1
      · obtain rfl : b2 = false := h1
        clear ho h2 hall
        refine wpOp_one rfl (by rfl) ?_
        go_simp
        exact ⟨b0, true, b3, b5, b6, b8, b9, t12, .slice (some ⟨x.heap.size, 0, none⟩) 5 5, t15, t17, t18, t20, t21, by simp [cnt7]; omega, rfl, rfl, ⟨(unhide HS).res.step (cur_new (unhide HS).res.cur _) (keeps_new _), (unhide HS).v12, fun _ => ⟨x.heap.size, rfl, Lit.make rfl rfl, by omega⟩, (unhide HS).v15, fun e => ((unhide HS).v17 e).keeps (keeps_new _), (unhide HS).v18, fun e => ((unhide HS).v20 e).keeps (keeps_new _), (unhide HS).v21, fun _ => rfl, (unhide HS).c6, (unhide HS).c9⟩⟩
      · obtain rfl : b3 = false := h1
        change some _ = some o at ho
        cases ho
        obtain rfl : b2 = true := h2 ⟨2, .data⟩ (by simp) rfl
        clear h2 hall
        obtain ⟨h, rfl, hl, hne⟩ := (unhide HS).v14 rfl
        have HL := hide hl
        clear hl
        refine wpOp_one rfl (by rfl) ?_
        go_simp
        refine (pickL (zs := [0, 5, 30, 1000000000, -1]) (unhide HS).res.cur (unhide HL) rfl hne (by simp) (by simp)).mono ?_
        rintro e y ⟨z, rfl, hcy, hky⟩
        have HK := (unhide HS).keeps hcy hky
        exact ⟨b0, true, true, b5, b6, b8, b9, t12, _, .int .i64 z, t17, t18, t20, t21, by simp [cnt7]; omega, rfl, rfl, ⟨HK.res, HK.v12, HK.v14, fun _ => ⟨z, rfl⟩, HK.v17, HK.v18, HK.v20, HK.v21, fun _ => rfl, fun e => ⟨rfl, (HK.c6 e).2⟩, HK.c9⟩⟩
      · cases h1
      · obtain rfl : b5 = false := h1
        clear ho h2 hall
        refine wpOp_one rfl (by rfl) ?_
        go_simp
        exact ⟨b0, b2, b3, true, b6, b8, b9, t12, t14, t15, .slice (some ⟨x.heap.size, 0, none⟩) 4 4, t18, t20, t21, by simp [cnt7]; omega, rfl, rfl, ⟨(unhide HS).res.step (cur_new (unhide HS).res.cur _) (keeps_new _), (unhide HS).v12, fun e => ((unhide HS).v14 e).keeps (keeps_new _), (unhide HS).v15, fun _ => ⟨x.heap.size, rfl, Lit.make rfl rfl, by omega⟩, (unhide HS).v18, fun e => ((unhide HS).v20 e).keeps (keeps_new _), (unhide HS).v21, (unhide HS).c3, fun e => ⟨((unhide HS).c6 e).1, rfl⟩, (unhide HS).c9⟩⟩
      · obtain rfl : b6 = false := h1
        change some _ = some o at ho
        cases ho
        obtain rfl : b5 = true := h2 ⟨5, .data⟩ (by simp) rfl
        obtain rfl : b3 = true := h2 ⟨3, .chain⟩ (by simp) rfl
        clear h2 hall
        obtain ⟨h, rfl, hl, hne⟩ := (unhide HS).v17 rfl
        have HL := hide hl
        clear hl
        refine wpOp_one rfl (by rfl) ?_
        go_simp
        refine (pickL (zs := [0, 1, 2, 5]) (unhide HS).res.cur (unhide HL) rfl hne (by simp) (by simp)).mono ?_
        rintro e y ⟨z, rfl, hcy, hky⟩
        have HK := (unhide HS).keeps hcy hky
        exact ⟨b0, b2, true, true, true, b8, b9, t12, t14, t15, _, .int .i64 z, t20, t21, by simp [cnt7]; omega, rfl, rfl, ⟨HK.res, HK.v12, HK.v14, HK.v15, HK.v17, fun _ => ⟨z, rfl⟩, HK.v20, HK.v21, HK.c3, fun _ => ⟨rfl, rfl⟩, fun e => ⟨rfl, (HK.c9 e).2⟩⟩⟩
      · cases h1
      · obtain rfl : b8 = false := h1
        clear ho h2 hall
        refine wpOp_one rfl (by rfl) ?_
        go_simp
        exact ⟨b0, b2, b3, b5, b6, true, b9, t12, t14, t15, t17, t18, .slice (some ⟨x.heap.size, 0, none⟩) 5 5, t21, by simp [cnt7]; omega, rfl, rfl, ⟨(unhide HS).res.step (cur_new (unhide HS).res.cur _) (keeps_new _), (unhide HS).v12, fun e => ((unhide HS).v14 e).keeps (keeps_new _), (unhide HS).v15, fun e => ((unhide HS).v17 e).keeps (keeps_new _), (unhide HS).v18, fun _ => ⟨x.heap.size, rfl, Lit.make rfl rfl, by omega⟩, (unhide HS).v21, (unhide HS).c3, (unhide HS).c6, fun e => ⟨((unhide HS).c9 e).1, rfl⟩⟩⟩
      · obtain rfl : b9 = false := h1
        change some _ = some o at ho
        cases ho
        obtain rfl : b8 = true := h2 ⟨8, .data⟩ (by simp) rfl
        obtain rfl : b6 = true := h2 ⟨6, .chain⟩ (by simp) rfl
        clear h2 hall
        obtain ⟨h, rfl, hl, hne⟩ := (unhide HS).v20 rfl
        have HL := hide hl
        clear hl
        refine wpOp_one rfl (by rfl) ?_
        go_simp
        refine (pickL (zs := [0, 1, 4, 10, 1001]) (unhide HS).res.cur (unhide HL) rfl hne (by simp) (by simp)).mono ?_
        rintro e y ⟨z, rfl, hcy, hky⟩
        have HK := (unhide HS).keeps hcy hky
        exact ⟨b0, b2, b3, b5, true, true, true, t12, t14, t15, t17, t18, _, .int .i64 z, by simp [cnt7]; omega, rfl, rfl, ⟨HK.res, HK.v12, HK.v14, HK.v15, HK.v17, HK.v18, HK.v20, fun _ => ⟨z, rfl⟩, HK.c3, HK.c6, fun _ => ⟨rfl, rfl⟩⟩⟩
      · change some _ = some o at ho
        cases ho
        obtain rfl : b0 = true := h2 ⟨0, .data⟩ (by simp) rfl
        obtain rfl : b9 = true := h2 ⟨9, .chain⟩ (by simp) rfl
        obtain ⟨rfl, rfl⟩ := (unhide HS).c9 rfl
        obtain ⟨rfl, rfl⟩ := (unhide HS).c6 rfl
        obtain rfl := (unhide HS).c3 rfl
        exact absurd rfl hall
      · change some _ = some o at ho
        cases ho
        cases (show false = true from h2 ⟨10, .chain⟩ (by simp) rfl)
      · change some _ = some o at ho
        cases ho
        cases (show false = true from h2 ⟨11, .chain⟩ (by simp) rfl)
      · change some _ = some o at ho
        cases ho
        cases (show false = true from h2 ⟨12, .chain⟩ (by simp) rfl)
end Go.Proofs.Ytmflajfddjnmhaa
