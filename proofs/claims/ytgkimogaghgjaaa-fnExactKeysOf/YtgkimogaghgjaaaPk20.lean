/- Parts. -/
import Derived.Test.YtgkimogaghgjaaaPk19
import Derived.Test.YtgkimogaghgjaaaPk1
import Derived.Lib.Strings
import Derived.Lib.BufferWrite
import Derived.Lib.UnsafeStr
import Derived.Laws.MakeOwn
import Derived.Laws.CopyOwn
namespace Go.Proofs.Ytgkimogaghgjaaa
open Go.RowKit
open Mth

/-- A world in memory that was made at lo or above: it may be written into. -/
structure WdS (lo hi : Nat) (w : World) (A : WA) (W : Wd) (r : Nat → Nat) : Prop where
  ex : ∃ u k n t b, A.u = some ⟨u, 0, none⟩ ∧ A.k = some ⟨k, 0, none⟩ ∧ A.n = some ⟨n, 0, none⟩ ∧ A.t = some ⟨t, 0, none⟩ ∧ A.b = some ⟨b, 0, none⟩ ∧ intBlk w u W.up ∧ GR.Blk encK 63 w k A.L ∧ KpsR k w A.L r ∧ strBlkS w n W.net ∧ GR.Blk encTd 112 w t W.told ∧ GR.Blk encGv 115 w b W.back ∧ lo ≤ u ∧ u < k ∧ r A.L.length ≤ n ∧ n < t ∧ t < b ∧ b < hi
theorem WdS.below {lo hi : Nat} {w w' : World} {A : WA} {W : Wd} {r : Nat → Nat} (h : WdS lo hi w A W r) (hb : Below w.heap.size w w') : WdS lo hi w' A W r := by
  obtain ⟨u, k, n, t, b, e1, e2, e3, e4, e5, h1, h2, h3, h4, h5, h6, q⟩ := h.ex
  exact ⟨u, k, n, t, b, e1, e2, e3, e4, e5, GR.Blk.stepW h1 hb, GR.Blk.stepW h2 hb, h3.below hb, GR.Blk.stepW h4 hb, GR.Blk.stepW h5 hb, GR.Blk.stepW h6 hb, q⟩
set_option maxRecDepth 100000 in
set_option maxHeartbeats 8000000 in
theorem toWorld (W : Wd) (A : WA) (w : World) (hz : WdSz W 1048576) (ha : WdAt w A W) :
    Calls Try.prog 7 #[wdv W A] w fun e w' => ∃ A', e = .returned (wdv W A') ∧ WdAt w' A' W ∧ (∃ r, WdS w.heap.size w'.heap.size w' A' W r) ∧ Below w.heap.size w w' := by
  have H1 := hide (fun w1 (h : Below w.heap.size w w1) => toTree A.u A.uc W.up w1 hz.u (ha.below h).up)
  have H2 : Hid (∀ w1, Below w.heap.size w w1 → Calls Try.prog 23 #[.slice A.k W.ks.length A.kc] w1 fun e w' => e = .returned (.slice (some ⟨w1.heap.size, 0, none⟩) W.ks.length W.ks.length) ∧ ∃ M : List KpI, M.map (fun x => x.1) = W.ks ∧ GR.Blk encK 63 w' w1.heap.size M ∧ (∀ x ∈ M, KpIn (w1.heap.size + 1) w' x.2 x.1) ∧ (∃ r, KpsR w1.heap.size w' M r) ∧ Below w1.heap.size w1 w') := fun w1 h => by
    have hx := toKeeperS A.k A.kc A.L w1 (by rw [ha.len]; exact hz.k) (hz.row ha) (ha.below h).ks
    rw [ha.len, ha.ke] at hx
    exact hx
  have H3 := hide (fun w1 (h : Below w.heap.size w w1) => toStringS A.n A.nc W.net w1 hz.n (ha.below h).net)
  have H4 := hide (fun w1 (h : Below w.heap.size w w1) => toToldS A.t A.tc W.told w1 hz.t (ha.below h).told)
  have H5 := hide (fun w1 (h : Below w.heap.size w w1) => toGivenS A.b A.bc W.back w1 hz.b (ha.below h).back)
  clear ha hz
  obtain ⟨up, ks, net, td, bk⟩ := W
  obtain ⟨u, uc, k, kc, L, n, nc, t, tc, b, bc⟩ := A
  dsimp only at H1 H2 H3 H4 H5 ⊢
  obtain ⟨hP0, hR0, hO0, hB0⟩ := allocsL3 w (.cells #[.slice u up.length uc, .slice k ks.length kc, .slice n net.length nc, .slice t td.length tc, .slice b bk.length bc] 30) (.cells #[.slice none 0 0, .slice none 0 0, .slice none 0 0, .slice none 0 0, .slice none 0 0] 38) (.cells #[.slice none 0 0, .slice none 0 0, .slice none 0 0, .slice none 0 0, .slice none 0 0] 38)
  have hS0 : (((w.alloc (.cells #[.slice u up.length uc, .slice k ks.length kc, .slice n net.length nc, .slice t td.length tc, .slice b bk.length bc] 30)).alloc (.cells #[.slice none 0 0, .slice none 0 0, .slice none 0 0, .slice none 0 0, .slice none 0 0] 38)).alloc (.cells #[.slice none 0 0, .slice none 0 0, .slice none 0 0, .slice none 0 0, .slice none 0 0] 38)).heap.size = w.heap.size + 3 := by simp
  go_enter Try.func7, Try.ntmps7
  go_upto_region 2 with fail
  generalize ((w.alloc (.cells #[.slice u up.length uc, .slice k ks.length kc, .slice n net.length nc, .slice t td.length tc, .slice b bk.length bc] 30)).alloc (.cells #[.slice none 0 0, .slice none 0 0, .slice none 0 0, .slice none 0 0, .slice none 0 0] 38)).alloc (.cells #[.slice none 0 0, .slice none 0 0, .slice none 0 0, .slice none 0 0, .slice none 0 0] 38) = W0 at *
  have HP0 := hide hP0
  have HR0 := hide hR0
  have HO0 := hide hO0
  have HB0 := hide hB0
  have hs0 : w.heap.size + 3 ≤ W0.heap.size := Nat.le_of_eq hS0.symm
  clear hP0 hR0 hO0 hB0 hS0
  have p0 : W0.cell? ⟨w.heap.size, 0, none⟩ = some (.slice u up.length uc) := cell_of_row _ _ 0 _ _ _ (unhide HP0)
  have hpl := obj_lt (unhide HP0)
  go_wp2_with fail
  refine (unhide H1 W0 (unhide HB0)).mono ?_
  rintro e v0 ⟨ug, rfl, hug, hf_U1, hb⟩
  have hq0 : w.heap.size + 3 ≤ ug := by omega
  have HP0a := hide (obj_step (unhide HP0) hb)
  have HR0a := hide (obj_step (unhide HR0) hb)
  have HO0a := hide (obj_step (unhide HO0) hb)
  have HB0a := hide ((unhide HB0).trans (hb.mono (unhide HB0).size))
  have hs0a : w.heap.size + 3 ≤ v0.heap.size := Nat.le_trans hs0 hb.size
  have U1_0a := hide hf_U1
  clear hf_U1
  clear hb hpl p0 HP0 HR0 HO0 HB0 hs0
  have o0 : v0.cell? ⟨w.heap.size + 1 + 1, 0, none⟩ = some (.slice none 0 0) := cell_of_row _ _ 0 _ _ _ (unhide HO0a)
  have f0 := obj_free (unhide HO0a) 0
  go_upto_region 3 with fail
  refine wp_at (fun W1 hW => ?_)
  have hk : KeepsL [w.heap.size + 1 + 1] v0 W1 := by rw [hW]; exact setW_keeps [.slice (some ⟨ug, 0, none⟩) up.length up.length] v0 0
  have HO1 : Hid (W1.heap[w.heap.size + 1 + 1]? = some (.cells #[.slice (some ⟨ug, 0, none⟩) up.length up.length, .slice none 0 0, .slice none 0 0, .slice none 0 0, .slice none 0 0] 38 (0, 0))) := by rw [hW]; exact GR.setW_blk [.slice (some ⟨ug, 0, none⟩) up.length up.length] (o := 0) (xs := [.slice none 0 0, .slice none 0 0, .slice none 0 0, .slice none 0 0, .slice none 0 0]) (unhide HO0a)
  have HP1 := hide (hk.obj (unhide HP0a) (fun hx => by have h := List.mem_singleton.1 hx; omega))
  have HR1 := hide (hk.obj (unhide HR0a) (fun hx => by have h := List.mem_singleton.1 hx; omega))
  have HB1 := hide ((unhide HB0a).trans (hk.below (B := w.heap.size) (fun x hx => by have : x = w.heap.size + 1 + 1 := (by simpa using hx); omega) (by omega)))
  have hs1 : w.heap.size + 3 ≤ W1.heap.size := Nat.le_trans hs0a hk.size
  have U1_1 := hide ((hk).obj (unhide U1_0a) (fun hx => by have h2 := List.mem_singleton.1 hx; omega))
  clear U1_0a
  clear hW hk o0 f0 HP0a HR0a HO0a HB0a hs0a
  have p1 : W1.cell? ⟨w.heap.size, 1, none⟩ = some (.slice k ks.length kc) := cell_of_row _ _ 1 _ _ _ (unhide HP1)
  have hpl := obj_lt (unhide HP1)
  go_wp2_with fail
  refine (unhide H2 W1 (unhide HB1)).mono ?_
  rintro e v1 ⟨rfl, M, hMm, hf_K1, hf_K2, ⟨r, hf_K3⟩, hb⟩
  have hu1 : ug < W1.heap.size := GR.Blk.lt (unhide U1_1)
  have hq1 : w.heap.size + 3 ≤ W1.heap.size := hs1
  have HMM := hide hMm
  clear hMm
  have HP1a := hide (obj_step (unhide HP1) hb)
  have HR1a := hide (obj_step (unhide HR1) hb)
  have HO1a := hide (obj_step (unhide HO1) hb)
  have HB1a := hide ((unhide HB1).trans (hb.mono (unhide HB1).size))
  have hs1a : w.heap.size + 3 ≤ v1.heap.size := Nat.le_trans hs1 hb.size
  have U1_1a := hide (GR.Blk.stepW (unhide U1_1) hb)
  clear U1_1
  have K1_1a := hide hf_K1
  have K2_1a := hide hf_K2
  have K3_1a := hide hf_K3
  clear hf_K1
  clear hf_K2
  clear hf_K3
  clear hb hpl p1 HP1 HR1 HO1 HB1 hs1
  have o1 : v1.cell? ⟨w.heap.size + 1 + 1, 1, none⟩ = some (.slice none 0 0) := cell_of_row _ _ 1 _ _ _ (unhide HO1a)
  have f1 := obj_free (unhide HO1a) 1
  go_upto_region 4 with fail
  refine wp_at (fun W2 hW => ?_)
  have hk : KeepsL [w.heap.size + 1 + 1] v1 W2 := by rw [hW]; exact setW_keeps [.slice (some ⟨W1.heap.size, 0, none⟩) ks.length ks.length] v1 1
  have HO2 : Hid (W2.heap[w.heap.size + 1 + 1]? = some (.cells #[.slice (some ⟨ug, 0, none⟩) up.length up.length, .slice (some ⟨W1.heap.size, 0, none⟩) ks.length ks.length, .slice none 0 0, .slice none 0 0, .slice none 0 0] 38 (0, 0))) := by rw [hW]; exact GR.setW_blk [.slice (some ⟨W1.heap.size, 0, none⟩) ks.length ks.length] (o := 1) (xs := [.slice (some ⟨ug, 0, none⟩) up.length up.length, .slice none 0 0, .slice none 0 0, .slice none 0 0, .slice none 0 0]) (unhide HO1a)
  have HP2 := hide (hk.obj (unhide HP1a) (fun hx => by have h := List.mem_singleton.1 hx; omega))
  have HR2 := hide (hk.obj (unhide HR1a) (fun hx => by have h := List.mem_singleton.1 hx; omega))
  have HB2 := hide ((unhide HB1a).trans (hk.below (B := w.heap.size) (fun x hx => by have : x = w.heap.size + 1 + 1 := (by simpa using hx); omega) (by omega)))
  have hs2 : w.heap.size + 3 ≤ W2.heap.size := Nat.le_trans hs1a hk.size
  have U1_2 := hide ((hk).obj (unhide U1_1a) (fun hx => by have h2 := List.mem_singleton.1 hx; omega))
  clear U1_1a
  have K1_2 := hide ((hk).obj (unhide K1_1a) (fun hx => by have h2 := List.mem_singleton.1 hx; omega))
  clear K1_1a
  have K2_2 := hide (fun x hx => ((unhide K2_1a) x hx).keeps hk (fun y hy => by have h2 := List.mem_singleton.1 hy; omega))
  clear K2_1a
  have K3_2 := hide (((unhide K3_1a)).keeps hk (fun y hy => by have h2 := List.mem_singleton.1 hy; omega))
  clear K3_1a
  clear hW hk o1 f1 HP1a HR1a HO1a HB1a hs1a
  have p2 : W2.cell? ⟨w.heap.size, 2, none⟩ = some (.slice n net.length nc) := cell_of_row _ _ 2 _ _ _ (unhide HP2)
  have hpl := obj_lt (unhide HP2)
  go_wp2_with fail
  refine (unhide H3 W2 (unhide HB2)).mono ?_
  rintro e v2 ⟨rfl, hf_S1, hb⟩
  have hq2 : w.heap.size + 3 ≤ W2.heap.size := hs2
  have hr2 : r M.length ≤ W2.heap.size := (unhide K3_2).hi
  have HP2a := hide (obj_step (unhide HP2) hb)
  have HR2a := hide (obj_step (unhide HR2) hb)
  have HO2a := hide (obj_step (unhide HO2) hb)
  have HB2a := hide ((unhide HB2).trans (hb.mono (unhide HB2).size))
  have hs2a : w.heap.size + 3 ≤ v2.heap.size := Nat.le_trans hs2 hb.size
  have U1_2a := hide (GR.Blk.stepW (unhide U1_2) hb)
  clear U1_2
  have K1_2a := hide (GR.Blk.stepW (unhide K1_2) hb)
  clear K1_2
  have K2_2a := hide (fun x hx => ((unhide K2_2) x hx).below hb)
  clear K2_2
  have K3_2a := hide (((unhide K3_2)).below hb)
  clear K3_2
  have S1_2a := hide hf_S1
  clear hf_S1
  clear hb hpl p2 HP2 HR2 HO2 HB2 hs2
  have o2 : v2.cell? ⟨w.heap.size + 1 + 1, 2, none⟩ = some (.slice none 0 0) := cell_of_row _ _ 2 _ _ _ (unhide HO2a)
  have f2 := obj_free (unhide HO2a) 2
  go_upto_region 5 with fail
  refine wp_at (fun W3 hW => ?_)
  have hk : KeepsL [w.heap.size + 1 + 1] v2 W3 := by rw [hW]; exact setW_keeps [.slice (some ⟨W2.heap.size, 0, none⟩) net.length net.length] v2 2
  have HO3 : Hid (W3.heap[w.heap.size + 1 + 1]? = some (.cells #[.slice (some ⟨ug, 0, none⟩) up.length up.length, .slice (some ⟨W1.heap.size, 0, none⟩) ks.length ks.length, .slice (some ⟨W2.heap.size, 0, none⟩) net.length net.length, .slice none 0 0, .slice none 0 0] 38 (0, 0))) := by rw [hW]; exact GR.setW_blk [.slice (some ⟨W2.heap.size, 0, none⟩) net.length net.length] (o := 2) (xs := [.slice (some ⟨ug, 0, none⟩) up.length up.length, .slice (some ⟨W1.heap.size, 0, none⟩) ks.length ks.length, .slice none 0 0, .slice none 0 0, .slice none 0 0]) (unhide HO2a)
  have HP3 := hide (hk.obj (unhide HP2a) (fun hx => by have h := List.mem_singleton.1 hx; omega))
  have HR3 := hide (hk.obj (unhide HR2a) (fun hx => by have h := List.mem_singleton.1 hx; omega))
  have HB3 := hide ((unhide HB2a).trans (hk.below (B := w.heap.size) (fun x hx => by have : x = w.heap.size + 1 + 1 := (by simpa using hx); omega) (by omega)))
  have hs3 : w.heap.size + 3 ≤ W3.heap.size := Nat.le_trans hs2a hk.size
  have U1_3 := hide ((hk).obj (unhide U1_2a) (fun hx => by have h2 := List.mem_singleton.1 hx; omega))
  clear U1_2a
  have K1_3 := hide ((hk).obj (unhide K1_2a) (fun hx => by have h2 := List.mem_singleton.1 hx; omega))
  clear K1_2a
  have K2_3 := hide (fun x hx => ((unhide K2_2a) x hx).keeps hk (fun y hy => by have h2 := List.mem_singleton.1 hy; omega))
  clear K2_2a
  have K3_3 := hide (((unhide K3_2a)).keeps hk (fun y hy => by have h2 := List.mem_singleton.1 hy; omega))
  clear K3_2a
  have S1_3 := hide ((hk).obj (unhide S1_2a) (fun hx => by have h2 := List.mem_singleton.1 hx; omega))
  clear S1_2a
  clear hW hk o2 f2 HP2a HR2a HO2a HB2a hs2a
  have p3 : W3.cell? ⟨w.heap.size, 3, none⟩ = some (.slice t td.length tc) := cell_of_row _ _ 3 _ _ _ (unhide HP3)
  have hpl := obj_lt (unhide HP3)
  go_wp2_with fail
  refine (unhide H4 W3 (unhide HB3)).mono ?_
  rintro e v3 ⟨rfl, hf_T1, hb⟩
  have hq3 : w.heap.size + 3 ≤ W3.heap.size := hs3
  have hn3 : W2.heap.size < W3.heap.size := GR.Blk.lt (unhide S1_3)
  have HP3a := hide (obj_step (unhide HP3) hb)
  have HR3a := hide (obj_step (unhide HR3) hb)
  have HO3a := hide (obj_step (unhide HO3) hb)
  have HB3a := hide ((unhide HB3).trans (hb.mono (unhide HB3).size))
  have hs3a : w.heap.size + 3 ≤ v3.heap.size := Nat.le_trans hs3 hb.size
  have U1_3a := hide (GR.Blk.stepW (unhide U1_3) hb)
  clear U1_3
  have K1_3a := hide (GR.Blk.stepW (unhide K1_3) hb)
  clear K1_3
  have K2_3a := hide (fun x hx => ((unhide K2_3) x hx).below hb)
  clear K2_3
  have K3_3a := hide (((unhide K3_3)).below hb)
  clear K3_3
  have S1_3a := hide (GR.Blk.stepW (unhide S1_3) hb)
  clear S1_3
  have T1_3a := hide hf_T1
  clear hf_T1
  clear hb hpl p3 HP3 HR3 HO3 HB3 hs3
  have o3 : v3.cell? ⟨w.heap.size + 1 + 1, 3, none⟩ = some (.slice none 0 0) := cell_of_row _ _ 3 _ _ _ (unhide HO3a)
  have f3 := obj_free (unhide HO3a) 3
  go_upto_region 6 with fail
  refine wp_at (fun W4 hW => ?_)
  have hk : KeepsL [w.heap.size + 1 + 1] v3 W4 := by rw [hW]; exact setW_keeps [.slice (some ⟨W3.heap.size, 0, none⟩) td.length td.length] v3 3
  have HO4 : Hid (W4.heap[w.heap.size + 1 + 1]? = some (.cells #[.slice (some ⟨ug, 0, none⟩) up.length up.length, .slice (some ⟨W1.heap.size, 0, none⟩) ks.length ks.length, .slice (some ⟨W2.heap.size, 0, none⟩) net.length net.length, .slice (some ⟨W3.heap.size, 0, none⟩) td.length td.length, .slice none 0 0] 38 (0, 0))) := by rw [hW]; exact GR.setW_blk [.slice (some ⟨W3.heap.size, 0, none⟩) td.length td.length] (o := 3) (xs := [.slice (some ⟨ug, 0, none⟩) up.length up.length, .slice (some ⟨W1.heap.size, 0, none⟩) ks.length ks.length, .slice (some ⟨W2.heap.size, 0, none⟩) net.length net.length, .slice none 0 0, .slice none 0 0]) (unhide HO3a)
  have HP4 := hide (hk.obj (unhide HP3a) (fun hx => by have h := List.mem_singleton.1 hx; omega))
  have HR4 := hide (hk.obj (unhide HR3a) (fun hx => by have h := List.mem_singleton.1 hx; omega))
  have HB4 := hide ((unhide HB3a).trans (hk.below (B := w.heap.size) (fun x hx => by have : x = w.heap.size + 1 + 1 := (by simpa using hx); omega) (by omega)))
  have hs4 : w.heap.size + 3 ≤ W4.heap.size := Nat.le_trans hs3a hk.size
  have U1_4 := hide ((hk).obj (unhide U1_3a) (fun hx => by have h2 := List.mem_singleton.1 hx; omega))
  clear U1_3a
  have K1_4 := hide ((hk).obj (unhide K1_3a) (fun hx => by have h2 := List.mem_singleton.1 hx; omega))
  clear K1_3a
  have K2_4 := hide (fun x hx => ((unhide K2_3a) x hx).keeps hk (fun y hy => by have h2 := List.mem_singleton.1 hy; omega))
  clear K2_3a
  have K3_4 := hide (((unhide K3_3a)).keeps hk (fun y hy => by have h2 := List.mem_singleton.1 hy; omega))
  clear K3_3a
  have S1_4 := hide ((hk).obj (unhide S1_3a) (fun hx => by have h2 := List.mem_singleton.1 hx; omega))
  clear S1_3a
  have T1_4 := hide ((hk).obj (unhide T1_3a) (fun hx => by have h2 := List.mem_singleton.1 hx; omega))
  clear T1_3a
  clear hW hk o3 f3 HP3a HR3a HO3a HB3a hs3a
  have p4 : W4.cell? ⟨w.heap.size, 4, none⟩ = some (.slice b bk.length bc) := cell_of_row _ _ 4 _ _ _ (unhide HP4)
  have hpl := obj_lt (unhide HP4)
  go_wp2_with fail
  refine (unhide H5 W4 (unhide HB4)).mono ?_
  rintro e v4 ⟨rfl, hf_B1, hb⟩
  have hq4 : w.heap.size + 3 ≤ W4.heap.size := hs4
  have ht4 : W3.heap.size < W4.heap.size := GR.Blk.lt (unhide T1_4)
  have HP4a := hide (obj_step (unhide HP4) hb)
  have HR4a := hide (obj_step (unhide HR4) hb)
  have HO4a := hide (obj_step (unhide HO4) hb)
  have HB4a := hide ((unhide HB4).trans (hb.mono (unhide HB4).size))
  have hs4a : w.heap.size + 3 ≤ v4.heap.size := Nat.le_trans hs4 hb.size
  have U1_4a := hide (GR.Blk.stepW (unhide U1_4) hb)
  clear U1_4
  have K1_4a := hide (GR.Blk.stepW (unhide K1_4) hb)
  clear K1_4
  have K2_4a := hide (fun x hx => ((unhide K2_4) x hx).below hb)
  clear K2_4
  have K3_4a := hide (((unhide K3_4)).below hb)
  clear K3_4
  have S1_4a := hide (GR.Blk.stepW (unhide S1_4) hb)
  clear S1_4
  have T1_4a := hide (GR.Blk.stepW (unhide T1_4) hb)
  clear T1_4
  have B1_4a := hide hf_B1
  clear hf_B1
  clear hb hpl p4 HP4 HR4 HO4 HB4 hs4
  have o4 : v4.cell? ⟨w.heap.size + 1 + 1, 4, none⟩ = some (.slice none 0 0) := cell_of_row _ _ 4 _ _ _ (unhide HO4a)
  have f4 := obj_free (unhide HO4a) 4
  go_upto_region 7 with fail
  refine wp_at (fun W5 hW => ?_)
  have hk : KeepsL [w.heap.size + 1 + 1] v4 W5 := by rw [hW]; exact setW_keeps [.slice (some ⟨W4.heap.size, 0, none⟩) bk.length bk.length] v4 4
  have HO5 : Hid (W5.heap[w.heap.size + 1 + 1]? = some (.cells #[.slice (some ⟨ug, 0, none⟩) up.length up.length, .slice (some ⟨W1.heap.size, 0, none⟩) ks.length ks.length, .slice (some ⟨W2.heap.size, 0, none⟩) net.length net.length, .slice (some ⟨W3.heap.size, 0, none⟩) td.length td.length, .slice (some ⟨W4.heap.size, 0, none⟩) bk.length bk.length] 38 (0, 0))) := by rw [hW]; exact GR.setW_blk [.slice (some ⟨W4.heap.size, 0, none⟩) bk.length bk.length] (o := 4) (xs := [.slice (some ⟨ug, 0, none⟩) up.length up.length, .slice (some ⟨W1.heap.size, 0, none⟩) ks.length ks.length, .slice (some ⟨W2.heap.size, 0, none⟩) net.length net.length, .slice (some ⟨W3.heap.size, 0, none⟩) td.length td.length, .slice none 0 0]) (unhide HO4a)
  have HP5 := hide (hk.obj (unhide HP4a) (fun hx => by have h := List.mem_singleton.1 hx; omega))
  have HR5 := hide (hk.obj (unhide HR4a) (fun hx => by have h := List.mem_singleton.1 hx; omega))
  have HB5 := hide ((unhide HB4a).trans (hk.below (B := w.heap.size) (fun x hx => by have : x = w.heap.size + 1 + 1 := (by simpa using hx); omega) (by omega)))
  have hs5 : w.heap.size + 3 ≤ W5.heap.size := Nat.le_trans hs4a hk.size
  have U1_5 := hide ((hk).obj (unhide U1_4a) (fun hx => by have h2 := List.mem_singleton.1 hx; omega))
  clear U1_4a
  have K1_5 := hide ((hk).obj (unhide K1_4a) (fun hx => by have h2 := List.mem_singleton.1 hx; omega))
  clear K1_4a
  have K2_5 := hide (fun x hx => ((unhide K2_4a) x hx).keeps hk (fun y hy => by have h2 := List.mem_singleton.1 hy; omega))
  clear K2_4a
  have K3_5 := hide (((unhide K3_4a)).keeps hk (fun y hy => by have h2 := List.mem_singleton.1 hy; omega))
  clear K3_4a
  have S1_5 := hide ((hk).obj (unhide S1_4a) (fun hx => by have h2 := List.mem_singleton.1 hx; omega))
  clear S1_4a
  have T1_5 := hide ((hk).obj (unhide T1_4a) (fun hx => by have h2 := List.mem_singleton.1 hx; omega))
  clear T1_4a
  have B1_5 := hide ((hk).obj (unhide B1_4a) (fun hx => by have h2 := List.mem_singleton.1 hx; omega))
  clear B1_4a
  clear hW hk o4 f4 HP4a HR4a HO4a HB4a hs4a
  have o0 : W5.cell? ⟨w.heap.size + 1 + 1, 0, none⟩ = some (.slice (some ⟨ug, 0, none⟩) up.length up.length) := cell_of_row _ _ 0 _ _ _ (unhide HO5)
  have o1 : W5.cell? ⟨w.heap.size + 1 + 1, 1, none⟩ = some (.slice (some ⟨W1.heap.size, 0, none⟩) ks.length ks.length) := cell_of_row _ _ 1 _ _ _ (unhide HO5)
  have o2 : W5.cell? ⟨w.heap.size + 1 + 1, 2, none⟩ = some (.slice (some ⟨W2.heap.size, 0, none⟩) net.length net.length) := cell_of_row _ _ 2 _ _ _ (unhide HO5)
  have o3 : W5.cell? ⟨w.heap.size + 1 + 1, 3, none⟩ = some (.slice (some ⟨W3.heap.size, 0, none⟩) td.length td.length) := cell_of_row _ _ 3 _ _ _ (unhide HO5)
  have o4 : W5.cell? ⟨w.heap.size + 1 + 1, 4, none⟩ = some (.slice (some ⟨W4.heap.size, 0, none⟩) bk.length bk.length) := cell_of_row _ _ 4 _ _ _ (unhide HO5)
  have r0 : W5.cell? ⟨w.heap.size + 1, 0, none⟩ = some (.slice none 0 0) := cell_of_row _ _ 0 _ _ _ (unhide HR5)
  have r1 : W5.cell? ⟨w.heap.size + 1, 1, none⟩ = some (.slice none 0 0) := cell_of_row _ _ 1 _ _ _ (unhide HR5)
  have r2 : W5.cell? ⟨w.heap.size + 1, 2, none⟩ = some (.slice none 0 0) := cell_of_row _ _ 2 _ _ _ (unhide HR5)
  have r3 : W5.cell? ⟨w.heap.size + 1, 3, none⟩ = some (.slice none 0 0) := cell_of_row _ _ 3 _ _ _ (unhide HR5)
  have r4 : W5.cell? ⟨w.heap.size + 1, 4, none⟩ = some (.slice none 0 0) := cell_of_row _ _ 4 _ _ _ (unhide HR5)
  have f0 := obj_free (unhide HR5) 0
  have f1 := obj_free (unhide HR5) 1
  have f2 := obj_free (unhide HR5) 2
  have f3 := obj_free (unhide HR5) 3
  have f4 := obj_free (unhide HR5) 4
  have hrl := obj_lt (unhide HR5)
  go_wp2_with fail
  refine bodyPost_atN (fun W' hW' => ?_)
  have hk : KeepsL [w.heap.size + 1] W5 W' := by rw [hW']; exact setW_keeps [.slice (some ⟨ug, 0, none⟩) up.length up.length, .slice (some ⟨W1.heap.size, 0, none⟩) ks.length ks.length, .slice (some ⟨W2.heap.size, 0, none⟩) net.length net.length, .slice (some ⟨W3.heap.size, 0, none⟩) td.length td.length, .slice (some ⟨W4.heap.size, 0, none⟩) bk.length bk.length] W5 0
  have hX : W'.heap[w.heap.size + 1]? = some (.cells #[.slice (some ⟨ug, 0, none⟩) up.length up.length, .slice (some ⟨W1.heap.size, 0, none⟩) ks.length ks.length, .slice (some ⟨W2.heap.size, 0, none⟩) net.length net.length, .slice (some ⟨W3.heap.size, 0, none⟩) td.length td.length, .slice (some ⟨W4.heap.size, 0, none⟩) bk.length bk.length] 38 (0, 0)) := by rw [hW']; exact GR.setW_blk [.slice (some ⟨ug, 0, none⟩) up.length up.length, .slice (some ⟨W1.heap.size, 0, none⟩) ks.length ks.length, .slice (some ⟨W2.heap.size, 0, none⟩) net.length net.length, .slice (some ⟨W3.heap.size, 0, none⟩) td.length td.length, .slice (some ⟨W4.heap.size, 0, none⟩) bk.length bk.length] (o := 0) (xs := [.slice none 0 0, .slice none 0 0, .slice none 0 0, .slice none 0 0, .slice none 0 0]) (unhide HR5)
  have hBB := (unhide HB5).trans (hk.below (B := w.heap.size) (fun x hx => by have : x = w.heap.size + 1 := (by simpa using hx); omega) (by omega))
  have x0 : W'.cell? ⟨w.heap.size + 1, 0, none⟩ = some (.slice (some ⟨ug, 0, none⟩) up.length up.length) := cell_of_row _ _ 0 _ _ _ hX
  have x1 : W'.cell? ⟨w.heap.size + 1, 1, none⟩ = some (.slice (some ⟨W1.heap.size, 0, none⟩) ks.length ks.length) := cell_of_row _ _ 1 _ _ _ hX
  have x2 : W'.cell? ⟨w.heap.size + 1, 2, none⟩ = some (.slice (some ⟨W2.heap.size, 0, none⟩) net.length net.length) := cell_of_row _ _ 2 _ _ _ hX
  have x3 : W'.cell? ⟨w.heap.size + 1, 3, none⟩ = some (.slice (some ⟨W3.heap.size, 0, none⟩) td.length td.length) := cell_of_row _ _ 3 _ _ _ hX
  have x4 : W'.cell? ⟨w.heap.size + 1, 4, none⟩ = some (.slice (some ⟨W4.heap.size, 0, none⟩) bk.length bk.length) := cell_of_row _ _ 4 _ _ _ hX
  have U1_f := hide ((hk).obj (unhide U1_5) (fun hx => by have h2 := List.mem_singleton.1 hx; omega))
  have K1_f := hide ((hk).obj (unhide K1_5) (fun hx => by have h2 := List.mem_singleton.1 hx; omega))
  have K2_f := hide (fun x hx => ((unhide K2_5) x hx).keeps hk (fun y hy => by have h2 := List.mem_singleton.1 hy; omega))
  have K3_f := hide (((unhide K3_5)).keeps hk (fun y hy => by have h2 := List.mem_singleton.1 hy; omega))
  have S1_f := hide ((hk).obj (unhide S1_5) (fun hx => by have h2 := List.mem_singleton.1 hx; omega))
  have T1_f := hide ((hk).obj (unhide T1_5) (fun hx => by have h2 := List.mem_singleton.1 hx; omega))
  have B1_f := hide ((hk).obj (unhide B1_5) (fun hx => by have h2 := List.mem_singleton.1 hx; omega))
  exact bodyPost_ret (v := .agg #[.slice (some ⟨ug, 0, none⟩) up.length up.length, .slice (some ⟨W1.heap.size, 0, none⟩) ks.length ks.length, .slice (some ⟨W2.heap.size, 0, none⟩) net.length net.length, .slice (some ⟨W3.heap.size, 0, none⟩) td.length td.length, .slice (some ⟨W4.heap.size, 0, none⟩) bk.length bk.length]) (by simp [results, Try.results7, go_sem, x0, x1, x2, x3, x4]) rfl ⟨⟨some ⟨ug, 0, none⟩, up.length, some ⟨W1.heap.size, 0, none⟩, ks.length, M, some ⟨W2.heap.size, 0, none⟩, net.length, some ⟨W3.heap.size, 0, none⟩, td.length, some ⟨W4.heap.size, 0, none⟩, bk.length⟩, rfl, ⟨GR.Blk.at (unhide U1_f) encNum_length, unhide HMM, ⟨GR.Blk.at (unhide K1_f) encK_length, fun x hx => (unhide K2_f x hx).at⟩, GR.Blk.at (unhide S1_f) encStr_length, GR.Blk.at (unhide T1_f) encTd_length, GR.Blk.at (unhide B1_f) encGv_length⟩, ⟨r, ⟨ug, W1.heap.size, W2.heap.size, W3.heap.size, W4.heap.size, rfl, rfl, rfl, rfl, rfl, unhide U1_f, unhide K1_f, unhide K3_f, unhide S1_f, unhide T1_f, unhide B1_f, by omega, hu1, hr2, hn3, ht4, GR.Blk.lt (unhide B1_f)⟩⟩, hBB⟩

theorem infoByte : (Try.prog.info? 5).map (fun i => (i.zero, i.size, i.bytes)) = some (some (.int .u8 0), 1, 1) := by kernel_rfl
theorem sizeByte : (Try.prog.info? 5).map (·.size) = some 1 := by kernel_rfl
theorem cellsByte : Try.prog.cellsOf 5 = 1 := by kernel_rfl

theorem cloneIn_empty (w : World) : Calls Try.prog 53 #[.string ByteArray.empty] w fun e w' => e = .returned (.string ByteArray.empty) ∧ w = w' := by
  go_enter Try.func53, Try.ntmps53
  go_wp2
  go_ret
  exact ⟨rfl, rfl⟩

/-- 'make([]byte, n)': a new row of n noughts, under a name. -/
theorem make_bytes (n : Nat) (hn : n ≤ 281474976710656) : ∃ M : Array Value, M.size = n ∧ ∀ W : World, (Instr.makeSlice 131 (.int .i64 (n : Int)) (.int .i64 (n : Int))).run Try.prog W = .ok (.slice (some ⟨W.heap.size, 0, none⟩) n n) (W.alloc (.cells M 5)) := by
  obtain ⟨i0, hi, hz0, hz1, hz2⟩ := info_parts infoByte
  refine ⟨madeCells (Value.int .u8 0).cells (((n : Nat) : Int).toNat * i0.size), by rw [size_madeCells, hz1]; simp, fun W => ?_⟩
  simpa using run_make (P := Try.prog) W 131 5 i0 (.int .u8 0) Try.underlying131 hi hz0 .i64 .i64 (n : Int) (n : Int) (by omega) (by omega) (by rw [hz2]; omega) (by omega)

/-- 'copy(b, s)' over a whole new row: the row then holds the text's bytes. -/
theorem copy_all (w : World) (s : ByteArray) (M : Array Value) (hM : M.size = s.size) : ∃ Y : Array Value, Y.toList = s.data.toList.map bv ∧
    (Builtin.copy_ #[131, 9] 3 #[.slice (some ⟨w.heap.size, 0, none⟩) s.size s.size, .string s]).run Try.prog (w.alloc (.cells M 5)) = .ok (goInt s.size) ((w.alloc (.cells M 5)).setRow w.heap.size Y) := by
  have h := Lib.run_copy_row_string (P := Try.prog) (w.alloc (.cells M 5)) 131 9 3 5 w.heap.size 0 s.size s.size s M 5 Try.underlying131 sizeByte (heap_alloc_new w _) (Nat.le_refl _) (by omega)
  refine ⟨_, ?_, h⟩
  rw [List.toList_toArray, List.take_zero, List.nil_append, List.drop_of_length_le (by rw [Array.length_toList]; omega), List.append_nil]
  rfl

set_option maxHeartbeats 1000000 in
set_option maxRecDepth 100000 in
theorem cloneIn (s : ByteArray) (w : World) (h0 : 0 < s.size) (hlim : s.size ≤ 281474976710656) :
    Calls Try.prog 53 #[.string s] w fun e w' => e = .returned (.string s) ∧ Below w.heap.size w w' := by
  obtain ⟨M, hMs, hmk⟩ := make_bytes s.size hlim
  obtain ⟨Y, hY, hcp⟩ := copy_all w s M hMs
  have hYs : Y.size = s.size := by rw [← Array.length_toList, hY]; simp
  have hg : ((w.alloc (.cells M 5)).setRow w.heap.size Y).heap[w.heap.size]? = some (.cells Y 5 (0, 0)) := setRow_heap _ _ M _ 5 (0, 0) (heap_alloc_new w _)
  have hus := Lib.run_unsafeString_row (P := Try.prog) ((w.alloc (.cells M 5)).setRow w.heap.size Y) 144 3 9 5 Try.underlying144 cellsByte w.heap.size Y.size (by unfold World.shape?; rw [hg]) s.data.toList
    (fun e => by have := size_toList s; rw [e] at this; simp at this; omega) (by rw [size_toList]; omega) (by rw [size_toList]; omega)
    (fun j x hx => Lib.cells_of_row hg Y.size j _ (by rw [List.take_of_length_le (by rw [Array.length_toList]; exact Nat.le_refl _), hY]; simp [bv, hx]))
  rw [size_toList, Lib.mk_data] at hus
  have hne : ((s.size : Int) == 0) = false := beq_eq_false_iff_ne.2 (by omega)
  have hlt : (0 : Int) < (s.size : Int) := by omega
  clear hY hMs hg
  go_enter Try.func53, Try.ntmps53
  go_wp2
  go_ret
  exact ⟨rfl, Lib.below_freeze (below_setRow ((Below.refl _ w).alloc (Nat.le_refl _) _) (Nat.le_refl _) Y) (p := ⟨w.heap.size, 0, none⟩) (Nat.le_refl _) _⟩

theorem clone (s : ByteArray) (w : World) (hlim : s.size ≤ 281474976710656) :
    Calls Try.prog 34 #[.string s] w fun e w' => e = .returned (.string s) ∧ Below w.heap.size w w' := by
  by_cases h0 : 0 < s.size
  · go_enter Try.func34, Try.ntmps34
    go_wp2_with (go_at_call 53; refine (cloneIn s _ h0 hlim).mono ?_; rintro e w' ⟨rfl, hbel⟩)
    go_ret
    exact ⟨rfl, hbel⟩
  · obtain rfl := eq_empty s (by omega)
    go_enter Try.func34, Try.ntmps34
    go_wp2_with (go_at_call 53; refine (cloneIn_empty _).mono ?_; rintro e w' ⟨rfl, rfl⟩)
    go_ret
    exact ⟨rfl, Below.refl _ _⟩
end Go.Proofs.Ytgkimogaghgjaaa
