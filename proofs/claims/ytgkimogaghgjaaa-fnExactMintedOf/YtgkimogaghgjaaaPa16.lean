/- Parts. -/
import Derived.Test.YtgkimogaghgjaaaPa15
import Derived.Test.YtgkimogaghgjaaaPa1
import Derived.Test.YtgkimogaghgjaaaPa12
import Derived.Deep.Cut
namespace Go.Proofs.Ytgkimogaghgjaaa
open Go.RowKit
open Mth

set_option maxRecDepth 100000 in
set_option maxHeartbeats 2000000 in
theorem implOwnKey (p : Pu) (w : World) (hk : p.k.size ≤ 1048576) : Calls Try.prog 47 #[puv p] w fun e w' => e = .returned (puv p) ∧ Below w.heap.size w w' := by
  obtain ⟨pk, pm, pf, ps⟩ := p
  have HC := hide (fun w1 => clone pk w1 (by dsimp only at hk; omega))
  clear hk
  go_enter Try.func47, Try.ntmps47
  go_wp2_with fail
  refine (unhide HC _).mono ?_
  rintro e w1 ⟨rfl, hb1⟩
  obtain ⟨hA, hB, hz, hbel⟩ := Fo.two_blocks hb1
  have HB := hide hB
  have HBL := hide hbel
  obtain ⟨⟨p0, p1, p2, p3⟩, q0, q1, q2, q3⟩ := four_at hA
  obtain ⟨⟨r0, r1, r2, r3⟩, s0, s1, s2, s3⟩ := four_at hB
  clear hb1 hA hB hbel
  go_wp2_with fail
  clear r0 r1 r2 r3
  refine Fo.bodyPost_at (fun W' hW' => ?_)
  obtain ⟨⟨r0, r1, r2, r3⟩, _⟩ := four_at (show W'.heap[w.heap.size + 1]? = some (.cells #[.string pk, .int .i64 pm, .int .i64 pf, .int .i64 ps] 52 (0, 0)) by rw [hW']; exact Fo.four_set (Fo.one_other (unhide HB) (by omega)))
  have hbb : Below w.heap.size w W' := by rw [hW']; exact Fo.four_below ((unhide HBL).setCell (p := ⟨w.heap.size, 0, none⟩) (Nat.le_refl _) _) (by omega)
  refine bodyPost_ret (v := .agg #[.string pk, .int .i64 pm, .int .i64 pf, .int .i64 ps]) (by simp [results, Try.results47, go_sem, r0, r1, r2, r3]) rfl ⟨rfl, hbb⟩

set_option maxRecDepth 100000 in
set_option maxHeartbeats 2000000 in
theorem implPurseOf (a : Option Addr) (cap : Nat) (l : List Pu) (key : ByteArray) (w : World) (hl : l.length ≤ 1048600) (hks : ∀ p ∈ l, p.k.size ≤ 1048576) (hkey : key.size ≤ 1048576) (ha : PursesAt w a l) :
    Calls Try.prog 27 #[.slice a l.length cap, .string key] w fun e w' => e = .returned (puv (purseOf l key)) ∧ Below w.heap.size w w' := by
  have HA := hide ha
  have HKS := hide hks
  have HCL := hide (fun w1 => clone key w1 (by omega))
  clear ha hks
  go_enter Try.func27, Try.ntmps27
  go_wp2_with fail
  go_loopw [9] (fun i wr => ∃ k : Nat, k ≤ l.length ∧ i = .int .i64 k ∧ (l.take k).find? (fun p => p.k.toList == key.toList) = none ∧ Below w.heap.size w wr ∧ wr.heap[w.heap.size]? = some (.cells #[.string ⟨#[]⟩, .int .i64 0, .int .i64 0, .int .i64 0] 52 (0, 0))) (fun i _ => l.length - (intOf i).toNat)
  case atStart => exact ⟨0, Nat.zero_le _, rfl, rfl, below_one' w _, heap_alloc_new w _⟩
  case round =>
    obtain ⟨k, hk, rfl, hnone, hbel, hblk⟩ := hrel
    have HN := hide hnone
    have HBL := hide hbel
    have HBK := hide hblk
    have hlt0 := Fo.lt_of_blk hblk
    clear hnone hbel hblk
    by_cases hlt : k < l.length
    · obtain ⟨g, off, rfl, hgw, c0, c1, c2, c3⟩ := PursesAt.four (GR.At.below (unhide HA) (unhide HBL)) k hlt
      have hfs := find_step (fun p => p.k.toList == key.toList) l k hlt (unhide HN)
      have hkk := unhide HKS l[k] (List.getElem_mem hlt)
      cases hf : l[k].k.toList == key.toList
      · have HX := hide (hfs.2 hf)
        clear hfs HN hkk
        generalize l[k] = pu at *
        obtain ⟨pk, pm, pf, ps⟩ := pu
        dsimp only at c0 c1 c2 c3 hf
        go_wp2_with fail
        go_roundw
        case rel => exact ⟨k + 1, by omega, by go_num, unhide HX, by first | exact (unhide HBL).alloc (unhide HBL).size _ | exact unhide HBL, by first | (rw [Below.heap_alloc _ _ _ hlt0]; exact unhide HBK) | exact unhide HBK⟩
        case measure => simp [intOf]; omega
      · have HX := hide (show purseOf l key = l[k] by unfold purseOf; rw [hfs.1 hf]; rfl)
        clear hfs HN
        generalize l[k] = pu at *
        have HOK := hide (fun w1 => implOwnKey pu w1 hkk)
        clear hkk
        obtain ⟨pk, pm, pf, ps⟩ := pu
        dsimp only at c0 c1 c2 c3 hf
        go_wp2_with fail
        refine (unhide HOK _).mono ?_
        rintro e w1 ⟨rfl, hb1⟩
        have hb2 := (unhide HBL).trans ((Below.mono (Fo.one_block hb1).2.2 (unhide HBL).size))
        have hB : w1.heap[w.heap.size]? = some (.cells #[.string ⟨#[]⟩, .int .i64 0, .int .i64 0, .int .i64 0] 52 (0, 0)) := by rw [(Fo.one_block hb1).2.2.block _ hlt0]; exact unhide HBK
        have HB := hide hB
        have HB2 := hide hb2
        obtain ⟨⟨r0, r1, r2, r3⟩, s0, s1, s2, s3⟩ := four_at hB
        clear hB hb1 hb2
        go_wp2_with fail
        clear r0 r1 r2 r3
        refine Fo.bodyPost_at (fun W' hW' => ?_)
        obtain ⟨⟨r0, r1, r2, r3⟩, _⟩ := four_at (show W'.heap[w.heap.size]? = some (.cells #[.string pk, .int .i64 pm, .int .i64 pf, .int .i64 ps] 52 (0, 0)) by rw [hW']; exact Fo.four_set (unhide HB))
        have hbb : Below w.heap.size w W' := by rw [hW']; exact Fo.four_below (unhide HB2) (Nat.le_refl _)
        refine bodyPost_ret (v := .agg #[.string pk, .int .i64 pm, .int .i64 pf, .int .i64 ps]) (by simp [results, Try.results27, go_sem, r0, r1, r2, r3]) rfl ⟨by rw [unhide HX], hbb⟩
    · have hke : k = l.length := by omega
      subst hke
      have hnlt : decide ((l.length : Int) < (l.length : Int)) = false := by simp
      have HX := hide (show purseOf l key = ⟨key, 0, 0, 0⟩ by
        have h := unhide HN
        rw [List.take_length] at h
        unfold purseOf
        rw [h]
        rfl)
      go_wp2_with fail
      refine (unhide HCL _).mono ?_
      rintro e w1 ⟨rfl, hb1⟩
      have hB : w1.heap[w.heap.size]? = some (.cells #[.string ⟨#[]⟩, .int .i64 0, .int .i64 0, .int .i64 0] 52 (0, 0)) := by rw [hb1.block _ hlt0]; exact unhide HBK
      have HB := hide hB
      have HB2 := hide ((unhide HBL).trans (hb1.mono (unhide HBL).size))
      obtain ⟨⟨r0, r1, r2, r3⟩, s0, s1, s2, s3⟩ := four_at hB
      clear hB hb1
      go_wp2_with fail
      clear r0 r1 r2 r3
      refine Fo.bodyPost_at (fun W' hW' => ?_)
      obtain ⟨⟨r0, r1, r2, r3⟩, _⟩ := four_at (show W'.heap[w.heap.size]? = some (.cells #[.string key, .int .i64 0, .int .i64 0, .int .i64 0] 52 (0, 0)) by rw [hW']; exact Fo.four_set (unhide HB))
      have hbb : Below w.heap.size w W' := by rw [hW']; exact Fo.four_below (unhide HB2) (Nat.le_refl _)
      refine bodyPost_ret (v := .agg #[.string key, .int .i64 0, .int .i64 0, .int .i64 0]) (by simp [results, Try.results27, go_sem, r0, r1, r2, r3]) rfl ⟨by rw [unhide HX], hbb⟩


theorem wdFieldM (k : ByteArray) (m f s : Int) (w : World) : (Instr.field 52 (.agg #[.string k, .int .i64 m, .int .i64 f, .int .i64 s]) 1).run Try.prog w = .ok (.int .i64 m) w := by kernel_rfl
/-- Minted of node 0. -/
def mintedN (ks : List Kp) (key : ByteArray) : Int := match ks with
  | [] => 0
  | k :: _ => (purseOf k.node.pu key).m
set_option maxRecDepth 100000 in
set_option maxHeartbeats 2000000 in
theorem specMintedOf (W : Wd) (A : WA) (key : ByteArray) (w : World) (hz : WdSz W 1048576) (_hkey : key.size ≤ 1048576) (ha : WdAt w A W) :
    Calls Try.prog 6 #[wdv W A, .string key] w fun e w' => e = .returned (.int .i64 (mintedN W.ks key)) ∧ Below w.heap.size w w' := by
  have hkl := hz.k
  have HB0 := hide (heap_alloc_new w (.cells (wdc W A) 38))
  have HL0 := hide (below_one w (.cells (wdc W A) 38))
  have HC : Hid (∀ k0 t, W.ks = k0 :: t → ∃ g off p c, A.k = some ⟨g, off, none⟩ ∧ g < w.heap.size ∧ w.cell? ⟨g, off + 13, none⟩ = some (.slice p k0.node.pu.length c) ∧ ∀ w1, Below w.heap.size w w1 → Calls Try.prog 21 #[.slice p k0.node.pu.length c, .string key] w1 fun e w' => e = .returned (puv (purseOf k0.node.pu key)) ∧ Below w1.heap.size w1 w') := fun k0 t hk => by
    obtain ⟨up, ks, net, td, bk⟩ := W
    dsimp only at hk
    subst hk
    have hke := ha.ke
    dsimp only at hke
    cases hL : A.L with
    | nil => rw [hL] at hke; cases hke
    | cons x L =>
      rw [hL] at hke
      obtain ⟨rfl, _⟩ := List.cons.inj hke
      have hrow := ha.ks.row 0 (by rw [hL]; simp)
      obtain ⟨g, off, e1, hg, hc⟩ := hrow
      have h13 := hc 13 (by omega)
      have hx : x ∈ A.L := by rw [hL]; simp
      have hat := ha.ks.each x hx
      have hsz := hz.kk x.1 (by simp)
      dsimp only at hsz ⊢
      refine ⟨g, off, x.2.n.p, x.2.n.cp, e1, hg, ?_, fun w1 hb => ?_⟩
      · simp only [hL] at h13
        exact h13
      · exact specPurseOf _ _ _ _ _ (by have := hsz.n.p; omega) (hat.below hb).kn.p
  clear ha hz
  obtain ⟨up, ks, net, td, bk⟩ := W
  obtain ⟨u, uc, k, kc, L, n, nc, t, tc, b, bc⟩ := A
  dsimp only at HB0 HL0 HC hkl ⊢
  obtain ⟨c0, c1, c2, c3, c4⟩ := at5 (unhide HB0)
  cases ks with
  | nil =>
    clear HC
    go_enter Try.func6, Try.ntmps6
    go_wp2_with fail
    go_ret
    exact ⟨rfl, unhide HL0⟩
  | cons k0 ks =>
    obtain ⟨g, off, p, c, rfl, hg, h13, hcall⟩ := unhide HC k0 ks rfl
    have c13 := ((unhide HL0).cell (p := ⟨g, off + 13, none⟩) hg).trans h13
    have HP := hide (hcall _ (unhide HL0))
    have hmm : mintedN (k0 :: ks) key = (purseOf k0.node.pu key).m := rfl
    rw [hmm]
    have hne : decide (((k0 :: ks).length : Int) = 0) = false := decide_eq_false (by simp <;> omega)
    have hpos : (0 : Int) < ((k0 :: ks).length : Int) := by simp <;> omega
    clear hcall h13 HC hmm hkl
    generalize (k0 :: ks).length = kn at *
    generalize purseOf k0.node.pu key = pu at *
    generalize k0.node.pu.length = pn at *
    obtain ⟨pk, pm, pf, ps⟩ := pu
    go_enter Try.func6, Try.ntmps6
    go_wp2_with fail
    refine (unhide HP).mono ?_
    rintro e w1 ⟨rfl, hb⟩
    have HL1 := hide ((unhide HL0).trans (hb.mono (unhide HL0).size))
    clear hb c0 c1 c2 c3 c4 c13 HB0 HL0 HP
    go_wp2_with fail
    rw [wdFieldM]
    go_wp2_with fail
    go_ret
    exact ⟨rfl, unhide HL1⟩
set_option maxRecDepth 100000 in
set_option maxHeartbeats 2000000 in
theorem implMintedOf (W : Wd) (A : WA) (key : ByteArray) (w : World) (hz : WdSz W 1048576) (hkey : key.size ≤ 1048576) (ha : WdAt w A W) :
    Calls Try.prog 8 #[wdv W A, .string key] w fun e w' => e = .returned (.int .i64 (mintedN W.ks key)) ∧ Below w.heap.size w w' := by
  have hkl := hz.k
  have HB0 := hide (heap_alloc_new w (.cells (wdc W A) 38))
  have HL0 := hide (below_one w (.cells (wdc W A) 38))
  have HC : Hid (∀ k0 t, W.ks = k0 :: t → ∃ g off p c, A.k = some ⟨g, off, none⟩ ∧ g < w.heap.size ∧ w.cell? ⟨g, off + 13, none⟩ = some (.slice p k0.node.pu.length c) ∧ ∀ w1, Below w.heap.size w w1 → Calls Try.prog 27 #[.slice p k0.node.pu.length c, .string key] w1 fun e w' => e = .returned (puv (purseOf k0.node.pu key)) ∧ Below w1.heap.size w1 w') := fun k0 t hk => by
    obtain ⟨up, ks, net, td, bk⟩ := W
    dsimp only at hk
    subst hk
    have hke := ha.ke
    dsimp only at hke
    cases hL : A.L with
    | nil => rw [hL] at hke; cases hke
    | cons x L =>
      rw [hL] at hke
      obtain ⟨rfl, _⟩ := List.cons.inj hke
      have hrow := ha.ks.row 0 (by rw [hL]; simp)
      obtain ⟨g, off, e1, hg, hc⟩ := hrow
      have h13 := hc 13 (by omega)
      have hx : x ∈ A.L := by rw [hL]; simp
      have hat := ha.ks.each x hx
      have hsz := hz.kk x.1 (by simp)
      dsimp only at hsz ⊢
      refine ⟨g, off, x.2.n.p, x.2.n.cp, e1, hg, ?_, fun w1 hb => ?_⟩
      · simp only [hL] at h13
        exact h13
      · exact implPurseOf _ _ _ _ _ (by have := hsz.n.p; omega) hsz.n.pk hkey (hat.below hb).kn.p
  clear ha hz
  obtain ⟨up, ks, net, td, bk⟩ := W
  obtain ⟨u, uc, k, kc, L, n, nc, t, tc, b, bc⟩ := A
  dsimp only at HB0 HL0 HC hkl ⊢
  obtain ⟨c0, c1, c2, c3, c4⟩ := at5 (unhide HB0)
  cases ks with
  | nil =>
    clear HC
    go_enter Try.func8, Try.ntmps8
    go_wp2_with fail
    go_ret
    exact ⟨rfl, unhide HL0⟩
  | cons k0 ks =>
    obtain ⟨g, off, p, c, rfl, hg, h13, hcall⟩ := unhide HC k0 ks rfl
    have c13 := ((unhide HL0).cell (p := ⟨g, off + 13, none⟩) hg).trans h13
    have HP := hide (hcall _ (unhide HL0))
    have hmm : mintedN (k0 :: ks) key = (purseOf k0.node.pu key).m := rfl
    rw [hmm]
    have hne : decide (((k0 :: ks).length : Int) = 0) = false := decide_eq_false (by simp <;> omega)
    have hpos : (0 : Int) < ((k0 :: ks).length : Int) := by simp <;> omega
    clear hcall h13 HC hmm hkl
    generalize (k0 :: ks).length = kn at *
    generalize purseOf k0.node.pu key = pu at *
    generalize k0.node.pu.length = pn at *
    obtain ⟨pk, pm, pf, ps⟩ := pu
    go_enter Try.func8, Try.ntmps8
    go_wp2_with fail
    refine (unhide HP).mono ?_
    rintro e w1 ⟨rfl, hb⟩
    have HL1 := hide ((unhide HL0).trans (hb.mono (unhide HL0).size))
    clear hb c0 c1 c2 c3 c4 c13 HB0 HL0 HP
    go_wp2_with fail
    rw [wdFieldM]
    go_wp2_with fail
    go_ret
    exact ⟨rfl, unhide HL1⟩

theorem infoWI : (Try.prog.info? 38).map (·.size) = some 5 := by kernel_rfl
theorem infoWL : (Try.prog.info? 30).map (·.size) = some 5 := by kernel_rfl
set_option maxRecDepth 100000 in
set_option maxHeartbeats 4000000 in
theorem fnExactMintedOf_walk (X : Wd) (A : WA) (hz : WdSz X maxLen) (key : ByteArray) (hkm : key.size ≤ maxLen) (w : World) (ha : WdAt w A X) :
    Calls Try.prog 3 #[wdv X A, .string key] w fun e w' => e = .returned (.bool true) ∧ Below w.heap.size w w' := by
  unfold maxLen at hkm
  have HP0 := hide (heap_alloc_new w (.cells (wdc X A) 30))
  have HL0 := hide (below_one w (.cells (wdc X A) 30))
  by_cases hkey : key.size ≤ 1048576
  case' neg =>
    have hg : decide (1048576 < (key.size : Int)) = true := decide_eq_true (by omega)
    clear ha hz HP0
    go_enter Try.func3, Try.ntmps3
    go_wp2_with fail
    go_ret
    exact ⟨rfl, unhide HL0⟩
  have hg : decide (1048576 < (key.size : Int)) = false := decide_eq_false (by omega)
  have HSZ := hide (fun w1 (h : Below w.heap.size w w1) => szWorld X A w1 hz (ha.below h))
  have HTO := hide (fun (hz2 : WdSz X 1048576) w1 (h : Below w.heap.size w w1) => toWorld X A w1 hz2 (ha.below h))
  have HSP := hide (fun (hz2 : WdSz X 1048576) (B : WA) w1 (h : WdAt w1 B X) => specMintedOf X B key w1 hz2 hkey h)
  have HIM := hide (fun (hz2 : WdSz X 1048576) (B : WA) w1 (h : WdAt w1 B X) => implMintedOf X B key w1 hz2 hkey h)
  have HEQ := hide (fun (hz2 : WdSz X 1048576) (B C : WA) w1 (h : WdAt w1 B X) (h' : WdAt w1 C X) => eqWorld X B C w1 hz2 h h')
  generalize mintedN X.ks key = mn at *
  have hnn : decide (mn = mn) = true := by simp
  clear ha hz
  obtain ⟨up, ks, net, td, bk⟩ := X
  obtain ⟨u, uc, k, kc, L, n, nc, t, tc, b, bc⟩ := A
  obtain ⟨c0, c1, c2, c3, c4⟩ := at5 (unhide HP0)
  go_enter Try.func3, Try.ntmps3
  go_wp2_with fail
  refine (unhide HSZ _ (unhide HL0)).mono ?_
  rintro e w1 ⟨r, rfl, hr, hb⟩
  have HP1 := hide (obj_step (unhide HP0) hb)
  have HL1 := hide ((unhide HL0).trans (hb.mono (unhide HL0).size))
  clear hb c0 c1 c2 c3 c4 HP0 HL0 HSZ
  rcases hr with rfl | ⟨hr0, hr1, hz2⟩
  case' inl =>
    go_wp2_with fail
    go_ret
    exact ⟨rfl, unhide HL1⟩
  have hrn : decide (r < 0) = false := decide_eq_false (by omega)
  have HT2 := hide (unhide HTO hz2)
  have HS2 := hide (unhide HSP hz2)
  have HI2 := hide (unhide HIM hz2)
  have HE2 := hide (unhide HEQ hz2)
  clear HTO HSP HIM HEQ hz2
  obtain ⟨c0, c1, c2, c3, c4⟩ := at5 (unhide HP1)
  go_wp2_with fail
  refine (unhide HT2 _ (unhide HL1)).mono ?_
  rintro e w2 ⟨B2, rfl, hat, hb⟩
  have HP2 := hide (obj_step (unhide HP1) hb)
  have HL2 := hide ((unhide HL1).trans (hb.mono (unhide HL1).size))
  have HA2 := hide hat
  clear hb hat c0 c1 c2 c3 c4 HP1 HL1
  go_wp2_with fail
  refine (unhide HS2 _ _ (unhide HA2)).mono ?_
  rintro e w3 ⟨rfl, hb⟩
  have HP3 := hide (obj_step (unhide HP2) hb)
  have HL3 := hide ((unhide HL2).trans (hb.mono (unhide HL2).size))
  clear hb HP2 HL2 HA2 HS2
  obtain ⟨c0, c1, c2, c3, c4⟩ := at5 (unhide HP3)
  go_wp2_with fail
  refine (unhide HT2 _ (unhide HL3)).mono ?_
  rintro e w4 ⟨B4, rfl, hat, hb⟩
  have HP4 := hide (obj_step (unhide HP3) hb)
  have HL4 := hide ((unhide HL3).trans (hb.mono (unhide HL3).size))
  have HA4 := hide hat
  clear hb hat c0 c1 c2 c3 c4 HP3 HL3
  go_upto_region 9 with fail
  refine wp_at (fun W5 hW => ?_)
  have hb : Below w4.heap.size w4 W5 := by rw [hW]; exact below_one w4 _
  have HX5 : Hid (W5.heap[w4.heap.size]? = some (.cells (wdc ⟨up, ks, net, td, bk⟩ B4) 38 (0, 0))) := by rw [hW]; exact heap_alloc_new w4 _
  have HP5 := hide (obj_step (unhide HP4) hb)
  have HL5 := hide ((unhide HL4).trans (hb.mono (unhide HL4).size))
  have HA5 := hide ((unhide HA4).below hb)
  clear hb hW HP4 HL4 HA4
  obtain ⟨x0, x1, x2, x3, x4⟩ := at5 (unhide HX5)
  go_wp2_with fail
  refine (unhide HI2 _ _ (unhide HA5)).mono ?_
  rintro e w6 ⟨rfl, hb⟩
  have HP6 := hide (obj_step (unhide HP5) hb)
  have HX6 := hide (obj_step (unhide HX5) hb)
  have HL6 := hide ((unhide HL5).trans (hb.mono (unhide HL5).size))
  have HA6 := hide ((unhide HA5).below hb)
  clear hb x0 x1 x2 x3 x4 HP5 HX5 HL5 HA5 HI2
  have hxl := obj_lt (unhide HX6)
  have hpl := obj_lt (unhide HP6)
  have HRX : Hid (w6.rangeAt w4.heap.size 0 (wdc ⟨up, ks, net, td, bk⟩ B4).toList) := range_blk (unhide HX6)
  have HRP : Hid (w6.rangeAt w.heap.size 0 (wdc ⟨up, ks, net, td, bk⟩ ⟨u, uc, k, kc, L, n, nc, t, tc, b, bc⟩).toList) := range_blk (unhide HP6)
  have HI1 : Hid ((Try.prog.info? 38).map (·.size) = some (wdc ⟨up, ks, net, td, bk⟩ B4).toList.length) := infoWI
  have HI3 : Hid ((Try.prog.info? 30).map (·.size) = some (wdc ⟨up, ks, net, td, bk⟩ ⟨u, uc, k, kc, L, n, nc, t, tc, b, bc⟩).toList.length) := infoWL
  have HTT : Hid (∀ w1, Below w.heap.size w w1 → Calls Try.prog 7 #[.agg (wdc ⟨up, ks, net, td, bk⟩ ⟨u, uc, k, kc, L, n, nc, t, tc, b, bc⟩).toList.toArray] w1 fun e w' => ∃ V : List Value, e = .returned (.agg V.toArray) ∧ (∀ w2, Ge w' w2 → Ge w6 w2 → Calls Try.prog 9 #[.agg (wdc ⟨up, ks, net, td, bk⟩ B4).toList.toArray, .agg V.toArray] w2 fun e w3 => e = .returned (.bool true) ∧ Below w2.heap.size w2 w3) ∧ Below w1.heap.size w1 w') := fun w1 h => (unhide HT2 w1 h).mono (by
    rintro e w' ⟨C, rfl, hC, hb⟩
    exact ⟨(wdc ⟨up, ks, net, td, bk⟩ C).toList, rfl, fun w2 h1 h2 => unhide HE2 B4 C w2 ((unhide HA6).below h2) (hC.below h1), hb⟩)
  clear HT2 HE2 HA6 HX6 HP6
  generalize (wdc ⟨up, ks, net, td, bk⟩ B4).toList = V1 at HRX HI1 HTT
  generalize (wdc ⟨up, ks, net, td, bk⟩ ⟨u, uc, k, kc, L, n, nc, t, tc, b, bc⟩).toList = V2 at HRP HI3 HTT
  go_upto_region 12 with fail
  refine wp_region_mix (by kernel_rfl) ?_
  show wpMix _ _ _ _ 5 (Array.replicate 5 false) _ _
  refine wpMix_mid 0 rfl (by kernel_rfl) (by kernel_rfl) (by kernel_rfl) (fun _ _ _ _ h => h) (by rfl) 38 _ rfl w4.heap.size 0 (by first | rfl | simp [Act.eval, Act.put]) V1 _ (unhide HRX) hxl Try.underlying38 rfl (unhide HI1) ?_
  go_simp
  refine wpMix_mid 1 rfl (by kernel_rfl) (by kernel_rfl) (by kernel_rfl) (fun _ _ _ _ h => h) (by rfl) 30 _ rfl w.heap.size 0 (by first | rfl | simp [Act.eval, Act.put]) V2 _ (unhide HRP) hpl Try.underlying30 rfl (unhide HI3) ?_
  go_simp
  refine wpMix_one 2 rfl (by kernel_rfl) (by rfl) (fun x hx => ?_)
  go_simp
  refine (unhide HTT x ((unhide HL6).trans (hx.mono (unhide HL6).size))).mono ?_
  rintro e y ⟨V, rfl, hv, hby⟩
  refine ⟨hby, ?_⟩
  have HV := hide hv
  have HXY := hide (Ge.trans hx hby)
  clear hv hx hby
  refine wpMix_one 3 rfl (by kernel_rfl) (by rfl) (fun x hx => ?_)
  go_simp
  refine (unhide HV x hx (Ge.trans (unhide HXY) hx)).mono ?_
  rintro e y2 ⟨rfl, hby⟩
  refine ⟨hby, ?_⟩
  have HXZ := hide (Ge.trans (Ge.trans (unhide HXY) hx) hby)
  clear hx hby
  refine wpMix_take 4 rfl (by kernel_rfl) (by kernel_rfl) (by kernel_rfl) (fun _ _ _ _ h => h) (fun K hK => ?_)
  go_simp
  first
    | (refine hK _ ?_; clear hK K)
    | (apply Exists.intro
       refine ⟨fun _ => ?_, hK _ ?_⟩
       (fail)
       clear hK K)
  refine wpMix_done (by kernel_rfl) (fun z hz => ?_)
  have HL7 := hide ((unhide HL6).trans ((Ge.trans (unhide HXZ) hz).mono (unhide HL6).size))
  clear hz HXZ HXY HV HTT HRX HRP HI1 HI3
  go_simp
  go_wp2_with fail
  go_ret
  exact ⟨rfl, unhide HL7⟩
end Go.Proofs.Ytgkimogaghgjaaa
