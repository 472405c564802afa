/- Parts. -/
import Derived.Test.YtbanjohfcnadfaaGreatDoorPw35
import Derived.Test.YtbanjohfcnadfaaGreatDoorPw36
import Derived.Test.YtbanjohfcnadfaaGreatDoorPw37
import Derived.Test.YtbanjohfcnadfaaGreatDoorPw38
import Derived.Test.YtbanjohfcnadfaaGreatDoorPw33
import Derived.Test.YtbanjohfcnadfaaGreatDoorPw21
namespace Go.Proofs.YtbanjohfcnadfaaGreatDoor
open Go.RowKit
open Mth

/-- Of a new world: its tree's row, its keepers' rows. -/
structure NWd (w : World) (u : Option Addr) (ug : Nat) (ka : Option Addr) (kg : Nat) (U : List Int) (L : List KdI) : Prop where
  up : GR.W encNum 1 w u ug U
  ks : KRw w ka kg L
  nd : ∀ x ∈ fp ug U, x ∉ fp kg L ++ fpK L
/-- All blocks of it. -/
def fpW (ug kg : Nat) (U : List Int) (L : List KdI) : List Nat := fp ug U ++ (fp kg L ++ fpK L)
theorem NWd.keeps {w w' : World} {u ka : Option Addr} {ug kg : Nat} {U : List Int} {L : List KdI} {F : List Nat} (h : NWd w u ug ka kg U L) (hk : KeepsL F w w') (hF : ∀ x ∈ fpW ug kg U L, x ∉ F) : NWd w' u ug ka kg U L :=
  ⟨h.up.keeps hk (fun x hx => hF x (List.mem_append_left _ hx)), h.ks.keeps hk (fun x hx => hF x (List.mem_append_right _ hx)), h.nd⟩
theorem NWd.below {w w' : World} {u ka : Option Addr} {ug kg : Nat} {U : List Int} {L : List KdI} (h : NWd w u ug ka kg U L) (hb : Below w.heap.size w w') : NWd w' u ug ka kg U L := h.keeps (F := []) (KeepsL.of_below hb) (fun _ _ => by simp)
/-- What a WorldNew gives, as such a world. -/
def GivesNW (w : World) (U : List Int) (KS : List KE) (b : Bool) (e : Ending) (w' : World) : Prop :=
  ∃ u uc ug ka kc kg L, e = .returned (.tuple #[.agg (wn5 (.slice u U.length uc) (.slice ka KS.length kc)), .bool b]) ∧ L.map (fun x => x.1) = KS ∧ NWd w' u ug ka kg U L ∧ (∀ x ∈ fpW ug kg U L, w.heap.size ≤ x ∧ x < w'.heap.size) ∧ Below w.heap.size w w'
theorem GivesWN.nw {w w' : World} {l : List Int} {e : Ending} (h : GivesWN w l e w') : GivesNW w (upT l) (keepsT l) (treeB l) e w' := by
  obtain ⟨v, kv, L, rfl, hL, ho, hK, hd, hb⟩ := h
  obtain ⟨u, uc, ug, rfl, hW, hr, hb2⟩ := GR.W.of_own encNum_length ho
  have hne := hK.own.lt
  have hok := hK.own
  rw [← flat22, ← rows22_length L] at hok
  obtain ⟨ka', kc', kg', hkv', hW', hr', hob⟩ := GR.W.of_own enc22_length hok
  rw [rows22_length] at hkv'
  subst hkv'
  have hlen : L.length = (keepsT l).length := by rw [← hL]; simp
  have hfp : fp kg' (rows22 L) = fp kg' L := fp_len (rows22_length L)
  rw [hfp] at hr' hob
  have hKR : KRw w' ka' kg' L := ⟨hW', hK.each, List.nodup_append.2 ⟨fp_nodup _ _, hK.nd, fun x hx y hy e => hK.ne x (hob x hx) (by rw [e]; exact hy)⟩⟩
  refine ⟨u, uc, ug, ka', kc', kg', L, by rw [hlen], hL, ⟨hW, hKR, fun x hx hm => ?_⟩, fun x hx => ?_, hb⟩
  · obtain ⟨d1, d2⟩ := hd x (hb2 x hx)
    rcases List.mem_append.1 hm with hm | hm
    · exact d1 (hob x hm)
    · exact d2 hm
  · rcases List.mem_append.1 hx with hx | hx
    · exact hr x hx
    · rcases List.mem_append.1 hx with hx | hx
      · exact hr' x hx
      · exact hK.rng x hx
def toKp (x : KE) : Kp := ⟨x.b, x.n, x.log, x.safe, [], []⟩
def toKpI (x : KdI) : KpI := (toKp x.1, ⟨x.2.1.1, x.2.2.1, none, 0, none, 0⟩)
theorem encK_to (x : KdI) : encK (toKpI x) = enc22 (r22 x) := rfl
theorem KRw.kps {w : World} {a : Option Addr} {g : Nat} {L : List KdI} (h : KRw w a g L) : KpsAt w a (L.map toKpI) := by
  refine ⟨fun i hi => ?_, fun x hx => ?_⟩
  · have hi' : i < (rows22 L).length := by rw [rows22_length]; simpa using hi
    obtain ⟨e, hg, hc⟩ := h.row i hi'
    refine ⟨g, 0, e, hg, fun j hj => ?_⟩
    rw [List.getElem_map, encK_to, Nat.zero_add]
    have h1 := (hc j hj).1
    simp only [rows22, List.getElem_map] at h1
    exact h1
  · obtain ⟨y, hy, rfl⟩ := List.mem_map.1 hx
    have h1 := h.each y hy
    exact ⟨h1.b.at, h1.n.at, GR.at_nil _ _, GR.at_nil _ _⟩
theorem small_kps {L : List KdI} (hs : ∀ x ∈ L, SmallK x) (hlog : ∀ x ∈ L, x.1.log.size ≤ 100) (KS : List KE) (h : L.map (fun x => x.1) = KS) : ∀ x ∈ KS.map toKp, KpSz x 1048576 := fun x hx => by
  obtain ⟨y, hy, rfl⟩ := List.mem_map.1 hx
  rw [← h] at hy
  obtain ⟨z, hz, rfl⟩ := List.mem_map.1 hy
  have h1 := hs z hz
  exact ⟨h1.1.sz, h1.2.sz, Nat.le_trans (hlog z hz) (by omega), by simp [toKp], by simp [toKp], fun p hp => by simp [toKp] at hp, fun p hp => by simp [toKp] at hp⟩
theorem eqWorldN (u v ka kb : Option Addr) (uc vc kc lc ug vg kg lg : Nat) (U : List Int) (L M : List KdI) (KS : List KE) (w : World) (hU : U.length ≤ 1048576) (hK : KS.length ≤ 1048576) (hs : ∀ x ∈ L, SmallK x) (hlog : ∀ x ∈ L, x.1.log.size ≤ 100) (h1 : L.map (fun x => x.1) = KS) (h2 : M.map (fun x => x.1) = KS) (ha : NWd w u ug ka kg U L) (hb : NWd w v vg kb lg U M) :
    Calls Tryz.prog 8 #[.agg (wn5 (.slice u U.length uc) (.slice ka KS.length kc)), .agg (wn5 (.slice v U.length vc) (.slice kb KS.length lc))] w fun e w' => e = .returned (.bool true) ∧ Below w.heap.size w w' := by
  have hx := eqWorld ⟨U, KS.map toKp, [], [], []⟩ ⟨u, uc, ka, kc, L.map toKpI, none, 0, none, 0, none, 0⟩ ⟨v, vc, kb, lc, M.map toKpI, none, 0, none, 0, none, 0⟩ w ⟨hU, by simpa using hK, small_kps hs hlog KS h1, by simp, fun x hx => by simp at hx, by simp, fun x hx => by simp at hx, by simp⟩
    ⟨ha.up.at, by rw [← h1]; simp [toKpI, Function.comp_def], ha.ks.kps, GR.at_nil _ _, GR.at_nil _ _, GR.at_nil _ _⟩ ⟨hb.up.at, by rw [← h2]; simp [toKpI, Function.comp_def], hb.ks.kps, GR.at_nil _ _, GR.at_nil _ _, GR.at_nil _ _⟩
  simpa [wdv, wdc] using hx
set_option maxRecDepth 100000 in
theorem markString0 (k : Int) (w : World) : Calls Tryz.prog 29 #[.slice none 0 0, .int .i64 k] w fun e w' => e = .returned (.int .i64 k) ∧ w = w' := by
  go_enter Tryz.func29, Tryz.ntmps29
  go_wp2_with fail
  go_loopw [1, 5] (fun lf i wr => lf = .int .i64 k ∧ i = .int .i64 0 ∧ wr = w) (fun _ _ _ => 0)
  case atStart => exact ⟨rfl, rfl, rfl⟩
  case round =>
    obtain ⟨rfl, rfl, rfl⟩ := hrel
    have hnlt : decide ((0 : Int) < ((0 : Nat) : Int)) = false := by simp
    go_wp2_with fail
    go_ret
    exact ⟨rfl, rfl⟩
set_option maxRecDepth 100000 in
theorem markTold0 (k : Int) (w : World) : Calls Tryz.prog 30 #[.slice none 0 0, .int .i64 k] w fun e w' => e = .returned (.int .i64 k) ∧ w = w' := by
  go_enter Tryz.func30, Tryz.ntmps30
  go_wp2_with fail
  go_loopw [1, 5] (fun lf i wr => lf = .int .i64 k ∧ i = .int .i64 0 ∧ wr = w) (fun _ _ _ => 0)
  case atStart => exact ⟨rfl, rfl, rfl⟩
  case round =>
    obtain ⟨rfl, rfl, rfl⟩ := hrel
    have hnlt : decide ((0 : Int) < ((0 : Nat) : Int)) = false := by simp
    go_wp2_with fail
    go_ret
    exact ⟨rfl, rfl⟩
set_option maxRecDepth 100000 in
theorem markGiven0 (k : Int) (w : World) : Calls Tryz.prog 31 #[.slice none 0 0, .int .i64 k] w fun e w' => e = .returned (.int .i64 k) ∧ w = w' := by
  go_enter Tryz.func31, Tryz.ntmps31
  go_wp2_with fail
  go_loopw [1, 5] (fun lf i wr => lf = .int .i64 k ∧ i = .int .i64 0 ∧ wr = w) (fun _ _ _ => 0)
  case atStart => exact ⟨rfl, rfl, rfl⟩
  case round =>
    obtain ⟨rfl, rfl, rfl⟩ := hrel
    have hnlt : decide ((0 : Int) < ((0 : Nat) : Int)) = false := by simp
    go_wp2_with fail
    go_ret
    exact ⟨rfl, rfl⟩
set_option maxRecDepth 100000 in
theorem heldString0 (k : Int) (w : World) : Calls Tryz.prog 34 #[.slice none 0 0, .int .i64 k] w fun e w' => e = .returned (.int .i64 k) ∧ w = w' := by
  go_enter Tryz.func34, Tryz.ntmps34
  go_wp2_with fail
  go_loopw [1, 5] (fun lf i wr => lf = .int .i64 k ∧ i = .int .i64 0 ∧ wr = w) (fun _ _ _ => 0)
  case atStart => exact ⟨rfl, rfl, rfl⟩
  case round =>
    obtain ⟨rfl, rfl, rfl⟩ := hrel
    have hnlt : decide ((0 : Int) < ((0 : Nat) : Int)) = false := by simp
    go_wp2_with fail
    go_ret
    exact ⟨rfl, rfl⟩
set_option maxRecDepth 100000 in
theorem heldTold0 (k : Int) (w : World) : Calls Tryz.prog 35 #[.slice none 0 0, .int .i64 k] w fun e w' => e = .returned (.int .i64 k) ∧ w = w' := by
  go_enter Tryz.func35, Tryz.ntmps35
  go_wp2_with fail
  go_loopw [1, 5] (fun lf i wr => lf = .int .i64 k ∧ i = .int .i64 0 ∧ wr = w) (fun _ _ _ => 0)
  case atStart => exact ⟨rfl, rfl, rfl⟩
  case round =>
    obtain ⟨rfl, rfl, rfl⟩ := hrel
    have hnlt : decide ((0 : Int) < ((0 : Nat) : Int)) = false := by simp
    go_wp2_with fail
    go_ret
    exact ⟨rfl, rfl⟩
set_option maxRecDepth 100000 in
theorem heldGiven0 (k : Int) (w : World) : Calls Tryz.prog 36 #[.slice none 0 0, .int .i64 k] w fun e w' => e = .returned (.int .i64 k) ∧ w = w' := by
  go_enter Tryz.func36, Tryz.ntmps36
  go_wp2_with fail
  go_loopw [1, 5] (fun lf i wr => lf = .int .i64 k ∧ i = .int .i64 0 ∧ wr = w) (fun _ _ _ => 0)
  case atStart => exact ⟨rfl, rfl, rfl⟩
  case round =>
    obtain ⟨rfl, rfl, rfl⟩ := hrel
    have hnlt : decide ((0 : Int) < ((0 : Nat) : Int)) = false := by simp
    go_wp2_with fail
    go_ret
    exact ⟨rfl, rfl⟩
def mUp (U : List Int) : List Int := mks mkInt 1 1 U U.length
theorem mUp_length (U : List Int) : (mUp U).length = U.length := mks_length mkInt 1 1 U U.length (Nat.le_refl _)
/-- The number behind the last mark. -/
def eWd (U : List Int) (L : List KdI) : Nat := eKs (1 + U.length) L
theorem fpW_marked {ug kg : Nat} {U : List Int} {L : List KdI} (hs : ∀ x ∈ L, SmallK x) : fpW ug kg (mUp U) (mKs (1 + U.length) L) = fpW ug kg U L := by
  unfold fpW
  rw [fp_len (mUp_length U), ← mKk_all, mKk_fp hs (Nat.le_refl _)]
set_option maxRecDepth 100000 in
set_option maxHeartbeats 4000000 in
theorem markWorldN (u ka : Option Addr) (uc kc ug kg n : Nat) (U : List Int) (L : List KdI) (w : World) (hn : n = L.length) (hU : U.length ≤ 1000) (hl : L.length ≤ 1000) (hs : ∀ x ∈ L, SmallK x) (ha : NWd w u ug ka kg U L) :
    Calls Tryz.prog 11 #[.agg (wn5 (.slice u U.length uc) (.slice ka n kc)), .int .i64 1] w fun e w' => e = .returned (.int .i64 (eWd U L : Nat)) ∧ NWd w' u ug ka kg (mUp U) (mKs (1 + U.length) L) ∧ KeepsL (fpW ug kg U L) w w' := by
  subst hn
  have HP0 := hide (heap_alloc_new w (.cells (wn5 (.slice u U.length uc) (.slice ka L.length kc)) 32))
  have hb0 := below_one w (.cells (wn5 (.slice u U.length uc) (.slice ka L.length kc)) 32)
  have HA0 := hide (ha.below hb0)
  have HND := hide ha.nd
  have HLT := hide (show ∀ x ∈ fpW ug kg U L, x < w.heap.size from fun x hx => by
    rcases List.mem_append.1 hx with hx | hx
    · exact W_lt ha.up x hx
    · rcases List.mem_append.1 hx with hx | hx
      · exact W_lt ha.ks.row x (by rwa [fp_len (rows22_length L)])
      · obtain ⟨y, hy, hx⟩ := List.mem_flatMap.1 hx
        exact (ha.ks.each y hy).lt x hx)
  have HL0 := hide (KeepsL.of_below (F := fpW ug kg U L) hb0)
  have HSM := hide hs
  clear ha hb0 hs
  obtain ⟨c0, c1, c2, c3, c4⟩ := at5 (unhide HP0)
  go_enter Tryz.func11, Tryz.ntmps11
  go_wp2_with fail
  refine (markTreeG u ug uc 1 U _ (by omega) (by omega) (by omega) (unhide HA0).up).mono ?_
  rintro e w1 ⟨rfl, hW1, hk1⟩
  have HP1 := hide (hk1.obj (unhide HP0) (fun hm => by have := unhide HLT _ (List.mem_append_left _ hm); omega))
  have HW1 := hide (show GR.W encNum 1 w1 u ug (mUp U) from hW1)
  have HK1 := hide ((unhide HA0).ks.keeps hk1 (fun x hx hm => unhide HND x hm hx))
  have HL1 := hide ((unhide HL0).trans (hk1.mono (fun x hx => List.mem_append_left _ hx)))
  clear hW1 hk1 c0 c1 c2 c3 c4 HP0 HA0 HL0
  have HMK := hide (fun z (hz : z = ((1 + U.length : Nat) : Int)) => show Calls Tryz.prog 28 #[.slice ka L.length kc, .int .i64 z] w1 (fun e w' => e = .returned (.int .i64 (eWd U L : Nat)) ∧ KRw w' ka kg (mKs (1 + U.length) L) ∧ KeepsL (fp kg L ++ fpK L) w1 w') from by rw [hz]; exact markKeeperS ka kg kc (1 + U.length) L w1 (by omega) (by omega) hl (unhide HSM) (unhide HK1))
  obtain ⟨c0, c1, c2, c3, c4⟩ := at5 (unhide HP1)
  go_wp2_with fail
  refine (unhide HMK _ (by omega)).mono ?_
  rintro e w2 ⟨rfl, hR2, hk2⟩
  have HP2 := hide (hk2.obj (unhide HP1) (fun hm => by have := unhide HLT _ (List.mem_append_right _ hm); omega))
  have HW2 := hide ((unhide HW1).keeps hk2 (fun x hx hm => unhide HND x (by rwa [fp_len (mUp_length U)] at hx) hm))
  have HK2 := hide hR2
  have HL2 := hide ((unhide HL1).trans (hk2.mono (fun x hx => List.mem_append_right _ hx)))
  clear hR2 hk2 c0 c1 c2 c3 c4 HP1 HW1 HK1 HL1 HMK
  obtain ⟨c0, c1, c2, c3, c4⟩ := at5 (unhide HP2)
  go_wp2_with fail
  refine (markString0 _ _).mono ?_
  rintro e w3 ⟨rfl, rfl⟩
  go_wp2_with fail
  refine (markTold0 _ _).mono ?_
  rintro e w3 ⟨rfl, rfl⟩
  go_wp2_with fail
  refine (markGiven0 _ _).mono ?_
  rintro e w3 ⟨rfl, rfl⟩
  clear c0 c1 c2 c3 c4
  go_wp2_with fail
  go_ret
  refine ⟨rfl, ⟨unhide HW2, unhide HK2, fun x hx hm => ?_⟩, unhide HL2⟩
  have h1 : fp kg (mKs (1 + U.length) L) ++ fpK (mKs (1 + U.length) L) = fp kg L ++ fpK L := by rw [← mKk_all, mKk_fp (unhide HSM) (Nat.le_refl _)]
  rw [h1] at hm
  rw [fp_len (mUp_length U)] at hx
  exact unhide HND x hx hm
set_option maxRecDepth 100000 in
set_option maxHeartbeats 4000000 in
theorem heldWorldN (u ka : Option Addr) (uc kc ug kg n m : Nat) (U : List Int) (L : List KdI) (w : World) (hn : n = L.length) (hm : m = U.length) (hU : U.length ≤ 1000) (hl : L.length ≤ 1000) (hs : ∀ x ∈ L, SmallK x) (ha : NWd w u ug ka kg (mUp U) (mKs (1 + U.length) L)) :
    Calls Tryz.prog 12 #[.agg (wn5 (.slice u m uc) (.slice ka n kc)), .int .i64 1] w fun e w' => e = .returned (.int .i64 (eWd U L : Nat)) ∧ Below w.heap.size w w' := by
  subst hn
  subst hm
  have HP0 := hide (heap_alloc_new w (.cells (wn5 (.slice u U.length uc) (.slice ka L.length kc)) 32))
  have HB0 := hide (below_one w (.cells (wn5 (.slice u U.length uc) (.slice ka L.length kc)) 32))
  have HA := hide (fun W (h : Below w.heap.size w W) => ha.below h)
  have HSM := hide hs
  have g1 : decide (((1 : Nat) : Int) + (U.length : Int) < 0) = false := decide_eq_false (by omega)
  have g1' : decide ((1 : Int) + (U.length : Int) < 0) = false := decide_eq_false (by omega)
  have g2 : decide (((eWd U L : Nat) : Int) < 0) = false := decide_eq_false (by omega)
  clear ha hs
  obtain ⟨c0, c1, c2, c3, c4⟩ := at5 (unhide HP0)
  go_enter Tryz.func12, Tryz.ntmps12
  go_wp2_with fail
  refine (heldTreeG u ug uc 1 U _ (by omega) (by omega) (by omega) (unhide HA _ (unhide HB0)).up).mono ?_
  rintro e w1 ⟨rfl, hb1⟩
  have HP1 := hide (obj_step (unhide HP0) hb1)
  have HB1 := hide ((unhide HB0).trans (hb1.mono (unhide HB0).size))
  clear hb1 c0 c1 c2 c3 c4 HP0 HB0
  have HMK := hide (fun z (hz : z = ((1 + U.length : Nat) : Int)) => show Calls Tryz.prog 33 #[.slice ka L.length kc, .int .i64 z] w1 (fun e w' => e = .returned (.int .i64 (eWd U L : Nat)) ∧ Below w1.heap.size w1 w') from by rw [hz]; exact heldKeeperS ka kg kc L.length (1 + U.length) L w1 rfl (by omega) (by omega) hl (unhide HSM) (unhide HA _ (unhide HB1)).ks)
  obtain ⟨c0, c1, c2, c3, c4⟩ := at5 (unhide HP1)
  go_wp2_with fail
  refine (unhide HMK _ (by omega)).mono ?_
  rintro e w2 ⟨rfl, hb2⟩
  have HP2 := hide (obj_step (unhide HP1) hb2)
  have HB2 := hide ((unhide HB1).trans (hb2.mono (unhide HB1).size))
  clear hb2 c0 c1 c2 c3 c4 HP1 HB1 HMK
  obtain ⟨c0, c1, c2, c3, c4⟩ := at5 (unhide HP2)
  go_wp2_with fail
  refine (heldString0 _ _).mono ?_
  rintro e w3 ⟨rfl, rfl⟩
  go_wp2_with fail
  refine (heldTold0 _ _).mono ?_
  rintro e w3 ⟨rfl, rfl⟩
  go_wp2_with fail
  refine (heldGiven0 _ _).mono ?_
  rintro e w3 ⟨rfl, rfl⟩
  clear c0 c1 c2 c3 c4
  go_wp2_with fail
  go_ret
  exact ⟨rfl, unhide HB2⟩

set_option maxRecDepth 100000 in
set_option maxHeartbeats 2000000 in
theorem implKids (a : Option Addr) (cap : Nat) (l : List Int) (n : Int) (w : World) (hl : l.length ≤ 1048600) (ha : IntsAt w a l) :
    Calls Tryz.prog 44 #[trv a l cap, .int .i64 n] w fun e w' => ∃ v, e = .returned v ∧ w'.ownsRow w.heap.size 3 1 v (kidsN l n).length (GR.flat encNum (kidsN l n)) ∧ Below w.heap.size w w' := by
  obtain ⟨i0, hi, hz0, hz1, hz2⟩ := info_parts infoIntK
  have HA := hide ha
  clear ha
  go_enter Tryz.func44, Tryz.ntmps44
  go_wp2_with fail
  go_loopw [5, 11] (fun v i wr => ∃ k : Nat, k ≤ l.length ∧ i = .int .i64 k ∧ wr.ownsRow w.heap.size 3 1 v (kidsTo l n k).length (GR.flat encNum (kidsTo l n k)) ∧ Below w.heap.size w wr) (fun _ i _ => l.length - (intOf i).toNat)
  case atStart => exact ⟨0, Nat.zero_le _, rfl, World.ownsRow_nil _ _ _ _, below_one' w _⟩
  case round =>
    obtain ⟨k, hk, rfl, hown, hbel⟩ := hrel
    have HBL := hide hbel
    clear hbel
    by_cases hlt : k < l.length
    · have hlen := kidsTo_len l n k
      obtain ⟨g, off, rfl, hgw, q0⟩ := IntsAt.one (GR.At.below (unhide HA) (unhide HBL)) k hlt
      by_cases hkn : l[k] = n
      · have HY := hide (kidsTo_yes l n k hlt hkn)
        rw [hkn] at q0
        have hnn : (n == n) = true := by simp
        clear hkn
        go_wp2_with (at_builtin; refine wpList_append_own _ rfl _ _ 22 rfl w.heap.size 3 i0 (.int .i64 0) 1 8 Tryz.underlying22 hi hz0 hz1 hz2 rfl (by decide) _ _ _ rfl (hown.alloc _) ⟨wr.heap.size, 0, none⟩ 1 1 [.int .i64 (k : Int)] rfl rfl ?c1 ?c2 ?c3 ?c4 ?c5 ?_)
        case c1 => exact cell_one_new _ _ _
        case c2 => intro u hu; simp at hu; subst hu; rfl
        case c3 => unfold maxLen; omega
        case c4 => omega
        case c5 => have := (unhide HBL).size; simp; omega
        intro v' w2 hown' hgrow _
        have hbel' := hide (GR.below_append (unhide HBL) (unhide HBL).size hown hgrow)
        have hown2 : Hid (w2.ownsRow w.heap.size 3 1 v' (kidsTo l n (k + 1)).length (GR.flat encNum (kidsTo l n (k + 1)))) := by
          rw [unhide HY, flat_snoc_int, List.length_append, List.length_singleton]
          exact hown'
        clear hown' hgrow hown
        go_wp2_with fail
        go_roundw
        case rel => exact ⟨k + 1, by omega, by go_num, unhide hown2, unhide hbel'⟩
        case measure => simp [intOf]; omega
      · have HY := hide (kidsTo_no l n k hlt hkn)
        generalize l[k] = pu at *
        have hnn : (pu == n) = false := by simpa using hkn
        go_wp2_with fail
        go_roundw
        case rel => exact ⟨k + 1, by omega, by go_num, by rw [unhide HY]; exact hown, unhide HBL⟩
        case measure => simp [intOf]; omega
    · have hke : k = l.length := by omega
      subst hke
      have hd : decide ((l.length : Int) < (l.length : Int)) = false := by simp
      go_wp2_with fail
      go_ret
      exact ⟨_, rfl, hown, unhide HBL⟩

set_option maxRecDepth 100000 in
set_option maxHeartbeats 8000000 in
theorem implTreeNodes (a : Option Addr) (cap : Nat) (l : List Int) (w : World) (hl : l.length ≤ 1048600) (ha : IntsAt w a l) :
    Calls Tryz.prog 20 #[trv a l cap] w (GivesNL w (nodesT l)) := by
  have HT0 := heap_alloc_new w (.cells #[.slice a l.length cap] 26)
  have HB0 := below_one' w (.cells #[.slice a l.length cap] 26)
  have HA0 := GR.At.below ha HB0
  have hsz0 : (w.alloc (.cells #[.slice a l.length cap] 26)).heap.size = w.heap.size + 1 := by simp
  have HC := implOk a cap l (w.alloc (.cells #[.slice a l.length cap] 26)) hl HA0
  have HK := hide (fun W (n : Int) (hb : Below (w.alloc (.cells #[.slice a l.length cap] 26)).heap.size (w.alloc (.cells #[.slice a l.length cap] 26)) W) => implKids a cap l n W hl (GR.At.below HA0 hb))
  clear ha
  go_enter Tryz.func20, Tryz.ntmps20
  go_upto_region 1 with fail
  generalize w.alloc (.cells #[.slice a l.length cap] 26) = W0 at *
  have HA := hide HA0
  have HB := hide HB0
  have HT := hide HT0
  have HZ := hide hsz0
  have HO := hide HC
  have t0 := (one_at HT0).1
  clear HA0 HB0 HT0 hsz0 HC
  go_wp2_with fail
  refine (unhide HO).mono ?_
  rintro e W1 ⟨rfl, hb0⟩
  have HBW := hide hb0
  have t1 := (one_at (tr_step (unhide HT) hb0)).1
  clear hb0 t0
  cases htb : treeB l
  case' false =>
    go_wp2_with fail
    go_ret
    exact ⟨_, [], rfl, (nodesT_no htb).symm, NL.nil (World.ownsRow_nil _ _ _ _), (unhide HB).trans ((unhide HBW).mono (unhide HB).size)⟩
  have HTB := hide htb
  have hl30 := (TreeP.of htb).le
  clear htb
  go_wp2_with fail
  go_loopw [3, 14] (fun v i wr => ∃ (k : Nat) (L : List NdI), k ≤ l.length ∧ i = .int .i64 k ∧ L.map (fun x => x.1) = nodesTo l k ∧ NL wr W0.heap.size v L ∧ Below W0.heap.size W0 wr) (fun _ i _ => l.length - (intOf i).toNat)
  case atStart => exact ⟨0, [], Nat.zero_le _, rfl, rfl, NL.nil (World.ownsRow_nil _ _ _ _), unhide HBW⟩
  case round =>
    obtain ⟨k, L, hk, rfl, hLm, hNL, hbel⟩ := hrel
    obtain ⟨w1, hw1⟩ : ∃ x, x = wr := ⟨_, rfl⟩
    subst hw1
    have HB1 := hide hbel
    have HNL1 := hide hNL
    have HLM := hide hLm
    have HT1 := hide (tr_step (unhide HT) hbel)
    clear hNL hLm hbel
    by_cases hlt : k < l.length
    · obtain ⟨g, off, rfl, hgw, q0⟩ := IntsAt.one (GR.At.below (unhide HA) (unhide HB1)) k hlt
      have y0 := (one_at (unhide HT1)).1
      have HKD := hide (fun W (hg : Below w1.heap.size w1 W) => unhide HK W (k : Int) ((unhide HB1).trans (hg.mono (unhide HB1).size)))
      have HNX := hide (nodesTo_succ l k hlt)
      have hkl : (kidsN l (k : Int)).length ≤ 1048576 := Nat.le_trans (kidsTo_len l (k : Int) l.length) (by omega)
      have HNW := hide (fun W b c (h2 : IntsAt W b (kidsN l (k : Int))) => implNodeNew (k : Int) l[k] b c (kidsN l (k : Int)) W hkl h2)
      unfold GivesN at HNW
      clear hkl HK t1
      generalize newN (k : Int) l[k] (kidsN l (k : Int)) = R at *
      obtain ⟨N1, ok1⟩ := R
      dsimp only at HNW HNX
      generalize l[k] = pk at *
      generalize kidsN l (k : Int) = kd at *
      go_wp2_with fail
      refine (unhide HKD _ (Below.refl _ _)).mono ?_
      rintro e w3 ⟨v3, rfl, hov, hb3⟩
      obtain ⟨kb, kc, rfl, _, hat⟩ := ints_form hov
      clear hov y0 q0
      go_wp2_with fail
      refine (unhide HNW _ kb kc hat).mono ?_
      rintro e w4 ⟨A3, rfl, G3, hW4, hsep, hb4⟩
      have hb14 := hb3.trans (hb4.mono hb3.size)
      have hs3 := hb3.size
      have hs4 := hb4.size
      clear hb3 hb4 hat
      go_upto_region 8 with fail
      refine wp_at (fun wz hwz => ?_)
      have hwz' : wz = w4.alloc (.cells (ndc N1 A3) 50) := hwz
      have hQ : wz.heap[w4.heap.size]? = some (.cells (ndc N1 A3) 50 (0, 0)) := by rw [hwz']; exact heap_alloc_new w4 _
      have hbz : Below w4.heap.size w4 wz := by rw [hwz']; exact below_one w4 _
      have hsz : wz.heap.size = w4.heap.size + 1 := by rw [hwz']; simp
      have hbx : Below w1.heap.size w1 wz := hb14.trans (hbz.mono hb14.size)
      have hW : NodeW wz A3 G3 N1 := hW4.below hbz
      have hrg : ∀ x ∈ G3.all N1, w1.heap.size ≤ x ∧ x ≠ w4.heap.size ∧ x < wz.heap.size := fun x hx => by
        have h1 := hsep.rng x hx
        omega
      have hnd := hsep.nodup
      clear hwz hwz' hW4 hsep hb14 hbz hsz
      obtain ⟨v', w2, hrun, hNL4, hg4⟩ := NL.more (unhide HNL1) (unhide HB1).size (by have h := congrArg List.length (unhide HLM); simp [nodesTo] at h; omega) hbx hW hnd hrg
      have HNL4 := hide hNL4
      have HB4 := hide (GR.below_append ((unhide HB1).trans (hbx.mono (unhide HB1).size)) (Nat.le_trans (unhide HB1).size hbx.size) ((unhide HNL1).step hbx).own hg4)
      obtain ⟨c0, c1, c2, c3, c4, c5, c6, c7, c8⟩ := nine hQ
      clear hNL4 hg4 hW hrg hnd hbx HNL1 HB1 HKD HNW hQ hs3 hs4
      go_wp2_with (at_builtin; refine wpList_append_eqN rfl _ _ 43 rfl _ _ rfl rfl _ _ hrun ?_)
      go_roundw
      case rel => exact ⟨k + 1, L ++ [(N1, A3, G3)], by omega, by go_num, by rw [List.map_append, unhide HLM, unhide HNX]; rfl, unhide HNL4, unhide HB4⟩
      case measure => simp [intOf]; omega
    · have hke : k = l.length := by omega
      subst hke
      go_wp2_with fail
      go_ret
      exact ⟨_, L, rfl, by rw [nodesT_yes (unhide HTB)]; exact unhide HLM, (unhide HNL1).lower (by have := unhide HZ; omega), (unhide HB).trans ((unhide HB1).mono (unhide HB).size)⟩
end Go.Proofs.YtbanjohfcnadfaaGreatDoor
