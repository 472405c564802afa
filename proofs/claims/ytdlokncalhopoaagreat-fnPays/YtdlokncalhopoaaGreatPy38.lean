/- Parts. -/
import Derived.Test.YtdlokncalhopoaaGreatPy17
import Derived.Test.YtdlokncalhopoaaGreatPy18
import Derived.Test.YtdlokncalhopoaaGreatPy28
namespace Go.Proofs.YtdlokncalhopoaaGreat
open Go.RowKit
open Mth

/-- What NodeNew gives: a node in rows of its own. -/
def GivesNQ (w : World) (R : Nd × Bool) (e : Ending) (w' : World) : Prop := ∃ A', e = .returned (.tuple #[ndv R.1 A', .bool R.2]) ∧ (∃ gk gs I c, RMc w' A' R.1 gk gs I c ∧ ∀ x, x < w.heap.size → c x = 0) ∧ Below w.heap.size w w' ∧ A'.p = none ∧ A'.cp = 0
theorem RM.zero {w : World} {B : Nat} : ∃ gk gs I c, RMc w ⟨none, none, none, none, none, 0, 0, 0, 0, 0⟩ zeroNd gk gs I c ∧ ∀ x, x < B → c x = 0 :=
  ⟨0, 0, fun _ => 0, fun _ => 0, ⟨GR.W.nil, GR.at_nil _ _, World.ownsRow_nil _ _ _ _, ⟨⟨[], GR.W.nil, rfl, fun i hi => by simp [zeroNd] at hi⟩, fun h => by simp [zeroNd] at h⟩, World.ownsRow_nil _ _ _ _, fun x hx => by simp [zeroNd, fp] at hx, fun g hg => by simp at hg, fun x hx => by simp [Value.ownBlock] at hx, fun x hx => by simp [zeroNd, fp] at hx, fun x hx => by simp [zeroNd, fpI] at hx, fun x hx => by simp [Value.ownBlock] at hx, by simp [zeroNd, fpI]⟩, fun _ _ => rfl⟩
theorem RM.fresh {w : World} {B B2 : Nat} {id par : Int} {kv v : Value} {kids fs : List Int} (hk : w.ownsRow B 3 1 kv kids.length (GR.flat encNum kids)) (hkl : ∀ x, kv.ownBlock = some x → x < B2) (hs : w.ownsRow B2 71 3 v fs.length (GR.flat encR3 (fs.map r3of))) (hB : B ≤ B2) :
    ∃ A, Value.agg (nnc id par kv v) = ndv (nnode id par kids fs) A ∧ (A.p = none ∧ A.cp = 0) ∧ ∃ gk gs I c, RMc w A (nnode id par kids fs) gk gs I c ∧ ∀ x, x < B → c x = 0 := by
  obtain ⟨a1, c1, g1, rfl, hW1, hr1, ho1⟩ := GR.W.of_own encNum_length hk
  have h' : w.ownsRow B2 71 3 v (fs.map r3of).length (GR.flat encR3 (fs.map r3of)) := by rw [List.length_map]; exact hs
  obtain ⟨a2, c2, g2, e, hW2, hr2, ho2⟩ := GR.W.of_own encR3_length h'
  rw [List.length_map] at e
  subst e
  have hfe : ∀ x, x ∈ fp g2 fs → x ∈ fp g2 (fs.map r3of) := fun x hx => by have := of_fp hx; rw [this.1]; exact fp_mem (by simpa using this.2)
  have hno : ∀ x, x ∈ fp g1 kids → x ∉ fp g2 fs := fun x hx hx2 => by
    have h1 := hkl x (ho1 x hx)
    have h2 := (hr2 x (hfe x hx2)).1
    omega
  have hsq : SeenQ w a2 g2 (fun _ => 0) (nnode id par kids fs).seen := by
    refine ⟨⟨fs.map r3of, hW2, by simp [nnode], fun i hi => ?_⟩, fun hp => ?_⟩
    · have hi' : i < fs.length := by simpa [nnode] using hi
      refine ⟨none, 0, by simp [hi', r3of, nnode], ?_⟩
      have e0 : ((nnode id par kids fs).seen[i]).ids = [] := by simp [nnode]
      rw [e0]
      exact ⟨GR.W.nil, fun _ => rfl, fun h => absurd rfl h⟩
    · have hp' : 0 < fs.length := by simpa [nnode] using hp
      have hx := ho2 g2 (fp_mem (by simpa using hp'))
      rcases h'.2 with ⟨_, hn⟩ | ⟨g', cap, cur, hv, _, hgg, _⟩
      · rw [List.length_map] at hn
        omega
      · rw [List.length_map] at hv
        rw [hv] at hx
        have e3 : g' = g2 := by simpa [Value.ownBlock] using hx
        rw [e3] at hgg
        exact ⟨cur, hgg⟩
  refine ⟨⟨a1, none, none, a2, none, c1, 0, 0, c2, 0⟩, by simp [nnc, ndv, ndc, nnode], ⟨rfl, rfl⟩, g1, g2, fun _ => 0, fun x => if x ∈ fp g1 kids then 1 else if x ∈ fp g2 fs then 4 else 0, ⟨hW1, GR.at_nil _ _, World.ownsRow_nil _ _ _ _, hsq, World.ownsRow_nil _ _ _ _, fun x hx => if_pos hx, fun g hg => by simp at hg, fun x hx => by simp [Value.ownBlock] at hx, fun x hx => ?_, fun x hx => ?_, fun x hx => by simp [Value.ownBlock] at hx, ?_⟩, fun x hx => ?_⟩
  · rw [fp_len (l' := fs) (by simp [nnode])] at hx
    show (if _ then _ else _) = 4
    rw [if_neg (fun h => hno x h hx), if_pos hx]
  · simp only [nnode] at hx
    rw [fpI_new] at hx
    simp at hx
  · simp only [nnode]
    rw [fpI_new]
    exact List.nodup_nil
  · show (if _ then _ else _) = 0
    rw [if_neg (fun h => by have := (hr1 x h).1; omega), if_neg (fun h => by have := (hr2 x (hfe x h)).1; omega)]
set_option maxRecDepth 100000 in
set_option maxHeartbeats 4000000 in
theorem specNodeNewQ (id par : Int) (a : Option Addr) (cap : Nat) (kids : List Int) (w : World) (hl : kids.length ≤ 1048576) (hcap : a = none → cap = 0) (ha : IntsAt w a kids) :
    Calls Tryz.prog 25 #[.int .i64 id, .int .i64 par, .slice a kids.length cap] w (GivesNQ w (newN id par kids)) := by
  obtain ⟨i0, hi, hz0, hz1, hz2⟩ := info_parts infoSeen
  obtain ⟨j0, hj, hy0, hy1, hy2⟩ := info_parts infoInt
  have HA := hide ha
  have HRB := hide (heap_alloc_new w (.cells zc9 30))
  clear ha
  obtain ⟨RN, hRN⟩ : ∃ R, newN id par kids = R := ⟨_, rfl⟩
  rw [hRN]
  have HRN := hide hRN
  clear hRN
  unfold GivesNQ
  go_enter Tryz.func25, Tryz.ntmps25
  go_upto_region 1 with fail
  refine wp_at (fun W0 hW0 => ?_)
  have HR0 : Hid (W0.heap[w.heap.size]? = some (.cells zc9 30 (0, 0))) := by rw [hW0]; exact unhide HRB
  have HB0 : Hid (Below w.heap.size w W0) := by rw [hW0]; exact below_one w _
  have HW0S : Hid (W0.heap.size = w.heap.size + 1) := by rw [hW0]; exact hide (by simp)
  clear hW0 HRB
  have hlit : (W0.alloc (.cells #[] 3)).ownsRow W0.heap.size 3 1 (.slice (some ⟨W0.heap.size, 0, none⟩) 0 0) 0 [] := World.ownsRow_lit (base := W0.heap.size) (e := 3) (size := 1) W0 #[] 0 (Nat.le_refl _) (by decide) rfl
  go_cut [8] (fun p8 wx => ∃ (nb : Nat) (ka : Option Addr) (kc : Nat), p8 = .pointer (some ⟨nb, 0, none⟩) ∧ wx.heap[nb]? = some (.cells (nnc id par (.slice ka kids.length kc) (.slice none 0 0)) 30 (0, 0)) ∧ wx.ownsRow W0.heap.size 3 1 (.slice ka kids.length kc) kids.length (GR.flat encNum kids) ∧ (∀ x, (Value.slice ka kids.length kc).ownBlock = some x → x < nb) ∧ W0.heap.size < nb ∧ Below W0.heap.size W0 wx)
  case first =>
    cases a with
    | none =>
      have hl0 : kids = [] := GR.none_nil (unhide HA)
      subst hl0
      have hc0 := hcap rfl
      subst hc0
      go_wp2_with (at_builtin; refine wpList_append_own_none rfl _ _ 24 rfl W0.heap.size 3 j0 1 Tryz.underlying24 hj _ 0 [] rfl hlit rfl ?_)
      go_meet
      case rel =>
        refine ⟨W0.heap.size + 1, some ⟨W0.heap.size, 0, none⟩, 0, rfl, ?_, ?_, ?_, by omega, (below_one W0 _).alloc (by simp) _⟩
        · have h := heap_alloc_new (W0.alloc (.cells #[] 3)) (.cells (nnc id par (.slice (some ⟨W0.heap.size, 0, none⟩) 0 0) (.slice none 0 0)) 30)
          rwa [show (W0.alloc (.cells #[] 3)).heap.size = W0.heap.size + 1 by simp] at h
        · exact hlit.alloc _
        · intro x hx
          have : x = W0.heap.size := by simpa [Value.ownBlock] using hx.symm
          omega
    | some x =>
      have HN := hide (GR.At.news encNum_length (by omega) (GR.At.below (unhide HA) ((unhide HB0).trans ((below_one W0 (.cells #[] 3)).mono (unhide HB0).size))))
      go_wp2_with (at_builtin; refine wpList_append_own _ rfl _ _ 24 rfl W0.heap.size 3 j0 (.int .i64 0) 1 8 Tryz.underlying24 hj hy0 hy1 hy2 rfl (by decide) _ 0 [] rfl hlit x kids.length cap (GR.flat encNum kids) rfl ?c0 ?c1 ?c2 ?c3 ?c4 ?c5 ?_)
      case c0 => exact GR.flat_length encNum 1 encNum_length kids
      case c1 => exact unhide HN
      case c2 => exact GR.flat_oneCell encNum_one kids
      case c3 => unfold maxLen; omega
      case c4 => omega
      case c5 => simp
      intro v' w1 hown' hgrow _
      have ho : w1.ownsRow W0.heap.size 3 1 v' kids.length (GR.flat encNum kids) := by simpa using hown'
      have hb : Below W0.heap.size W0 w1 := (below_one W0 _).grown hgrow (by simp) (fun k hk => by cases hk; exact Nat.le_refl _)
      have hs1 : W0.heap.size + 1 ≤ w1.heap.size := by have := hgrow.size; simpa using this
      obtain ⟨ka, kc, rfl, _⟩ := GR.own_at (enc := encNum) (sz := 1) encNum_length ho
      have HO := hide ho
      have HB := hide hb
      clear hown' hgrow ho hb hlit
      go_wp2_with fail
      go_meet
      case rel => exact ⟨w1.heap.size, ka, kc, rfl, heap_alloc_new _ _, (unhide HO).alloc _, fun x hx => ((unhide HO).lt x hx).2, by omega, (unhide HB).alloc (unhide HB).size _⟩
  case rest =>
    obtain ⟨nb, ka, kc, rfl, hnb, hko, hkl, hnb0, hb0⟩ := hcut
    have hW0s := unhide HW0S
    have HO3 := hide (GR.own_lower (b' := w.heap.size + 1) hko (by omega))
    have HKL := hide hkl
    have HR3 := hide (obj_step (unhide HR0) hb0)
    have HB3 := hide ((unhide HB0).trans (hb0.mono (unhide HB0).size))
    have HNN := hide (show NN wc wc nb id par (.slice ka kids.length kc) (.slice none 0 0) [] from ⟨KeepsL.refl _ _, hnb, World.ownsRow_nil _ _ _ _, obj_lt hnb⟩)
    have hw12 : nb < wc.heap.size := obj_lt hnb
    have hrlt : w.heap.size < nb := by omega
    clear hW0s
    have HFS : Hid ((placeB (nnode id par kids []) = true → newN id par kids = (nnode id par kids (nearUp (nnode id par kids []) 30), true) ∧ ndOk (nnode id par kids (nearUp (nnode id par kids []) 30)) = true) ∧ (placeB (nnode id par kids []) = false → newN id par kids = (zeroNd, false) ∧ ndOk (nnode id par kids (nearUp (nnode id par kids []) 30)) = false)) := ⟨fun h => ⟨new_yes h (near_all h), ok_new id par kids _ h (near_all h)⟩, fun h => ⟨new_no h, ok_not id par kids _ h⟩⟩
    rw [unhide HRN] at HFS
    have HNS := hide (nearUp_succ (nnode id par kids []))
    have HNL : Hid (∀ k, (nearUp (nnode id par kids []) k).length ≤ k) := fun k => by
      have h := List.length_filter_le (nearB (nnode id par kids [])) (upTo k)
      unfold nearUp
      simpa [upTo] using h
    have HN0 : Hid (nearUp (nnode id par kids []) 0 = []) := rfl
    have HNR : Hid (∀ fs A W x, IntsAt W A.k kids → Calls Tryz.prog 22 #[ndv (nnode id par kids fs) A, .int .i64 x] W fun e w' => e = .returned (.bool (nearB (nnode id par kids []) x)) ∧ Below W.heap.size W w') := fun fs A W x h => specNear (nnode id par kids fs) A x W (by show kids.length ≤ 1048600; omega) h
    generalize placeB (nnode id par kids []) = PB at *
    generalize nearB (nnode id par kids []) = NB at *
    generalize nearUp (nnode id par kids []) = NU at *
    clear hnb hko hkl hb0 HR0 HB0 hlit
    go_wp2_with fail
    go_loopw [9] (fun i wr => ∃ (k : Nat) (v : Value), k ≤ 30 ∧ i = .int .i64 k ∧ NN wc wr nb id par (.slice ka kids.length kc) v (NU k)) (fun i _ => 30 - (intOf i).toNat)
    case atStart => exact ⟨0, .slice none 0 0, Nat.zero_le _, rfl, by rw [unhide HN0]; exact unhide HNN⟩
    case round =>
      obtain ⟨k, v, hk, rfl, hN⟩ := hrel
      have HN := hide hN
      have HO4 : Hid (wr.ownsRow (w.heap.size + 1) 3 1 (.slice ka kids.length kc) kids.length (GR.flat encNum kids)) := (unhide HO3).kept (row := some nb) ⟨hN.keep.os, hN.keep.tape, hN.keep.output, hN.keep.size, fun j hj hjn => hN.keep.block j hj (fun e => hjn (by rw [mem_one e]))⟩ (by
        cases hv : (Value.slice ka kids.length kc).ownBlock with
        | none => exact .inl rfl
        | some j => exact .inr (fun e => by have := unhide HKL j hv; injection e with e; omega))
      obtain ⟨va, vc, hv, _⟩ := GR.own_at (enc := encR3) (sz := 3) (l := (NU k).map r3of) encR3_length (by rw [List.length_map]; exact hN.own)
      rw [List.length_map] at hv
      subst hv
      obtain ⟨A4, hA4, hNA4⟩ := nodeAt_new (id := id) (par := par) (unhide HO4) hN.own
      have HLN2 := hide (unhide HNL k)
      by_cases hlt : k < 30
      · have HNC := hide (unhide HNR (NU k) A4 wr (k : Int) hNA4.k)
        rw [← hA4] at HNC
        have hSU := unhide HNS k
        obtain ⟨c0, c1, c2, c3, c4, c5, c6, c7, c8⟩ := nine hN.blk
        clear hA4 hNA4 hN
        have HSU := hide hSU
        clear hSU
        go_wp2_with fail
        refine (unhide HNC).mono ?_
        rintro e w4 ⟨rfl, hb4⟩
        have HN4 := hide ((unhide HN).step hb4)
        clear hb4 c0 c1 c2 c3 c4 c5 c6 c7 c8 HNC HN HO4
        obtain ⟨c0, c1, c2, c3, c4, c5, c6, c7, c8⟩ := nine (unhide HN4).blk
        have hkw := (unhide HN4).keep.size
        cases hnb2 : NB (k : Int)
        · have HE := hide (show NU (k + 1) = NU k by rw [unhide HSU, if_neg (by rw [hnb2]; simp)])
          clear hnb2 HSU
          go_wp2_with fail
          go_roundw
          case rel => exact ⟨k + 1, .slice va (NU k).length vc, by omega, by go_num, by rw [unhide HE]; exact unhide HN4⟩
          case measure => simp [intOf]; omega
        · have HE := hide (show NU (k + 1) = NU k ++ [(k : Int)] by rw [unhide HSU, if_pos (by rw [hnb2])])
          clear hnb2 HSU
          have hown := (unhide HN4).own
          have hf6 := obj_free (unhide HN4).blk 6
          have hl30 : (NU k).length ≤ 30 := Nat.le_trans (unhide HLN2) hk
          go_wp2_with (at_builtin; refine wpList_append_own _ rfl _ _ 27 rfl wc.heap.size 71 i0 (.agg #[.int .i64 0, .int .i64 0, .slice none 0 0]) 3 40 Tryz.underlying27 hi hz0 hz1 hz2 rfl (by decide) _ _ _ rfl (hown.alloc _) ⟨w4.heap.size, 0, none⟩ 1 1 (encR3 (r3of (k : Int))) rfl rfl ?c1 ?c2 ?c3 ?c4 ?c5 ?_)
          case c1 => exact World.news_of_block (heap_alloc_new w4 _)
          case c2 => exact r3_one _
          case c3 => unfold maxLen; omega
          case c4 => omega
          case c5 => simp; omega
          intro v' w5 hown' hgrow _
          obtain ⟨va2, vc2, hv, _⟩ := GR.own_at (enc := encR3) (sz := 3) (l := (NU k ++ [(k : Int)]).map r3of) encR3_length (by
            have e2 : GR.flat encR3 ((NU k ++ [(k : Int)]).map r3of) = GR.flat encR3 ((NU k).map r3of) ++ encR3 (r3of (k : Int)) := by rw [List.map_append, GR.flat_append]; simp [GR.flat]
            rw [e2, List.length_map, List.length_append]
            exact hown')
          rw [List.length_map, List.length_append] at hv
          have hv' : v' = .slice va2 ((NU k).length + 1) vc2 := hv
          clear hv
          subst hv'
          have HA5 := hide ((unhide HN4).app (k : Int) hown' hgrow)
          have hb5 : w5.heap[nb]? = some (.cells (nnc id par (.slice ka kids.length kc) (.slice va (NU k).length vc)) 30 (0, 0)) := by
            rw [hgrow.block nb (by simp; omega) (fun e => by have := (hown.lt _ e.symm).1; omega), Below.heap_alloc _ _ _ (by omega)]
            exact (unhide HN4).blk
          obtain ⟨e0, e1, e2, e3, e4, e5, e6, e7, e8⟩ := nine hb5
          have g6 := obj_free hb5 6
          clear hown' hgrow hb5 hown c0 c1 c2 c3 c4 c5 c6 c7 c8 hf6
          go_wp2_with fail
          go_roundw
          case rel => exact ⟨k + 1, .slice va2 ((NU k).length + 1) vc2, by omega, by go_num, by rw [unhide HE]; exact unhide HA5⟩
          case measure => simp [intOf]; omega
      · obtain rfl : k = 30 := by omega
        have HR4 : Hid (wr.heap[w.heap.size]? = some (.cells zc9 30 (0, 0))) := hN.keep.obj (unhide HR3) (by simp; omega)
        have HB4 : Hid (Below w.heap.size w wr) := (unhide HB3).trans (hN.keep.below (fun x hx => by have := mem_one hx; omega) (unhide HB3).size)
        have HOK := hide (specNodeOk (nnode id par kids (NU 30)) A4 wr (sz_new (by omega) (by have := unhide HLN2; omega)) hNA4)
        rw [← hA4] at HOK
        obtain ⟨hY, hX⟩ := unhide HFS
        have HY := hide hY
        have HX := hide hX
        obtain ⟨c0, c1, c2, c3, c4, c5, c6, c7, c8⟩ := nine hN.blk
        clear hN hA4 hNA4 hY hX HFS
        generalize ndOk (nnode id par kids (NU 30)) = OK at *
        generalize NU 30 = F at *
        go_wp2_with fail
        refine (unhide HOK).mono ?_
        rintro e w5 ⟨rfl, hb5⟩
        have HN5 := hide ((unhide HN).step hb5)
        have HO5 := hide (GR.own_below (unhide HO4) hb5)
        have HR5 := hide (obj_step (unhide HR4) hb5)
        have HB5 := hide ((unhide HB4).trans (hb5.mono (unhide HB4).size))
        clear hb5 c0 c1 c2 c3 c4 c5 c6 c7 c8 HOK
        obtain ⟨c0, c1, c2, c3, c4, c5, c6, c7, c8⟩ := nine (unhide HN5).blk
        obtain ⟨r0, r1, r2, r3, r4, r5, r6, r7, r8⟩ := nine (unhide HR5)
        have f0 := obj_free (unhide HR5) 0
        have f1 := obj_free (unhide HR5) 1
        have f2 := obj_free (unhide HR5) 2
        have f3 := obj_free (unhide HR5) 3
        have f4 := obj_free (unhide HR5) 4
        have f5 := obj_free (unhide HR5) 5
        have f6 := obj_free (unhide HR5) 6
        have f7 := obj_free (unhide HR5) 7
        have f8 := obj_free (unhide HR5) 8
        cases hPB : PB
        · obtain ⟨e1, e2⟩ := unhide HX hPB
          subst e1 e2
          clear hPB HX HY
          go_wp2_with fail
          refine bodyPost_atN (fun W' hW' => ?_)
          have hR := nine_set (b0 := .int .i64 0) (b1 := .int .i64 0) (b2 := .slice none 0 0) (b3 := .int .i64 0) (b4 := .slice none 0 0) (b5 := .slice none 0 0) (b6 := .slice none 0 0) (b7 := .int .i64 0) (b8 := .slice none 0 0) (unhide HR5)
          have hK := nine_keeps (w := w5) (g := w.heap.size) (b0 := .int .i64 0) (b1 := .int .i64 0) (b2 := .slice none 0 0) (b3 := .int .i64 0) (b4 := .slice none 0 0) (b5 := .slice none 0 0) (b6 := .slice none 0 0) (b7 := .int .i64 0) (b8 := .slice none 0 0)
          rw [← hW'] at hR hK
          obtain ⟨x0, x1, x2, x3, x4, x5, x6, x7, x8⟩ := nine hR
          refine bodyPost_ret (v := .tuple #[ndv zeroNd ⟨none, none, none, none, none, 0, 0, 0, 0, 0⟩, .bool false]) (by simp [results, Tryz.results25, go_sem, x0, x1, x2, x3, x4, x5, x6, x7, x8, zeroNd]) rfl ⟨_, rfl, RM.zero, (unhide HB5).trans (hK.below (fun x hx => by have := mem_one hx; omega) (unhide HB5).size), rfl, rfl⟩
        · obtain ⟨e1, e2⟩ := unhide HY hPB
          subst e1 e2
          clear hPB HX HY
          go_wp2_with fail
          refine bodyPost_atN (fun W' hW' => ?_)
          have hR := nine_set (b0 := .int .i64 id) (b1 := .int .i64 par) (b2 := (.slice ka kids.length kc)) (b3 := .int .i64 1) (b4 := .slice none 0 0) (b5 := .slice none 0 0) (b6 := .slice va F.length vc) (b7 := .int .i64 0) (b8 := .slice none 0 0) (unhide HR5)
          have hK := nine_keeps (w := w5) (g := w.heap.size) (b0 := .int .i64 id) (b1 := .int .i64 par) (b2 := (.slice ka kids.length kc)) (b3 := .int .i64 1) (b4 := .slice none 0 0) (b5 := .slice none 0 0) (b6 := .slice va F.length vc) (b7 := .int .i64 0) (b8 := .slice none 0 0)
          rw [← hW'] at hR hK
          obtain ⟨x0, x1, x2, x3, x4, x5, x6, x7, x8⟩ := nine hR
          have hBW := (unhide HB5).trans (hK.below (B := w.heap.size) (fun x hx => by have := mem_one hx; omega) (unhide HB5).size)
          obtain ⟨A9, e9, hA9, hRM⟩ := RM.fresh (w := W') (id := id) (par := par) (own_keepsL (unhide HO5) hK (fun x hx => by have := mem_one hx; omega)) (fun x hx => by have := unhide HKL x hx; omega) (own_keepsL (unhide HN5).own hK (fun x hx => by have := mem_one hx; omega)) (B2 := wc.heap.size) (by omega)
          have e9' := e9
          unfold nnc at e9'
          refine bodyPost_ret (v := .tuple #[ndv (nnode id par kids F) A9, .bool true]) (by rw [← e9]; simp [results, Tryz.results25, go_sem, x0, x1, x2, x3, x4, x5, x6, x7, x8]) rfl ⟨_, rfl, ?_, hBW, hA9⟩
          obtain ⟨gk, gs, I, c, h1, h2⟩ := hRM
          exact ⟨gk, gs, I, c, h1, fun x hx => h2 x (by omega)⟩
def flatC (b:Nat) (c:Nat→Nat):Nat→Nat:=fun x=>if x < b then 0 else if c x=0 then 9 else if 6 < c x then 9 else c x
theorem flatC_h9 (b:Nat) (c:Nat→Nat):∀x,6 < flatC b c x→flatC b c x=9:=fun x hx=>by
 unfold flatC at *
 by_cases h1:x < b
 ·rw [if_pos h1] at hx;omega
 ·rw [if_neg h1] at hx ⊢
  by_cases h2:c x=0
  ·rw [if_pos h2]
  ·rw [if_neg h2] at hx ⊢
   by_cases h3:6 < c x
   ·rw [if_pos h3]
   ·rw [if_neg h3] at hx;omega
theorem flatC_own {b x:Nat} {c:Nat→Nat} (h:b≤x) (h0:c x=0):flatC b c x=9:=by
 unfold flatC
 rw [if_neg (by omega),if_pos h0]
theorem flatC_part {b B x k:Nat} {c:Nat→Nat} (hlo:∀x,x < B→c x=0) (hb:b≤B) (h:c x=k) (h1:0 < k) (h6:k≤6):flatC b c x=k:=by
 unfold flatC
 rw [if_neg (fun hx=>by have:=hlo x (by omega);omega),if_neg (by omega),if_neg (by omega)]
 exact h
theorem NO.flat {w:World} {B b:Nat} {n:Nd} {A:Ads} {G:Blks} {c:Nat→Nat} (h:NO w B n A G c) (hb:b≤B):NO w b n A G (flatC b c):=
 ⟨h.k,h.p,own_base h.o hb,h.s,own_base h.r hb,fun x hx=>if_pos hx,fun x hx=>flatC_part h.lo hb (h.ck x hx) (by omega) (by omega),fun x hx=>flatC_part h.lo hb (h.cp x hx) (by omega) (by omega),fun x hx=>flatC_part h.lo hb (h.co x hx) (by omega) (by omega),fun x hx=>flatC_part h.lo hb (h.c4 x hx) (by omega) (by omega),fun x hx=>flatC_part h.lo hb (h.ci x hx) (by omega) (by omega),fun x hx=>flatC_part h.lo hb (h.cr x hx) (by omega) (by omega),h.ni⟩
theorem NQ.flat {w:World} {B b:Nat} {n:Nd} {A:Ads} {G:Blks} {c:Nat→Nat} (h:NQ w B n A G c) (hb:b≤B):NQ w b n A G (flatC b c):=⟨h.toNO.flat hb,h.sq⟩
theorem below_apart {c:Nat→Nat} {w X Y:World} (hX:Below w.heap.size w X) (hb:Below 0 X Y) (hap:Apart c X Y) (hc:∀x,x < w.heap.size+3→c x=9):Below w.heap.size w Y:=
 ⟨hb.os.trans hX.os,hb.tape.trans hX.tape,hb.output.trans hX.output,Nat.le_trans hX.size hb.size,fun x hx=>(hap x (by have:=hX.size;omega) (by rw [hc x (by omega)];omega)).trans (hX.block x hx)⟩
theorem Aft.out {c:Nat→Nat} {w X Y W' W'':World} (h:Aft w W' W'') (hk:KeepsL [w.heap.size+2] Y W') (hX:w.heap.size+2 < X.heap.size) (hc:∀x,x < w.heap.size+3→c x=9):Out c X Y W'':=by
 obtain⟨F,hk2,hF⟩:=h
 refine⟨(w.heap.size+2)::F,(hk.mono (fun x hx=>by simp at hx;simp[hx])).trans (hk2.mono (fun x hx=>by simp[hx])),fun y hy=>?_⟩
 rcases List.mem_cons.1 hy with h1|h1
 ·rw [h1];exact⟨hX,by rw [hc _ (by omega)];omega⟩
 ·have:=hF y h1
  exact⟨by omega,by rw [hc _ (by omega)];omega⟩
theorem Aft.out0 {c:Nat→Nat} {w W' W'':World} (h:Aft w W' W'') (hc:∀x,x < w.heap.size+3→c x=9):Out c w W' W'':=by
 obtain⟨F,hk2,hF⟩:=h
 exact⟨F,hk2,fun y hy=>⟨hF y hy,by rw [hc _ (by have:=hF y hy;omega)];omega⟩⟩
end Go.Proofs.YtdlokncalhopoaaGreat
