/- Parts. -/
import Derived.Test.YtbanjohfcnadfaaGreatDoorPw33
import Derived.Test.YtbanjohfcnadfaaGreatDoorPw41
import Derived.Test.YtbanjohfcnadfaaGreatDoorPw26
namespace Go.Proofs.YtbanjohfcnadfaaGreatDoor
open Go.RowKit
open Mth

set_option maxRecDepth 100000 in
set_option maxHeartbeats 8000000 in
theorem specTreeNodes (a : Option Addr) (cap : Nat) (l : List Int) (w : World) (hl : l.length ≤ 1048600) (ha : IntsAt w a l) :
    Calls Tryz.prog 15 #[trv a l cap] w (GivesNL w (nodesT l)) := by
  have HT0 := heap_alloc_new w (.cells #[.slice a l.length cap] 26)
  have HB0 := below_one' w (.cells #[.slice a l.length cap] 26)
  have HA0 := GR.At.below ha HB0
  have hsz0 : (w.alloc (.cells #[.slice a l.length cap] 26)).heap.size = w.heap.size + 1 := by simp
  have HC := hide (fun W (hb : Below (w.alloc (.cells #[.slice a l.length cap] 26)).heap.size (w.alloc (.cells #[.slice a l.length cap] 26)) W) => specTreeOk a cap l W hl (GR.At.below HA0 hb))
  have HK := hide (fun W (n : Int) (hb : Below (w.alloc (.cells #[.slice a l.length cap] 26)).heap.size (w.alloc (.cells #[.slice a l.length cap] 26)) W) (htb : treeB l = true) (hn : 0 ≤ n) => specKidsOf a cap l n W hl (GR.At.below HA0 hb) htb hn)
  clear ha
  go_enter Tryz.func15, Tryz.ntmps15
  go_wp2_with fail
  generalize w.alloc (.cells #[.slice a l.length cap] 26) = W0 at *
  have HA := hide HA0
  have HB := hide HB0
  have HT := hide HT0
  have HZ := hide hsz0
  clear HA0 HB0 HT0 hsz0
  go_loopw [3, 4] (fun v i wr => ∃ (k : Nat) (L : List NdI), k ≤ l.length ∧ i = .int .i64 k ∧ (k = 0 ∨ treeB l = true) ∧ L.map (fun x => x.1) = nodesTo l k ∧ NL wr W0.heap.size v L ∧ Below W0.heap.size W0 wr) (fun _ i _ => l.length - (intOf i).toNat)
  case atStart =>
    refine ⟨0, [], Nat.zero_le _, rfl, .inl rfl, rfl, NL.nil ?_, (Below.refl _ _).alloc (Nat.le_refl _) _⟩
    rw [← unhide HZ]
    exact World.ownsRow_lit _ #[] 0 (Nat.le_refl _) (by decide) rfl
  case round =>
    obtain ⟨k, L, hk, rfl, hkt, hLm, hNL, hbel⟩ := hrel
    have HBL := hide hbel
    have HNL := hide hNL
    have HLM := hide hLm
    have t1 := (one_at (tr_step (unhide HT) hbel)).1
    clear hNL hLm
    by_cases hlt : k < l.length
    · have HOK := unhide HC _ hbel
      clear hbel
      go_wp2_with fail
      refine HOK.mono ?_
      rintro e w1 ⟨rfl, hb1⟩
      have HB1 := hide ((unhide HBL).trans (hb1.mono (unhide HBL).size))
      have HNL1 := hide ((unhide HNL).step hb1)
      have HT1 := hide (tr_step (unhide HT) (unhide HB1))
      clear hb1 t1 HNL HBL
      cases htb : treeB l
      case' false =>
        have hk0 : k = 0 := by
          rcases hkt with h | h
          · exact h
          · rw [htb] at h; simp at h
        subst hk0
        go_wp2_with fail
        go_ret
        exact ⟨_, L, rfl, by rw [nodesT_no htb]; exact unhide HLM, (unhide HNL1).lower (by have := unhide HZ; omega), (unhide HB).trans ((unhide HB1).mono (unhide HB).size)⟩
      have HTB := hide htb
      have hl30 := (TreeP.of htb).le
      obtain ⟨g, off, rfl, hgw, q0⟩ := IntsAt.one (GR.At.below (unhide HA) (unhide HB1)) k hlt
      have htl := obj_lt (unhide HT1)
      have y0 := cell_und (b := w1.heap.size) htl (one_at (unhide HT1)).1
      have y1 := cell_und (b := w1.heap.size) hgw q0
      have HKD := hide (fun W (hg : Below w1.heap.size w1 W) => unhide HK W (k : Int) ((unhide HB1).trans (hg.mono (unhide HB1).size)) htb (Int.natCast_nonneg k))
      have HNX := hide (nodesTo_succ l k hlt)
      have hkl : (kidsN l (k : Int)).length ≤ 1048576 := Nat.le_trans (kidsTo_len l (k : Int) l.length) (by omega)
      have HNW := hide (fun W b c (h1 : b = none → c = 0) (h2 : IntsAt W b (kidsN l (k : Int))) => specNodeNew (k : Int) l[k] b c (kidsN l (k : Int)) W hkl h1 h2)
      unfold GivesN at HNW
      clear q0 hkl HK htb hkt
      generalize newN (k : Int) l[k] (kidsN l (k : Int)) = R at *
      obtain ⟨N1, ok1⟩ := R
      dsimp only at HNW HNX
      generalize l[k] = pk at *
      generalize kidsN l (k : Int) = kd at *
      go_upto_region 5 with fail
      go_cut [5, 6] (fun p b wx => ∃ q A3 G3, p = .pointer (some ⟨q, 0, none⟩) ∧ w1.heap.size ≤ q ∧ wx.heap[q]? = some (.cells (ndc N1 A3) 50 (0, 0)) ∧ NodeW wx A3 G3 N1 ∧ (G3.all N1).Nodup ∧ (∀ x ∈ G3.all N1, w1.heap.size ≤ x ∧ x ≠ q ∧ x < wx.heap.size) ∧ Below w1.heap.size w1 wx)
      case first =>
        have hwb : w1.heap.size ≤ w1.heap.size := Nat.le_refl _
        refine wp_region_mixB 15 w1.heap.size (by kernel_rfl) ?_
        show wpMixB _ _ _ _ _ _ 16 (Array.replicate 16 false) _ _
        refine wpMixB_take 0 20 hwb rfl (by kernel_rfl) (by kernel_rfl) (by kernel_rfl) (by kernel_rfl) (by kernel_rfl) (fun _ _ _ _ h => h) (fun K hK => ?_)
        go_simp
        first
          | (refine hK _ ?_; clear hK K)
          | (apply Exists.intro
             refine ⟨fun _ => ?_, hK _ ?_⟩
             (first | rfl | (trace_state; fail))
             clear hK K)
        refine wpMixB_take 1 20 hwb rfl (by kernel_rfl) (by kernel_rfl) (by kernel_rfl) (by kernel_rfl) (by kernel_rfl) (fun _ _ _ _ h => h) (fun K hK => ?_)
        go_simp
        first
          | (refine hK _ ?_; clear hK K)
          | (apply Exists.intro
             refine ⟨fun _ => ?_, hK _ ?_⟩
             (first | rfl | (trace_state; fail))
             clear hK K)
        refine wpMixB_take 2 20 hwb rfl (by kernel_rfl) (by kernel_rfl) (by kernel_rfl) (by kernel_rfl) (by kernel_rfl) (fun _ _ _ _ h => h) (fun K hK => ?_)
        go_simp
        first
          | (refine hK _ ?_; clear hK K)
          | (apply Exists.intro
             refine ⟨fun _ => ?_, hK _ ?_⟩
             (first | rfl | (trace_state; fail))
             clear hK K)
        refine wpMixB_take 3 20 hwb rfl (by kernel_rfl) (by kernel_rfl) (by kernel_rfl) (by kernel_rfl) (by kernel_rfl) (fun _ _ _ _ h => h) (fun K hK => ?_)
        go_simp
        first
          | (refine hK _ ?_; clear hK K)
          | (apply Exists.intro
             refine ⟨fun _ => ?_, hK _ ?_⟩
             (first | rfl | (trace_state; fail))
             clear hK K)
        refine wpMixB_take 4 20 hwb rfl (by kernel_rfl) (by kernel_rfl) (by kernel_rfl) (by kernel_rfl) (by kernel_rfl) (fun _ _ _ _ h => h) (fun K hK => ?_)
        go_simp
        first
          | (refine hK _ ?_; clear hK K)
          | (apply Exists.intro
             refine ⟨fun _ => ?_, hK _ ?_⟩
             (first | rfl | (trace_state; fail))
             clear hK K)
        refine wpMixB_take 5 20 hwb rfl (by kernel_rfl) (by kernel_rfl) (by kernel_rfl) (by kernel_rfl) (by kernel_rfl) (fun _ _ _ _ h => h) (fun K hK => ?_)
        go_simp
        first
          | (refine hK _ ?_; clear hK K)
          | (apply Exists.intro
             refine ⟨fun _ => ?_, hK _ ?_⟩
             (first | rfl | (trace_state; fail))
             clear hK K)
        refine wpMixB_take 6 20 hwb rfl (by kernel_rfl) (by kernel_rfl) (by kernel_rfl) (by kernel_rfl) (by kernel_rfl) (fun _ _ _ _ h => h) (fun K hK => ?_)
        go_simp
        first
          | (refine hK _ ?_; clear hK K)
          | (apply Exists.intro
             refine ⟨fun _ => ?_, hK _ ?_⟩
             (first | rfl | (trace_state; fail))
             clear hK K)
        refine wpMixB_take 7 20 hwb rfl (by kernel_rfl) (by kernel_rfl) (by kernel_rfl) (by kernel_rfl) (by kernel_rfl) (fun _ _ _ _ h => h) (fun K hK => ?_)
        go_simp
        first
          | (refine hK _ ?_; clear hK K)
          | (apply Exists.intro
             refine ⟨fun _ => ?_, hK _ ?_⟩
             (first | rfl | (trace_state; fail))
             clear hK K)
        clear hwb
        have HG0 := hide (Below.refl w1.heap.size w1)
        refine wpMixB_two 8 13 rfl rfl (by kernel_rfl) (by rfl) (by rfl) (by decide) (by decide) (fun x1 hx1 => ?_) (fun x1 hx1 => ?_)
        · have HGx1 := hide (Ge.trans (unhide HG0) hx1)
          go_simp
          refine (unhide HKD x1 (unhide HGx1)).mono ?_
          rintro e y1 ⟨v1, rfl, hov, hb1⟩
          obtain ⟨kb, kc, rfl, hcap, hat⟩ := ints_form hov
          refine ⟨hb1.mono (unhide HGx1).size, ?_⟩
          have HGy1 := hide (Ge.trans (unhide HGx1) hb1)
          have HKy1 := hide hat
          clear hov hat hx1 hb1
          refine wpMixB_two 9 13 rfl rfl (by kernel_rfl) (by rfl) (by rfl) (by decide) (by decide) (fun x2 hx2 => ?_) (fun x2 hx2 => ?_)
          · have HGx2 := hide (Ge.trans (unhide HGy1) hx2)
            have HKx2 := hide (GR.At.below (unhide HKy1) hx2)
            go_simp
            refine (unhide HNW x2 kb kc hcap (unhide HKx2)).mono ?_
            rintro e y2 ⟨A3, rfl, G3, hNW, hsep, hb2⟩
            refine ⟨hb2.mono (unhide HGx2).size, ?_⟩
            have hxd : w1.heap.size ≤ x2.heap.size := (unhide HGx2).size
            have HGy2 := hide (Ge.trans (unhide HGx2) hb2)
            have HWy2 := hide hNW
            have HSEP := hide hsep
            have hyd : y2.heap.size ≤ y2.heap.size := Nat.le_refl _
            clear hNW hsep hx2 hb2
            have hwp : w1.heap.size ≤ y2.heap.size := (unhide HGy2).size
            refine wpMixB_take 10 20 hwp rfl (by kernel_rfl) (by kernel_rfl) (by kernel_rfl) (by kernel_rfl) (by kernel_rfl) (fun _ _ _ _ h => h) (fun K hK => ?_)
            go_simp
            first
              | (refine hK _ ?_; clear hK K)
              | (apply Exists.intro
                 refine ⟨fun _ => ?_, hK _ ?_⟩
                 (first | rfl | (trace_state; fail))
                 clear hK K)
            refine wpMixB_take 11 20 hwp rfl (by kernel_rfl) (by kernel_rfl) (by kernel_rfl) (by kernel_rfl) (by kernel_rfl) (fun _ _ _ _ h => h) (fun K hK => ?_)
            go_simp
            first
              | (refine hK _ ?_; clear hK K)
              | (apply Exists.intro
                 refine ⟨fun _ => ?_, hK _ ?_⟩
                 (first | rfl | (trace_state; fail))
                 clear hK K)
            refine wpMixB_take 12 20 hwp rfl (by kernel_rfl) (by kernel_rfl) (by kernel_rfl) (by kernel_rfl) (by kernel_rfl) (fun _ _ _ _ h => h) (fun K hK => ?_)
            go_simp
            first
              | (refine hK _ ?_; clear hK K)
              | (apply Exists.intro
                 refine ⟨fun _ => ?_, hK _ ?_⟩
                 (first | rfl | (trace_state; fail))
                 clear hK K)
            clear hwp
            refine wpMixB_one 13 rfl (by kernel_rfl) (by rfl) (by decide) (fun x3 hx3 => ?_)
            have HGx3 := hide (Ge.trans (unhide HGy2) hx3)
            have HWx3 := hide ((unhide HWy2).below hx3)
            go_simp
            refine ⟨(below_one x3 _).mono (unhide HGx3).size, ?_⟩
            have hqd : x3.heap.size < x2.heap.size ∨ y2.heap.size ≤ x3.heap.size := .inr hx3.size
            have hqV : w1.heap.size ≤ x3.heap.size := (unhide HGx3).size
            have HGy3 := hide (Ge.trans (unhide HGx3) (below_one x3 (.cells zc9 50)))
            have HWy3 := hide ((unhide HWx3).below (below_one x3 (.cells zc9 50)))
            have HQy3 := hide (heap_alloc_new x3 (.cells zc9 50))
            clear hx3
            have HGf := HGy3
            have HQf := HQy3
            have HWf := HWy3
            generalize x3.heap.size = qf at *
            refine wpMixB_one 14 rfl (by kernel_rfl) (by rfl) (by decide) (fun xf hxf => ?_)
            have HGg := hide (Ge.trans (unhide HGf) hxf)
            have HWg := hide ((unhide HWf).below hxf)
            have HQg := hide (obj_step (unhide HQf) hxf)
            clear hxf
            obtain ⟨d0, d1, d2, d3, d4, d5, d6, d7, d8⟩ := nine (unhide HQg)
            have f0 := obj_free (unhide HQg) 0
            have f1 := obj_free (unhide HQg) 1
            have f2 := obj_free (unhide HQg) 2
            have f3 := obj_free (unhide HQg) 3
            have f4 := obj_free (unhide HQg) 4
            have f5 := obj_free (unhide HQg) 5
            have f6 := obj_free (unhide HQg) 6
            have f7 := obj_free (unhide HQg) 7
            have f8 := obj_free (unhide HQg) 8
            have hrl := obj_lt (unhide HQg)
            go_simp
            have hkq : KeepsL [qf] xf (GR.setW xf (qf) 0 [.int .i64 N1.id, .int .i64 N1.par, .slice A3.k N1.kids.length A3.ck, .int .i64 N1.next, .slice A3.p N1.pu.length A3.cp, .slice A3.o N1.out.length A3.co, .slice A3.s N1.seen.length A3.cs, .int .i64 N1.old, .slice A3.r N1.reqs.length A3.cr]) := setW_keeps [.int .i64 N1.id, .int .i64 N1.par, .slice A3.k N1.kids.length A3.ck, .int .i64 N1.next, .slice A3.p N1.pu.length A3.cp, .slice A3.o N1.out.length A3.co, .slice A3.s N1.seen.length A3.cs, .int .i64 N1.old, .slice A3.r N1.reqs.length A3.cr] xf 0
            refine ⟨hkq.below (fun x hx => by have : x = qf := (by simpa using hx); omega) (unhide HGg).size, ?_⟩
            have HBQ := hide (GR.setW_blk [.int .i64 N1.id, .int .i64 N1.par, .slice A3.k N1.kids.length A3.ck, .int .i64 N1.next, .slice A3.p N1.pu.length A3.cp, .slice A3.o N1.out.length A3.co, .slice A3.s N1.seen.length A3.cs, .int .i64 N1.old, .slice A3.r N1.reqs.length A3.cr] (o := 0) (xs := [.int .i64 0, .int .i64 0, .slice none 0 0, .int .i64 0, .slice none 0 0, .slice none 0 0, .slice none 0 0, .int .i64 0, .slice none 0 0]) (unhide HQg))
            have hda : ∀ x ∈ G3.all N1, x ∉ [qf] := fun x hx hm => by
              have : x = qf := (by simpa using hm)
              have h1 := (unhide HSEP).rng x hx
              omega
            have HWS := hide ((unhide HWg).keeps hkq hda)
            have HBV := hide (Below.trans (unhide HGg) (hkq.below (B := w1.heap.size) (fun x hx => by have : x = qf := (by simpa using hx); omega) (unhide HGg).size))
            have HDA := hide hda
            clear hkq d0 d1 d2 d3 d4 d5 d6 d7 d8 f0 f1 f2 f3 f4 f5 f6 f7 f8 hrl hda
            refine wpMixB_leave (by kernel_rfl) (fun z hz => ?_)
            have HBQz := hide (obj_step (unhide HBQ) hz)
            have HWz := hide ((unhide HWS).below hz)
            have HBVz := hide ((unhide HBV).trans (hz.mono (unhide HBV).size))
            clear hz HBQ HWS HBV
            refine wpAny_one 15 rfl (by kernel_rfl) (by rfl) ?_
            go_simp
            refine wpAny_done (by kernel_rfl) ?_
            go_simp
            go_wp2_with fail
            go_meet
            case rel =>
              refine ⟨qf, A3, G3, rfl, hqV, unhide HBQz, unhide HWz, (unhide HSEP).nodup, fun x hx => ⟨by have h1 := (unhide HSEP).rng x hx; omega, by simpa using unhide HDA x hx, ?_⟩, unhide HBVz⟩
              exact (NodeW.lt (unhide HWz) x hx)

          · have HGx2 := hide (Ge.trans (unhide HGy1) hx2)
            have HKx2 := hide (GR.At.below (unhide HKy1) hx2)
            go_simp
            refine ⟨(below_one x2 _).mono (unhide HGx2).size, ?_⟩
            have hqV : w1.heap.size ≤ x2.heap.size := (unhide HGx2).size
            have HGy2 := hide (Ge.trans (unhide HGx2) (below_one x2 (.cells zc9 50)))
            have HKy2 := hide (GR.At.below (unhide HKx2) (below_one x2 (.cells zc9 50)))
            have HQy2 := hide (heap_alloc_new x2 (.cells zc9 50))
            clear hx2
            refine wpMixB_one 9 rfl (by kernel_rfl) (by rfl) (by decide) (fun x3 hx3 => ?_)
            have HGx3 := hide (Ge.trans (unhide HGy2) hx3)
            have HKx3 := hide (GR.At.below (unhide HKy2) hx3)
            have HQx3 := hide (obj_step (unhide HQy2) hx3)
            go_simp
            refine (unhide HNW x3 kb kc hcap (unhide HKx3)).mono ?_
            rintro e y3 ⟨A3, rfl, G3, hNW, hsep, hb3⟩
            refine ⟨hb3.mono (unhide HGx3).size, ?_⟩
            have hxd : w1.heap.size ≤ x3.heap.size := (unhide HGx3).size
            have hqd : x2.heap.size < x3.heap.size ∨ y3.heap.size ≤ x2.heap.size := .inl (obj_lt (unhide HQx3))
            have HGy3 := hide (Ge.trans (unhide HGx3) hb3)
            have HQy3 := hide (obj_step (unhide HQx3) hb3)
            have HWy3 := hide hNW
            have HSEP := hide hsep
            have hyd : y3.heap.size ≤ y3.heap.size := Nat.le_refl _
            clear hNW hsep hx3 hb3
            have hwp : w1.heap.size ≤ y3.heap.size := (unhide HGy3).size
            refine wpMixB_take 10 20 hwp rfl (by kernel_rfl) (by kernel_rfl) (by kernel_rfl) (by kernel_rfl) (by kernel_rfl) (fun _ _ _ _ h => h) (fun K hK => ?_)
            go_simp
            first
              | (refine hK _ ?_; clear hK K)
              | (apply Exists.intro
                 refine ⟨fun _ => ?_, hK _ ?_⟩
                 (first | rfl | (trace_state; fail))
                 clear hK K)
            refine wpMixB_take 11 20 hwp rfl (by kernel_rfl) (by kernel_rfl) (by kernel_rfl) (by kernel_rfl) (by kernel_rfl) (fun _ _ _ _ h => h) (fun K hK => ?_)
            go_simp
            first
              | (refine hK _ ?_; clear hK K)
              | (apply Exists.intro
                 refine ⟨fun _ => ?_, hK _ ?_⟩
                 (first | rfl | (trace_state; fail))
                 clear hK K)
            refine wpMixB_take 12 20 hwp rfl (by kernel_rfl) (by kernel_rfl) (by kernel_rfl) (by kernel_rfl) (by kernel_rfl) (fun _ _ _ _ h => h) (fun K hK => ?_)
            go_simp
            first
              | (refine hK _ ?_; clear hK K)
              | (apply Exists.intro
                 refine ⟨fun _ => ?_, hK _ ?_⟩
                 (first | rfl | (trace_state; fail))
                 clear hK K)
            clear hwp
            have HGf := HGy3
            have HQf := HQy3
            have HWf := HWy3
            generalize x2.heap.size = qf at *
            refine wpMixB_one 14 rfl (by kernel_rfl) (by rfl) (by decide) (fun xf hxf => ?_)
            have HGg := hide (Ge.trans (unhide HGf) hxf)
            have HWg := hide ((unhide HWf).below hxf)
            have HQg := hide (obj_step (unhide HQf) hxf)
            clear hxf
            obtain ⟨d0, d1, d2, d3, d4, d5, d6, d7, d8⟩ := nine (unhide HQg)
            have f0 := obj_free (unhide HQg) 0
            have f1 := obj_free (unhide HQg) 1
            have f2 := obj_free (unhide HQg) 2
            have f3 := obj_free (unhide HQg) 3
            have f4 := obj_free (unhide HQg) 4
            have f5 := obj_free (unhide HQg) 5
            have f6 := obj_free (unhide HQg) 6
            have f7 := obj_free (unhide HQg) 7
            have f8 := obj_free (unhide HQg) 8
            have hrl := obj_lt (unhide HQg)
            go_simp
            have hkq : KeepsL [qf] xf (GR.setW xf (qf) 0 [.int .i64 N1.id, .int .i64 N1.par, .slice A3.k N1.kids.length A3.ck, .int .i64 N1.next, .slice A3.p N1.pu.length A3.cp, .slice A3.o N1.out.length A3.co, .slice A3.s N1.seen.length A3.cs, .int .i64 N1.old, .slice A3.r N1.reqs.length A3.cr]) := setW_keeps [.int .i64 N1.id, .int .i64 N1.par, .slice A3.k N1.kids.length A3.ck, .int .i64 N1.next, .slice A3.p N1.pu.length A3.cp, .slice A3.o N1.out.length A3.co, .slice A3.s N1.seen.length A3.cs, .int .i64 N1.old, .slice A3.r N1.reqs.length A3.cr] xf 0
            refine ⟨hkq.below (fun x hx => by have : x = qf := (by simpa using hx); omega) (unhide HGg).size, ?_⟩
            have HBQ := hide (GR.setW_blk [.int .i64 N1.id, .int .i64 N1.par, .slice A3.k N1.kids.length A3.ck, .int .i64 N1.next, .slice A3.p N1.pu.length A3.cp, .slice A3.o N1.out.length A3.co, .slice A3.s N1.seen.length A3.cs, .int .i64 N1.old, .slice A3.r N1.reqs.length A3.cr] (o := 0) (xs := [.int .i64 0, .int .i64 0, .slice none 0 0, .int .i64 0, .slice none 0 0, .slice none 0 0, .slice none 0 0, .int .i64 0, .slice none 0 0]) (unhide HQg))
            have hda : ∀ x ∈ G3.all N1, x ∉ [qf] := fun x hx hm => by
              have : x = qf := (by simpa using hm)
              have h1 := (unhide HSEP).rng x hx
              omega
            have HWS := hide ((unhide HWg).keeps hkq hda)
            have HBV := hide (Below.trans (unhide HGg) (hkq.below (B := w1.heap.size) (fun x hx => by have : x = qf := (by simpa using hx); omega) (unhide HGg).size))
            have HDA := hide hda
            clear hkq d0 d1 d2 d3 d4 d5 d6 d7 d8 f0 f1 f2 f3 f4 f5 f6 f7 f8 hrl hda
            refine wpMixB_leave (by kernel_rfl) (fun z hz => ?_)
            have HBQz := hide (obj_step (unhide HBQ) hz)
            have HWz := hide ((unhide HWS).below hz)
            have HBVz := hide ((unhide HBV).trans (hz.mono (unhide HBV).size))
            clear hz HBQ HWS HBV
            refine wpAny_one 15 rfl (by kernel_rfl) (by rfl) ?_
            go_simp
            refine wpAny_done (by kernel_rfl) ?_
            go_simp
            go_wp2_with fail
            go_meet
            case rel =>
              refine ⟨qf, A3, G3, rfl, hqV, unhide HBQz, unhide HWz, (unhide HSEP).nodup, fun x hx => ⟨by have h1 := (unhide HSEP).rng x hx; omega, by simpa using unhide HDA x hx, ?_⟩, unhide HBVz⟩
              exact (NodeW.lt (unhide HWz) x hx)

        · have HGx1 := hide (Ge.trans (unhide HG0) hx1)
          go_simp
          refine ⟨(below_one x1 _).mono (unhide HGx1).size, ?_⟩
          have hqV : w1.heap.size ≤ x1.heap.size := (unhide HGx1).size
          have HGy1 := hide (Ge.trans (unhide HGx1) (below_one x1 (.cells zc9 50)))
          have HQy1 := hide (heap_alloc_new x1 (.cells zc9 50))
          clear hx1
          refine wpMixB_one 8 rfl (by kernel_rfl) (by rfl) (by decide) (fun x2 hx2 => ?_)
          have HGx2 := hide (Ge.trans (unhide HGy1) hx2)
          have HQx2 := hide (obj_step (unhide HQy1) hx2)
          go_simp
          refine (unhide HKD x2 (unhide HGx2)).mono ?_
          rintro e y2 ⟨v2, rfl, hov, hb2⟩
          obtain ⟨kb, kc, rfl, hcap, hat⟩ := ints_form hov
          refine ⟨hb2.mono (unhide HGx2).size, ?_⟩
          have HGy2 := hide (Ge.trans (unhide HGx2) hb2)
          have HQy2 := hide (obj_step (unhide HQx2) hb2)
          have HKy2 := hide hat
          clear hov hat hx2 hb2
          refine wpMixB_one 9 rfl (by kernel_rfl) (by rfl) (by decide) (fun x3 hx3 => ?_)
          have HGx3 := hide (Ge.trans (unhide HGy2) hx3)
          have HKx3 := hide (GR.At.below (unhide HKy2) hx3)
          have HQx3 := hide (obj_step (unhide HQy2) hx3)
          go_simp
          refine (unhide HNW x3 kb kc hcap (unhide HKx3)).mono ?_
          rintro e y3 ⟨A3, rfl, G3, hNW, hsep, hb3⟩
          refine ⟨hb3.mono (unhide HGx3).size, ?_⟩
          have hxd : w1.heap.size ≤ x3.heap.size := (unhide HGx3).size
          have hqd : x1.heap.size < x3.heap.size ∨ y3.heap.size ≤ x1.heap.size := .inl (obj_lt (unhide HQx3))
          have HGy3 := hide (Ge.trans (unhide HGx3) hb3)
          have HQy3 := hide (obj_step (unhide HQx3) hb3)
          have HWy3 := hide hNW
          have HSEP := hide hsep
          have hyd : y3.heap.size ≤ y3.heap.size := Nat.le_refl _
          clear hNW hsep hx3 hb3
          have hwp : w1.heap.size ≤ y3.heap.size := (unhide HGy3).size
          refine wpMixB_take 10 20 hwp rfl (by kernel_rfl) (by kernel_rfl) (by kernel_rfl) (by kernel_rfl) (by kernel_rfl) (fun _ _ _ _ h => h) (fun K hK => ?_)
          go_simp
          first
            | (refine hK _ ?_; clear hK K)
            | (apply Exists.intro
               refine ⟨fun _ => ?_, hK _ ?_⟩
               (first | rfl | (trace_state; fail))
               clear hK K)
          refine wpMixB_take 11 20 hwp rfl (by kernel_rfl) (by kernel_rfl) (by kernel_rfl) (by kernel_rfl) (by kernel_rfl) (fun _ _ _ _ h => h) (fun K hK => ?_)
          go_simp
          first
            | (refine hK _ ?_; clear hK K)
            | (apply Exists.intro
               refine ⟨fun _ => ?_, hK _ ?_⟩
               (first | rfl | (trace_state; fail))
               clear hK K)
          refine wpMixB_take 12 20 hwp rfl (by kernel_rfl) (by kernel_rfl) (by kernel_rfl) (by kernel_rfl) (by kernel_rfl) (fun _ _ _ _ h => h) (fun K hK => ?_)
          go_simp
          first
            | (refine hK _ ?_; clear hK K)
            | (apply Exists.intro
               refine ⟨fun _ => ?_, hK _ ?_⟩
               (first | rfl | (trace_state; fail))
               clear hK K)
          clear hwp
          have HGf := HGy3
          have HQf := HQy3
          have HWf := HWy3
          generalize x1.heap.size = qf at *
          refine wpMixB_one 14 rfl (by kernel_rfl) (by rfl) (by decide) (fun xf hxf => ?_)
          have HGg := hide (Ge.trans (unhide HGf) hxf)
          have HWg := hide ((unhide HWf).below hxf)
          have HQg := hide (obj_step (unhide HQf) hxf)
          clear hxf
          obtain ⟨d0, d1, d2, d3, d4, d5, d6, d7, d8⟩ := nine (unhide HQg)
          have f0 := obj_free (unhide HQg) 0
          have f1 := obj_free (unhide HQg) 1
          have f2 := obj_free (unhide HQg) 2
          have f3 := obj_free (unhide HQg) 3
          have f4 := obj_free (unhide HQg) 4
          have f5 := obj_free (unhide HQg) 5
          have f6 := obj_free (unhide HQg) 6
          have f7 := obj_free (unhide HQg) 7
          have f8 := obj_free (unhide HQg) 8
          have hrl := obj_lt (unhide HQg)
          go_simp
          have hkq : KeepsL [qf] xf (GR.setW xf (qf) 0 [.int .i64 N1.id, .int .i64 N1.par, .slice A3.k N1.kids.length A3.ck, .int .i64 N1.next, .slice A3.p N1.pu.length A3.cp, .slice A3.o N1.out.length A3.co, .slice A3.s N1.seen.length A3.cs, .int .i64 N1.old, .slice A3.r N1.reqs.length A3.cr]) := setW_keeps [.int .i64 N1.id, .int .i64 N1.par, .slice A3.k N1.kids.length A3.ck, .int .i64 N1.next, .slice A3.p N1.pu.length A3.cp, .slice A3.o N1.out.length A3.co, .slice A3.s N1.seen.length A3.cs, .int .i64 N1.old, .slice A3.r N1.reqs.length A3.cr] xf 0
          refine ⟨hkq.below (fun x hx => by have : x = qf := (by simpa using hx); omega) (unhide HGg).size, ?_⟩
          have HBQ := hide (GR.setW_blk [.int .i64 N1.id, .int .i64 N1.par, .slice A3.k N1.kids.length A3.ck, .int .i64 N1.next, .slice A3.p N1.pu.length A3.cp, .slice A3.o N1.out.length A3.co, .slice A3.s N1.seen.length A3.cs, .int .i64 N1.old, .slice A3.r N1.reqs.length A3.cr] (o := 0) (xs := [.int .i64 0, .int .i64 0, .slice none 0 0, .int .i64 0, .slice none 0 0, .slice none 0 0, .slice none 0 0, .int .i64 0, .slice none 0 0]) (unhide HQg))
          have hda : ∀ x ∈ G3.all N1, x ∉ [qf] := fun x hx hm => by
            have : x = qf := (by simpa using hm)
            have h1 := (unhide HSEP).rng x hx
            omega
          have HWS := hide ((unhide HWg).keeps hkq hda)
          have HBV := hide (Below.trans (unhide HGg) (hkq.below (B := w1.heap.size) (fun x hx => by have : x = qf := (by simpa using hx); omega) (unhide HGg).size))
          have HDA := hide hda
          clear hkq d0 d1 d2 d3 d4 d5 d6 d7 d8 f0 f1 f2 f3 f4 f5 f6 f7 f8 hrl hda
          refine wpMixB_leave (by kernel_rfl) (fun z hz => ?_)
          have HBQz := hide (obj_step (unhide HBQ) hz)
          have HWz := hide ((unhide HWS).below hz)
          have HBVz := hide ((unhide HBV).trans (hz.mono (unhide HBV).size))
          clear hz HBQ HWS HBV
          refine wpAny_one 15 rfl (by kernel_rfl) (by rfl) ?_
          go_simp
          refine wpAny_done (by kernel_rfl) ?_
          go_simp
          go_wp2_with fail
          go_meet
          case rel =>
            refine ⟨qf, A3, G3, rfl, hqV, unhide HBQz, unhide HWz, (unhide HSEP).nodup, fun x hx => ⟨by have h1 := (unhide HSEP).rng x hx; omega, by simpa using unhide HDA x hx, ?_⟩, unhide HBVz⟩
            exact (NodeW.lt (unhide HWz) x hx)

      case rest =>
        obtain ⟨q, A3, G3, rfl, hq1, hQ, hW, hnd, hrg, hbx⟩ := hcut
        obtain ⟨wz, hwz⟩ : ∃ x, x = wc := ⟨_, rfl⟩
        subst hwz
        obtain ⟨v', w2, hrun, hNL4, hg4⟩ := NL.more (unhide HNL1) (unhide HB1).size (by have h := congrArg List.length (unhide HLM); simp [nodesTo] at h; omega) hbx hW hnd hrg
        have HNL4 := hide hNL4
        have HB4 := hide (GR.below_append ((unhide HB1).trans (hbx.mono (unhide HB1).size)) (Nat.le_trans (unhide HB1).size hbx.size) ((unhide HNL1).step hbx).own hg4)
        obtain ⟨c0, c1, c2, c3, c4, c5, c6, c7, c8⟩ := nine hQ
        clear hNL4 hg4 hW hrg hnd hbx HNL1 HB1 HKD HNW y0 y1 hQ
        go_wp2_with (at_builtin; refine wpList_append_eqN rfl _ _ 43 rfl _ _ rfl rfl _ _ hrun ?_)
        go_roundw
        case rel => exact ⟨k + 1, L ++ [(N1, A3, G3)], by omega, by go_num, .inr (unhide HTB), by rw [List.map_append, unhide HLM, unhide HNX]; rfl, unhide HNL4, unhide HB4⟩
        case measure => simp [intOf]; omega

    · have hke : k = l.length := by omega
      subst hke
      clear hbel
      go_wp2_with fail
      go_ret
      rcases hkt with h | h
      · have hnl : treeB l = false := treeB_len l (.inl h)
        have hL0 : L.map (fun x => x.1) = [] := by rw [unhide HLM, h]; rfl
        exact ⟨_, L, rfl, by rw [nodesT_no hnl]; exact hL0, (unhide HNL).lower (by have := unhide HZ; omega), (unhide HB).trans ((unhide HBL).mono (unhide HB).size)⟩
      · exact ⟨_, L, rfl, by rw [nodesT_yes h]; exact unhide HLM, (unhide HNL).lower (by have := unhide HZ; omega), (unhide HB).trans ((unhide HBL).mono (unhide HB).size)⟩
end Go.Proofs.YtbanjohfcnadfaaGreatDoor
