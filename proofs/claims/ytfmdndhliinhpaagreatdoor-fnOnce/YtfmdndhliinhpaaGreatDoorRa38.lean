/- Parts. -/
import Derived.Test.YtfmdndhliinhpaaGreatDoorRa3
namespace Go.Proofs.YtfmdndhliinhpaaGreatDoor
open Go.RowKit
open Mth

theorem mD (w : World) (q : Nat) : Below w.heap.size w (w.drewN q) := ⟨rfl, rfl, rfl, Nat.le_refl _, fun _ _ => rfl⟩
set_option maxRecDepth 100000 in
set_option maxHeartbeats 2000000 in
theorem QH (a b : Option Addr) (ca cb : Nat) (l : List Int) (w : World) (hl : l.length ≤ 1048600) (ha : dM w a l) (hb : dM w b l) :
    Calls Tryz.prog 16 #[.slice a l.length ca, .slice b l.length cb] w fun e w' => e = .returned (.bool true) ∧ Below w.heap.size w w' := by
  have HA := hide ha
  have HB := hide hb
  clear ha hb
  go_enter Tryz.func16, Tryz.ntmps16
  go_wp2_with fail
  go_loopw [5] (fun i wr => ∃ k q : Nat, k ≤ l.length ∧ i = .int .i64 k ∧ wr = w.drewN q) (fun i _ => l.length - (intOf i).toNat)
  case atStart => exact OH
  case round =>
    obtain ⟨k, q, hk, rfl, rfl⟩ := hrel
    by_cases hlt : k < l.length
    · obtain ⟨g1, o1, rfl, hg1, s0⟩ := dM.one (ah HA) k hlt
      obtain ⟨g2, o2, rfl, hg2, t0⟩ := dM.one (ah HB) k hlt
      generalize l[k] = pu at *
      exact aqG
    · exact aqV
set_option maxRecDepth 100000 in
set_option maxHeartbeats 2000000 in
theorem J7 (a b : Option Addr) (ca cb : Nat) (l : List Pu) (w : World) (hl : l.length ≤ 1048600) (ha : aH w a l) (hb : aH w b l) :
    Calls Tryz.prog 17 #[.slice a l.length ca, .slice b l.length cb] w fun e w' => e = .returned (.bool true) ∧ Below w.heap.size w w' := by
  have HA := hide ha
  have HB := hide hb
  clear ha hb
  go_enter Tryz.func17, Tryz.ntmps17
  go_wp2_with fail
  go_loopw [5] (fun i wr => ∃ k q : Nat, k ≤ l.length ∧ i = .int .i64 k ∧ wr = w.drewN q) (fun i _ => l.length - (intOf i).toNat)
  case atStart => exact OH
  case round =>
    obtain ⟨k, q, hk, rfl, rfl⟩ := hrel
    by_cases hlt : k < l.length
    · obtain ⟨g1, o1, rfl, hg1, s0, s1, s2, s3⟩ := aH.four (ah HA) k hlt
      obtain ⟨g2, o2, rfl, hg2, t0, t1, t2, t3⟩ := aH.four (ah HB) k hlt
      generalize l[k] = pu at *
      obtain ⟨pk, pm, pf, ps⟩ := pu
      exact TU
    · exact aqV
theorem Ug (w : World) (a b : Obj) : ((w.alloc a).alloc b).heap[w.heap.size]? = some a ∧ ((w.alloc a).alloc b).heap[w.heap.size + 1]? = some b ∧ Below w.heap.size w ((w.alloc a).alloc b) := by
  have e1 : (w.alloc a).heap.size = w.heap.size + 1 := by simp
  have h1 := heap_alloc_new w a
  have h2 := heap_alloc_new (w.alloc a) b
  rw [e1] at h2
  refine ⟨?_, h2, (ay w _).alloc (by simp) _⟩
  rw [Below.heap_alloc _ _ _ (by rw [e1]; omega)]
  exact h1
set_option maxRecDepth 100000 in
set_option maxHeartbeats 8000000 in
theorem aeN (n : Nd) (A B : bQ) (w : World) (hz : eF n 1048576) (ha : dQ w A n) (hb : dQ w B n) :
    Calls Tryz.prog 8 #[fU n A, fU n B] w fun e w' => e = .returned (.bool true) ∧ Below w.heap.size w w' := by
  obtain ⟨hA, hB, hbw⟩ := Ug w (.cells (fO n A) 30) (.cells (fO n B) 30)
  generalize hW : (w.alloc (.cells (fO n A) 30)).alloc (.cells (fO n B) 30) = W at *
  have HA := hide hA
  have HB := hide hB
  have iJ := hide hbw
  have EZ := hide (ha.below hbw)
  have K9 := hide (hb.below hbw)
  have HSI := hide (fun a b ca cb (l : List Int) (w : World) (hl : l.length ≤ 1048576) ha hb => QH a b ca cb l w (by omega) ha hb)
  have Le := hide (fun a b ca cb (l : List Pu) (w : World) (hl : l.length ≤ 1048576) ha hb => J7 a b ca cb l w (by omega) ha hb)
  have HZ := hide hz
  have hzo := hz.o
  have hzs := hz.s
  have hzr := hz.r
  clear hA hB hbw ha hb hz
  obtain ⟨id, par, kids, next, pu, out, seen, old, reqs⟩ := n
  obtain ⟨ak, ap, ao, as', ar, ck, cp, co, cs, cr⟩ := A
  obtain ⟨bk, bp, bo, bs, br, dk, dp, do', ds, dr⟩ := B
  dsimp only at hzo hzs hzr
  have HA : Hid (W.heap[w.heap.size]? = some (.cells #[.int .i64 id, .int .i64 par, .slice ak kids.length ck, .int .i64 next, .slice ap pu.length cp, .slice ao out.length co, .slice as' seen.length cs, .int .i64 old, .slice ar reqs.length cr] 30 (0, 0))) := HA
  have HB : Hid (W.heap[w.heap.size + 1]? = some (.cells #[.int .i64 id, .int .i64 par, .slice bk kids.length dk, .int .i64 next, .slice bp pu.length dp, .slice bo out.length do', .slice bs seen.length ds, .int .i64 old, .slice br reqs.length dr] 30 (0, 0))) := HB
  obtain ⟨c0, c1, c2, c3, c4, c5, c6, c7, c8⟩ := nine (ah HA)
  obtain ⟨e0, e1, e2, e3, e4, e5, e6, e7, e8⟩ := nine (ah HB)
  go_enter Tryz.func8, Tryz.ntmps8
  go_upto_region 1 with fail
  clear hW
  go_wp2_with fail
  refine (ah HSI ak bk ck dk kids W (ah HZ).k (ah EZ).k (ah K9).k).mono ?_
  rintro e w1 ⟨rfl, hb1⟩
  have rG := hide (ah Le ap bp cp dp pu w1 (ah HZ).p (GR.At.below (ah EZ).p hb1) (GR.At.below (ah K9).p hb1))
  have HB1 := hide hb1
  have HA1 := hide (au (ah HA) hb1)
  have za := hide (au (ah HB) hb1)
  clear hb1 c0 c1 c2 c3 c4 c5 c6 c7 c8 e0 e1 e2 e3 e4 e5 e6 e7 e8
  obtain ⟨c0, c1, c2, c3, c4, c5, c6, c7, c8⟩ := nine (ah HA1)
  obtain ⟨e0, e1, e2, e3, e4, e5, e6, e7, e8⟩ := nine (ah za)
  go_wp2_with fail
  refine (ah rG).mono ?_
  rintro e w2 ⟨rfl, hb2⟩
  have HB2 := hide ((ah HB1).trans (hb2.mono (ah HB1).size))
  have HA2 := hide (au (ah HA1) hb2)
  have oH := hide (au (ah za) hb2)
  clear hb2 rG HB1 HA1 za c0 c1 c2 c3 c4 c5 c6 c7 c8 e0 e1 e2 e3 e4 e5 e6 e7 e8
  have Zr := hide (GR.At.below (ah EZ).o (ah HB2))
  have aff := hide (GR.At.below (ah K9).o (ah HB2))
  obtain ⟨c0, c1, c2, c3, c4, c5, c6, c7, c8⟩ := nine (ah HA2)
  obtain ⟨e0, e1, e2, e3, e4, e5, e6, e7, e8⟩ := nine (ah oH)
  go_wp2_with fail
  go_loopw [5] (fun i wr => ∃ k q : Nat, k ≤ out.length ∧ i = .int .i64 k ∧ wr = w2.drewN q) (fun i _ => out.length - (intOf i).toNat)
  case atStart => exact OH
  case round =>
    obtain ⟨k, q, hk, rfl, rfl⟩ := hrel
    by_cases hlt : k < out.length
    · obtain ⟨g1, o1, rfl, hg1, s0, s1, s2, s3⟩ := SentAt.four (ah Zr) k hlt
      obtain ⟨g2, o2, rfl, hg2, t0, t1, t2, t3⟩ := SentAt.four (ah aff) k hlt
      generalize out[k] = x at *
      obtain ⟨xi, xt, xk, xn⟩ := x
      exact TU
    · have hke : k = out.length := by omega
      subst hke
      have hnlt : decide ((out.length : Int) < (out.length : Int)) = false := by simp
      have HB3 := hide ((ah HB2).trans ((mD w2 q).mono (ah HB2).size))
      have HA3 := hide (au (ah HA2) (mD w2 q))
      have K8 := hide (au (ah oH) (mD w2 q))
      clear Zr aff
      go_wp2_with fail
      clear c0 c1 c2 c3 c4 c5 c6 c7 c8 e0 e1 e2 e3 e4 e5 e6 e7 e8
      generalize w2.drewN q = w3 at *
      clear HB2 HA2 oH
      go_loopw [6] (fun i wr => ∃ k : Nat, k ≤ seen.length ∧ i = .int .i64 k ∧ Below w3.heap.size w3 wr) (fun i _ => seen.length - (intOf i).toNat)
      case atStart => exact ⟨0, Nat.zero_le _, rfl, Below.refl _ _⟩
      case round =>
        obtain ⟨k, hk, rfl, hbel⟩ := hrel
        have fG := hide hbel
        have kC := hide ((ah HB3).trans (hbel.mono (ah HB3).size))
        have HA4 := hide (au (ah HA3) hbel)
        have Y9 := hide (au (ah K8) hbel)
        clear hbel
        obtain ⟨c0, c1, c2, c3, c4, c5, c6, c7, c8⟩ := nine (ah HA4)
        obtain ⟨e0, e1, e2, e3, e4, e5, e6, e7, e8⟩ := nine (ah Y9)
        by_cases hlt : k < seen.length
        · obtain ⟨g1, o1, b1, d1, rfl, hg1, s0, s1, s2, s3⟩ := (ah EZ).s.below (ah kC) k hlt
          obtain ⟨g2, o2, b2, d2, rfl, hg2, t0, t1, t2, t3⟩ := (ah K9).s.below (ah kC) k hlt
          have hln := (ah HZ).sk seen[k] (List.getElem_mem hlt)
          have p0 : ∀ d os, Calls Tryz.prog 16 #[.slice b1 seen[k].ids.length d1, .slice b2 seen[k].ids.length d2] (Sort.grow (redrawn wr d) os) fun e w'' => e = .returned (.bool true) ∧ ∃ p : Regrown, w'' = Sort.grow (redrawn wr p.d) p.os := fun d os => Calls.regrown_of (ah HSI b1 b2 d1 d2 seen[k].ids _ hln (GR.At.below s3 (below_regrown wr d os)) (GR.At.below t3 (below_regrown wr d os)))
          clear s3 t3 hln
          generalize seen[k] = x at *
          obtain ⟨xf, xl, xs⟩ := x
          dsimp only at s0 s1 s2 t0 t1 t2 p0
          go_upto_region 11 with fail
          have y0 := cell_regrown c6
          have y1 := cell_regrown e6
          have y2 := cell_regrown s0
          have y3 := cell_regrown s1
          have y4 := cell_regrown s2
          have y5 := cell_regrown t0
          have y6 := cell_regrown t1
          have y7 := cell_regrown t2
          refine wp_region_quiet_below (by kernel_rfl) (by kernel_rfl) ?_
          repeat (first | go_big_quiet_step (first | (go_at_call 16; exact p0 _ _)) | quiet_step (first | (go_at_call 16; exact p0 _ _)))
          refine wpQuiet_nil ?_
          intro _ hw'
          obtain ⟨⟨dq, osq⟩, hw''⟩ := hw'
          subst hw''
          have kD := hide ((ah fG).trans ((below_regrown wr dq osq).mono (ah fG).size))
          clear p0
          go_wp2_with fail
          go_roundw
          case rel => exact ⟨k + 1, by omega, by go_num, ah kD⟩
          case measure => simp [intOf]; omega
        · have hke : k = seen.length := by omega
          subst hke
          have hnlt : decide ((seen.length : Int) < (seen.length : Int)) = false := by simp
          have xQ := hide (GR.At.below (ah EZ).r (ah kC))
          have aso := hide (GR.At.below (ah K9).r (ah kC))
          have ae2 := hide ((ah iJ).trans ((ah kC).mono (ah iJ).size))
          clear HA3 K8 HB3 fG EZ K9 HSI Le
          go_wp2_with fail
          go_loopw [7] (fun i w5 => ∃ k q : Nat, k ≤ reqs.length ∧ i = .int .i64 k ∧ w5 = wr.drewN q) (fun i _ => reqs.length - (intOf i).toNat)
          case atStart => exact OH
          case round =>
            obtain ⟨k, q, hk, rfl, rfl⟩ := hrel
            by_cases hlt : k < reqs.length
            · obtain ⟨g1, o1, rfl, hg1, s0, s1, s2, s3⟩ := iD.four (ah xQ) k hlt
              obtain ⟨g2, o2, rfl, hg2, t0, t1, t2, t3⟩ := iD.four (ah aso) k hlt
              generalize reqs[k] = x at *
              obtain ⟨xo, xk, xn, xs⟩ := x
              exact TU
            · have hke : k = reqs.length := by omega
              subst hke
              have hnlt : decide ((reqs.length : Int) < (reqs.length : Int)) = false := by simp
              go_wp2_with fail
              go_ret
              exact ⟨rfl, (ah ae2).trans ((mD wr q).mono (ah ae2).size)⟩
end Go.Proofs.YtfmdndhliinhpaaGreatDoor
