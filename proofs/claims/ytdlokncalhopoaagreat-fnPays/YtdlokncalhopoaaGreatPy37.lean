/- Parts. -/
import Derived.Test.YtdlokncalhopoaaGreatPy36
import Derived.Test.YtdlokncalhopoaaGreatPy22
import Derived.Test.YtdlokncalhopoaaGreatPy35
import Derived.Test.YtdlokncalhopoaaGreatPy21
import Derived.Test.YtdlokncalhopoaaGreatPy16
import Derived.Deep.DeepCutAuto
import Derived.Deep.CutBlock
namespace Go.Proofs.YtdlokncalhopoaaGreat
open Go.RowKit
open Mth

/-- One more, behind the others. -/
theorem NSt.outPut {w W : World} {c g : Nat} {n : Nd} {A : Ads} (h : NSt w c g n A W) (x : Snt) (hx : x.k.size ≤ 1048576) (nb : Nat) (hl : W.heap[nb]? = some (.cells (encSnt x).toArray 40 (0, 0))) (hlen : n.out.length ≤ 1000) :
    ∃ a' c' w', (Builtin.append_ #[26, 26] 26 #[.slice A.o n.out.length A.co, .slice (some ⟨nb, 0, none⟩) 1 1]).run Tryz.prog W = .ok (.slice a' (n.out.length + 1) c') w' ∧ w'.heap[g]? = W.heap[g]? ∧
      NSt w c g { n with out := n.out ++ [x] } { A with o := a', co := c' } (w'.setCell ⟨g, 5, none⟩ (.slice a' (n.out.length + 1) c')) := by
  obtain ⟨i0, hi, hz0, hz1, hz2⟩ := info_parts infoSnt
  obtain ⟨gk, gs, I, col, hr, h0, hcg⟩ := h.rm
  have hgl := obj_lt h.own
  obtain ⟨v', w', hrun, ho, hg, hw⟩ := run_append_where (P := Tryz.prog) W 0 26 26 40 i0 _ 4 40 Tryz.underlying26 hi hz0 hz1 hz2 rfl (by decide) _ n.out.length (GR.flat encSnt n.out) hr.o ⟨nb, 0, none⟩ 1 1 (encSnt x) rfl (World.news_of_block hl) (by intro u hu; simp only [encSnt, List.mem_cons, List.not_mem_nil, or_false] at hu; rcases hu with rfl | rfl | rfl | rfl <;> rfl) (by unfold maxLen; omega) (by omega) (Nat.zero_le _)
  have ho' : w'.ownsRow 0 40 4 v' (n.out ++ [x]).length (GR.flat encSnt (n.out ++ [x])) := by
    rw [GR.flat_append, GR.flat_one, List.length_append]
    exact ho
  obtain ⟨a', c', hv, _⟩ := GR.own_at encSnt_length ho'
  have hv2 : v' = .slice a' (n.out.length + 1) c' := by rw [hv, List.length_append]; rfl
  have hrow : ∀ y, (Value.slice A.o n.out.length A.co).ownBlock = some y → w.heap.size < y ∧ y ≠ g := fun y hy => by
    have h3 := hr.co y hy
    refine ⟨?_, fun e => by rw [e, hcg] at h3; cases h3⟩
    rcases Nat.lt_or_ge w.heap.size y with h' | h'
    · exact h'
    · rw [h0 y h'] at h3; cases h3
  have hbw : Below (w.heap.size + 1) W w' := ⟨hg.os, hg.tape, hg.output, hg.size, fun y hy => hg.block y (by have := obj_lt h.res; omega) (fun e => by have := (hrow y e.symm).1; omega)⟩
  have hbg : w'.heap[g]? = W.heap[g]? := hg.block g hgl (fun e => (hrow g e.symm).2 rfl)
  have hR := h.rm.out hgl (obj_lt h.res) hv ho' hg hw
  rw [hv2] at hrun
  refine ⟨a', c', w', hrun, hbg, h.far (hbw.trans ((Below.refl _ w').setCell (p := ⟨g, 5, none⟩) h.glt _)) ?_ hR.set ?_⟩
  · have e := blk_setO (hbg.trans h.own) 5 (.slice a' (n.out.length + 1) c')
    simpa [ndc] using e
  · have hz := h.sz
    refine ⟨hz.k, hz.p, ?_, hz.s, hz.r, hz.pk, fun y hy => ?_, hz.sk, hz.rk⟩
    · show (n.out ++ [x]).length ≤ 1048576
      rw [List.length_append, List.length_singleton]
      omega
    · rcases List.mem_append.1 hy with h1 | h1
      · exact hz.ok y h1
      · rw [List.mem_singleton] at h1
        rw [h1]
        exact hx
/-- One more, behind the others. -/
theorem NSt.reqsPut {w W : World} {c g : Nat} {n : Nd} {A : Ads} (h : NSt w c g n A W) (x : Rq) (hx : x.k.size ≤ 1048576) (nb : Nat) (hl : W.heap[nb]? = some (.cells (encRq x).toArray 56 (0, 0))) (hlen : n.reqs.length ≤ 1000) :
    ∃ a' c' w', (Builtin.append_ #[28, 28] 28 #[.slice A.r n.reqs.length A.cr, .slice (some ⟨nb, 0, none⟩) 1 1]).run Tryz.prog W = .ok (.slice a' (n.reqs.length + 1) c') w' ∧ w'.heap[g]? = W.heap[g]? ∧
      NSt w c g { n with reqs := n.reqs ++ [x] } { A with r := a', cr := c' } (w'.setCell ⟨g, 8, none⟩ (.slice a' (n.reqs.length + 1) c')) := by
  obtain ⟨i0, hi, hz0, hz1, hz2⟩ := info_parts infoReq
  obtain ⟨gk, gs, I, col, hr, h0, hcg⟩ := h.rm
  have hgl := obj_lt h.own
  obtain ⟨v', w', hrun, ho, hg, hw⟩ := run_append_where (P := Tryz.prog) W 0 28 28 56 i0 _ 4 40 Tryz.underlying28 hi hz0 hz1 hz2 rfl (by decide) _ n.reqs.length (GR.flat encRq n.reqs) hr.r ⟨nb, 0, none⟩ 1 1 (encRq x) rfl (World.news_of_block hl) (by intro u hu; simp only [encRq, List.mem_cons, List.not_mem_nil, or_false] at hu; rcases hu with rfl | rfl | rfl | rfl <;> rfl) (by unfold maxLen; omega) (by omega) (Nat.zero_le _)
  have ho' : w'.ownsRow 0 56 4 v' (n.reqs ++ [x]).length (GR.flat encRq (n.reqs ++ [x])) := by
    rw [GR.flat_append, GR.flat_one, List.length_append]
    exact ho
  obtain ⟨a', c', hv, _⟩ := GR.own_at encRq_length ho'
  have hv2 : v' = .slice a' (n.reqs.length + 1) c' := by rw [hv, List.length_append]; rfl
  have hrow : ∀ y, (Value.slice A.r n.reqs.length A.cr).ownBlock = some y → w.heap.size < y ∧ y ≠ g := fun y hy => by
    have h3 := hr.cr y hy
    refine ⟨?_, fun e => by rw [e, hcg] at h3; cases h3⟩
    rcases Nat.lt_or_ge w.heap.size y with h' | h'
    · exact h'
    · rw [h0 y h'] at h3; cases h3
  have hbw : Below (w.heap.size + 1) W w' := ⟨hg.os, hg.tape, hg.output, hg.size, fun y hy => hg.block y (by have := obj_lt h.res; omega) (fun e => by have := (hrow y e.symm).1; omega)⟩
  have hbg : w'.heap[g]? = W.heap[g]? := hg.block g hgl (fun e => (hrow g e.symm).2 rfl)
  have hR := h.rm.reqs hgl (obj_lt h.res) hv ho' hg hw
  rw [hv2] at hrun
  refine ⟨a', c', w', hrun, hbg, h.far (hbw.trans ((Below.refl _ w').setCell (p := ⟨g, 8, none⟩) h.glt _)) ?_ hR.set ?_⟩
  · have e := blk_setO (hbg.trans h.own) 8 (.slice a' (n.reqs.length + 1) c')
    simpa [ndc] using e
  · have hz := h.sz
    refine ⟨hz.k, hz.p, hz.o, hz.s, ?_, hz.pk, hz.ok, hz.sk, fun y hy => ?_⟩
    · show (n.reqs ++ [x]).length ≤ 1048576
      rw [List.length_append, List.length_singleton]
      omega
    · rcases List.mem_append.1 hy with h1 | h1
      · exact hz.rk y h1
      · rw [List.mem_singleton] at h1
        rw [h1]
        exact hx

set_option maxRecDepth 100000 in
set_option maxHeartbeats 1000000 in
theorem l01Pick (c g cap : Nat) (xs : List ByteArray) (w : World) (hc : Cur w c) (hne : g ≠ c) (hp : 0 < xs.length) (hm : xs.length ≤ 1000) (hcell : ∀ i (hi : i < xs.length), w.cell? ⟨g, i, none⟩ = some (.string xs[i])) (hgl : g < w.heap.size) :
    Calls Tryz.prog 52 #[.pointer (some ⟨c, 0, none⟩), .slice (some ⟨g, 0, none⟩) xs.length cap] w fun e w' => ∃ x : ByteArray, e = .returned (.string x) ∧ x ∈ xs ∧ Cur w' c ∧ Keeps c w w' := by
  have HC := hide hc
  have HL := hide hcell
  clear hc hcell
  go_enter Tryz.func52, Tryz.ntmps52
  go_wp2_with fail
  refine (l01Below c _ _ (unhide HC) (by omega) (by omega)).mono ?_
  rintro e w1 ⟨x, rfl, hx0, hx1, hc1, hk1⟩
  obtain ⟨k, rfl⟩ := Int.eq_ofNat_of_zero_le hx0
  have hk : k < xs.length := by omega
  have hcell1 : w1.cell? ⟨g, k, none⟩ = some (.string xs[k]) := (World.cell?_of_block (w := w) (hk1.block g hgl hne)).trans (unhide HL k hk)
  have HC1 := hide hc1
  clear hc1
  go_wp2
  go_ret
  exact ⟨_, rfl, List.getElem_mem hk, unhide HC1, hk1⟩

theorem Keeps.grown {c : Nat} {w w' : World} (h : Keeps c w w') : w.grownBy w' (some c) := ⟨h.os, h.tape, h.output, h.size, fun k hk hne => h.block k hk (fun e => hne (by rw [e]))⟩


abbrev opA (o : Op5) : Array Value := #[.int .i64 o.K, .int .i64 o.no, .string o.k, .int .i64 o.n, .int .i64 o.m.K, .int .i64 o.m.F, .int .i64 o.m.T, .int .i64 o.m.I, .int .i64 o.m.L, .string o.m.k, .int .i64 o.m.N]
/-- While an operation is drawn: the cursor, the result's block, the operation's own. -/
structure OSt (w : World) (c g : Nat) (o : Op5) (W : World) : Prop where
  cur : Cur W c
  keep : Keeps c w W
  clt : c < w.heap.size
  glt : w.heap.size < g
  res : W.heap[w.heap.size]? = some (.cells #[.int .i64 0, .int .i64 0, .string ⟨#[]⟩, .int .i64 0, .int .i64 0, .int .i64 0, .int .i64 0, .int .i64 0, .int .i64 0, .string ⟨#[]⟩, .int .i64 0] 48 (0, 0))
  own : W.heap[g]? = some (.cells (opA o) 48 (0, 0))
theorem OSt.draw {w W W' : World} {c g : Nat} {o : Op5} (h : OSt w c g o W) (hc : Cur W' c) (hk : Keeps c W W') : OSt w c g o W' := by
  have h1 := blk_lt h.res
  have h2 := blk_lt h.own
  have h3 := h.clt
  have h4 := h.glt
  exact ⟨hc, h.keep.trans hk, h.clt, h.glt, by rw [hk.block _ h1 (by omega)]; exact h.res, by rw [hk.block _ h2 (by omega)]; exact h.own⟩
theorem OSt.new {w W : World} {c g : Nat} {o : Op5} (h : OSt w c g o W) (x : Obj) : OSt w c g o (W.alloc x) := h.draw (cur_new h.cur x) (keeps_new x)
/-- What is written at the operation's block, or behind it. -/
theorem OSt.far {w W W' : World} {c g : Nat} {o o' : Op5} (h : OSt w c g o W) (hb : Below g W W') (e : W'.heap[g]? = some (.cells (opA o') 48 (0, 0))) : OSt w c g o' W' := by
  have h3 := h.clt
  have h4 := h.glt
  have hk := h.keep
  exact ⟨h.cur.below hb (by omega), ⟨hb.os.trans hk.os, hb.tape.trans hk.tape, hb.output.trans hk.output, Nat.le_trans hk.size hb.size, fun k k1 k2 => (hb.block k (by omega)).trans (hk.block k k1 k2)⟩, h.clt, h.glt, (hb.block _ h4).trans h.res, e⟩
theorem op_set {w : World} {c : Nat} {cs : Array Value} {t : TypeId} (h : w.heap[c]? = some (.cells cs t (0, 0))) (i : Nat) (v : Value) : (w.setCell ⟨c, i, none⟩ v).heap[c]? = some (.cells (cs.setIfInBounds i v) t (0, 0)) := by
  unfold World.setCell
  simp only [Array.getElem?_modify]
  rw [if_pos trivial, h]
  rfl
theorem OSt.put {w W : World} {c g : Nat} {o o' : Op5} (h : OSt w c g o W) (i : Nat) (v : Value) (e : (opA o).setIfInBounds i v = opA o') : OSt w c g o' (W.setCell ⟨g, i, none⟩ v) :=
  h.far ((Below.refl g W).setCell (p := ⟨g, i, none⟩) (Nat.le_refl g) v) (by rw [← e]; exact op_set h.own i v)
theorem OSt.at {w W V : World} {c g : Nat} {o : Op5} (h : OSt w c g o W) (e : V = W) : OSt w c g o V := by rw [e]; exact h
def opKeys : List ByteArray := [⟨#[97]⟩, ⟨#[98]⟩]
theorem opKeys_size : ∀ x ∈ opKeys, x.size ≤ 20 := by decide

set_option maxRecDepth 100000 in
set_option maxHeartbeats 8000000 in
theorem l05Op (c : Nat) (w : World) (hc : Cur w c) : Calls Tryz.prog 30 #[.pointer (some ⟨c, 0, none⟩)] w fun e w' => ∃ o : Op5, e = .returned (opw o) ∧ o.k.size ≤ 20 ∧ o.m.k.size ≤ 20 ∧ Cur w' c ∧ Keeps c w w' := by
  have hcl := hc.lt
  have HC := hide hc
  clear hc
  go_enter Tryz.func30, Tryz.ntmps30
  go_wp2_with fail
  generalize hwa : w.alloc (.cells #[.int .i64 0, .int .i64 0, .string ⟨#[]⟩, .int .i64 0, .int .i64 0, .int .i64 0, .int .i64 0, .int .i64 0, .int .i64 0, .string ⟨#[]⟩, .int .i64 0] 48) = wa at *
  have hwas : wa.heap.size = w.heap.size + 1 := by rw [← hwa]; simp
  have HCA := hide (show Cur wa c by rw [← hwa]; exact cur_new (unhide HC) _)
  have HKA := hide (show Keeps c w wa by rw [← hwa]; exact keeps_new _)
  have HRA := hide (show wa.heap[w.heap.size]? = some (.cells #[.int .i64 0, .int .i64 0, .string ⟨#[]⟩, .int .i64 0, .int .i64 0, .int .i64 0, .int .i64 0, .int .i64 0, .int .i64 0, .string ⟨#[]⟩, .int .i64 0] 48 (0, 0)) by rw [← hwa]; exact heap_alloc_new w _)
  clear hwa HC
  have HPK := hide (l01Pick c (w.heap.size + 1) 2 opKeys _ (cur_new (unhide HCA) (.cells (opKeys.map Value.string).toArray 9)) (by omega) (by decide) (by decide) (fun i hi => by rw [← hwas]; exact lit_strs wa opKeys _ i hi) (by simp; omega))
  refine (unhide HPK).mono ?_
  clear HPK
  rintro e w1 ⟨key, rfl, hkey, hc1, hk1⟩
  have hks := opKeys_size key hkey
  have HC1 := hide hc1
  have HK1 := hide (((unhide HKA).trans (keeps_new _)).trans hk1)
  have HR1 := hide (show w1.heap[w.heap.size]? = some (.cells #[.int .i64 0, .int .i64 0, .string ⟨#[]⟩, .int .i64 0, .int .i64 0, .int .i64 0, .int .i64 0, .int .i64 0, .int .i64 0, .string ⟨#[]⟩, .int .i64 0] 48 (0, 0)) by rw [hk1.block _ (by simp; omega) (by omega), Below.heap_alloc _ _ _ (by omega)]; exact unhide HRA)
  clear hc1 hk1 HCA HKA HRA hkey
  go_wp2_with fail
  refine (l01Below c 9 _ (unhide HC1) (by omega) (by omega)).mono ?_
  rintro e w2 ⟨y, rfl, hy0, hy1, hc2, hk2⟩
  have HC2 := hide hc2
  have HK2 := hide ((unhide HK1).trans hk2)
  have HR2 := hide (show w2.heap[w.heap.size]? = some (.cells #[.int .i64 0, .int .i64 0, .string ⟨#[]⟩, .int .i64 0, .int .i64 0, .int .i64 0, .int .i64 0, .int .i64 0, .int .i64 0, .string ⟨#[]⟩, .int .i64 0] 48 (0, 0)) by rw [hk2.block _ (blk_lt (unhide HR1)) (by omega)]; exact unhide HR1)
  have hr2 := blk_lt (unhide HR2)
  clear hc2 hk2 HC1 HK1 HR1
  go_upto_region 4 with fail
  refine wp_at (fun V0 hV => ?_)
  have HS := hide (show OSt w c w2.heap.size ⟨0, 0, ⟨#[]⟩, 0, ⟨0, 0, 0, 0, 0, ⟨#[]⟩, 0⟩⟩ V0 by
    rw [hV]
    refine ⟨cur_new (unhide HC2) _, (unhide HK2).trans (keeps_new _), hcl, hr2, ?_, heap_alloc_new w2 _⟩
    rw [Below.heap_alloc _ _ _ hr2]
    exact unhide HR2)
  clear hV HC2 HK2 HR2 hr2 hwas
  have hn0 : 0 ≤ 1 + y := by omega
  have hn1 : 1 + y ≤ 9 := by omega
  generalize w2.heap.size = g at *
  go_wp2_with fail
  refine (l01Below c 10 _ (unhide HS).cur (by omega) (by omega)).mono ?_
  rintro e wz ⟨z, rfl, hz0, hz1, hcx, hkx⟩
  have HS1 := hide ((unhide HS).draw hcx hkx)
  clear hcx hkx HS
  go_upto_block 0 with fail
  go_cut [5] (fun p wx => p = .pointer (some ⟨g, 0, none⟩) ∧ ∃ o : Op5, OSt w c g o wx ∧ o.k.size ≤ 20 ∧ o.m.k.size ≤ 20)
  case first =>
    have hzc : z = 0 ∨ z = 1 ∨ z = 2 ∨ z = 3 ∨ z = 4 ∨ z = 5 ∨ z = 6 ∨ z = 7 ∨ z = 8 ∨ z = 9 := by omega
    rcases hzc with rfl | rfl | rfl | rfl | rfl | rfl | rfl | rfl | rfl | rfl
    · clear hz0 hz1

      obtain ⟨⟨c0, c1, c2, c3, c4, c5, c6, c7, c8, c9, c10⟩, f0, f1, f2, f3, f4, f5, f6, f7, f8, f9, f10⟩ := eleven_at (unhide HS1).own
      have hzg := blk_lt (unhide HS1).own
      go_wp2_with fail
      go_meet
      case rel => exact ⟨rfl, ⟨0, 0, key, (1 + y), ⟨0, 0, 0, 0, 0, ⟨#[]⟩, 0⟩⟩, (unhide HS1).far (o' := ⟨0, 0, key, (1 + y), ⟨0, 0, 0, 0, 0, ⟨#[]⟩, 0⟩⟩) (eleven_set_below (Below.refl _ _) (Nat.le_refl _)) (eleven_set (unhide HS1).own), by dsimp only; first | exact hks | decide, by dsimp only; first | exact hks | decide⟩
    · clear hz0 hz1
      go_wp2_with fail
      refine (l01Below c 12 _ (unhide HS1).cur (by omega) (by omega)).mono ?_
      rintro e wp ⟨p, rfl, hp0, hp1, hcx, hkx⟩
      have HS2 := hide ((unhide HS1).draw hcx hkx)
      clear hcx hkx HS1
      obtain ⟨⟨c0, c1, c2, c3, c4, c5, c6, c7, c8, c9, c10⟩, f0, f1, f2, f3, f4, f5, f6, f7, f8, f9, f10⟩ := eleven_at (unhide HS2).own
      have hzg := blk_lt (unhide HS2).own
      go_wp2_with fail
      go_meet
      case rel => exact ⟨rfl, ⟨1, (1 + p), key, (1 + y), ⟨0, 0, 0, 0, 0, ⟨#[]⟩, 0⟩⟩, (unhide HS2).far (o' := ⟨1, (1 + p), key, (1 + y), ⟨0, 0, 0, 0, 0, ⟨#[]⟩, 0⟩⟩) (eleven_set_below (Below.refl _ _) (Nat.le_refl _)) (eleven_set (unhide HS2).own), by dsimp only; first | exact hks | decide, by dsimp only; first | exact hks | decide⟩
    · clear hz0 hz1
      go_wp2_with fail
      refine (l01Below c 12 _ (unhide HS1).cur (by omega) (by omega)).mono ?_
      rintro e wp ⟨p, rfl, hp0, hp1, hcx, hkx⟩
      have HS2 := hide ((unhide HS1).draw hcx hkx)
      clear hcx hkx HS1
      obtain ⟨⟨c0, c1, c2, c3, c4, c5, c6, c7, c8, c9, c10⟩, f0, f1, f2, f3, f4, f5, f6, f7, f8, f9, f10⟩ := eleven_at (unhide HS2).own
      have hzg := blk_lt (unhide HS2).own
      go_wp2_with fail
      go_meet
      case rel => exact ⟨rfl, ⟨1, (1 + p), key, (1 + y), ⟨0, 0, 0, 0, 0, ⟨#[]⟩, 0⟩⟩, (unhide HS2).far (o' := ⟨1, (1 + p), key, (1 + y), ⟨0, 0, 0, 0, 0, ⟨#[]⟩, 0⟩⟩) (eleven_set_below (Below.refl _ _) (Nat.le_refl _)) (eleven_set (unhide HS2).own), by dsimp only; first | exact hks | decide, by dsimp only; first | exact hks | decide⟩
    · clear hz0 hz1
      go_wp2_with fail
      refine (l01Below c 12 _ (unhide HS1).cur (by omega) (by omega)).mono ?_
      rintro e wp ⟨p, rfl, hp0, hp1, hcx, hkx⟩
      have HS2 := hide ((unhide HS1).draw hcx hkx)
      clear hcx hkx HS1
      obtain ⟨⟨c0, c1, c2, c3, c4, c5, c6, c7, c8, c9, c10⟩, f0, f1, f2, f3, f4, f5, f6, f7, f8, f9, f10⟩ := eleven_at (unhide HS2).own
      have hzg := blk_lt (unhide HS2).own
      go_wp2_with fail
      go_meet
      case rel => exact ⟨rfl, ⟨2, (1 + p), ⟨#[]⟩, 0, ⟨0, 0, 0, 0, 0, ⟨#[]⟩, 0⟩⟩, (unhide HS2).far (o' := ⟨2, (1 + p), ⟨#[]⟩, 0, ⟨0, 0, 0, 0, 0, ⟨#[]⟩, 0⟩⟩) (eleven_set_below (Below.refl _ _) (Nat.le_refl _)) (eleven_set (unhide HS2).own), by dsimp only; first | exact hks | decide, by dsimp only; first | exact hks | decide⟩
    · clear hz0 hz1

      obtain ⟨⟨c0, c1, c2, c3, c4, c5, c6, c7, c8, c9, c10⟩, f0, f1, f2, f3, f4, f5, f6, f7, f8, f9, f10⟩ := eleven_at (unhide HS1).own
      have hzg := blk_lt (unhide HS1).own
      go_wp2_with fail
      go_meet
      case rel => exact ⟨rfl, ⟨3, 0, key, (1 + y), ⟨0, 0, 0, 0, 0, ⟨#[]⟩, 0⟩⟩, (unhide HS1).far (o' := ⟨3, 0, key, (1 + y), ⟨0, 0, 0, 0, 0, ⟨#[]⟩, 0⟩⟩) (eleven_set_below (Below.refl _ _) (Nat.le_refl _)) (eleven_set (unhide HS1).own), by dsimp only; first | exact hks | decide, by dsimp only; first | exact hks | decide⟩
    · clear hz0 hz1

      obtain ⟨⟨c0, c1, c2, c3, c4, c5, c6, c7, c8, c9, c10⟩, f0, f1, f2, f3, f4, f5, f6, f7, f8, f9, f10⟩ := eleven_at (unhide HS1).own
      have hzg := blk_lt (unhide HS1).own
      go_wp2_with fail
      go_meet
      case rel => exact ⟨rfl, ⟨4, 0, key, (1 + y), ⟨0, 0, 0, 0, 0, ⟨#[]⟩, 0⟩⟩, (unhide HS1).far (o' := ⟨4, 0, key, (1 + y), ⟨0, 0, 0, 0, 0, ⟨#[]⟩, 0⟩⟩) (eleven_set_below (Below.refl _ _) (Nat.le_refl _)) (eleven_set (unhide HS1).own), by dsimp only; first | exact hks | decide, by dsimp only; first | exact hks | decide⟩
    · clear hz0 hz1

      obtain ⟨⟨c0, c1, c2, c3, c4, c5, c6, c7, c8, c9, c10⟩, f0, f1, f2, f3, f4, f5, f6, f7, f8, f9, f10⟩ := eleven_at (unhide HS1).own
      have hzg := blk_lt (unhide HS1).own
      go_wp2_with fail
      go_meet
      case rel => exact ⟨rfl, ⟨5, 0, ⟨#[]⟩, 0, ⟨0, 0, 0, 0, 0, ⟨#[]⟩, 0⟩⟩, (unhide HS1).far (o' := ⟨5, 0, ⟨#[]⟩, 0, ⟨0, 0, 0, 0, 0, ⟨#[]⟩, 0⟩⟩) (eleven_set_below (Below.refl _ _) (Nat.le_refl _)) (eleven_set (unhide HS1).own), by dsimp only; first | exact hks | decide, by dsimp only; first | exact hks | decide⟩
    · clear hz0 hz1
      go_wp2_with fail
      refine (l01Below c 9 _ (unhide HS1).cur (by omega) (by omega)).mono ?_
      rintro e wp ⟨p, rfl, hp0, hp1, hcx, hkx⟩
      have HS2 := hide ((unhide HS1).draw hcx hkx)
      clear hcx hkx HS1
      go_wp2_with fail
      refine (l01PickInt c wp.heap.size 3 [0, 0, 2] _ (cur_new (unhide HS2).cur _) (by have := (unhide HS2).cur.lt; omega) (by simp) (by simp) (fun i hi => lit_ints wp [0, 0, 2] _ i hi) (by simp)).mono ?_
      rintro e wf ⟨f, rfl, hin, hcx, hkx⟩
      have HS3 := hide (((unhide HS2).new _).draw hcx hkx)
      clear hcx hkx hin HS2
      go_wp2_with fail
      refine (l01Below c (1 + p) _ (unhide HS3).cur (by omega) (by omega)).mono ?_
      rintro e wl ⟨l, rfl, hl0, hl1, hcx, hkx⟩
      have HS4 := hide ((unhide HS3).draw hcx hkx)
      clear hcx hkx HS3
      obtain ⟨⟨c0, c1, c2, c3, c4, c5, c6, c7, c8, c9, c10⟩, f0, f1, f2, f3, f4, f5, f6, f7, f8, f9, f10⟩ := eleven_at (unhide HS4).own
      have hzg := blk_lt (unhide HS4).own
      go_wp2_with fail
      go_meet
      case rel => exact ⟨rfl, ⟨6, 0, ⟨#[]⟩, 0, ⟨1, f, 1, (1 + p), (1 + l), key, (5 + (1 + y))⟩⟩, (unhide HS4).far (o' := ⟨6, 0, ⟨#[]⟩, 0, ⟨1, f, 1, (1 + p), (1 + l), key, (5 + (1 + y))⟩⟩) (eleven_set_below (Below.refl _ _) (Nat.le_refl _)) (eleven_set (unhide HS4).own), by dsimp only; first | exact hks | decide, by dsimp only; first | exact hks | decide⟩
    · clear hz0 hz1
      go_wp2_with fail
      refine (l01PickInt c wz.heap.size 4 [2, 3, 2, 0] _ (cur_new (unhide HS1).cur _) (by have := (unhide HS1).cur.lt; omega) (by simp) (by simp) (fun i hi => lit_ints wz [2, 3, 2, 0] _ i hi) (by simp)).mono ?_
      rintro e wf ⟨f, rfl, hin, hcx, hkx⟩
      have HS2 := hide (((unhide HS1).new _).draw hcx hkx)
      clear hcx hkx hin HS1
      obtain ⟨⟨c0, c1, c2, c3, c4, c5, c6, c7, c8, c9, c10⟩, f0, f1, f2, f3, f4, f5, f6, f7, f8, f9, f10⟩ := eleven_at (unhide HS2).own
      have hzg := blk_lt (unhide HS2).own
      go_wp2_with fail
      go_meet
      case rel => exact ⟨rfl, ⟨6, 0, ⟨#[]⟩, 0, ⟨0, f, 1, 0, 0, key, (1 + y)⟩⟩, (unhide HS2).far (o' := ⟨6, 0, ⟨#[]⟩, 0, ⟨0, f, 1, 0, 0, key, (1 + y)⟩⟩) (eleven_set_below (Below.refl _ _) (Nat.le_refl _)) (eleven_set (unhide HS2).own), by dsimp only; first | exact hks | decide, by dsimp only; first | exact hks | decide⟩
    · clear hz0 hz1
      go_wp2_with fail
      refine (l01PickInt c wz.heap.size 3 [2, 3, 0] _ (cur_new (unhide HS1).cur _) (by have := (unhide HS1).cur.lt; omega) (by simp) (by simp) (fun i hi => lit_ints wz [2, 3, 0] _ i hi) (by simp)).mono ?_
      rintro e wf ⟨f, rfl, hin, hcx, hkx⟩
      have HS2 := hide (((unhide HS1).new _).draw hcx hkx)
      clear hcx hkx hin HS1
      go_wp2_with fail
      refine (l01Below c 4 _ (unhide HS2).cur (by omega) (by omega)).mono ?_
      rintro e wp ⟨p, rfl, hp0, hp1, hcx, hkx⟩
      have HS3 := hide ((unhide HS2).draw hcx hkx)
      clear hcx hkx HS2
      obtain ⟨⟨c0, c1, c2, c3, c4, c5, c6, c7, c8, c9, c10⟩, f0, f1, f2, f3, f4, f5, f6, f7, f8, f9, f10⟩ := eleven_at (unhide HS3).own
      have hzg := blk_lt (unhide HS3).own
      go_wp2_with fail
      go_meet
      case rel => exact ⟨rfl, ⟨6, 0, ⟨#[]⟩, 0, ⟨2, f, 1, (1 + p), 0, ⟨#[]⟩, 0⟩⟩, (unhide HS3).far (o' := ⟨6, 0, ⟨#[]⟩, 0, ⟨2, f, 1, (1 + p), 0, ⟨#[]⟩, 0⟩⟩) (eleven_set_below (Below.refl _ _) (Nat.le_refl _)) (eleven_set (unhide HS3).own), by dsimp only; first | exact hks | decide, by dsimp only; first | exact hks | decide⟩
  case rest =>
  obtain ⟨rfl, ⟨K, no, k, n, ⟨mK, mF, mT, mI, mL, mk, mN⟩⟩, hst, gs, gm⟩ := hcut
  dsimp only at gs gm
  clear HS1 hz0 hz1 hy0 hy1 hn0 hn1 hks
  have HS := hide hst
  clear hst
  go_wp2_with fail
  refine (l01Below c 30 _ (unhide HS).cur (by omega) (by omega)).mono ?_
  rintro e wz2 ⟨z2, rfl, hz20, hz21, hcx, hkx⟩
  have HS1 := hide ((unhide HS).draw hcx hkx)
  clear hcx hkx HS
  go_upto_block 1 with fail
  go_cut [5] (fun p wx => p = .pointer (some ⟨g, 0, none⟩) ∧ ∃ o : Op5, OSt w c g o wx ∧ o.k.size ≤ 20 ∧ o.m.k.size ≤ 20)
  case first =>
    have hzc : z2 = 0 ∨ z2 = 1 ∨ z2 = 2 ∨ z2 = 3 ∨ 4 ≤ z2 := by omega
    rcases hzc with rfl | rfl | rfl | rfl | h4
    · clear hz20 hz21
      go_wp2_with fail
      refine (l01PickInt c wz2.heap.size 3 [-1, 7, 2] _ (cur_new (unhide HS1).cur _) (by have := (unhide HS1).cur.lt; omega) (by simp) (by simp) (fun i hi => lit_ints wz2 [-1, 7, 2] _ i hi) (by simp)).mono ?_
      rintro e wf ⟨f, rfl, hin, hcx, hkx⟩
      have HS2 := hide (((unhide HS1).new _).draw hcx hkx)
      clear hcx hkx hin HS1
      obtain ⟨⟨c0, c1, c2, c3, c4, c5, c6, c7, c8, c9, c10⟩, f0, f1, f2, f3, f4, f5, f6, f7, f8, f9, f10⟩ := eleven_at (unhide HS2).own
      have hzg := blk_lt (unhide HS2).own
      go_wp2_with fail
      go_meet
      case rel => exact ⟨rfl, ⟨f, no, k, n, ⟨mK, mF, mT, mI, mL, mk, mN⟩⟩, (unhide HS2).put 0 (.int .i64 f) rfl, gs, gm⟩
    · clear hz20 hz21
      go_wp2_with fail
      refine (l01PickInt c wz2.heap.size 2 [0, 1000000001] _ (cur_new (unhide HS1).cur _) (by have := (unhide HS1).cur.lt; omega) (by simp) (by simp) (fun i hi => lit_ints wz2 [0, 1000000001] _ i hi) (by simp)).mono ?_
      rintro e wf ⟨f, rfl, hin, hcx, hkx⟩
      have HS2 := hide (((unhide HS1).new _).draw hcx hkx)
      clear hcx hkx hin HS1
      obtain ⟨⟨c0, c1, c2, c3, c4, c5, c6, c7, c8, c9, c10⟩, f0, f1, f2, f3, f4, f5, f6, f7, f8, f9, f10⟩ := eleven_at (unhide HS2).own
      have hzg := blk_lt (unhide HS2).own
      go_wp2_with fail
      go_meet
      case rel => exact ⟨rfl, ⟨K, no, k, f, ⟨mK, mF, mT, mI, mL, mk, mN⟩⟩, (unhide HS2).put 3 (.int .i64 f) rfl, gs, gm⟩
    · clear hz20 hz21

      obtain ⟨⟨c0, c1, c2, c3, c4, c5, c6, c7, c8, c9, c10⟩, f0, f1, f2, f3, f4, f5, f6, f7, f8, f9, f10⟩ := eleven_at (unhide HS1).own
      have hzg := blk_lt (unhide HS1).own
      go_wp2_with fail
      go_meet
      case rel => exact ⟨rfl, ⟨K, no, k, n, ⟨mK, 9, mT, mI, mL, mk, mN⟩⟩, (unhide HS1).put 5 (.int .i64 9) rfl, gs, gm⟩
    · clear hz20 hz21
      go_wp2_with fail
      refine (l01PickInt c wz2.heap.size 3 [0, 1000000001, 1000000000] _ (cur_new (unhide HS1).cur _) (by have := (unhide HS1).cur.lt; omega) (by simp) (by simp) (fun i hi => lit_ints wz2 [0, 1000000001, 1000000000] _ i hi) (by simp)).mono ?_
      rintro e wf ⟨f, rfl, hin, hcx, hkx⟩
      have HS2 := hide (((unhide HS1).new _).draw hcx hkx)
      clear hcx hkx hin HS1
      obtain ⟨⟨c0, c1, c2, c3, c4, c5, c6, c7, c8, c9, c10⟩, f0, f1, f2, f3, f4, f5, f6, f7, f8, f9, f10⟩ := eleven_at (unhide HS2).own
      have hzg := blk_lt (unhide HS2).own
      go_wp2_with fail
      go_meet
      case rel => exact ⟨rfl, ⟨K, f, k, n, ⟨mK, mF, mT, mI, mL, mk, mN⟩⟩, (unhide HS2).put 1 (.int .i64 f) rfl, gs, gm⟩
    · have q0 : (z2 == 0) = false := by simp; omega
      have q1 : (z2 == 1) = false := by simp; omega
      have q2 : (z2 == 2) = false := by simp; omega
      have q3 : (z2 == 3) = false := by simp; omega
      clear hz20 hz21
      go_wp2_with fail
      go_meet
      case rel => exact ⟨rfl, ⟨K, no, k, n, ⟨mK, mF, mT, mI, mL, mk, mN⟩⟩, unhide HS1, gs, gm⟩
  case rest =>
  obtain ⟨rfl, o, hst, gs', gm'⟩ := hcut
  clear HS1 hz20 hz21 gs gm
  obtain ⟨K, no, k, n, ⟨mK, mF, mT, mI, mL, mk, mN⟩⟩ := o
  have HS := hide hst
  clear hst
  have hown : wc.heap[g]? = some (.cells #[.int .i64 K, .int .i64 no, .string k, .int .i64 n, .int .i64 mK, .int .i64 mF, .int .i64 mT, .int .i64 mI, .int .i64 mL, .string mk, .int .i64 mN] 48 (0, 0)) := (unhide HS).own
  obtain ⟨⟨q0, q1, q2, q3, q4, q5, q6, q7, q8, q9, q10⟩, zz⟩ := eleven_at hown
  clear zz hown
  dsimp only at gs' gm'
  have hzg := blk_lt (unhide HS).own
  have hzr := blk_lt (unhide HS).res
  have hgl := (unhide HS).glt
  obtain ⟨⟨d0, d1, d2, d3, d4, d5, d6, d7, d8, d9, d10⟩, f0, f1, f2, f3, f4, f5, f6, f7, f8, f9, f10⟩ := eleven_at (unhide HS).res
  go_wp2_with fail
  refine bodyPost_atE (fun W' hW' => ?_)
  obtain ⟨⟨r0, r1, r2, r3, r4, r5, r6, r7, r8, r9, r10⟩, _⟩ := eleven_at (show W'.heap[w.heap.size]? = some (.cells (opA ⟨K, no, k, n, ⟨mK, mF, mT, mI, mL, mk, mN⟩⟩) 48 (0, 0)) by rw [hW']; exact eleven_set (unhide HS).res)
  have hkk : Keeps c w W' := by
    rw [hW']
    have h := (unhide HS).keep
    have hb := eleven_set_below (b0 := .int .i64 K) (b1 := .int .i64 no) (b2 := .string k) (b3 := .int .i64 n) (b4 := .int .i64 mK) (b5 := .int .i64 mF) (b6 := .int .i64 mT) (b7 := .int .i64 mI) (b8 := .int .i64 mL) (b9 := .string mk) (b10 := .int .i64 mN) (Below.refl w.heap.size wc) (Nat.le_refl w.heap.size)
    exact ⟨hb.os.trans h.os, hb.tape.trans h.tape, hb.output.trans h.output, Nat.le_trans h.size hb.size, fun j j1 j2 => (hb.block j j1).trans (h.block j j1 j2)⟩
  have hcc : Cur W' c := by
    rw [hW']
    exact (unhide HS).cur.below (eleven_set_below (Below.refl w.heap.size wc) (Nat.le_refl w.heap.size)) hcl
  exact bodyPost_ret (v := opw ⟨K, no, k, n, ⟨mK, mF, mT, mI, mL, mk, mN⟩⟩) (by simp [results, Tryz.results30, go_sem, r0, r1, r2, r3, r4, r5, r6, r7, r8, r9, r10]) rfl ⟨⟨K, no, k, n, ⟨mK, mF, mT, mI, mL, mk, mN⟩⟩, rfl, gs', gm', hcc, hkk⟩
end Go.Proofs.YtdlokncalhopoaaGreat
