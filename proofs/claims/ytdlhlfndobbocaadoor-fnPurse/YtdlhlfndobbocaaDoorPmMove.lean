/-
  The program's move: a key's purse with amounts more or fewer, put in where that is right.
-/
import Derived.Test.YtdlhlfndobbocaaDoorPmShift
import Derived.Test.YtdlhlfndobbocaaDoorPmAdd
import Derived.Deep.RegionHeld
namespace Go.Proofs.YtdlhlfndobbocaaDoor
open Go.RowKit Go.Maps
open Mth

theorem implShift_bad (p : Pu) (dm df ds n : Int) (E : Nat → Addr) (w : World) (hp : puOk p = true) (h1 : -1000000000 ≤ dm * n ∧ dm * n ≤ 1000000000) (h2 : -1000000000 ≤ df * n ∧ df * n ≤ 1000000000) (h3 : -1000000000 ≤ ds * n ∧ ds * n ≤ 1000000000)
    (hok : puOk (shiftP p dm df ds n) = false) (he : Errs w E) :
    Calls Tryd.prog 73 #[puv p, shv dm df ds, .int .i64 n] w fun e w' => ∃ i, i < 5 ∧ e = .returned (.tuple #[puv ⟨⟨#[]⟩, 0, 0, 0⟩, errV (E i)]) ∧ Below w.heap.size w w' := by
  by_cases hf : p.f + df * n < 0 ∨ 0 ≤ p.f + df * n ∧ p.s + ds * n < 0
  · exact (implShift_fewer p dm df ds n E w hp h1 h2 h3 hf he).mono fun e w' ⟨h, hb⟩ => ⟨_, by omega, h, hb⟩
  · exact (implShift_beyond p dm df ds n E w hp h1 h2 h3 (by omega) (by omega) hok he).mono fun e w' ⟨h, hb⟩ => ⟨_, by omega, h, hb⟩

set_option maxRecDepth 100000 in
set_option maxHeartbeats 4000000 in
theorem implMove_bad (B mp mb n0 : Nat) (v : Value) (l : List Pu) (key : ByteArray) (dm df ds n : Int) (E : Nat → Addr) (w : World) (hkey : key.size ≤ 1048576) (hp : puOk (purseOf l key) = true) (h1 : -1000000000 ≤ dm * n ∧ dm * n ≤ 1000000000) (h2 : -1000000000 ≤ df * n ∧ df * n ≤ 1000000000) (h3 : -1000000000 ≤ ds * n ∧ ds * n ≤ 1000000000)
    (h : PM w B mp mb n0 v (l.map (·.k)) (purseOf l)) (he : Errs w E) (hok : puOk (shiftP (purseOf l key) dm df ds n) = false) :
    Calls Tryd.prog 63 #[.pointer (some ⟨mp, 0, none⟩), .string key, .int .i64 n, shv dm df ds] w fun e w' => ∃ i, i < 5 ∧ e = .returned (errV (E i)) ∧ Below w.heap.size w w' := by
  have HGET := hide (fun w1 (hb : Below w.heap.size w w1) => implGet mp mb n0 v (purseOf l) key w1 hkey (h.below hb).blk (h.below hb).map)
  have HSH := hide (fun w1 (hb : Below w.heap.size w w1) => implShift_bad (purseOf l key) dm df ds n E w1 hp h1 h2 h3 hok (he.below hb))
  clear h he hok hp h1 h2 h3
  generalize purseOf l key = p at *
  obtain ⟨pk, pm, pf, ps⟩ := p
  go_enter Tryd.func63, Tryd.ntmps63
  go_upto_region 1 with fail
  refine Fo.wp_at (fun V hV => ?_)
  have hbV : Below w.heap.size w V := by rw [hV]; exact below_one' w _
  have hblk : V.heap[w.heap.size]? = some (.cells #[.int .i64 dm, .int .i64 df, .int .i64 ds] 42 (0, 0)) := by rw [hV]; exact heap_alloc_new w _
  have hlt := Fo.lt_of_blk hblk
  have c0 : V.cell? ⟨w.heap.size, 0, none⟩ = some (.int .i64 dm) := by rw [cell_of_row V _ _ _ _ (0, 0) hblk]; rfl
  have c1 : V.cell? ⟨w.heap.size, 1, none⟩ = some (.int .i64 df) := by rw [cell_of_row V _ _ _ _ (0, 0) hblk]; rfl
  have c2 : V.cell? ⟨w.heap.size, 2, none⟩ = some (.int .i64 ds) := by rw [cell_of_row V _ _ _ _ (0, 0) hblk]; rfl
  have HBV := hide hbV
  clear hblk hV hbV
  have hnV : w.heap.size ≠ V.heap.size := by omega
  have hmV : V.heap.size ≠ w.heap.size := by omega
  go_region_held (fun w' => w'.cell? ⟨w.heap.size, 0, none⟩ = some (.int .i64 dm) ∧ w'.cell? ⟨w.heap.size, 1, none⟩ = some (.int .i64 df) ∧ w'.cell? ⟨w.heap.size, 2, none⟩ = some (.int .i64 ds)) (go_keep)
    (first
      | ((go_at_call 72); (refine (unhide HGET _ (by exact (unhide HBV).trans (by exact ⟨rfl, rfl, rfl, by simp, fun k hk => by first | rfl | exact Below.heap_alloc _ _ _ (by omega)⟩))).mono ?_); (rintro e w4 ⟨rfl, hb4⟩); (have hs4 := hb4.size); (simp at hs4); (have HB4 := hide ((unhide HBV).trans (Below.trans (b := _) (by exact ⟨rfl, rfl, rfl, by simp, fun k hk => by first | rfl | exact Below.heap_alloc _ _ _ (by omega)⟩) (hb4.mono (by first | omega | (simp <;> omega)))))); (obtain ⟨hc4, hf4⟩ := bcell hb4); (have d0 : w4.cell? ⟨w.heap.size, 0, none⟩ = some (.int .i64 dm) := by rw [hc4 _ _ (by first | omega | (simp <;> omega))]; first | exact c0 | exact (World.cell?_alloc_lt _ _ _ hlt).trans c0); (have d1 : w4.cell? ⟨w.heap.size, 1, none⟩ = some (.int .i64 df) := by rw [hc4 _ _ (by first | omega | (simp <;> omega))]; first | exact c1 | exact (World.cell?_alloc_lt _ _ _ hlt).trans c1); (have d2 : w4.cell? ⟨w.heap.size, 2, none⟩ = some (.int .i64 ds) := by rw [hc4 _ _ (by first | omega | (simp <;> omega))]; first | exact c2 | exact (World.cell?_alloc_lt _ _ _ hlt).trans c2); (first | (guard_hyp hs4 : V.heap.size + 1 ≤ w4.heap.size; obtain ⟨⟨z0, z1, z2, z3⟩, x0, x1, x2, x3⟩ := four_at (Fo.one_block (show Below (V.alloc (.cells #[.string ⟨#[]⟩, .int .i64 0, .int .i64 0, .int .i64 0] 32)).heap.size (V.alloc (.cells #[.string ⟨#[]⟩, .int .i64 0, .int .i64 0, .int .i64 0] 32)) w4 from ⟨hb4.os, hb4.tape, hb4.output, hb4.size, hb4.block⟩)).1; have hz4 : V.heap.size < w4.heap.size := World.block_lt_of_cell? _ _ z0) | skip); (have hlt4 : w.heap.size < w4.heap.size := by omega); (have hn4 : w.heap.size ≠ w4.heap.size := by omega); (have hm4 : w4.heap.size ≠ w.heap.size := by omega); (clear hb4 hc4 hf4))
      | ((go_at_call 73); (refine (unhide HSH _ (by exact (unhide HB4).trans (by exact ⟨rfl, rfl, rfl, by simp, fun k hk => by first | rfl | exact Below.heap_alloc _ _ _ (by omega)⟩))).mono ?_); (rintro e w5 ⟨ix, hix, rfl, hb5⟩); (have hs5 := hb5.size); (try simp at hs5); (have HB5 := hide ((unhide HB4).trans (Below.trans (b := _) (by exact ⟨rfl, rfl, rfl, by simp, fun k hk => by first | rfl | exact Below.heap_alloc _ _ _ (by omega)⟩) (hb5.mono (by first | omega | (simp <;> omega)))))); (obtain ⟨hc5, hf5⟩ := bcell hb5); (have e0 : w5.cell? ⟨w.heap.size, 0, none⟩ = some (.int .i64 dm) := by rw [hc5 _ _ (by first | omega | (simp <;> omega))]; first | exact d0 | exact (World.cell?_alloc_lt _ _ _ hlt4).trans d0); (have e1 : w5.cell? ⟨w.heap.size, 1, none⟩ = some (.int .i64 df) := by rw [hc5 _ _ (by first | omega | (simp <;> omega))]; first | exact d1 | exact (World.cell?_alloc_lt _ _ _ hlt4).trans d1); (have e2 : w5.cell? ⟨w.heap.size, 2, none⟩ = some (.int .i64 ds) := by rw [hc5 _ _ (by first | omega | (simp <;> omega))]; first | exact d2 | exact (World.cell?_alloc_lt _ _ _ hlt4).trans d2); (first | (guard_hyp hz4 : V.heap.size < w4.heap.size; have y0 := (hc5 _ 0 hz4).trans z0; have y1 := (hc5 _ 1 hz4).trans z1; have y2 := (hc5 _ 2 hz4).trans z2; have y3 := (hc5 _ 3 hz4).trans z3; have v0 := (hf5 _ 0 hz4).trans x0; have v1 := (hf5 _ 1 hz4).trans x1; have v2 := (hf5 _ 2 hz4).trans x2; have v3 := (hf5 _ 3 hz4).trans x3) | (guard_hyp hs5 : w4.heap.size + 1 ≤ w5.heap.size; obtain ⟨⟨y0, y1, y2, y3⟩, v0, v1, v2, v3⟩ := four_at (Fo.one_block hb5).1) | skip); (have hlt5 : w.heap.size < w5.heap.size := by omega); (have hn5 : w.heap.size ≠ w5.heap.size := by omega); (have hm5 : w5.heap.size ≠ w.heap.size := by omega); (clear hb5 hc5 hf5)))
  all_goals
    go_wp2_with fail
    go_ret
    refine ⟨ix, hix, rfl, ?_⟩
    first | exact (unhide HB5).alloc (unhide HB5).size _ | exact Fo.four_below (unhide HB5) (by omega)

set_option maxRecDepth 100000 in
set_option maxHeartbeats 4000000 in
theorem implMove_ok (B mp mb n0 : Nat) (v : Value) (l : List Pu) (key : ByteArray) (dm df ds n : Int) (E : Nat → Addr) (w : World) (hB : B ≤ w.heap.size) (hkey : key.size ≤ 1048576) (hn0 : n0 < maxLen) (hl : l.length ≤ 20) (hpw : l.Pairwise klt) (hp : puOk (purseOf l key) = true) (h1 : -1000000000 ≤ dm * n ∧ dm * n ≤ 1000000000) (h2 : -1000000000 ≤ df * n ∧ df * n ≤ 1000000000) (h3 : -1000000000 ≤ ds * n ∧ ds * n ≤ 1000000000)
    (h : PM w B mp mb n0 v (l.map (·.k)) (purseOf l)) (he : Errs w E) (hok : puOk (shiftP (purseOf l key) dm df ds n) = true) :
    Calls Tryd.prog 63 #[.pointer (some ⟨mp, 0, none⟩), .string key, .int .i64 n, shv dm df ds] w fun e w' => Below B w w' ∧
      ((found l key = false ∧ l.length = 20 ∧ e = .returned (errV (E 4))) ∨
       ((found l key = true ∨ l.length < 20) ∧ e = .returned .nilIface ∧ ∃ v', PM w' B mp mb (n0 + 1) v' ((putP l (shiftP (purseOf l key) dm df ds n)).map (·.k)) (upd (purseOf l) (shiftP (purseOf l key) dm df ds n)))) := by
  have hpos : puOk (shiftP (purseOf l key) dm df ds n) = true := hok
  have hff : 0 ≤ (purseOf l key).f + df * n ∧ 0 ≤ (purseOf l key).s + ds * n := by
    unfold puOk at hpos
    simp only [Bool.and_eq_true] at hpos
    have b2 : 0 ≤ (purseOf l key).f + df * n ∧ (purseOf l key).f + df * n ≤ 1000000000 := of_decide_eq_true hpos.1.1.2
    have b3 : 0 ≤ (purseOf l key).s + ds * n ∧ (purseOf l key).s + ds * n ≤ 1000000000 := of_decide_eq_true hpos.1.2
    exact ⟨b2.1, b3.1⟩
  have HGET := hide (fun w1 (hb : Below w.heap.size w w1) => implGet mp mb n0 v (purseOf l) key w1 hkey (h.below hb).blk (h.below hb).map)
  have HSH := hide (fun w1 (hb : Below w.heap.size w w1) => implShift_ok (purseOf l key) dm df ds n w1 hp h1 h2 h3 hff.1 hff.2 hok)
  have HADD := hide (fun w1 (hb : Below w.heap.size w w1) => implAddKey B mp mb n0 v l (purseOf l) key E w1 hpw hl (Nat.le_trans hB hb.size) (h.below hb) (he.below hb))
  have HPM := hide (fun w1 (hb : Below w.heap.size w w1) => h.below hb)
  have hpk : (shiftP (purseOf l key) dm df ds n).k = key := purseOf_k l key
  have HKF := hide (fun hf => (put_keys_found (l := l) (p := shiftP (purseOf l key) dm df ds n) hf).symm)
  have HKN := hide (fun hf => (put_keys_not (l := l) (p := shiftP (purseOf l key) dm df ds n) hf).symm)
  rw [hpk] at HKF HKN
  have hkk : (purseOf l key).k = key := purseOf_k l key
  clear h he hok hp h1 h2 h3 hpos hff hpw
  unfold shiftP at *
  generalize putP l ⟨(purseOf l key).k, (purseOf l key).m + dm * n, (purseOf l key).f + df * n, (purseOf l key).s + ds * n⟩ = PL at *
  generalize hG : purseOf l = G at *
  generalize G key = p at *
  obtain ⟨pk, pm, pf, ps⟩ := p
  dsimp only at *
  subst hkk
  generalize pm + dm * n = qm at *
  generalize pf + df * n = qf at *
  generalize ps + ds * n = qs at *
  clear hG hpk
  go_enter Tryd.func63, Tryd.ntmps63
  go_upto_region 1 with fail
  refine Fo.wp_at (fun V hV => ?_)
  have hbV : Below w.heap.size w V := by rw [hV]; exact below_one' w _
  have hblk : V.heap[w.heap.size]? = some (.cells #[.int .i64 dm, .int .i64 df, .int .i64 ds] 42 (0, 0)) := by rw [hV]; exact heap_alloc_new w _
  have hlt := Fo.lt_of_blk hblk
  have c0 : V.cell? ⟨w.heap.size, 0, none⟩ = some (.int .i64 dm) := by rw [cell_of_row V _ _ _ _ (0, 0) hblk]; rfl
  have c1 : V.cell? ⟨w.heap.size, 1, none⟩ = some (.int .i64 df) := by rw [cell_of_row V _ _ _ _ (0, 0) hblk]; rfl
  have c2 : V.cell? ⟨w.heap.size, 2, none⟩ = some (.int .i64 ds) := by rw [cell_of_row V _ _ _ _ (0, 0) hblk]; rfl
  have HBV := hide hbV
  clear hblk hV hbV
  go_cut [9, 10] (fun p9 p10 wx => ∃ pb : Nat, p9 = .pointer (some ⟨pb, 0, none⟩) ∧ p10 = .nilIface ∧ Below w.heap.size w wx ∧ wx.heap[pb]? = some (.cells #[.string pk, .int .i64 qm, .int .i64 qf, .int .i64 qs] 32 (0, 0)) ∧ w.heap.size ≤ pb)
  case first =>
    have hnV : w.heap.size ≠ V.heap.size := by omega
    have hmV : V.heap.size ≠ w.heap.size := by omega
    go_region_held (fun w' => w'.cell? ⟨w.heap.size, 0, none⟩ = some (.int .i64 dm) ∧ w'.cell? ⟨w.heap.size, 1, none⟩ = some (.int .i64 df) ∧ w'.cell? ⟨w.heap.size, 2, none⟩ = some (.int .i64 ds)) (go_keep)
      (first
        | ((go_at_call 72); (refine (unhide HGET _ (by exact (unhide HBV).trans (by exact ⟨rfl, rfl, rfl, by simp, fun k hk => by first | rfl | exact Below.heap_alloc _ _ _ (by omega)⟩))).mono ?_); (rintro e w4 ⟨rfl, hb4⟩); (have hs4 := hb4.size); (simp at hs4); (have HB4 := hide ((unhide HBV).trans (Below.trans (b := _) (by exact ⟨rfl, rfl, rfl, by simp, fun k hk => by first | rfl | exact Below.heap_alloc _ _ _ (by omega)⟩) (hb4.mono (by first | omega | (simp <;> omega)))))); (obtain ⟨hc4, hf4⟩ := bcell hb4); (have d0 : w4.cell? ⟨w.heap.size, 0, none⟩ = some (.int .i64 dm) := by rw [hc4 _ _ (by first | omega | (simp <;> omega))]; first | exact c0 | exact (World.cell?_alloc_lt _ _ _ hlt).trans c0); (have d1 : w4.cell? ⟨w.heap.size, 1, none⟩ = some (.int .i64 df) := by rw [hc4 _ _ (by first | omega | (simp <;> omega))]; first | exact c1 | exact (World.cell?_alloc_lt _ _ _ hlt).trans c1); (have d2 : w4.cell? ⟨w.heap.size, 2, none⟩ = some (.int .i64 ds) := by rw [hc4 _ _ (by first | omega | (simp <;> omega))]; first | exact c2 | exact (World.cell?_alloc_lt _ _ _ hlt).trans c2); (first | (guard_hyp hs4 : V.heap.size + 1 ≤ w4.heap.size; obtain ⟨⟨z0, z1, z2, z3⟩, x0, x1, x2, x3⟩ := four_at (Fo.one_block (show Below (V.alloc (.cells #[.string ⟨#[]⟩, .int .i64 0, .int .i64 0, .int .i64 0] 32)).heap.size (V.alloc (.cells #[.string ⟨#[]⟩, .int .i64 0, .int .i64 0, .int .i64 0] 32)) w4 from ⟨hb4.os, hb4.tape, hb4.output, hb4.size, hb4.block⟩)).1; have hz4 : V.heap.size < w4.heap.size := World.block_lt_of_cell? _ _ z0; have HZ := hide (Fo.one_block (show Below (V.alloc (.cells #[.string ⟨#[]⟩, .int .i64 0, .int .i64 0, .int .i64 0] 32)).heap.size (V.alloc (.cells #[.string ⟨#[]⟩, .int .i64 0, .int .i64 0, .int .i64 0] 32)) w4 from ⟨hb4.os, hb4.tape, hb4.output, hb4.size, hb4.block⟩)).1) | skip); (have hlt4 : w.heap.size < w4.heap.size := by omega); (have hn4 : w.heap.size ≠ w4.heap.size := by omega); (have hm4 : w4.heap.size ≠ w.heap.size := by omega); (clear hb4 hc4 hf4))
        | ((go_at_call 73); (refine (unhide HSH _ (by exact (unhide HB4).trans (by exact ⟨rfl, rfl, rfl, by simp, fun k hk => by first | rfl | exact Below.heap_alloc _ _ _ (by omega)⟩))).mono ?_); (rintro e w5 ⟨rfl, hb5⟩); (have hs5 := hb5.size); (try simp at hs5); (have HB5 := hide ((unhide HB4).trans (Below.trans (b := _) (by exact ⟨rfl, rfl, rfl, by simp, fun k hk => by first | rfl | exact Below.heap_alloc _ _ _ (by omega)⟩) (hb5.mono (by first | omega | (simp <;> omega)))))); (obtain ⟨hc5, hf5⟩ := bcell hb5); (have e0 : w5.cell? ⟨w.heap.size, 0, none⟩ = some (.int .i64 dm) := by rw [hc5 _ _ (by first | omega | (simp <;> omega))]; first | exact d0 | exact (World.cell?_alloc_lt _ _ _ hlt4).trans d0); (have e1 : w5.cell? ⟨w.heap.size, 1, none⟩ = some (.int .i64 df) := by rw [hc5 _ _ (by first | omega | (simp <;> omega))]; first | exact d1 | exact (World.cell?_alloc_lt _ _ _ hlt4).trans d1); (have e2 : w5.cell? ⟨w.heap.size, 2, none⟩ = some (.int .i64 ds) := by rw [hc5 _ _ (by first | omega | (simp <;> omega))]; first | exact d2 | exact (World.cell?_alloc_lt _ _ _ hlt4).trans d2); (first | (guard_hyp hz4 : V.heap.size < w4.heap.size; have HY := hide ((hb5.block _ hz4).trans (unhide HZ)); have y0 := (hc5 _ 0 hz4).trans z0; have y1 := (hc5 _ 1 hz4).trans z1; have y2 := (hc5 _ 2 hz4).trans z2; have y3 := (hc5 _ 3 hz4).trans z3; have v0 := (hf5 _ 0 hz4).trans x0; have v1 := (hf5 _ 1 hz4).trans x1; have v2 := (hf5 _ 2 hz4).trans x2; have v3 := (hf5 _ 3 hz4).trans x3) | (guard_hyp hs5 : w4.heap.size + 1 ≤ w5.heap.size; have HY := hide (Fo.one_block hb5).1; obtain ⟨⟨y0, y1, y2, y3⟩, v0, v1, v2, v3⟩ := four_at (Fo.one_block hb5).1) | skip); (have hlt5 : w.heap.size < w5.heap.size := by omega); (have hn5 : w.heap.size ≠ w5.heap.size := by omega); (have hm5 : w5.heap.size ≠ w.heap.size := by omega); (clear hb5 hc5 hf5)))
    all_goals
      go_wp2_with fail
      go_meet
      case rel =>
        first
          | exact ⟨_, rfl, rfl, Fo.four_below (unhide HB5) (by omega), Fo.four_set (unhide HY), by omega⟩
          | exact ⟨_, rfl, rfl, (unhide HB5).alloc (unhide HB5).size _, heap_alloc_new w5 _, by omega⟩
  case rest =>
    obtain ⟨pb, rfl, rfl, hbx, hpb, hge⟩ := hcut
    obtain ⟨⟨p0, p1, p2, p3⟩, _⟩ := four_at hpb
    have HADX := hide (unhide HADD _ hbx)
    have HBX := hide hbx
    have HPB := hide hpb
    have hltp := Fo.lt_of_blk hpb
    have HNE := hide (show pb ≠ mp ∧ v.ownBlock ≠ some pb from ⟨fun e => by
        have := (unhide HPM _ hbx).blk
        rw [← e, hpb] at this
        injection this with this
        injection this with h1 h2 h3
        exact absurd h2 (by decide), own_ne (unhide HPM _ hbx).row hpb (by decide)⟩)
    clear hbx hpb HADD HGET HSH HBV c0 c1 c2 hlt
    go_wp2_with fail
    refine (unhide HADX).mono ?_
    rintro e w6 ⟨hb6, hfr6, hcase⟩
    have HB6 := hide (Below.trans ((unhide HBX).mono hB) hb6)
    have hpb6 := (hfr6 pb hltp (unhide HNE).1 (unhide HNE).2).trans (unhide HPB)
    clear hfr6 hb6 p0 p1 p2 p3 HADX
    rcases hcase with ⟨hf, rfl, hPM⟩ | ⟨hf, h20, rfl⟩ | ⟨hf, h20, rfl, v', hPM⟩
    · rw [unhide HKF hf] at hPM
      have HF := hide hf
      have HPUT := hide (implPut mp mb n0 _ G ⟨pk, qm, qf, qs⟩ w6 hkey hn0 hPM.blk hPM.map)
      have HP6 := hide hPM
      obtain ⟨⟨p0, p1, p2, p3⟩, _⟩ := four_at hpb6
      clear hf hPM hpb6
      go_wp2_with fail
      refine (unhide HPUT).mono ?_
      rintro e w7 ⟨rfl, hm7, hk7⟩
      have HP7 := hide ((unhide HP6).turned hk7 hm7)
      have HB7 := hide ((unhide HB6).trans (keeps_below hk7 (unhide HP6).lom (Nat.le_trans hB (unhide HB6).size)))
      clear hm7 hk7 p0 p1 p2 p3
      go_wp2_with fail
      go_ret
      exact ⟨unhide HB7, .inr ⟨.inl (unhide HF), rfl, _, unhide HP7⟩⟩
    · have HF := hide hf
      have H20 := hide h20
      clear hf h20 hpb6
      go_wp2_with fail
      go_ret
      exact ⟨unhide HB6, .inl ⟨unhide HF, unhide H20, rfl⟩⟩
    · rw [unhide HKN hf] at hPM
      have HF := hide hf
      have HPUT := hide (implPut mp mb n0 _ G ⟨pk, qm, qf, qs⟩ w6 hkey hn0 hPM.blk hPM.map)
      have HP6 := hide hPM
      obtain ⟨⟨p0, p1, p2, p3⟩, _⟩ := four_at hpb6
      clear hf hPM hpb6
      go_wp2_with fail
      refine (unhide HPUT).mono ?_
      rintro e w7 ⟨rfl, hm7, hk7⟩
      have HP7 := hide ((unhide HP6).turned hk7 hm7)
      have HB7 := hide ((unhide HB6).trans (keeps_below hk7 (unhide HP6).lom (Nat.le_trans hB (unhide HB6).size)))
      clear hm7 hk7 p0 p1 p2 p3
      go_wp2_with fail
      go_ret
      exact ⟨unhide HB7, .inr ⟨.inr h20, rfl, _, unhide HP7⟩⟩
end Go.Proofs.YtdlhlfndobbocaaDoor
