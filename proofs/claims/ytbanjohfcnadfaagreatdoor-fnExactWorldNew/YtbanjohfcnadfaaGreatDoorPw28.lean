/- Parts. -/
import Derived.Test.YtbanjohfcnadfaaGreatDoorPw27
import Derived.Test.YtbanjohfcnadfaaGreatDoorPw1
import Derived.Test.YtbanjohfcnadfaaGreatDoorPw22
import Derived.Test.YtbanjohfcnadfaaGreatDoorPw3
import Derived.OneCell
import Derived.Laws.AppendOwnNone
import Derived.Maps.AppendAt
import Derived.Laws.OwnMore
import Derived.Lib.AppendZeros
namespace Go.Proofs.YtbanjohfcnadfaaGreatDoor
open Go.RowKit Go.MuLone
open Mth

theorem TwoN.held {B m m2 g : Nat} {n : Nd} {A1 A2 : Ads} {w : World} (h : TwoN B m m2 n A1 A2 w) (hm : m ≤ m2) (hg : m2 ≤ g) : ∀ w', KeepsL [g] w w' → NodeAt w' A1 n ∧ NodeAt w' A2 n := fun w' hk => by
  have h2 := h.keeps hm hk (fun x hx => by rw [List.mem_singleton.1 hx]; exact hg)
  exact ⟨h2.at1, h2.at2⟩
theorem setCells_keeps (g : Nat) : ∀ (vs : List Value) (w : World) (o : Nat), KeepsL [g] w (w.setCells g o vs)
  | [], _, _ => KeepsL.refl _ _
  | v :: vs, _, o => (KeepsL.set v).trans (setCells_keeps g vs _ (o + 1))
/-- What is written below both copies leaves them. -/
theorem TwoN.low {B m m2 g : Nat} {n : Nd} {A1 A2 : Ads} {w w' : World} (h : TwoN B m m2 n A1 A2 w) (hk : KeepsL [g] w w') (hg : g < B) (hm : g < m) : TwoN B m m2 n A1 A2 w' := by
  obtain ⟨G1, c1, G2, c2, h1, h2, h3, h4⟩ := h
  exact ⟨G1, c1, G2, c2, h1.keepsN hg hk, h2, h3.keepsN hm hk, h4⟩
/-- What KeeperNew answers. -/
def GivesK (w : World) (n : Nd) (e : Ending) (w' : World) : Prop :=
  (ndOk n = false ∧ e = .returned (.tuple #[.agg zk22, .bool false]) ∧ Below w.heap.size w w') ∨
  (ndOk n = true ∧ ∃ A1 A2 m m2, e = .returned (.tuple #[.agg (nkc n A2 A1), .bool true]) ∧ w.heap.size ≤ m ∧ m ≤ m2 ∧ TwoN w.heap.size m m2 n A1 A2 w' ∧ Below w.heap.size w w')
theorem below_keepsL {w0 w w' : World} {B g : Nat} (h : Below B w0 w) (hk : KeepsL [g] w w') (hg : B ≤ g) (hB : B ≤ w.heap.size) : Below B w0 w' :=
  ⟨hk.os.trans h.os, hk.tape.trans h.tape, hk.output.trans h.output, Nat.le_trans h.size hk.size, fun x hx => (hk.block x (by omega) (fun hm => by have := List.mem_singleton.1 hm; omega)).trans (h.block x hx)⟩

theorem results_two {P : Program} {fn : Func} {p q : Tmp} {ty : TypeId} (h : fn.results = #[.cell p ty, .tmp q]) (tmps : Array Value) (w : World) (g : Nat) (cs : List Value) (d : TypeDesc)
    (hp : tmps.getD p undef = .pointer (some ⟨g, 0, none⟩)) (hc : w.rangeAt g 0 cs) (hu : P.underlying ty = some d) (hd : d.isRow = true) (hi : (P.info? ty).map (·.size) = some cs.length) :
    (results fn tmps).run P w = .ok (.tuple #[.agg cs.toArray, tmps.getD q undef]) w := by
  have hp' : tmps[p]?.getD undef = .pointer (some ⟨g, 0, none⟩) := by simpa using hp
  simp [results, h, hp', asAddr, run_loadVar_mid w g 0 ty cs d hc hu hd hi]
set_option maxRecDepth 100000 in
set_option maxHeartbeats 8000000 in
theorem implKeeperNew (n : Nd) (A : Ads) (w : World) (hz : NdSz n 1048576) (ha : NodeAt w A n) : Calls Tryz.prog 21 #[ndv n A] w (GivesK w n) := by
  have HZ := hide hz
  have HA := hide ha
  clear hz ha
  go_enter Tryz.func21, Tryz.ntmps21
  go_upto_region 1 with fail
  refine wp_at (fun W0 hW => ?_)
  obtain ⟨e1, e3, e4⟩ : W0.heap[w.heap.size]? = some (.cells (ndc n A) 50 (0, 0)) ∧ W0.heap[w.heap.size + 1]? = some (.cells zk22 54 (0, 0)) ∧ Below w.heap.size w W0 := by
    subst hW
    exact allocsE2 w (.cells (ndc n A) 50) (.cells zk22 54)
  have HR := hide e3
  have HB := hide e4
  obtain ⟨c0, c1, c2, c3, c4, c5, c6, c7, c8⟩ := nine e1
  have hl0 := obj_lt e3
  clear hW e1 e3 e4
  go_wp2_with fail
  refine (hold0 n A A W0 (unhide HZ) ((unhide HA).below (unhide HB)) ((unhide HA).below (unhide HB))).mono ?_
  rintro e W1 ⟨A1, A2, m, m2, g, rfl, hm0, hm1, hm2, hg, hT, hb1⟩
  have HG := hide hg
  have HT := hide hT
  have HR1 := hide (obj_step (unhide HR) hb1)
  have HB1 := hide (Below.trans (unhide HB) (hb1.mono (unhide HB).size))
  have hww : w.heap.size ≤ W0.heap.size := (unhide HB).size
  have hgl1 := obj_lt hg
  clear hg hT hb1 c0 c1 c2 c3 c4 c5 c6 c7 c8 HR HB HA
  go_wp2_with fail
  refine (ok0 n A1 A2 g W1 (unhide HZ) ((unhide HT).held hm1 hm2) (unhide HG)).mono ?_
  rintro e W2 ⟨rfl, hg2, hk2⟩
  have HG2 := hide hg2
  have HT2 := hide ((unhide HT).keeps hm1 hk2 (fun x hx => by rw [List.mem_singleton.1 hx]; exact hm2))
  have HR2 := hide (hk2.obj (unhide HR1) (fun h => by have := List.mem_singleton.1 h; omega))
  have HB2 := hide (below_keepsL (unhide HB1) hk2 (by omega) (unhide HB1).size)
  clear hg2 hk2 HG HT HR1 HB1
  cases hok : ndOk n
  · have HOK := hide hok
    rw [hok] at HG2
    clear hok
    go_upto_region 3 with fail
    refine wp_region_list ?_
    show wpList _ _ _ [_, _, _] _ _
    refine wpList_plain rfl (fun K hK => ?_)
    go_simp
    refine hK _ _ ?_
    clear hK K
    refine wpList_store_mid rfl 54 (.tmp 2) (.tmp 12) rfl (w.heap.size + 1) 0 zk22 rfl rfl (fun j hj => ⟨blk22 (unhide HR2) hj, obj_free (unhide HR2) _⟩) (by kernel_rfl) (by kernel_rfl) ?_
    have hrg := World.rangeAt_setCells_same W2 (w.heap.size + 1) 0 zk22.toList (fun j hj => ⟨blk22 (unhide HR2) hj, obj_free (unhide HR2) _⟩)
    have hbb := setCells_below (B := w.heap.size) (show w.heap.size ≤ w.heap.size + 1 by omega) zk22.toList w W2 0 (unhide HB2)
    have HRG := hide hrg
    have HBB := hide hbb
    clear hrg hbb
    generalize W2.setCells (w.heap.size + 1) 0 zk22.toList = W3 at *
    go_wp2_with fail
    refine bodyPost_ret (v := .tuple #[.agg zk22, .bool false]) ?_ rfl (.inl ⟨unhide HOK, rfl, unhide HBB⟩)
    exact results_two (p := 2) (q := 3) rfl _ W3 (w.heap.size + 1) zk22.toList _ rfl (unhide HRG) Tryz.underlying54 rfl (by kernel_rfl)
  · have HOK := hide hok
    rw [hok] at HG2
    clear hok
    go_wp2_with fail
    refine (handOut0 n A1 A2 g true true W2 (unhide HG2)).mono ?_
    rintro e W3 ⟨rfl, hk3⟩
    have HT3 := hide ((unhide HT2).keeps hm1 hk3 (fun x hx => by rw [List.mem_singleton.1 hx]; exact hm2))
    have HR3 := hide (hk3.obj (unhide HR2) (fun h => by have := List.mem_singleton.1 h; omega))
    have HB3 := hide (below_keepsL (unhide HB2) hk3 (by omega) (unhide HB2).size)
    clear hk3 HG2 HT2 HR2 HB2
    rename_i hKK
    refine hKK _ _ ?_
    refine wpList_store_mid rfl 54 (.tmp 2) (.tmp 14) rfl (w.heap.size + 1) 0 (nkc n A2 A1) rfl rfl (fun j hj => ⟨blk22 (unhide HR3) hj, obj_free (unhide HR3) _⟩) (by kernel_rfl) (by kernel_rfl) ?_
    have hrg := World.rangeAt_setCells_same W3 (w.heap.size + 1) 0 (nkc n A2 A1).toList (fun j hj => ⟨blk22 (unhide HR3) hj, obj_free (unhide HR3) _⟩)
    have hbb := setCells_below (B := w.heap.size) (show w.heap.size ≤ w.heap.size + 1 by omega) (nkc n A2 A1).toList w W3 0 (unhide HB3)
    have hkp : KeepsL [w.heap.size + 1] W3 (W3.setCells (w.heap.size + 1) 0 (nkc n A2 A1).toList) := setCells_keeps _ _ _ _
    have HT4 := hide ((unhide HT3).low hkp (by omega) (by omega))
    have HRG := hide hrg
    have HBB := hide hbb
    clear hrg hbb hkp HT3 HR3 HB3
    generalize W3.setCells (w.heap.size + 1) 0 (nkc n A2 A1).toList = W4 at *
    go_wp2_with fail
    refine bodyPost_ret (v := .tuple #[.agg (nkc n A2 A1), .bool true]) ?_ rfl (.inr ⟨unhide HOK, A1, A2, m, m2, rfl, by omega, hm1, ?_, unhide HBB⟩)
    · exact results_two (p := 2) (q := 3) rfl _ W4 (w.heap.size + 1) (nkc n A2 A1).toList _ rfl (unhide HRG) Tryz.underlying54 rfl (by kernel_rfl)
    · obtain ⟨G1', c1', G2', c2', t1, t2, t3, t4⟩ := unhide HT4
      exact ⟨G1', c1', G2', c2', t1.base hww, t2, t3, t4⟩
open Go.RowKit

theorem run_append_where {P : Program} (w : World) (base : Nat) (t ty e : TypeId) (i : TypeInfo) (z : Value) (size bytes : Nat) (ht : P.underlying t = some (.slice e)) (hi : P.info? e = some i) (hz : i.zero = some z)
    (hsize : i.size = size) (hby : i.bytes = bytes) (hzs : z.cells.size = size) (hsz : 0 < size)
    (v : Value) (n : Nat) (xs : List Value) (hown : w.ownsRow base e size v n xs)
    (a : Addr) (m c : Nat) (news : List Value) (hl : news.length = m * size) (hnews : ∀ j u, news[j]? = some u → w.cell? (a.add j) = some u) (h1 : ∀ u ∈ news, u.oneCell' = true)
    (h63 : n + m ≤ maxLen) (hbytes : (n + m) * bytes ≤ 140737488355328) (hbase : base ≤ w.heap.size) :
    ∃ v' w', (Builtin.append_ #[t, t] ty #[v, .slice (some a) m c]).run P w = .ok v' w' ∧ w'.ownsRow base e size v' (n + m) (xs ++ news) ∧ w.grownBy w' v.ownBlock ∧
      ∀ x, v'.ownBlock = some x → v.ownBlock = some x ∨ w.heap.size ≤ x := by
  obtain ⟨v', w', hr, ho, hg, _⟩ := run_append_own w base t ty e i z size bytes ht hi hz hsize hby hzs hsz v n xs hown a m c news hl hnews h1 h63 hbytes hbase
  refine ⟨v', w', hr, ho, hg, fun x hx => ?_⟩
  have hsmall : n + m ≤ 9223372036854775807 := by simp only [maxLen] at h63; omega
  rcases hown.2 with ⟨rfl, rfl⟩ | ⟨g, cap, cur, rfl, hbg, hgg, hnc, hcm, hcs, htake⟩
  · have hxs : xs = [] := List.eq_nil_of_length_eq_zero (by simpa using hown.1)
    subst hxs
    obtain ⟨v2, w2, hr2, ho2, _, _⟩ := run_append_own w w.heap.size t ty e i z size bytes ht hi hz hsize hby hzs hsz (.slice none 0 0) 0 [] (World.ownsRow_nil w _ e size) a m c news hl hnews h1 h63 hbytes (Nat.le_refl _)
    have he := hr.symm.trans hr2
    simp only [Result.ok.injEq] at he
    obtain ⟨rfl, rfl⟩ := he
    exact .inr (ho2.lt x hx).1
  · subst hsize
    subst hby
    by_cases hroom : n + m ≤ cap
    · have hfit : n * i.size + news.length ≤ cur.size := by rw [hl, hcs, ← Nat.add_mul]; exact Nat.mul_le_mul_right _ hroom
      have hr2 := run_append_room (P := P) w t ty e i ht hi g n cap cur hgg a m c news hl hnews h1 hroom hfit
      have he := hr.symm.trans hr2
      simp only [Result.ok.injEq] at he
      obtain ⟨rfl, _⟩ := he
      exact .inl hx
    · have holds : ∀ j u, xs[j]? = some u → w.cell? ((⟨g, 0, none⟩ : Addr).add j) = some u := hown.cells (g := g) rfl
      have hr2 := run_append_grow (P := P) w t ty e i z ht hi hz ⟨g, 0, none⟩ n cap xs hown.1 holds a m c news hl hnews (by omega) (by omega) (growslice_fits (by omega) hbytes)
      have he := hr.symm.trans hr2
      simp only [Result.ok.injEq] at he
      obtain ⟨rfl, _⟩ := he
      have : w.heap.size = x := by simpa [Value.ownBlock] using hx
      exact .inr (by omega)

theorem run_append_zero {P : Program} (w : World) (base : Nat) (t ty e : TypeId) (i : TypeInfo) (size : Nat) (ht : P.underlying t = some (.slice e)) (hi : P.info? e = some i)
    (v : Value) (n : Nat) (xs : List Value) (hown : w.ownsRow base e size v n xs) (a : Option Addr) (c : Nat) :
    (Builtin.append_ #[t, t] ty #[v, .slice a 0 c]).run P w = .ok v w := by
  rcases hown.2 with ⟨rfl, rfl⟩ | ⟨g, cap, cur, rfl, _, _, hnc, _⟩
  · cases a <;> simp [Builtin.append_, run_underlying ht, sizeOf, typeInfo, hi, Builtin.lenOf, Builtin.firstCells, loadCells, loadCellsFrom]
  · cases a <;> simp [Builtin.append_, run_underlying ht, sizeOf, typeInfo, hi, Builtin.lenOf, Builtin.firstCells, loadCells, loadCellsFrom, hnc, storeCells]
theorem run_append_row {P : Program} {α : Type} {enc : α → List Value} {sz : Nat} (hs : ∀ x, (enc x).length = sz) (hz : 0 < sz) (w : World) (base : Nat) (t ty e : TypeId) (i : TypeInfo) (z : Value) (bytes : Nat) (ht : P.underlying t = some (.slice e)) (hi : P.info? e = some i) (hz0 : i.zero = some z)
    (hsize : i.size = sz) (hby : i.bytes = bytes) (hzs : z.cells.size = sz) (v : Value) (n : Nat) (xs : List Value) (hown : w.ownsRow base e sz v n xs)
    (a : Option Addr) (l : List α) (c : Nat) (ha : GR.At enc sz w a l) (h1 : ∀ u ∈ GR.flat enc l, u.oneCell' = true) (h63 : n + l.length ≤ maxLen) (hbytes : (n + l.length) * bytes ≤ 140737488355328) (hbase : base ≤ w.heap.size) :
    ∃ v' w', (Builtin.append_ #[t, t] ty #[v, .slice a l.length c]).run P w = .ok v' w' ∧ w'.ownsRow base e sz v' (n + l.length) (xs ++ GR.flat enc l) ∧ w.grownBy w' v.ownBlock ∧ ∀ x, v'.ownBlock = some x → v.ownBlock = some x ∨ w.heap.size ≤ x := by
  by_cases hl : l.length = 0
  · have hn : l = [] := List.eq_nil_of_length_eq_zero hl
    subst hn
    exact ⟨v, w, run_append_zero w base t ty e i sz ht hi v n xs hown a c, by simpa [GR.flat] using hown, World.grownBy.refl _ _, fun x hx => .inl hx⟩
  · obtain ⟨g, off, rfl, _⟩ := ha 0 (by omega)
    exact run_append_where w base t ty e i z sz bytes ht hi hz0 hsize hby hzs hz v n xs hown ⟨g, off, none⟩ l.length c (GR.flat enc l) (GR.flat_length enc sz hs l) (newsG hs hz ha) h1 h63 hbytes hbase
/-- A copy of a row behind an empty literal. -/
theorem run_copy_row {P : Program} {α : Type} {enc : α → List Value} {sz : Nat} (hs : ∀ x, (enc x).length = sz) (hz : 0 < sz) (w : World) (t e : TypeId) (i : TypeInfo) (z : Value) (bytes : Nat) (ht : P.underlying t = some (.slice e)) (hi : P.info? e = some i) (hz0 : i.zero = some z)
    (hsize : i.size = sz) (hby : i.bytes = bytes) (hzs : z.cells.size = sz) (a : Option Addr) (l : List α) (c : Nat) (ha : GR.At enc sz w a l) (h1 : ∀ u ∈ GR.flat enc l, u.oneCell' = true) (h63 : l.length ≤ maxLen) (hbytes : l.length * bytes ≤ 140737488355328) :
    ∃ a' c' w', (∀ ty, (Builtin.append_ #[t, t] ty #[.slice (some ⟨w.heap.size, 0, none⟩) 0 0, .slice a l.length c]).run P (w.alloc (.cells #[] e)) = .ok (.slice a' l.length c') w') ∧ w'.ownsRow w.heap.size e sz (.slice a' l.length c') l.length (GR.flat enc l) ∧ Below w.heap.size w w' ∧ (∃ g, a' = some ⟨g, 0, none⟩) ∧ l.length ≤ c' := by
  have hlit : (w.alloc (.cells #[] e)).ownsRow w.heap.size e sz (.slice (some ⟨w.heap.size, 0, none⟩) 0 0) 0 [] := World.ownsRow_lit (base := w.heap.size) (e := e) (size := sz) w #[] 0 (Nat.le_refl _) (by unfold maxLen; omega) (by simp)
  by_cases hl0 : l.length = 0
  · have hn : l = [] := List.eq_nil_of_length_eq_zero hl0
    subst hn
    refine ⟨some ⟨w.heap.size, 0, none⟩, 0, w.alloc (.cells #[] e), fun ty => run_append_zero (w.alloc (.cells #[] e)) w.heap.size t ty e i sz ht hi _ 0 [] hlit a c, hlit, below_one w _, ⟨_, rfl⟩, Nat.le_refl _⟩
  · obtain ⟨v', w', hr, ho, hg, _⟩ := run_append_row (P := P) hs hz (w.alloc (.cells #[] e)) w.heap.size t 0 e i z bytes ht hi hz0 hsize hby hzs _ 0 [] hlit a l c (GR.At.below ha (below_one w _)) h1 (by omega) (by rw [Nat.zero_add]; exact hbytes) (by simp)
    rw [Nat.zero_add, List.nil_append] at ho
    obtain ⟨a', c', rfl, _⟩ := GR.own_at (enc := enc) (sz := sz) hs ho
    refine ⟨a', c', w', fun ty => hr, ho, (below_one w _).grown hg (by simp) (fun k hk => by cases hk; exact Nat.le_refl _), ?_⟩
    rcases ho.2 with ⟨_, hn⟩ | ⟨g, cap, cur, hv, _, _, hnc, _⟩
    · omega
    · simp only [Value.slice.injEq] at hv
      exact ⟨⟨g, hv.1⟩, by rw [hv.2.2]; exact hnc⟩
theorem wpList_append_eq {P : Program} {w : World} {ops : Array Oper} {rest : List Oper} {o : Oper} {a : Act} {Q : Exit → Act → World → Prop} (hgd : o.guard = none) (s x : Operand) (t : TypeId)
    (ho : o.op = .call { callee := .builtin .append, args := #[s, x], argTypes := #[t, t] }) (vs vx : Value) (hs : a.eval s = vs) (hx : a.eval x = vx) (v' : Value) (w' : World) (hrun : (Builtin.append_ #[t, t] o.type #[vs, vx]).run P w = .ok v' w')
    (h : wpList P ops Q rest (a.put o.dst v') w') : wpList P ops Q (o :: rest) a w := by
  refine wpList_plain hgd fun K hK => ?_
  unfold Oper.wp
  simp [execOp, ho, resolve, invoke, builtin, hs, hx, hrun, Result.andThen]
  exact hK _ _ h

end Go.Proofs.YtbanjohfcnadfaaGreatDoor
