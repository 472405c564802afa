/- Parts. -/
import Derived.Test.YtikdkijggejnfaaGreatDoorPj20
import Derived.Test.YtikdkijggejnfaaGreatDoorPj21
import Derived.Test.YtikdkijggejnfaaGreatDoorPj4
import Derived.Test.YtikdkijggejnfaaGreatDoorPj16
import Derived.Test.YtikdkijggejnfaaGreatDoorPj1
import Derived.Test.YtikdkijggejnfaaGreatDoorPj5
import Derived.OneCell
import Derived.Laws.AppendOwnNone
import Derived.Maps.AppendAt
import Derived.Laws.OwnMore
import Derived.Lib.AppendZeros
namespace Go.Proofs.YtikdkijggejnfaaGreatDoor
open Go.RowKit
open Mth

set_option maxRecDepth 100000 in
set_option maxHeartbeats 2000000 in
theorem getClosure (a b : Nat) (s : ByteArray) (w : World) (hs : s.size ≤ maxLen) (hH : Handle w) (ha : w.cell? ⟨a, 0, none⟩ = some (.string s)) (hb : w.heap[b]? = some (.cells #[.int .i64 0, .int .i64 0, .string ⟨#[]⟩, .int .i64 0, .int .i64 0, .int .i64 0, .int .i64 0, .int .i64 0, .int .i64 0, .string ⟨#[]⟩, .int .i64 0] 25 (0, 0))) :
    Calls Tryz.prog 44 #[.pointer (some ⟨a, 0, none⟩), .pointer (some ⟨b, 0, none⟩)] w fun e w' => (gopB s = true ∧ e = .returned (.tuple #[]) ∧ w'.heap[b]? = some (.cells (opw (opC s)).cells 25 (0, 0)) ∨ gopB s = false ∧ (∃ p, e = pnc p) ∧ w'.heap[b]? = some (.cells #[.int .i64 0, .int .i64 0, .string ⟨#[]⟩, .int .i64 0, .int .i64 0, .int .i64 0, .int .i64 0, .int .i64 0, .int .i64 0, .string ⟨#[]⟩, .int .i64 0] 25 (0, 0))) ∧ Keep1 b w w' := by
  have HO := hide (opIn s w hs hH)
  have HB := hide hb
  clear hs hH hb
  generalize opC s = oc at *
  obtain ⟨K, no, k, n, ⟨mK, mF, mT, mI, mL, mk, mN⟩⟩ := oc
  go_enter Tryz.func44, Tryz.ntmps44
  go_wp2_with fail
  refine (unhide HO).mono ?_
  rintro e w1 ⟨hcase, hb1⟩
  have HB1 := hide (blk_step (unhide HB) hb1)
  have HK1 := hide (Keep1.of_below (g := b) hb1)
  clear hb1
  rcases hcase with ⟨hyes, rfl⟩ | ⟨hno, p, rfl⟩
  · obtain ⟨⟨d0, d1, d2, d3, d4, d5, d6, d7, d8, d9, d10⟩, f0, f1, f2, f3, f4, f5, f6, f7, f8, f9, f10⟩ := eleven_at (unhide HB1)
    go_wp2_with fail
    refine bodyPost_atE (fun W' hW' => ?_)
    have hR : W'.heap[b]? = some (.cells #[.int .i64 K, .int .i64 no, .string k, .int .i64 n, .int .i64 mK, .int .i64 mF, .int .i64 mT, .int .i64 mI, .int .i64 mL, .string mk, .int .i64 mN] 25 (0, 0)) := by rw [hW']; exact eleven_set (unhide HB1)
    have hK : Keep1 b w W' := by
      rw [hW']
      exact (((((((((((unhide HK1).trans (Keep1.set _)).trans (Keep1.set _)).trans (Keep1.set _)).trans (Keep1.set _)).trans (Keep1.set _)).trans (Keep1.set _)).trans (Keep1.set _)).trans (Keep1.set _)).trans (Keep1.set _)).trans (Keep1.set _)).trans (Keep1.set _)
    exact bodyPost_end (v := .tuple #[]) (by simp [results, Tryz.results44, go_sem]) rfl ⟨.inl ⟨hyes, rfl, hR⟩, hK⟩
  · go_wp2_with fail
    exact ⟨rfl, .inr ⟨hno, ⟨_, rfl⟩, unhide HB1⟩, unhide HK1⟩
set_option maxRecDepth 100000 in
set_option maxHeartbeats 2000000 in
theorem wasReadOp (a b : Nat) (s : ByteArray) (w : World) (hs : s.size ≤ maxLen) (hH : Handle w) (ha : w.cell? ⟨a, 0, none⟩ = some (.string s)) (hb : w.heap[b]? = some (.cells #[.int .i64 0, .int .i64 0, .string ⟨#[]⟩, .int .i64 0, .int .i64 0, .int .i64 0, .int .i64 0, .int .i64 0, .int .i64 0, .string ⟨#[]⟩, .int .i64 0] 25 (0, 0))) :
    Calls Tryz.prog 34 #[.func (.func 44) #[] #[.pointer (some ⟨a, 0, none⟩), .pointer (some ⟨b, 0, none⟩)]] w fun e w' => e = .returned (.bool (gopB s)) ∧ w'.heap[b]? = some (.cells (opw (getOp s)).cells 25 (0, 0)) ∧ Keep1 b w w' := by
  have HC := hide (getClosure a b s w hs hH ha hb)
  have HY : Hid (gopB s = true → opw (getOp s) = opw (opC s)) := fun h => by unfold getOp; rw [if_pos h]
  have HN : Hid (gopB s = false → opw (getOp s) = .agg #[.int .i64 0, .int .i64 0, .string ⟨#[]⟩, .int .i64 0, .int .i64 0, .int .i64 0, .int .i64 0, .int .i64 0, .int .i64 0, .string ⟨#[]⟩, .int .i64 0]) := fun h => by unfold getOp; rw [if_neg (by rw [h]; simp)]; rfl
  clear hs hH ha hb
  generalize gopB s = OK at *
  generalize opw (getOp s) = G at *
  generalize opw (opC s) = GC at *
  have hdf : ∀ (fn : Fn) (first cap : Array Value) (w : World), (Instr.makeFunc fn first cap).run Tryz.prog w = .ok (.func fn first cap) w := fun _ _ _ _ => rfl
  go_enter_defers Tryz.func34, Tryz.ntmps34
  go_wp2_with fail
  refine (unhide HC).mono ?_
  rintro e w1 ⟨hcase, hk⟩
  have HK := hide hk
  clear hk HC
  rcases hcase with ⟨rfl, rfl, hR⟩ | ⟨rfl, ⟨p, rfl⟩, hR⟩
  · have hG := unhide HY rfl
    subst hG
    have HR := hide hR
    clear hR HY HN
    go_wp2_with fail
    refine leaves_cons (f := 66) (args := #[]) (by simp) (by simp [go_sem]) ?_
    refine (catch_idle _).mono ?_
    rintro e u' w'' ⟨rfl, rfl, rfl⟩
    simp [Leaves, settle, results, Tryz.results34, go_sem]
    exact ⟨unhide HR, unhide HK⟩
  · have hG := unhide HN rfl
    subst hG
    have HR := hide hR
    clear hR HY HN
    go_wp2_with fail
    refine leaves_cons (f := 66) (args := #[]) (by simp) (by simp [go_sem]) ?_
    refine (catch_pnc p [] _).mono ?_
    rintro e u' w'' ⟨rfl, rfl, hb⟩
    have HR2 := hide (blk_step (unhide HR) hb)
    have HK2 := hide ((unhide HK).trans (Keep1.of_below hb))
    clear hb
    simp [Leaves, settle, results, Tryz.results34, go_sem]
    exact ⟨unhide HR2, unhide HK2⟩
set_option maxRecDepth 100000 in
set_option maxHeartbeats 2000000 in
theorem implGetOp (s : ByteArray) (hs : s.size ≤ maxLen) (w : World) (hH : Handle w) : Calls Tryz.prog 14 #[.string s] w fun e w' => e = .returned (gopV s) ∧ Below w.heap.size w w' := by
  obtain ⟨hP, hR, hO, hB⟩ := allocsG3 w (.cells #[.string s] 9) (.cells #[.int .i64 0, .int .i64 0, .string ⟨#[]⟩, .int .i64 0, .int .i64 0, .int .i64 0, .int .i64 0, .int .i64 0, .int .i64 0, .string ⟨#[]⟩, .int .i64 0] 25) (.cells #[.int .i64 0, .int .i64 0, .string ⟨#[]⟩, .int .i64 0, .int .i64 0, .int .i64 0, .int .i64 0, .int .i64 0, .int .i64 0, .string ⟨#[]⟩, .int .i64 0] 25)
  have hc : (((w.alloc (.cells #[.string s] 9)).alloc (.cells #[.int .i64 0, .int .i64 0, .string ⟨#[]⟩, .int .i64 0, .int .i64 0, .int .i64 0, .int .i64 0, .int .i64 0, .int .i64 0, .string ⟨#[]⟩, .int .i64 0] 25)).alloc (.cells #[.int .i64 0, .int .i64 0, .string ⟨#[]⟩, .int .i64 0, .int .i64 0, .int .i64 0, .int .i64 0, .int .i64 0, .int .i64 0, .string ⟨#[]⟩, .int .i64 0] 25)).cell? ⟨w.heap.size, 0, none⟩ = some (.string s) := cell_of_row _ w.heap.size 0 _ 9 (0, 0) hP
  have HW := hide (wasReadOp w.heap.size (w.heap.size + 1 + 1) s _ hs (hH.below hB) hc hO)
  have HR := hide hR
  have HB := hide hB
  unfold gopV
  clear hP hR hO hB hc hs hH
  generalize gopB s = OK at *
  generalize getOp s = oc at *
  obtain ⟨K, no, k, n, ⟨mK, mF, mT, mI, mL, mk, mN⟩⟩ := oc
  have hmf : ∀ (fn : Fn) (first cap : Array Value) (w : World), (Instr.makeFunc fn first cap).run Tryz.prog w = .ok (.func fn first cap) w := fun _ _ _ _ => rfl
  go_enter Tryz.func14, Tryz.ntmps14
  go_wp2_with fail
  refine (unhide HW).mono ?_
  rintro e w1 ⟨rfl, hO1, hk⟩
  have HO1 : Hid (w1.heap[w.heap.size + 1 + 1]? = some (.cells #[.int .i64 K, .int .i64 no, .string k, .int .i64 n, .int .i64 mK, .int .i64 mF, .int .i64 mT, .int .i64 mI, .int .i64 mL, .string mk, .int .i64 mN] 25 (0, 0))) := hO1
  have HR1 := hide (hk.obj (unhide HR) (show w.heap.size + 1 ≠ w.heap.size + 1 + 1 by omega))
  have HB1 := hide (hk.below (unhide HB) (by omega) (unhide HB).size)
  clear hk hO1 HW HR HB
  have hz1 := blk_lt (unhide HR1)
  have hz2 := blk_lt (unhide HO1)
  obtain ⟨⟨o0, o1, o2, o3, o4, o5, o6, o7, o8, o9, o10⟩, _⟩ := eleven_at (unhide HO1)
  obtain ⟨⟨d0, d1, d2, d3, d4, d5, d6, d7, d8, d9, d10⟩, f0, f1, f2, f3, f4, f5, f6, f7, f8, f9, f10⟩ := eleven_at (unhide HR1)
  go_wp2_with fail
  refine bodyPost_atE (fun W' hW' => ?_)
  obtain ⟨⟨r0, r1, r2, r3, r4, r5, r6, r7, r8, r9, r10⟩, _⟩ := eleven_at (show W'.heap[w.heap.size + 1]? = some (.cells #[.int .i64 K, .int .i64 no, .string k, .int .i64 n, .int .i64 mK, .int .i64 mF, .int .i64 mT, .int .i64 mI, .int .i64 mL, .string mk, .int .i64 mN] 25 (0, 0)) by rw [hW']; exact eleven_set (unhide HR1))
  have hbb : Below w.heap.size w W' := by rw [hW']; exact eleven_set_below (unhide HB1) (by omega)
  exact bodyPost_ret (v := .tuple #[.agg #[.int .i64 K, .int .i64 no, .string k, .int .i64 n, .int .i64 mK, .int .i64 mF, .int .i64 mT, .int .i64 mI, .int .i64 mL, .string mk, .int .i64 mN], .bool OK]) (by simp [results, Tryz.results14, go_sem, r0, r1, r2, r3, r4, r5, r6, r7, r8, r9, r10]) rfl ⟨rfl, hbb⟩



abbrev encO (o : Op5) : List Value := [.int .i64 o.K, .int .i64 o.no, .string o.k, .int .i64 o.n, .int .i64 o.m.K, .int .i64 o.m.F, .int .i64 o.m.T, .int .i64 o.m.I, .int .i64 o.m.L, .string o.m.k, .int .i64 o.m.N]
theorem encO_length (o : Op5) : (encO o).length = 11 := rfl
theorem encO_one : ∀ (o : Op5), ∀ u ∈ encO o, u.oneCell' = true := by
  intro o u hu
  simp only [encO, List.mem_cons, List.not_mem_nil, or_false] at hu
  rcases hu with rfl | rfl | rfl | rfl | rfl | rfl | rfl | rfl | rfl | rfl | rfl <;> rfl
theorem flatO_snoc (l : List Op5) (o : Op5) : GR.flat encO (l ++ [o]) = GR.flat encO l ++ encO o := by rw [GR.flat_append, GR.flat_one]
abbrev OpsAt (w : World) (a : Option Addr) (l : List Op5) : Prop := GR.At encO 11 w a l
theorem OpsAt.eleven {w : World} {a : Option Addr} {l : List Op5} (h : OpsAt w a l) (i : Nat) (hi : i < l.length) : ∃ g off, a = some ⟨g, off, none⟩ ∧ g < w.heap.size ∧ w.cell? ⟨g, off + i * 11, none⟩ = some (.int .i64 l[i].K) ∧ w.cell? ⟨g, off + i * 11 + 1, none⟩ = some (.int .i64 l[i].no) ∧ w.cell? ⟨g, off + i * 11 + 2, none⟩ = some (.string l[i].k) ∧ w.cell? ⟨g, off + i * 11 + 3, none⟩ = some (.int .i64 l[i].n) ∧ w.cell? ⟨g, off + i * 11 + 4, none⟩ = some (.int .i64 l[i].m.K) ∧ w.cell? ⟨g, off + i * 11 + 5, none⟩ = some (.int .i64 l[i].m.F) ∧ w.cell? ⟨g, off + i * 11 + 6, none⟩ = some (.int .i64 l[i].m.T) ∧ w.cell? ⟨g, off + i * 11 + 7, none⟩ = some (.int .i64 l[i].m.I) ∧ w.cell? ⟨g, off + i * 11 + 8, none⟩ = some (.int .i64 l[i].m.L) ∧ w.cell? ⟨g, off + i * 11 + 9, none⟩ = some (.string l[i].m.k) ∧ w.cell? ⟨g, off + i * 11 + 10, none⟩ = some (.int .i64 l[i].m.N) := by
  obtain ⟨g, off, e, hg, hc⟩ := h i hi
  refine ⟨g, off, e, hg, ?_, ?_, ?_, ?_, ?_, ?_, ?_, ?_, ?_, ?_, ?_⟩
  · simpa using hc 0 (by omega)
  · simpa [Nat.add_assoc] using hc 1 (by omega)
  · simpa [Nat.add_assoc] using hc 2 (by omega)
  · simpa [Nat.add_assoc] using hc 3 (by omega)
  · simpa [Nat.add_assoc] using hc 4 (by omega)
  · simpa [Nat.add_assoc] using hc 5 (by omega)
  · simpa [Nat.add_assoc] using hc 6 (by omega)
  · simpa [Nat.add_assoc] using hc 7 (by omega)
  · simpa [Nat.add_assoc] using hc 8 (by omega)
  · simpa [Nat.add_assoc] using hc 9 (by omega)
  · simpa [Nat.add_assoc] using hc 10 (by omega)

theorem run_append_where {P : Program} (w : World) (base : Nat) (t ty e : TypeId) (i : TypeInfo) (z : Value) (size bytes : Nat) (ht : P.underlying t = some (.slice e)) (hi : P.info? e = some i) (hz : i.zero = some z)
    (hsize : i.size = size) (hby : i.bytes = bytes) (hzs : z.cells.size = size) (hsz : 0 < size)
    (v : Value) (n : Nat) (xs : List Value) (hown : w.ownsRow base e size v n xs)
    (a : Addr) (m c : Nat) (news : List Value) (hl : news.length = m * size) (hnews : ∀ j u, news[j]? = some u → w.cell? (a.add j) = some u) (h1 : ∀ u ∈ news, u.oneCell' = true)
    (h63 : n + m ≤ maxLen) (hbytes : (n + m) * bytes ≤ 140737488355328) (hbase : base ≤ w.heap.size) :
    ∃ v' w', (Builtin.append_ #[t, t] ty #[v, .slice (some a) m c]).run P w = .ok v' w' ∧ w'.ownsRow base e size v' (n + m) (xs ++ news) ∧ w.grownBy w' v.ownBlock ∧
      ∀ x, v'.ownBlock = some x → v.ownBlock = some x ∨ w.heap.size ≤ x := by
  obtain ⟨v', w', hr, ho, hg, _⟩ := run_append_own w base t ty e i z size bytes ht hi hz hsize hby hzs hsz v n xs hown a m c news hl hnews h1 h63 hbytes hbase
  refine ⟨v', w', hr, ho, hg, fun x hx => ?_⟩
  have hsmall : n + m ≤ 9223372036854775807 := by simp only [maxLen] at h63; omega
  rcases hown.2 with ⟨rfl, rfl⟩ | ⟨g, cap, cur, rfl, hbg, hgg, hnc, hcm, hcs, htake⟩
  · have hxs : xs = [] := List.eq_nil_of_length_eq_zero (by simpa using hown.1)
    subst hxs
    obtain ⟨v2, w2, hr2, ho2, _, _⟩ := run_append_own w w.heap.size t ty e i z size bytes ht hi hz hsize hby hzs hsz (.slice none 0 0) 0 [] (World.ownsRow_nil w _ e size) a m c news hl hnews h1 h63 hbytes (Nat.le_refl _)
    have he := hr.symm.trans hr2
    simp only [Result.ok.injEq] at he
    obtain ⟨rfl, rfl⟩ := he
    exact .inr (ho2.lt x hx).1
  · subst hsize
    subst hby
    by_cases hroom : n + m ≤ cap
    · have hfit : n * i.size + news.length ≤ cur.size := by rw [hl, hcs, ← Nat.add_mul]; exact Nat.mul_le_mul_right _ hroom
      have hr2 := run_append_room (P := P) w t ty e i ht hi g n cap cur hgg a m c news hl hnews h1 hroom hfit
      have he := hr.symm.trans hr2
      simp only [Result.ok.injEq] at he
      obtain ⟨rfl, _⟩ := he
      exact .inl hx
    · have holds : ∀ j u, xs[j]? = some u → w.cell? ((⟨g, 0, none⟩ : Addr).add j) = some u := hown.cells (g := g) rfl
      have hr2 := run_append_grow (P := P) w t ty e i z ht hi hz ⟨g, 0, none⟩ n cap xs hown.1 holds a m c news hl hnews (by omega) (by omega) (growslice_fits (by omega) hbytes)
      have he := hr.symm.trans hr2
      simp only [Result.ok.injEq] at he
      obtain ⟨rfl, _⟩ := he
      have : w.heap.size = x := by simpa [Value.ownBlock] using hx
      exact .inr (by omega)
theorem wp_append_where {P : Program} (w : World) {o : Oper} {a : Act} {K : Act → World → Prop} {Q : Exit → Act → World → Prop} (s x : Operand) (t : TypeId)
    (ho : o.op = .call { callee := .builtin .append, args := #[s, x], argTypes := #[t, t] })
    (base : Nat) (e : TypeId) (i : TypeInfo) (z : Value) (size bytes : Nat) (ht : P.underlying t = some (.slice e)) (hi : P.info? e = some i) (hz : i.zero = some z)
    (hsize : i.size = size) (hby : i.bytes = bytes) (hzs : z.cells.size = size) (hsz : 0 < size)
    (v : Value) (n : Nat) (xs : List Value) (hs : a.eval s = v) (hown : w.ownsRow base e size v n xs)
    (ad : Addr) (m c : Nat) (news : List Value) (hx : a.eval x = .slice (some ad) m c) (hl : news.length = m * size) (hnews : ∀ j u, news[j]? = some u → w.cell? (ad.add j) = some u) (h1 : ∀ u ∈ news, u.oneCell' = true)
    (h63 : n + m ≤ maxLen) (hbytes : (n + m) * bytes ≤ 140737488355328) (hbase : base ≤ w.heap.size)
    (h : ∀ v' w', w'.ownsRow base e size v' (n + m) (xs ++ news) → w.grownBy w' v.ownBlock → (∀ x, v'.ownBlock = some x → v.ownBlock = some x ∨ w.heap.size ≤ x) → K (a.put o.dst v') w') : o.wp P a w K Q := by
  obtain ⟨v', w', hr, h2, h3, h4⟩ := run_append_where w base t o.type e i z size bytes ht hi hz hsize hby hzs hsz v n xs hown ad m c news hl hnews h1 h63 hbytes hbase
  exact Lib.wp_append_run w s x t t ho _ _ hs hx v' w' hr (h v' w' h2 h3 h4)

section
variable {P : Program} {ops : Array Oper} {Q : Exit → Act → World → Prop} {md : Region.Mode} {E : Nat}

/-- What an operation waits for. -/
def depsOf (md : Region.Mode) (ops : Array Oper) (j : Nat) : List Nat := match ops[j]? with
  | some o => (o.after.toList.filter (fun e => Region.binds md e)).map (fun e => e.on)
  | none => []
def ancS (md : Region.Mode) (ops : Array Oper) (S : List Nat) : List Nat := (S ++ S.flatMap (depsOf md ops)).eraseDups
/-- All that must have come ahead of it. -/
def anc (md : Region.Mode) (ops : Array Oper) (E : Nat) : Nat → List Nat
  | 0 => depsOf md ops E
  | n + 1 => ancS md ops (anc md ops E n)
def ClosedL (md : Region.Mode) (ops : Array Oper) (L : Array Bool) : Prop := ∀ j oj, ops[j]? = some oj → L.getD j false = true → ∀ e ∈ oj.after, Region.binds md e = true → L.getD e.on false = true
def closedB (md : Region.Mode) (ops : Array Oper) (L : Array Bool) : Bool := (List.range ops.size).all fun j => !(L.getD j false) || (depsOf md ops j).all (fun k => L.getD k false)
theorem mem_depsOf {j : Nat} {oj : Oper} (hj : ops[j]? = some oj) {k : Nat} : k ∈ depsOf md ops j ↔ ∃ e ∈ oj.after, Region.binds md e = true ∧ e.on = k := by
  unfold depsOf
  rw [hj]
  simp only [List.mem_map, List.mem_filter, Array.mem_toList_iff]
  constructor
  · rintro ⟨e, ⟨h1, h2⟩, h3⟩; exact ⟨e, h1, h2, h3⟩
  · rintro ⟨e, h1, h2, h3⟩; exact ⟨e, ⟨h1, h2⟩, h3⟩
theorem closedB_spec {L : Array Bool} (h : closedB md ops L = true) : ClosedL md ops L := by
  intro j oj hj hl e he hb
  unfold closedB at h
  rw [List.all_eq_true] at h
  have hjs : j < ops.size := by
    rcases Nat.lt_or_ge j ops.size with h' | h'
    · exact h'
    · rw [Array.getElem?_eq_none h'] at hj; cases hj
  have h1 := h j (List.mem_range.2 hjs)
  rw [hl] at h1
  simp only [Bool.not_true, Bool.false_or, List.all_eq_true] at h1
  exact h1 e.on ((mem_depsOf hj).2 ⟨e, he, hb, rfl⟩)
theorem anc_listed {L : Array Bool} (hc : ClosedL md ops L) (hE : E ∈ Region.ready md ops L) : ∀ n, ∀ k ∈ anc md ops E n, L.getD k false = true := by
  obtain ⟨_, o, ho, hall⟩ := mem_ready.1 hE
  intro n
  induction n with
  | zero =>
    intro k hk
    obtain ⟨e, he, hb, rfl⟩ := (mem_depsOf ho).1 hk
    exact hall e he hb
  | succ n ih =>
    intro k hk
    have hk' : k ∈ (anc md ops E n ++ (anc md ops E n).flatMap (depsOf md ops)).eraseDups := hk
    rw [List.mem_eraseDups, List.mem_append, List.mem_flatMap] at hk'
    rcases hk' with h | ⟨d, hd, hkd⟩
    · exact ih k h
    · cases hod : ops[d]? with
      | none => unfold depsOf at hkd; rw [hod] at hkd; cases hkd
      | some od =>
        obtain ⟨e, he, hb, rfl⟩ := (mem_depsOf hod).1 hkd
        exact hc d od hod (ih d hd) e he hb
theorem closed_set {L : Array Bool} {j : Nat} (hc : ClosedL md ops L) (hj : j ∈ Region.ready md ops L) : ClosedL md ops (L.setIfInBounds j true) := by
  obtain ⟨_, o, ho, hall⟩ := mem_ready.1 hj
  intro k ok hk hl e he hb
  by_cases hjk : j = k
  · subst hjk
    obtain rfl := Option.some.inj (ho.symm.trans hk)
    exact getD_set_true (hall e he hb)
  · rw [getD_set_ne false hjk] at hl
    exact getD_set_true (hc k ok hk hl e he hb)

def wpMixE (P : Program) (md : Region.Mode) (ops : Array Oper) (Q : Exit → Act → World → Prop) (E : Nat) : Nat → Array Bool → Act → World → Prop
  | 0, listed, a, w => Region.ready md ops listed = [] ∧ ∀ x, Ge w x → Q .normal a x
  | fuel + 1, listed, a, w => (Region.ready md ops listed = [E] ∧ ∀ x, Ge w x → wpAny P md ops Q (fuel + 1) listed a x) ∨
      ∀ x, Ge w x → (Region.ready md ops listed = [] → Q .normal a x) ∧ ∀ i ∈ Region.ready md ops listed, wpOp P ops Q i (fun a' y => Ge x y ∧ wpMixE P md ops Q E fuel (listed.setIfInBounds i true) a' y) a x

theorem wpMixE_grow {fuel : Nat} {listed : Array Bool} {a : Act} {w x : World} (hx : Ge w x) (h : wpMixE P md ops Q E fuel listed a w) : wpMixE P md ops Q E fuel listed a x := by
  cases fuel with
  | zero => exact ⟨h.1, fun y hy => h.2 y (Ge.trans hx hy)⟩
  | succ fuel =>
    rcases h with ⟨h1, h2⟩ | h
    · exact .inl ⟨h1, fun y hy => h2 y (Ge.trans hx hy)⟩
    · exact .inr fun y hy => h y (Ge.trans hx hy)
theorem wpAny_of_mixE : ∀ (fuel : Nat) (listed : Array Bool) (a : Act) (w : World), wpMixE P md ops Q E fuel listed a w → wpAny P md ops Q fuel listed a w
  | 0, _, _, w, h => ⟨h.1, h.2 w (Below.refl _ _)⟩
  | _ + 1, _, _, w, .inl h => h.2 w (Below.refl _ _)
  | fuel + 1, _, _, w, .inr h => ⟨(h w (Below.refl _ _)).1, fun i hi => wpOp_mono (fun a' y hy => wpAny_of_mixE fuel _ a' y hy.2) ((h w (Below.refl _ _)).2 i hi)⟩

theorem wpMixE_first {i : Nat} {oi : Oper} {v : Value} (n : Nat) (hi : ops[i]? = some oi) (hE : i ∈ anc md ops E n) (hsel : ∀ (j : Nat) (o : Oper) cs b, ops[j]? = some o → o.op ≠ .select cs b) (hQ : ∀ c a w, Q (.panic c) (a.put oi.dst v) w → Q (.panic c) a w) :
    ∀ (fuel : Nat) (listed : Array Bool) (a : Act) (w : World), ClosedL md ops listed →
      (∀ j oj, ops[j]? = some oj → j ≠ i → listed.getD j true = false → (∀ e ∈ oj.after, Region.binds md e = true → e.on ≠ i) → oi.apart ops oj = true) →
      i ∈ Region.ready md ops listed → YieldsG P ops oi v a w → wpMixE P md ops Q E fuel (listed.setIfInBounds i true) (a.put oi.dst v) w → wpMixE P md ops Q E (fuel + 1) listed a w := by
  intro fuel
  induction fuel with
  | zero =>
    intro listed a w _ _ hr hy H
    refine .inr fun x hx => ⟨fun h => (by rw [h] at hr; cases hr), fun j hj => ?_⟩
    by_cases hji : j = i
    · subst hji
      exact hy.wpOp hi hx fun y hy' => ⟨hy', wpMixE_grow (Ge.trans hx hy') H⟩
    · have := ready_mono hj hji
      rw [H.1] at this
      cases this
  | succ fuel ih =>
    intro listed a w hcl hfree hr hy H
    refine .inr fun x hx => ⟨fun h => (by rw [h] at hr; cases hr), fun j hj => ?_⟩
    by_cases hji : j = i
    · subst hji
      exact hy.wpOp hi hx fun y hy' => ⟨hy', wpMixE_grow (Ge.trans hx hy') H⟩
    · rcases H with ⟨h1, _⟩ | H
      · exfalso
        have h2 := ready_mono hj hji
        rw [h1] at h2
        obtain rfl : j = E := by simpa using h2
        have h3 := anc_listed hcl hj n i hE
        have h4 := (mem_ready.1 hr).1
        rcases Nat.lt_or_ge i listed.size with h' | h'
        · simp [h'] at h3 h4; rw [h4] at h3; cases h3
        · simp [Array.getElem?_eq_none h'] at h3
      · have h1 := (H x hx).2 j (ready_mono hj hji)
        obtain ⟨hjun, oj, hoj, hall⟩ := mem_ready.1 hj
        have hnot : ∀ e ∈ oj.after, Region.binds md e = true → e.on ≠ i := fun e he hb heq => by
          have h2 := hall e he hb
          have h0 := (mem_ready.1 hr).1
          rw [heq] at h2
          rcases Nat.lt_or_ge i listed.size with h' | h'
          · simp [h'] at h0 h2; rw [h0] at h2; cases h2
          · simp [Array.getElem?_eq_none h'] at h2
        have h2 := wpOp_past hoj (hfree j oj hoj hji hjun hnot) (fun cs b => hsel i oi cs b hi) (fun cs b => hsel j oj cs b hoj) hQ h1
        refine wpOp_mono (fun a' y hy2 => ?_) h2
        obtain ⟨⟨hs1, hs2⟩, hg, hm⟩ := hy2
        refine ⟨hg, ih (listed.setIfInBounds j true) a' y (closed_set hcl hj) ?_ (ready_mono hr (Ne.symm hji)) ?_ ?_⟩
        · intro k ok hk hki hun hno
          refine hfree k ok hk hki ?_ hno
          by_cases hjk : j = k
          · subst hjk; exact hjun
          · rw [getD_set_ne true hjk] at hun; exact hun
        · unfold YieldsG at *
          rw [hs1, hs2]
          exact hy.imp (fun ⟨p, q⟩ => ⟨p, fun z hz => q z (Ge.trans (Ge.trans hx hg) hz)⟩) id
        · rw [Array.setIfInBounds_comm _ _ hji]
          exact hm

/-- Take number i first: it must have come ahead of E in every order. -/
theorem wpMixE_take (i n : Nat) {oi : Oper} {fuel : Nat} {listed : Array Bool} {a : Act} {w : World} (hi : ops[i]? = some oi) (hs : Region.noSelect ops = true) (hf : Region.free md ops listed i = true) (hr : (Region.ready md ops listed).contains i = true)
    (hcl : closedB md ops listed = true) (hE : (anc md ops E n).contains i = true)
    (hQ : ∀ v c a w, Q (.panic c) (a.put oi.dst v) w → Q (.panic c) a w)
    (h : ∀ K : Act → Prop, (∀ a', wpMixE P md ops Q E fuel (listed.setIfInBounds i true) a' w → K a') → if Region.wanted oi (yielded ops a.tmps) then ∃ v, (∀ p : Regrown, Oper.quietUpon P (Ge (Gr w p)) (Gr w p) v ((execOp a.eval oi).run P (Gr w p))) ∧ K (a.put oi.dst v) else K (a.put oi.dst undef)) :
    wpMixE P md ops Q E (fuel + 1) listed a w := by
  have h' := h _ fun _ h => h
  have hE' : i ∈ anc md ops E n := by simpa using hE
  by_cases hw : Region.wanted oi (yielded ops a.tmps) = true
  · rw [if_pos hw] at h'
    obtain ⟨v, hv, hk⟩ := h'
    refine wpMixE_first n hi hE' (Region.noSelect_spec hs) (hQ v) fuel listed a w (closedB_spec hcl) (Region.free_spec hi hf) (by simpa using hr) (.inl ⟨hw, fun x hx => ?_⟩) hk
    obtain ⟨p, rfl⟩ := regrown_of_below hx
    exact hv p
  · rw [if_neg hw] at h'
    exact wpMixE_first n hi hE' (Region.noSelect_spec hs) (hQ undef) fuel listed a w (closedB_spec hcl) (Region.free_spec hi hf) (by simpa using hr) (.inr ⟨by simpa using hw, rfl⟩) h'
/-- Number i alone may come up, and makes memory alone. -/
theorem wpMixE_one (i : Nat) {oi : Oper} {fuel : Nat} {listed : Array Bool} {a : Act} {w : World} (hi : ops[i]? = some oi) (hr : Region.ready md ops listed = [i]) (hw : Region.wanted oi (yielded ops a.tmps) = true)
    (h : ∀ x, Ge w x → oi.wp P a x (fun a' y => Ge x y ∧ wpMixE P md ops Q E fuel (listed.setIfInBounds i true) a' y) Q) : wpMixE P md ops Q E (fuel + 1) listed a w := by
  refine .inr fun x hx => ?_
  rw [hr]
  refine ⟨fun h => (by cases h), fun j hj => ?_⟩
  obtain rfl : j = i := by simpa using hj
  unfold wpOp
  simp only [hi]
  rw [if_pos hw]
  exact .inl (h x hx)
/-- From here on as it comes: E alone may come up. -/
theorem wpMixE_leave {fuel : Nat} {listed : Array Bool} {a : Act} {w : World} (hr : Region.ready md ops listed = [E]) (h : ∀ x, Ge w x → wpAny P md ops Q (fuel + 1) listed a x) : wpMixE P md ops Q E (fuel + 1) listed a w := .inl ⟨hr, h⟩
theorem wpAny_one (i : Nat) {oi : Oper} {fuel : Nat} {listed : Array Bool} {a : Act} {w : World} (hi : ops[i]? = some oi) (hr : Region.ready md ops listed = [i]) (hw : Region.wanted oi (yielded ops a.tmps) = true)
    (h : oi.wp P a w (wpAny P md ops Q fuel (listed.setIfInBounds i true)) Q) : wpAny P md ops Q (fuel + 1) listed a w := by
  refine ⟨fun h => (by rw [hr] at h; cases h), fun j hj => ?_⟩
  rw [hr] at hj
  obtain rfl : j = i := by simpa using hj
  unfold wpOp
  simp only [hi]
  rw [if_pos hw]
  exact .inl h
theorem wpAny_done {listed : Array Bool} {a : Act} {w : World} (hr : Region.ready md ops listed = []) (h : Q .normal a w) : wpAny P md ops Q 0 listed a w := ⟨hr, h⟩
/-- Whatever order is picked, in this world and in every one that has grown out of it. -/
def wpAnyG (P : Program) (md : Region.Mode) (ops : Array Oper) (Q : Exit → Act → World → Prop) (fuel : Nat) (listed : Array Bool) (a : Act) (w : World) : Prop := ∀ x, Ge w x → wpAny P md ops Q fuel listed a x
theorem wpAnyG_pure (i : Nat) {oi : Oper} {fuel : Nat} {listed : Array Bool} {a : Act} {w : World} (hi : ops[i]? = some oi) (hs : Region.noSelect ops = true) (hf : Region.free md ops listed i = true) (hr : (Region.ready md ops listed).contains i = true)
    (hQ : ∀ v c a w, Q (.panic c) (a.put oi.dst v) w → Q (.panic c) a w)
    (h : ∀ K : Act → Prop, (∀ a', wpAnyG P md ops Q fuel (listed.setIfInBounds i true) a' w → K a') → if Region.wanted oi (yielded ops a.tmps) then ∃ v, (∀ x : World, (execOp a.eval oi).run P x = .ok (.value v) x) ∧ K (a.put oi.dst v) else K (a.put oi.dst undef)) :
    wpAnyG P md ops Q (fuel + 1) listed a w := by
  have h' := h _ fun _ h => h
  intro x hx
  by_cases hw : Region.wanted oi (yielded ops a.tmps) = true
  · rw [if_pos hw] at h'
    obtain ⟨v, hv, hk⟩ := h'
    exact wpAny_take hi hs hf hr (hQ v) (.inl ⟨hw, hv⟩) (hk x hx)
  · rw [if_neg hw] at h'
    exact wpAny_take hi hs hf hr (hQ undef) (.inr ⟨by simpa using hw, rfl⟩) (h' x hx)
theorem wpAnyG_mixE (E : Nat) {fuel : Nat} {listed : Array Bool} {a : Act} {w : World} (h : wpMixE P md ops Q E fuel listed a w) : wpAnyG P md ops Q fuel listed a w := fun _ hx => wpAny_of_mixE _ _ _ _ (wpMixE_grow hx h)
theorem wp_region_anyG {id : Nat} {a : Act} {w : World} (hm : P.follows .mixedOrders = true) (h : wpAnyG P .any ops Q ops.size (Array.replicate ops.size false) a w) : (Code.region id ops true).wp P Q a w :=
  wp_region_any hm (h { w with drawn := w.drawn + 1 } ⟨rfl, rfl, rfl, Nat.le_refl _, fun _ _ => rfl⟩)
theorem wp_region_mixE (E : Nat) {id : Nat} {a : Act} {w : World} (hm : P.follows .mixedOrders = true) (h : wpMixE P .any ops Q E ops.size (Array.replicate ops.size false) a w) : (Code.region id ops true).wp P Q a w :=
  wp_region_any hm (wpAny_of_mixE _ _ _ _ (wpMixE_grow (w := w) (x := { w with drawn := w.drawn + 1 }) ⟨rfl, rfl, rfl, Nat.le_refl _, fun _ _ => rfl⟩ h))
end
end Go.Proofs.YtikdkijggejnfaaGreatDoor
