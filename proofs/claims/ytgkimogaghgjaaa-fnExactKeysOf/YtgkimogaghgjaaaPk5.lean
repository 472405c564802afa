/- Parts. -/
import Derived.Test.YtgkimogaghgjaaaPk2
import Derived.Test.YtgkimogaghgjaaaPk3
import Derived.Test.YtgkimogaghgjaaaPk4
import Derived.Deep.RegionHeld
import Derived.Laws.OwnMore
import Derived.Laws.Cover1
import Derived.Deep.Cut
namespace Go.Proofs.Ytgkimogaghgjaaa
open Go.RowKit
open Mth

abbrev ReqAt (w : World) (a : Option Addr) (l : List Rq) : Prop := GR.At encRq 4 w a l
abbrev ReqV (p : Rq) : Value := .agg #[.int .i64 p.no, .string p.k, .int .i64 p.n, .int .i64 p.s]
theorem ReqAt.four {w : World} {a : Option Addr} {l : List Rq} (h : ReqAt w a l) (i : Nat) (hi : i < l.length) : ∃ g off, a = some ⟨g, off, none⟩ ∧ g < w.heap.size ∧ w.cell? ⟨g, off + i * 4, none⟩ = some (.int .i64 l[i].no) ∧ w.cell? ⟨g, off + i * 4 + 1, none⟩ = some (.string l[i].k) ∧ w.cell? ⟨g, off + i * 4 + 2, none⟩ = some (.int .i64 l[i].n) ∧ w.cell? ⟨g, off + i * 4 + 3, none⟩ = some (.int .i64 l[i].s) := by
  obtain ⟨g, off, e, hg, hc⟩ := h i hi
  refine ⟨g, off, e, hg, ?_, ?_, ?_, ?_⟩
  · simpa using hc 0 (by omega)
  · simpa [Nat.add_assoc] using hc 1 (by omega)
  · simpa [Nat.add_assoc] using hc 2 (by omega)
  · simpa [Nat.add_assoc] using hc 3 (by omega)
abbrev ReqBlk (w : World) (g : Nat) (l : List Rq) : Prop := GR.Blk encRq 150 w g l
theorem ReqBlk.four {w : World} {g : Nat} {l : List Rq} (h : ReqBlk w g l) (i : Nat) (hi : i < l.length) : w.cell? ⟨g, i * 4, none⟩ = some (.int .i64 l[i].no) ∧ w.cell? ⟨g, i * 4 + 1, none⟩ = some (.string l[i].k) ∧ w.cell? ⟨g, i * 4 + 2, none⟩ = some (.int .i64 l[i].n) ∧ w.cell? ⟨g, i * 4 + 3, none⟩ = some (.int .i64 l[i].s) :=
  ⟨by simpa using GR.Blk.cell h encRq_length i hi 0 (by omega), by simpa using GR.Blk.cell h encRq_length i hi 1 (by omega), by simpa using GR.Blk.cell h encRq_length i hi 2 (by omega), by simpa using GR.Blk.cell h encRq_length i hi 3 (by omega)⟩
theorem ReqBlk.step {w w' : World} {g : Nat} {l : List Rq} (h : ReqBlk w g l) (hb : Below w.heap.size w w') : ReqBlk w' g l := by
  have hl := GR.Blk.lt h
  unfold ReqBlk GR.Blk at *
  rw [hb.block g hl]
  exact h
theorem infoReq : (Try.prog.info? 150).map (fun i => (i.zero, i.size, i.bytes)) = some (some (.agg #[.int .i64 0, .string ByteArray.empty, .int .i64 0, .int .i64 0]), 4, 40) := by kernel_rfl
theorem makeReq (n : Nat) (hn : n ≤ 2000000) : ∀ W : World, (Instr.makeSlice 57 (.int .i64 (n : Int)) (.int .i64 (n : Int))).run Try.prog W = .ok (.slice (some ⟨W.heap.size, 0, none⟩) n n) (W.alloc (.cells (GR.flat encRq (List.replicate n ⟨0, ByteArray.empty, 0, 0⟩)).toArray 150)) := by
  obtain ⟨i0, hi, hz0, hz1, hz2⟩ := info_parts infoReq
  intro W
  have h := run_make (P := Try.prog) W 57 150 i0 (.agg #[.int .i64 0, .string ByteArray.empty, .int .i64 0, .int .i64 0]) Try.underlying57 hi hz0 .i64 .i64 (n : Int) (n : Int) (by omega) (by omega) (by rw [hz2]; omega) (by omega)
  rw [hz1] at h
  have e := GR.made_flat encRq 4 encRq_length (by omega) ⟨0, ByteArray.empty, 0, 0⟩ (Value.cells (.agg #[.int .i64 0, .string ByteArray.empty, .int .i64 0, .int .i64 0])) rfl n
  simp only [Int.toNat_natCast] at h
  rw [e] at h
  exact h

set_option maxRecDepth 100000 in
theorem toReq (p : Rq) (w : World) : Calls Try.prog 98 #[ReqV p] w fun e w' => e = .returned (ReqV p) ∧ Below w.heap.size w w' := by
  obtain ⟨pno, pk, pn, ps⟩ := p
  go_enter Try.func98, Try.ntmps98
  go_wp2_with fail
  refine bodyPost_ret (v := .agg #[.int .i64 pno, .string pk, .int .i64 pn, .int .i64 ps]) (by simp [results, Try.results98, go_sem]) rfl ⟨rfl, ?_⟩
  exact (((Below.refl _ _).alloc (Nat.le_refl _) _).alloc (by simp) _).alloc (by simp; omega) _
set_option maxRecDepth 100000 in
theorem eqReq (p : Rq) (w : World) : Calls Try.prog 102 #[ReqV p, ReqV p] w fun e w' => e = .returned (.bool true) ∧ Below w.heap.size w w' := by
  obtain ⟨pno, pk, pn, ps⟩ := p
  go_enter Try.func102, Try.ntmps102
  go_wp2_with fail
  go_ret
  exact ⟨rfl, ((Below.refl _ _).alloc (Nat.le_refl _) _).alloc (by simp) _⟩
theorem take_setReq (l : List Rq) (z : Rq) (k : Nat) (hk : k < l.length) : (l.take k ++ List.replicate (l.length - k) z).set k l[k] = l.take (k + 1) ++ List.replicate (l.length - (k + 1)) z := by
  have hlen : (l.take k).length = k := by simp; omega
  rw [List.set_append_right _ _ (by omega), hlen, Nat.sub_self]
  have e : l.length - k = (l.length - (k + 1)) + 1 := by omega
  rw [e, List.replicate_succ, List.take_succ_eq_append_getElem hk, List.append_assoc]
  rfl

set_option maxRecDepth 100000 in
set_option maxHeartbeats 2000000 in
theorem toReqS (a : Option Addr) (cap : Nat) (l : List Rq) (w : World) (hl : l.length ≤ 1048576) (ha : ReqAt w a l) :
    Calls Try.prog 82 #[.slice a l.length cap] w fun e w' => e = .returned (.slice (some ⟨w.heap.size, 0, none⟩) l.length l.length) ∧ ReqBlk w' w.heap.size l ∧ Below w.heap.size w w' := by
  have hmk := makeReq l.length (by omega)
  have HA := hide ha
  clear ha
  go_enter Try.func82, Try.ntmps82
  go_wp2_with fail
  go_loopw [4] (fun i wr => ∃ k : Nat, k ≤ l.length ∧ i = .int .i64 k ∧ ReqBlk wr w.heap.size (l.take k ++ List.replicate (l.length - k) ⟨0, ByteArray.empty, 0, 0⟩) ∧ Below w.heap.size w wr) (fun i _ => l.length - (intOf i).toNat)
  case atStart => exact ⟨0, Nat.zero_le _, rfl, by unfold ReqBlk GR.Blk; rw [List.take_zero, List.nil_append, Nat.sub_zero]; exact heap_alloc_new w _, below_one' w _⟩
  case round =>
    obtain ⟨k, hk, rfl, hB, hbel⟩ := hrel
    have HB := hide hB
    have HBL := hide hbel
    clear hB hbel hmk
    by_cases hlt : k < l.length
    · obtain ⟨g, off, rfl, hgw, q0, q1, q2, q3⟩ := ReqAt.four (GR.At.below (unhide HA) (unhide HBL)) k hlt
      have TS := hide (take_setReq l ⟨0, ByteArray.empty, 0, 0⟩ k hlt)
      generalize l[k] = pu at *
      obtain ⟨pno, pk, pn, ps⟩ := pu
      dsimp only at q0 q1 q2 q3
      have hln : (l.take k ++ List.replicate (l.length - k) (⟨0, ByteArray.empty, 0, 0⟩ : Rq)).length = l.length := by simp; omega
      go_wp2_with fail
      refine (toReq ⟨pno, pk, pn, ps⟩ _).mono ?_
      rintro e w5 ⟨rfl, hb5⟩
      have HB5 := hide (ReqBlk.step (unhide HB) hb5)
      have HBL5 := hide ((unhide HBL).trans (hb5.mono (unhide HBL).size))
      clear hb5 q0 q1 q2 q3
      obtain ⟨s0, s1, s2, s3⟩ := ReqBlk.four (unhide HB5) k (by omega)
      have f0 := GR.Blk.free (unhide HB5) (k * 4)
      have f1 := GR.Blk.free (unhide HB5) (k * 4 + 1)
      have f2 := GR.Blk.free (unhide HB5) (k * 4 + 2)
      have f3 := GR.Blk.free (unhide HB5) (k * 4 + 3)
      go_wp2_with fail
      go_roundw
      case rel =>
        have h := GR.Blk.set (unhide HB5) encRq_length k (by omega) ⟨pno, pk, pn, ps⟩
        rw [unhide TS] at h
        exact ⟨k + 1, by omega, by go_num, h, GR.setW_below (o := k * 4) (Nat.le_refl w.heap.size) (encRq ⟨pno, pk, pn, ps⟩) (unhide HBL5)⟩
      case measure => simp [intOf]; omega
    · have hke : k = l.length := by omega
      subst hke
      have hnlt : decide ((l.length : Int) < (l.length : Int)) = false := by simp
      go_wp2_with fail
      go_ret
      have h := unhide HB
      rw [List.take_length, Nat.sub_self, List.replicate_zero, List.append_nil] at h
      exact ⟨rfl, h, unhide HBL⟩

set_option maxRecDepth 100000 in
theorem szReq (p : Rq) (left : Int) (w : World) (h0 : 0 ≤ left) (h1 : left ≤ 1048576) (hk : p.k.size ≤ maxLen) : Calls Try.prog 94 #[ReqV p, .int .i64 left] w fun e w' => e = .returned (.int .i64 (if (p.k.size : Int) ≤ left then left - p.k.size else -1)) ∧ Below w.heap.size w w' := by
  obtain ⟨pno, pk, pn, ps⟩ := p
  dsimp only at hk ⊢
  unfold maxLen at hk
  by_cases hc : (pk.size : Int) ≤ left
  · rw [if_pos hc]
    have hn : ¬ (left - (pk.size : Int) < 0) := by omega
    go_enter Try.func94, Try.ntmps94
    go_wp2_with fail
    go_ret
    exact ⟨rfl, (Below.refl _ _).alloc (Nat.le_refl _) _⟩
  · rw [if_neg hc]
    have hn : left - (pk.size : Int) < 0 := by omega
    go_enter Try.func94, Try.ntmps94
    go_wp2_with fail
    go_ret
    exact ⟨rfl, (Below.refl _ _).alloc (Nat.le_refl _) _⟩

set_option maxRecDepth 100000 in
set_option maxHeartbeats 2000000 in
theorem eqReqS (a b : Option Addr) (ca cb : Nat) (l : List Rq) (w : World) (hl : l.length ≤ 1048600) (ha : ReqAt w a l) (hb : ReqAt w b l) :
    Calls Try.prog 88 #[.slice a l.length ca, .slice b l.length cb] w fun e w' => e = .returned (.bool true) ∧ Below w.heap.size w w' := by
  have HA := hide ha
  have HB := hide hb
  clear ha hb
  go_enter Try.func88, Try.ntmps88
  go_wp2_with fail
  go_loopw [5] (fun i wr => ∃ k : Nat, k ≤ l.length ∧ i = .int .i64 k ∧ Below w.heap.size w wr) (fun i _ => l.length - (intOf i).toNat)
  case atStart => exact ⟨0, Nat.zero_le _, rfl, Below.refl _ _⟩
  case round =>
    obtain ⟨k, hk, rfl, hbel⟩ := hrel
    have HBL := hide hbel
    clear hbel
    by_cases hlt : k < l.length
    · obtain ⟨g1, o1, rfl, hg1, s0, s1, s2, s3⟩ := ReqAt.four (GR.At.below (unhide HA) (unhide HBL)) k hlt
      obtain ⟨g2, o2, rfl, hg2, t0, t1, t2, t3⟩ := ReqAt.four (GR.At.below (unhide HB) (unhide HBL)) k hlt
      generalize l[k] = pu at *
      have HEQ := hide (fun w1 => eqReq pu w1)
      obtain ⟨pno, pk, pn, ps⟩ := pu
      dsimp only at s0 s1 s2 s3 t0 t1 t2 t3
      go_wp2_with fail
      go_region_held (fun w' => (w'.cell? ⟨g1, o1 + k * 4, none⟩ = some (.int .i64 pno) ∧ w'.cell? ⟨g1, o1 + k * 4 + 1, none⟩ = some (.string pk) ∧ w'.cell? ⟨g1, o1 + k * 4 + 2, none⟩ = some (.int .i64 pn) ∧ w'.cell? ⟨g1, o1 + k * 4 + 3, none⟩ = some (.int .i64 ps)) ∧ w'.cell? ⟨g2, o2 + k * 4, none⟩ = some (.int .i64 pno) ∧ w'.cell? ⟨g2, o2 + k * 4 + 1, none⟩ = some (.string pk) ∧ w'.cell? ⟨g2, o2 + k * 4 + 2, none⟩ = some (.int .i64 pn) ∧ w'.cell? ⟨g2, o2 + k * 4 + 3, none⟩ = some (.int .i64 ps)) (go_keep)
        (first
          | (go_at_call 102; refine (unhide HEQ _).mono ?_; rintro e w5 ⟨rfl, hb5⟩; have hb6 : Below wr.heap.size wr w5 := ⟨hb5.os, hb5.tape, hb5.output, hb5.size, hb5.block⟩; clear hb5; have HBL5 := hide ((unhide HBL).trans (hb6.mono (unhide HBL).size)); have y0 := (hb6.cell (p := ⟨g1, o1 + k * 4, none⟩) hg1).trans s0; have y1 := (hb6.cell (p := ⟨g1, o1 + k * 4 + 1, none⟩) hg1).trans s1; have y2 := (hb6.cell (p := ⟨g1, o1 + k * 4 + 2, none⟩) hg1).trans s2; have y3 := (hb6.cell (p := ⟨g1, o1 + k * 4 + 3, none⟩) hg1).trans s3; have z0 := (hb6.cell (p := ⟨g2, o2 + k * 4, none⟩) hg2).trans t0; have z1 := (hb6.cell (p := ⟨g2, o2 + k * 4 + 1, none⟩) hg2).trans t1; have z2 := (hb6.cell (p := ⟨g2, o2 + k * 4 + 2, none⟩) hg2).trans t2; have z3 := (hb6.cell (p := ⟨g2, o2 + k * 4 + 3, none⟩) hg2).trans t3; clear hb6))
      all_goals
        go_wp2_with fail
        go_roundw
        case rel => exact ⟨k + 1, by omega, by go_num, unhide HBL5⟩
        case measure => simp [intOf]; omega
    · have hke : k = l.length := by omega
      subst hke
      have hnlt : decide ((l.length : Int) < (l.length : Int)) = false := by simp
      go_wp2_with fail
      go_ret
      exact ⟨rfl, unhide HBL⟩

set_option maxRecDepth 100000 in
set_option maxHeartbeats 2000000 in
theorem szReqS (a : Option Addr) (ca : Nat) (l : List Rq) (z0 : Int) (w : World) (h0 : 0 ≤ z0) (h1 : z0 ≤ 1048576) (hl : l.length ≤ maxLen) (hks : ∀ p ∈ l, p.k.size ≤ maxLen) (ha : ReqAt w a l) :
    Calls Try.prog 76 #[.slice a l.length ca, .int .i64 z0] w fun e w' => ∃ r : Int, e = .returned (.int .i64 r) ∧ Below w.heap.size w w' ∧ (r = -1 ∨ 0 ≤ r ∧ r ≤ 1048576 ∧ l.length ≤ 1048576 ∧ ∀ p ∈ l, p.k.size ≤ 1048576) := by
  have HA := hide ha
  clear ha
  unfold maxLen at hl
  by_cases hbig : (l.length : Int) ≤ z0
  · have hn : ¬ (z0 - (l.length : Int) < 0) := by omega
    go_enter Try.func76, Try.ntmps76
    go_wp2_with fail
    go_loopw [1, 5] (fun lf i wr => ∃ (k : Nat) (z : Int), k ≤ l.length ∧ i = .int .i64 k ∧ lf = .int .i64 z ∧ 0 ≤ z ∧ z ≤ 1048576 ∧ (∀ p ∈ l.take k, p.k.size ≤ 1048576) ∧ Below w.heap.size w wr) (fun _ i _ => l.length - (intOf i).toNat)
    case atStart => exact ⟨0, z0 - l.length, Nat.zero_le _, rfl, by go_num, by omega, by omega, fun p hp => by simp at hp, Below.refl _ _⟩
    case round =>
      obtain ⟨k, z, hk, rfl, rfl, hz0, hz1, hall, hbel⟩ := hrel
      have HALL := hide hall
      have HBL := hide hbel
      clear hall hbel
      by_cases hlt : k < l.length
      · obtain ⟨g, off, rfl, hgw, q0, q1, q2, q3⟩ := ReqAt.four (GR.At.below (unhide HA) (unhide HBL)) k hlt
        have hkk := hks l[k] (List.getElem_mem hlt)
        have HT := hide (List.take_succ_eq_append_getElem hlt)
        generalize l[k] = pu at *
        have HSZ := hide (fun w1 => szReq pu z w1 hz0 hz1 hkk)
        obtain ⟨pno, pk, pn, ps⟩ := pu
        dsimp only at q0 q1 q2 q3 hkk
        have hkm : pk.size ≤ maxLen := hkk
        unfold maxLen at hkk
        go_wp2_with fail
        refine (unhide HSZ _).mono ?_
        rintro e w5 ⟨rfl, hb5⟩
        have HBL5 := hide ((unhide HBL).trans (hb5.mono (unhide HBL).size))
        clear hb5 q0 q1 q2 q3
        dsimp only
        by_cases hc : (pk.size : Int) ≤ z
        · rw [if_pos hc]
          have hn2 : decide (z - (pk.size : Int) < 0) = false := decide_eq_false (by omega)
          go_wp2_with fail
          go_roundw
          case rel =>
            refine ⟨k + 1, z - pk.size, by omega, by go_num, rfl, by omega, by omega, ?_, unhide HBL5⟩
            intro p hp
            rw [unhide HT] at hp
            rcases List.mem_append.1 hp with h | h
            · exact unhide HALL p h
            · rw [List.mem_singleton] at h
              subst h
              show pk.size ≤ 1048576
              omega
          case measure => simp [intOf]; omega
        · rw [if_neg hc]
          go_wp2_with fail
          go_ret
          exact ⟨-1, rfl, unhide HBL5, .inl rfl⟩
      · have hke : k = l.length := by omega
        subst hke
        have hnlt : decide ((l.length : Int) < (l.length : Int)) = false := by simp
        go_wp2_with fail
        go_ret
        have h := unhide HALL
        rw [List.take_length] at h
        exact ⟨z, rfl, unhide HBL, .inr ⟨hz0, hz1, by omega, h⟩⟩
  · have hn : z0 - (l.length : Int) < 0 := by omega
    go_enter Try.func76, Try.ntmps76
    go_wp2_with fail
    go_ret
    exact ⟨-1, rfl, Below.refl _ _, .inl rfl⟩

/-- What was seen, as it lies. -/
def SeenAt (w : World) (a : Option Addr) (l : List Sn) : Prop := ∀ i (hi : i < l.length), ∃ g off b c, a = some ⟨g, off, none⟩ ∧ g < w.heap.size ∧ w.cell? ⟨g, off + i * 3, none⟩ = some (.int .i64 l[i].f) ∧ w.cell? ⟨g, off + i * 3 + 1, none⟩ = some (.int .i64 l[i].l) ∧ w.cell? ⟨g, off + i * 3 + 2, none⟩ = some (.slice b l[i].ids.length c) ∧ IntsAt w b l[i].ids
theorem SeenAt.below {w w' : World} {a : Option Addr} {l : List Sn} (h : SeenAt w a l) (hb : Below w.heap.size w w') : SeenAt w' a l := fun i hi => by
  obtain ⟨g, off, b, c, e, hg, h0, h1, h2, h3⟩ := h i hi
  exact ⟨g, off, b, c, e, Nat.lt_of_lt_of_le hg hb.size, (hb.cell (p := ⟨g, off + i * 3, none⟩) hg).trans h0, (hb.cell (p := ⟨g, off + i * 3 + 1, none⟩) hg).trans h1, (hb.cell (p := ⟨g, off + i * 3 + 2, none⟩) hg).trans h2, GR.At.below h3 hb⟩
/-- Where a node's lists lie, and their room. -/
structure Ads where
  k : Option Addr
  p : Option Addr
  o : Option Addr
  s : Option Addr
  r : Option Addr
  ck : Nat
  cp : Nat
  co : Nat
  cs : Nat
  cr : Nat
/-- The cells of a node. -/
abbrev ndc (n : Nd) (A : Ads) : Array Value := #[.int .i64 n.id, .int .i64 n.par, .slice A.k n.kids.length A.ck, .int .i64 n.next, .slice A.p n.pu.length A.cp, .slice A.o n.out.length A.co, .slice A.s n.seen.length A.cs, .int .i64 n.old, .slice A.r n.reqs.length A.cr]
abbrev ndv (n : Nd) (A : Ads) : Value := .agg (ndc n A)
structure NodeAt (w : World) (A : Ads) (n : Nd) : Prop where
  k : IntsAt w A.k n.kids
  p : PursesAt w A.p n.pu
  o : SentAt w A.o n.out
  s : SeenAt w A.s n.seen
  r : ReqAt w A.r n.reqs
theorem NodeAt.below {w w' : World} {A : Ads} {n : Nd} (h : NodeAt w A n) (hb : Below w.heap.size w w') : NodeAt w' A n :=
  ⟨GR.At.below h.k hb, GR.At.below h.p hb, GR.At.below h.o hb, h.s.below hb, GR.At.below h.r hb⟩
/-- Its lists and texts are not too long. -/
structure NdSz (n : Nd) (b : Nat) : Prop where
  k : n.kids.length ≤ b
  p : n.pu.length ≤ b
  o : n.out.length ≤ b
  s : n.seen.length ≤ b
  r : n.reqs.length ≤ b
  pk : ∀ x ∈ n.pu, x.k.size ≤ b
  ok : ∀ x ∈ n.out, x.k.size ≤ b
  sk : ∀ x ∈ n.seen, x.ids.length ≤ b
  rk : ∀ x ∈ n.reqs, x.k.size ≤ b
theorem NdSz.mono {n : Nd} {a b : Nat} (h : NdSz n a) (hab : a ≤ b) : NdSz n b :=
  ⟨Nat.le_trans h.k hab, Nat.le_trans h.p hab, Nat.le_trans h.o hab, Nat.le_trans h.s hab, Nat.le_trans h.r hab, fun x hx => Nat.le_trans (h.pk x hx) hab, fun x hx => Nat.le_trans (h.ok x hx) hab, fun x hx => Nat.le_trans (h.sk x hx) hab, fun x hx => Nat.le_trans (h.rk x hx) hab⟩
theorem obj_step {w w' : World} {g : Nat} {o : Obj} (h : w.heap[g]? = some o) (hb : Below w.heap.size w w') : w'.heap[g]? = some o := by
  rw [hb.block g (obj_lt h)]
  exact h
theorem nine {w : World} {g : Nat} {v0 v1 v2 v3 v4 v5 v6 v7 v8 : Value} {t : TypeId} (h : w.heap[g]? = some (.cells #[v0, v1, v2, v3, v4, v5, v6, v7, v8] t (0, 0))) :
    w.cell? ⟨g, 0, none⟩ = some v0 ∧ w.cell? ⟨g, 1, none⟩ = some v1 ∧ w.cell? ⟨g, 2, none⟩ = some v2 ∧ w.cell? ⟨g, 3, none⟩ = some v3 ∧ w.cell? ⟨g, 4, none⟩ = some v4 ∧ w.cell? ⟨g, 5, none⟩ = some v5 ∧ w.cell? ⟨g, 6, none⟩ = some v6 ∧ w.cell? ⟨g, 7, none⟩ = some v7 ∧ w.cell? ⟨g, 8, none⟩ = some v8 := by
  have hc : ∀ i, w.cell? ⟨g, i, none⟩ = #[v0, v1, v2, v3, v4, v5, v6, v7, v8][i]? := fun i => cell_of_row w g i _ t (0, 0) h
  exact ⟨hc 0, hc 1, hc 2, hc 3, hc 4, hc 5, hc 6, hc 7, hc 8⟩
theorem obj_free {w : World} {g : Nat} {cs : Array Value} {t : TypeId} (h : w.heap[g]? = some (.cells cs t (0, 0))) (i : Nat) : w.frozen? ⟨g, i, none⟩ = false := by
  unfold World.frozen?; rw [h]; simp
theorem drewN_below (w : World) (n : Nat) : Below w.heap.size w (w.drewN n) := ⟨rfl, rfl, rfl, Nat.le_refl _, fun _ _ => rfl⟩

theorem flatS (l : List ByteArray) : GR.flat encStr l = l.map Value.string := by
  induction l with
  | nil => rfl
  | cons x l ih => rw [GR.flat_cons, ih]; rfl
theorem flatS_at (l : List ByteArray) (j : Nat) (hj : j < l.length) : (GR.flat encStr l)[j]? = some (.string (hg l j)) := by
  rw [flatS, List.getElem?_map, List.getElem?_eq_getElem hj, hg_at hj]
  rfl
theorem flatS_set (l : List ByteArray) (j : Nat) (x : ByteArray) : (GR.flat encStr l).set j (.string x) = GR.flat encStr (l.set j x) := by
  rw [flatS, flatS, List.map_set]
/-- A heap of keys: its one cell at hb, its row at B or above. -/
structure HpW (w : World) (hb B : Nat) (v : Value) (l : List ByteArray) : Prop where
  h : w.heap[hb]? = some (.cells #[v] 74 (0, 0))
  o : w.ownsRow B 9 1 v l.length (GR.flat encStr l)
  b : hb < B
theorem HpW.below {w w' : World} {hb B : Nat} {v : Value} {l : List ByteArray} (h : HpW w hb B v l) (hbel : Below w.heap.size w w') : HpW w' hb B v l :=
  ⟨obj_step h.h hbel, GR.own_below h.o hbel, h.b⟩
theorem HpW.head {w : World} {hb B : Nat} {v : Value} {l : List ByteArray} (h : HpW w hb B v l) : w.cell? ⟨hb, 0, none⟩ = some v := by
  rw [cell_of_row w hb _ _ _ (0, 0) h.h]; rfl
theorem HpW.key {w : World} {hb B g cap : Nat} {l : List ByteArray} (h : HpW w hb B (.slice (some ⟨g, 0, none⟩) l.length cap) l) (j : Nat) (hj : j < l.length) : w.cell? ⟨g, j, none⟩ = some (.string (hg l j)) := by
  rw [h.o.cellAt j (by omega), flatS_at l j hj]
theorem HpW.set {w : World} {hb B g cap : Nat} {l : List ByteArray} (h : HpW w hb B (.slice (some ⟨g, 0, none⟩) l.length cap) l) (j : Nat) (x : ByteArray) : HpW (w.setCell ⟨g, j, none⟩ (.string x)) hb B (.slice (some ⟨g, 0, none⟩) l.length cap) (l.set j x) := by
  have hg := h.o.lt g rfl
  have hs := (h.o.stored j (.string x)).1
  rw [flatS_set] at hs
  refine ⟨(Below.heap_setCell _ _ _ _ (by have := h.b; simp; omega)).trans h.h, by rw [List.length_set]; exact hs, h.b⟩
set_option maxRecDepth 100000 in
set_option maxHeartbeats 2000000 in
theorem hpLeast (hb g cap B a : Nat) (l : List ByteArray) (w : World) (hw : HpW w hb B (.slice (some ⟨g, 0, none⟩) l.length cap) l) (ha : a < l.length ∨ a = 0) (hl : l.length ≤ 4398046511104) :
    Calls Try.prog 52 #[.pointer (some ⟨hb, 0, none⟩), .int .i64 a] w fun e w' => ∃ m : Nat, e = .returned (.int .i64 m) ∧ (m = a ∨ 0 < m ∧ m < l.length ∧ (m - 1) / 2 = a) ∧ ¬ sl (hg l a) (hg l m) ∧ (∀ c, 0 < c → c < l.length → (c - 1) / 2 = a → ¬ sl (hg l c) (hg l m)) ∧ Below w.heap.size w w' := by
  have HW := hide hw
  have c0 := hw.head
  clear hw
  go_enter Try.func52, Try.ntmps52
  go_wp2_with fail
  go_loopw [5, 6] (fun ls bl wr => ∃ m b q : Nat, ls = .int .i64 m ∧ bl = .int .i64 b ∧ 2 * a + 1 ≤ b ∧ b ≤ 2 * a + 3 ∧ (m = a ∨ 2 * a + 1 ≤ m ∧ m < b ∧ m < l.length) ∧ ¬ sl (hg l a) (hg l m) ∧ (∀ c, 2 * a + 1 ≤ c → c < b → c < l.length → ¬ sl (hg l c) (hg l m)) ∧ wr = w.drewN q) (fun _ bl _ => 2 * a + 3 - (intOf bl).toNat)
  case atStart => exact ⟨a, 2 * a + 1, 0, rfl, by go_num, Nat.le_refl _, by omega, .inl rfl, sl_irrefl _, fun c h1 h2 => by omega, rfl⟩
  case round =>
    obtain ⟨m, b, q, rfl, rfl, hb1, hb2, hm, hle, hall, rfl⟩ := hrel
    have HLE := hide hle
    have HALL := hide hall
    have HM := hide hm
    clear hle hall hm
    by_cases hc : b ≤ 2 * a + 2 ∧ b < l.length
    · obtain ⟨hc1, hc2⟩ := hc
      have hml : m < l.length := by rcases unhide HM with h | h <;> omega
      have y1 := (unhide HW).key b hc2
      have y2 := (unhide HW).key m hml
      have hd1 : decide ((b : Int) ≤ 2 * (a : Int) + 2) = true := decide_eq_true (by omega)
      have hd2 : decide ((b : Int) < (l.length : Int)) = true := decide_eq_true (by omega)
      cases hcmp : Op.bytesLess (hg l b).toList (hg l m).toList with
      | true =>
        have HC := hide ((less_iff _ _).1 hcmp)
        go_wp2_with fail
        go_quiet (fail)
        go_wp2_with fail
        go_roundw
        case rel =>
          refine ⟨b, b + 1, _, rfl, by go_num, by omega, by omega, .inr ⟨hb1, by omega, hc2⟩, fun h => unhide HLE (sl_trans h (unhide HC)), fun c h1 h2 h3 => ?_, rfl⟩
          by_cases e : c = b
          · subst e; exact sl_irrefl _
          · exact fun h => unhide HALL c h1 (by omega) h3 (sl_trans h (unhide HC))
        case measure => simp [intOf]; omega
      | false =>
        have HC := hide ((less_false_iff _ _).1 hcmp)
        go_wp2_with fail
        go_quiet (fail)
        go_wp2_with fail
        go_roundw
        case rel =>
          refine ⟨m, b + 1, _, rfl, by go_num, by omega, by omega, ?_, unhide HLE, fun c h1 h2 h3 => ?_, rfl⟩
          · rcases unhide HM with h | ⟨h, h', h''⟩
            · exact .inl h
            · exact .inr ⟨h, by omega, h''⟩
          · by_cases e : c = b
            · subst e; exact unhide HC
            · exact unhide HALL c h1 (by omega) h3
        case measure => simp [intOf]; omega
    · have HF : Hid (∃ m' : Nat, Ending.returned (.int .i64 m) = .returned (.int .i64 m') ∧ (m' = a ∨ 0 < m' ∧ m' < l.length ∧ (m' - 1) / 2 = a) ∧ ¬ sl (hg l a) (hg l m') ∧ (∀ c, 0 < c → c < l.length → (c - 1) / 2 = a → ¬ sl (hg l c) (hg l m')) ∧ Below w.heap.size w (w.drewN q)) := by
        refine ⟨m, rfl, ?_, unhide HLE, fun c h1 h2 h3 => unhide HALL c (by omega) (by omega) h2, drewN_below w q⟩
        rcases unhide HM with h | ⟨h, h', h''⟩
        · exact .inl h
        · exact .inr ⟨by omega, h'', by omega⟩
      by_cases h1 : b ≤ 2 * a + 2
      · have hd1 : decide ((b : Int) ≤ 2 * (a : Int) + 2) = true := decide_eq_true (by omega)
        have hd2 : decide ((b : Int) < (l.length : Int)) = false := decide_eq_false (by omega)
        go_wp2_with fail
        go_ret
        exact unhide HF
      · have hd1 : decide ((b : Int) ≤ 2 * (a : Int) + 2) = false := decide_eq_false (by omega)
        go_wp2_with fail
        go_ret
        exact unhide HF
end Go.Proofs.Ytgkimogaghgjaaa
