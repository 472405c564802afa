/-
  Texts of ours in one, so that the claim keeps to its count: OpPutD, OpGetM, OpOkI, Elevens, OpRd, OpIn, OpWas, OpPutS, MgGetS, OpGetS, OpGetI, MgEq, OpLawGetOp.
-/
import Derived.Test.YtiinpdkgnflmeaaDoorNdOpM
import Derived.Test.YtiinpdkgnflmeaaDoorMgPutD
import Derived.Test.YtiinpdkgnflmeaaDoorMgGetM
import Derived.Test.YtiinpdkgnflmeaaDoorNdOpI
import Derived.Test.YtiinpdkgnflmeaaDoorGrpMk
import Derived.Test.YtiinpdkgnflmeaaDoorMgI
import Derived.Test.YtiinpdkgnflmeaaDoorMix
import Derived.Test.YtiinpdkgnflmeaaDoorMgGetI
import Derived.Test.YtiinpdkgnflmeaaDoorSevens
import Derived.BigQuiet
import Derived.Deep.QuietTactic
import Derived.Test.YtiinpdkgnflmeaaDoorBase
import Derived.Defers
import Derived.Recover
import Derived.Test.YtiinpdkgnflmeaaDoorNdOpS
import Derived.Test.YtiinpdkgnflmeaaDoorMgPutS
import Derived.Test.YtiinpdkgnflmeaaDoorMgNums
import Derived.Test.YtiinpdkgnflmeaaDoorMgGetV
import Derived.BigRegion
namespace Go.Proofs.YtiinpdkgnflmeaaDoor
open Go.RowKit
open Mth

/-- An operation's bytes. -/
def opBytes (o : Op5) : ByteArray := kb o.K ++ putS o.no ++ putT o.k ++ putS o.n ++ putT (putMsg o.m)
def putOp (o : Op5) : ByteArray := if opOk o = true then opBytes o else ByteArray.empty
theorem putOp_yes {o : Op5} (h : opOk o = true) : putOp o = opBytes o := by unfold putOp; rw [if_pos h]
theorem putOp_no {o : Op5} (h : opOk o = false) : putOp o = ByteArray.empty := by unfold putOp; rw [if_neg (by rw [h]; simp)]
theorem opKind_in {o : Op5} (h : opOk o = true) : 0 ≤ o.K ∧ o.K ≤ 6 := by
  unfold opOk at h
  split at h
  · omega
  · split at h
    · omega
    · split at h
      · omega
      · split at h
        · omega
        · split at h
          · omega
          · cases h
theorem opBytes_pos (o : Op5) : 0 < (opBytes o).size := by
  unfold opBytes
  simp only [ByteArray.size_append, kb_size]
  omega
theorem opBytes_le (o : Op5) : (opBytes o).size ≤ 2025 := by
  unfold opBytes
  have s1 := putS_size o.no
  have s2 := putT_size o.k
  have s3 := putS_size o.n
  have s4 := putT_size (putMsg o.m)
  simp only [ByteArray.size_append, kb_size]
  omega
theorem conv_kind6 (w : World) (g : Nat) (K : Int) (h : 0 ≤ K ∧ K ≤ 6) (hc : w.cell? ⟨g, 0, none⟩ = some (.int .u8 K)) : (convert 68 9 (.slice (some ⟨g, 0, none⟩) 1 1)).run Tryd.prog w = .ok (.string (kb K)) w := by
  refine run_convert_bytes_back (P := Tryd.prog) w 68 9 5 ⟨g, 0, none⟩ 1 [UInt8.ofNat K.toNat] Tryd.underlying68 Tryd.underlying5 Tryd.underlying9 ?_
  intro j hj
  obtain rfl : j = 0 := by simpa using hj
  show w.cell? ⟨g, 0, none⟩ = _
  rw [hc]
  simp only [List.getElem_cons_zero]
  rw [toNat_byte _ (by omega)]
  congr 2
  omega
theorem wrap_kind6 (K : Int) (h0 : 0 ≤ K) (h6 : K ≤ 6) : IntKind.u8.wrap K = K := by
  have h3 : K = 0 ∨ K = 1 ∨ K = 2 ∨ K = 3 ∨ K = 4 ∨ K = 5 ∨ K = 6 := by omega
  rcases h3 with rfl | rfl | rfl | rfl | rfl | rfl | rfl <;> rfl
theorem elevenP {w : World} {g : Nat} {v0 v1 v2 v3 v4 v5 v6 v7 v8 v9 v10 : Value} {t : TypeId} (h : w.heap[g]? = some (.cells #[v0, v1, v2, v3, v4, v5, v6, v7, v8, v9, v10] t (0, 0))) :
    w.cell? ⟨g, 0, none⟩ = some v0 ∧ w.cell? ⟨g, 1, none⟩ = some v1 ∧ w.cell? ⟨g, 2, none⟩ = some v2 ∧ w.cell? ⟨g, 3, none⟩ = some v3 ∧ w.cell? ⟨g, 4, none⟩ = some v4 ∧ w.cell? ⟨g, 5, none⟩ = some v5 ∧ w.cell? ⟨g, 6, none⟩ = some v6 ∧ w.cell? ⟨g, 7, none⟩ = some v7 ∧ w.cell? ⟨g, 8, none⟩ = some v8 ∧ w.cell? ⟨g, 9, none⟩ = some v9 ∧ w.cell? ⟨g, 10, none⟩ = some v10 := by
  have hc : ∀ i, w.cell? ⟨g, i, none⟩ = #[v0, v1, v2, v3, v4, v5, v6, v7, v8, v9, v10][i]? := fun i => cell_of_row w g i _ t (0, 0) h
  exact ⟨hc 0, hc 1, hc 2, hc 3, hc 4, hc 5, hc 6, hc 7, hc 8, hc 9, hc 10⟩
end Go.Proofs.YtiinpdkgnflmeaaDoor
namespace Go.Proofs.YtiinpdkgnflmeaaDoor
open Mth

/-- The message's bytes, and the place behind them. -/
def opX (s : ByteArray) : Int := rdE s (rtE s (rdE s 1))
def opB (s : ByteArray) : ByteArray := rtS s (opX s)
def opE (s : ByteArray) : Int := rtE s (opX s)
/-- What stands in a text as an operation, right or not. -/
def opC (s : ByteArray) : Op5 := ⟨(s.data.toList.headD 0).toNat, rdN s 1, rtS s (rdE s 1), rdN s (rtE s (rdE s 1)), getMg (opB s)⟩
def bodyB (s : ByteArray) : Bool := decide ((opB s).size = 0) || getOk (opB s)
theorem mg0_not : mgOk mg0 = false := by decide
theorem size_zero {s : ByteArray} (h : s.size = 0) : s = ByteArray.empty := eq_empty s h
theorem getMg_nil {b : ByteArray} (h : b.size = 0) : getMg b = mg0 ∧ getOk b = false := by
  have ho : getOk b = false := by unfold getOk; rw [decide_eq_false (by omega)]; rfl
  refine ⟨?_, ho⟩
  unfold getMg
  rw [ho, if_neg (by simp)]
theorem body_back {s : ByteArray} (h : bodyB s = true) : putMsg (getMg (opB s)) = opB s := by
  by_cases h0 : (opB s).size = 0
  · rw [(getMg_nil h0).1, putMsg_no mg0_not, size_zero h0]
  · unfold bodyB at h
    rw [decide_eq_false h0, Bool.false_or] at h
    have h2 := getOk_spec (s := opB s) (by omega)
    rw [h] at h2
    unfold getMg
    rw [if_pos h]
    have h3 := h2.symm
    simp only [Bool.and_eq_true, decide_eq_true_iff] at h3
    exact h3.2
/-- Where an operation could be read its bytes stand there. -/
theorem opC_bytes {s : ByteArray} (hs : 0 < s.size) (h : 0 ≤ opE s) (hb : bodyB s = true) : opE s ≤ s.size ∧ (opBytes (opC s)).data.toList = s.data.toList.take (opE s).toNat := by
  have hq := body_back hb
  unfold opE opB at *
  obtain ⟨g3, l4, e4, _, q4⟩ := text_piece h
  unfold opX at g3 l4 e4 q4 hq h ⊢
  obtain ⟨g2, l3, e3, q3⟩ := num_piece g3
  obtain ⟨g1, l2, e2, _, q2⟩ := text_piece g2
  obtain ⟨g0, l1, e1, q1⟩ := num_piece g1
  refine ⟨e4, ?_⟩
  unfold opBytes opC opB opX
  simp only [ByteArray.data_append, Array.toList_append]
  rw [hq, q1, q2, q3, q4]
  have q0 : (kb ((s.data.toList.headD 0).toNat : Int)).data.toList = s.data.toList.take (1 : Int).toNat := by
    have hl := size_toList s
    unfold kb
    cases hd : s.data.toList with
    | nil => rw [hd] at hl; simp at hl; omega
    | cons b r => simp
  rw [q0, cut_cut _ _ _ (by omega), cut_cut _ _ _ (by omega), cut_cut _ _ _ (by omega), cut_cut _ _ _ (by omega)]
/-- The zero operation. -/
def op0 : Op5 := ⟨0, 0, ByteArray.empty, 0, mg0⟩
def gopB (s : ByteArray) : Bool := decide (0 < s.size) && decide (opE s = s.size) && bodyB s && opOk (opC s)
def getOp (s : ByteArray) : Op5 := if gopB s = true then opC s else op0
/-- The model's own test comes to the same. -/
theorem gopB_spec {s : ByteArray} (hs : 0 < s.size) : gopB s = (decide (0 ≤ opE s) && bodyB s && decide (putOp (opC s) = s)) := by
  rw [Bool.eq_iff_iff]
  unfold gopB
  simp only [Bool.and_eq_true, decide_eq_true_iff]
  constructor
  · rintro ⟨⟨⟨_, h1⟩, hb⟩, h2⟩
    have h0 : 0 ≤ opE s := by omega
    refine ⟨⟨h0, hb⟩, ?_⟩
    rw [putOp_yes h2]
    apply ByteArray.ext
    apply Array.ext'
    rw [(opC_bytes hs h0 hb).2, h1, Int.toNat_natCast, List.take_of_length_le (by rw [size_toList]; exact Nat.le_refl _)]
  · rintro ⟨⟨h0, hb⟩, h1⟩
    obtain ⟨hl, hq⟩ := opC_bytes hs h0 hb
    cases hm : opOk (opC s) with
    | false =>
      rw [putOp_no hm] at h1
      rw [← h1] at hs
      exact absurd hs (by decide)
    | true =>
      rw [putOp_yes hm] at h1
      refine ⟨⟨⟨hs, ?_⟩, hb⟩, rfl⟩
      rw [h1] at hq
      have := congrArg List.length hq
      rw [List.length_take, size_toList] at this
      omega
theorem rtS_size (s : ByteArray) (i : Int) : (rtS s i).size ≤ 1000 := by
  by_cases h : 0 ≤ rtE s i
  · exact (text_piece h).2.2.2.1
  · unfold rtE at h
    unfold rtS
    cases hG : textOf s i.toNat (getAt s i) with
    | none => simp [txtS]
    | some p => rw [hG] at h; exact absurd (by simp [txtE]) h
theorem opMg_key (s : ByteArray) : (getMg s).k.size ≤ 1000 := by
  unfold getMg
  split
  · exact rtS_size _ _
  · decide
end Go.Proofs.YtiinpdkgnflmeaaDoor
namespace Go.Proofs.YtiinpdkgnflmeaaDoor
open Go.RowKit
open Mth

set_option maxRecDepth 100000 in
theorem implOpOkW (o : Op5) (w : World) : Calls Tryd.prog 36 #[opw o] w fun e w' => e = .returned (.bool (opOk o)) ∧ Below w.heap.size w w' := by
  have HO := hide (fun w1 => implOpOk o w1)
  generalize opOk o = r at *
  obtain ⟨K, no, k, n, ⟨mK, mF, mT, mI, mL, mk, mN⟩⟩ := o
  go_enter Tryd.func36, Tryd.ntmps36
  go_wp2_with fail
  refine (unhide HO _).mono ?_
  rintro e w1 ⟨rfl, hb1⟩
  have hB := (below_one w _).trans (hb1.mono (by simp))
  clear hb1 HO
  go_wp2_with fail
  go_ret
  exact ⟨rfl, hB⟩
end Go.Proofs.YtiinpdkgnflmeaaDoor
namespace Go.Proofs.YtiinpdkgnflmeaaDoor
open Go.RowKit

theorem eleven_at {w : World} {g : Nat} {a0 a1 a2 a3 a4 a5 a6 a7 a8 a9 a10 : Value} {t : TypeId} (h : w.heap[g]? = some (.cells #[a0, a1, a2, a3, a4, a5, a6, a7, a8, a9, a10] t (0, 0))) :
    (w.cell? ⟨g, 0, none⟩ = some a0 ∧ w.cell? ⟨g, 1, none⟩ = some a1 ∧ w.cell? ⟨g, 2, none⟩ = some a2 ∧ w.cell? ⟨g, 3, none⟩ = some a3 ∧ w.cell? ⟨g, 4, none⟩ = some a4 ∧ w.cell? ⟨g, 5, none⟩ = some a5 ∧ w.cell? ⟨g, 6, none⟩ = some a6 ∧ w.cell? ⟨g, 7, none⟩ = some a7 ∧ w.cell? ⟨g, 8, none⟩ = some a8 ∧ w.cell? ⟨g, 9, none⟩ = some a9 ∧ w.cell? ⟨g, 10, none⟩ = some a10) ∧ (w.frozen? ⟨g, 0, none⟩ = false ∧ w.frozen? ⟨g, 1, none⟩ = false ∧ w.frozen? ⟨g, 2, none⟩ = false ∧ w.frozen? ⟨g, 3, none⟩ = false ∧ w.frozen? ⟨g, 4, none⟩ = false ∧ w.frozen? ⟨g, 5, none⟩ = false ∧ w.frozen? ⟨g, 6, none⟩ = false ∧ w.frozen? ⟨g, 7, none⟩ = false ∧ w.frozen? ⟨g, 8, none⟩ = false ∧ w.frozen? ⟨g, 9, none⟩ = false ∧ w.frozen? ⟨g, 10, none⟩ = false) := by
  have hf : ∀ i, w.frozen? ⟨g, i, none⟩ = false := fun i => by unfold World.frozen?; rw [h]; simp
  have hc : ∀ i, w.cell? ⟨g, i, none⟩ = #[a0, a1, a2, a3, a4, a5, a6, a7, a8, a9, a10][i]? := fun i => cell_of_row w g i _ t (0, 0) h
  exact ⟨⟨hc 0, hc 1, hc 2, hc 3, hc 4, hc 5, hc 6, hc 7, hc 8, hc 9, hc 10⟩, hf 0, hf 1, hf 2, hf 3, hf 4, hf 5, hf 6, hf 7, hf 8, hf 9, hf 10⟩
theorem eleven_set {w : World} {g : Nat} {a0 a1 a2 a3 a4 a5 a6 a7 a8 a9 a10 b0 b1 b2 b3 b4 b5 b6 b7 b8 b9 b10 : Value} {t : TypeId} (h : w.heap[g]? = some (.cells #[a0, a1, a2, a3, a4, a5, a6, a7, a8, a9, a10] t (0, 0))) : (((((((((((w.setCell ⟨g, 0, none⟩ b0).setCell ⟨g, 1, none⟩ b1).setCell ⟨g, 2, none⟩ b2).setCell ⟨g, 3, none⟩ b3).setCell ⟨g, 4, none⟩ b4).setCell ⟨g, 5, none⟩ b5).setCell ⟨g, 6, none⟩ b6).setCell ⟨g, 7, none⟩ b7).setCell ⟨g, 8, none⟩ b8).setCell ⟨g, 9, none⟩ b9).setCell ⟨g, 10, none⟩ b10).heap[g]? = some (.cells #[b0, b1, b2, b3, b4, b5, b6, b7, b8, b9, b10] t (0, 0)) :=
  GR.setW_blk [b0, b1, b2, b3, b4, b5, b6, b7, b8, b9, b10] (o := 0) (xs := [a0, a1, a2, a3, a4, a5, a6, a7, a8, a9, a10]) h
theorem eleven_set_below {a w : World} {B g : Nat} {b0 b1 b2 b3 b4 b5 b6 b7 b8 b9 b10 : Value} (h : Below B a w) (hg : B ≤ g) : Below B a (((((((((((w.setCell ⟨g, 0, none⟩ b0).setCell ⟨g, 1, none⟩ b1).setCell ⟨g, 2, none⟩ b2).setCell ⟨g, 3, none⟩ b3).setCell ⟨g, 4, none⟩ b4).setCell ⟨g, 5, none⟩ b5).setCell ⟨g, 6, none⟩ b6).setCell ⟨g, 7, none⟩ b7).setCell ⟨g, 8, none⟩ b8).setCell ⟨g, 9, none⟩ b9).setCell ⟨g, 10, none⟩ b10) :=
  GR.setW_below hg [b0, b1, b2, b3, b4, b5, b6, b7, b8, b9, b10] (o := 0) h
theorem eleven_set_other {w : World} {g g' : Nat} {b0 b1 b2 b3 b4 b5 b6 b7 b8 b9 b10 : Value} (hne : g' ≠ g) : (((((((((((w.setCell ⟨g, 0, none⟩ b0).setCell ⟨g, 1, none⟩ b1).setCell ⟨g, 2, none⟩ b2).setCell ⟨g, 3, none⟩ b3).setCell ⟨g, 4, none⟩ b4).setCell ⟨g, 5, none⟩ b5).setCell ⟨g, 6, none⟩ b6).setCell ⟨g, 7, none⟩ b7).setCell ⟨g, 8, none⟩ b8).setCell ⟨g, 9, none⟩ b9).setCell ⟨g, 10, none⟩ b10).heap[g']? = w.heap[g']? :=
  GR.setW_other hne [b0, b1, b2, b3, b4, b5, b6, b7, b8, b9, b10] (o := 0)
theorem eleven_tail {w : World} {g : Nat} {a0 a1 a2 a3 a4 a5 a6 a7 a8 a9 a10 b4 b5 b6 b7 b8 b9 b10 : Value} {t : TypeId} (h : w.heap[g]? = some (.cells #[a0, a1, a2, a3, a4, a5, a6, a7, a8, a9, a10] t (0, 0))) : (((((((w.setCell ⟨g, 4, none⟩ b4).setCell ⟨g, 5, none⟩ b5).setCell ⟨g, 6, none⟩ b6).setCell ⟨g, 7, none⟩ b7).setCell ⟨g, 8, none⟩ b8).setCell ⟨g, 9, none⟩ b9).setCell ⟨g, 10, none⟩ b10).heap[g]? = some (.cells #[a0, a1, a2, a3, b4, b5, b6, b7, b8, b9, b10] t (0, 0)) :=
  GR.setW_blk [b4, b5, b6, b7, b8, b9, b10] (o := 4) (xs := [a0, a1, a2, a3, a4, a5, a6, a7, a8, a9, a10]) h
theorem eleven_tail_below {a w : World} {B g : Nat} {b4 b5 b6 b7 b8 b9 b10 : Value} (h : Below B a w) (hg : B ≤ g) : Below B a (((((((w.setCell ⟨g, 4, none⟩ b4).setCell ⟨g, 5, none⟩ b5).setCell ⟨g, 6, none⟩ b6).setCell ⟨g, 7, none⟩ b7).setCell ⟨g, 8, none⟩ b8).setCell ⟨g, 9, none⟩ b9).setCell ⟨g, 10, none⟩ b10) :=
  GR.setW_below hg [b4, b5, b6, b7, b8, b9, b10] (o := 4) h
theorem eleven_tail_other {w : World} {g g' : Nat} {b4 b5 b6 b7 b8 b9 b10 : Value} (hne : g' ≠ g) : (((((((w.setCell ⟨g, 4, none⟩ b4).setCell ⟨g, 5, none⟩ b5).setCell ⟨g, 6, none⟩ b6).setCell ⟨g, 7, none⟩ b7).setCell ⟨g, 8, none⟩ b8).setCell ⟨g, 9, none⟩ b9).setCell ⟨g, 10, none⟩ b10).heap[g']? = w.heap[g']? :=
  GR.setW_other hne [b4, b5, b6, b7, b8, b9, b10] (o := 4)
theorem eleven_head {w : World} {g : Nat} {a0 a1 a2 a3 a4 a5 a6 a7 a8 a9 a10 b0 b1 b2 b3 : Value} {t : TypeId} (h : w.heap[g]? = some (.cells #[a0, a1, a2, a3, a4, a5, a6, a7, a8, a9, a10] t (0, 0))) : ((((w.setCell ⟨g, 0, none⟩ b0).setCell ⟨g, 1, none⟩ b1).setCell ⟨g, 2, none⟩ b2).setCell ⟨g, 3, none⟩ b3).heap[g]? = some (.cells #[b0, b1, b2, b3, a4, a5, a6, a7, a8, a9, a10] t (0, 0)) :=
  GR.setW_blk [b0, b1, b2, b3] (o := 0) (xs := [a0, a1, a2, a3, a4, a5, a6, a7, a8, a9, a10]) h
theorem eleven_head_below {a w : World} {B g : Nat} {b0 b1 b2 b3 : Value} (h : Below B a w) (hg : B ≤ g) : Below B a ((((w.setCell ⟨g, 0, none⟩ b0).setCell ⟨g, 1, none⟩ b1).setCell ⟨g, 2, none⟩ b2).setCell ⟨g, 3, none⟩ b3) :=
  GR.setW_below hg [b0, b1, b2, b3] (o := 0) h
theorem eleven_head_other {w : World} {g g' : Nat} {b0 b1 b2 b3 : Value} (hne : g' ≠ g) : ((((w.setCell ⟨g, 0, none⟩ b0).setCell ⟨g, 1, none⟩ b1).setCell ⟨g, 2, none⟩ b2).setCell ⟨g, 3, none⟩ b3).heap[g']? = w.heap[g']? :=
  GR.setW_other hne [b0, b1, b2, b3] (o := 0)
theorem bodyPost_atE {P : Program} {fn : Func} {Q : Ending → World → Prop} {x : Exit} {act : Act} {W : World} (h : ∀ W', W' = W → bodyPost P fn Q x act W') : bodyPost P fn Q x act W := h W rfl
theorem allocsE2 (w : World) (a b : Obj) : ((w.alloc a).alloc b).heap[w.heap.size]? = some a ∧ ((w.alloc a).alloc b).heap[w.heap.size + 1]? = some b ∧ Below w.heap.size w ((w.alloc a).alloc b) := by
  have e1 : (w.alloc a).heap.size = w.heap.size + 1 := by simp
  have h4 := heap_alloc_new (w.alloc a) b
  have h6 := Below.heap_alloc (w.alloc a) b w.heap.size (by omega)
  rw [e1] at h4
  exact ⟨h6.trans (heap_alloc_new w a), h4, (below_one w a).alloc (by omega) b⟩
theorem allocsG3 (w : World) (a b c : Obj) : (((w.alloc a).alloc b).alloc c).heap[w.heap.size]? = some a ∧ (((w.alloc a).alloc b).alloc c).heap[w.heap.size + 1]? = some b ∧ (((w.alloc a).alloc b).alloc c).heap[w.heap.size + 1 + 1]? = some c ∧ Below w.heap.size w (((w.alloc a).alloc b).alloc c) := by
  have e1 : (w.alloc a).heap.size = w.heap.size + 1 := by simp
  have e2 : ((w.alloc a).alloc b).heap.size = w.heap.size + 1 + 1 := by simp
  have h2 := Below.heap_alloc ((w.alloc a).alloc b) c (w.heap.size + 1) (by omega)
  have h3 := heap_alloc_new ((w.alloc a).alloc b) c
  have h4 := heap_alloc_new (w.alloc a) b
  have h5 := Below.heap_alloc ((w.alloc a).alloc b) c w.heap.size (by omega)
  have h6 := Below.heap_alloc (w.alloc a) b w.heap.size (by omega)
  rw [e2] at h3
  rw [e1] at h4
  exact ⟨h5.trans (h6.trans (heap_alloc_new w a)), h2.trans h4, h3, ((below_one w a).alloc (by omega) b).alloc (by omega) c⟩
end Go.Proofs.YtiinpdkgnflmeaaDoor
namespace Go.Proofs.YtiinpdkgnflmeaaDoor
open Go.RowKit
open Mth

/-- All blocks but one read as before; new ones may lie behind. -/
structure Keep1 (g : Nat) (w w' : World) : Prop where
  os : w'.os = w.os
  tape : w'.tape = w.tape
  output : w'.output = w.output
  size : w.heap.size ≤ w'.heap.size
  block : ∀ k, k < w.heap.size → k ≠ g → w'.heap[k]? = w.heap[k]?
theorem Keep1.of_below {g : Nat} {w w' : World} (h : Below w.heap.size w w') : Keep1 g w w' := ⟨h.os, h.tape, h.output, h.size, fun k hk _ => h.block k hk⟩
theorem Keep1.trans {g : Nat} {a b c : World} (h : Keep1 g a b) (k : Keep1 g b c) : Keep1 g a c :=
  ⟨k.os.trans h.os, k.tape.trans h.tape, k.output.trans h.output, Nat.le_trans h.size k.size, fun i hi hg => (k.block i (Nat.lt_of_lt_of_le hi h.size) hg).trans (h.block i hi hg)⟩
theorem Keep1.set {g i : Nat} {w : World} (v : Value) : Keep1 g w (w.setCell ⟨g, i, none⟩ v) := ⟨rfl, rfl, rfl, by simp [World.setCell], fun k _ hg => Below.heap_setCell _ _ _ _ hg⟩
theorem Keep1.below {g B : Nat} {a w w' : World} (hb : Below B a w) (h : Keep1 g w w') (hg : B ≤ g) (hB : B ≤ w.heap.size) : Below B a w' :=
  ⟨h.os.trans hb.os, h.tape.trans hb.tape, h.output.trans hb.output, Nat.le_trans hb.size h.size, fun k hk => (h.block k (by omega) (by omega)).trans (hb.block k hk)⟩
theorem Keep1.obj {g k : Nat} {w w' : World} {o : Obj} (h : Keep1 g w w') (hk : w.heap[k]? = some o) (hne : k ≠ g) : w'.heap[k]? = some o := by rw [h.block k (blk_lt hk) hne]; exact hk
/-- How a reader that fails ends. -/
abbrev pnc (p : Int) : Ending := .panicked [{ v := .iface 71 (.agg #[.int .i64 p]), recovered := false }]
abbrev RdAt (w : World) (g : Nat) (s : ByteArray) (i : Int) : Prop := w.heap[g]? = some (.cells #[.string s, .int .i64 i] 74 (0, 0))
theorem RdAt.two {w : World} {g : Nat} {s : ByteArray} {i : Int} (h : RdAt w g s i) : w.cell? ⟨g, 0, none⟩ = some (.string s) ∧ w.cell? ⟨g, 1, none⟩ = some (.int .i64 i) ∧ w.frozen? ⟨g, 0, none⟩ = false ∧ w.frozen? ⟨g, 1, none⟩ = false := by
  have hf : ∀ i, w.frozen? ⟨g, i, none⟩ = false := fun i => by unfold World.frozen?; rw [h]; simp
  have hc : ∀ j, w.cell? ⟨g, j, none⟩ = #[Value.string s, Value.int .i64 i][j]? := fun j => cell_of_row w g j _ 74 (0, 0) h
  exact ⟨hc 0, hc 1, hf 0, hf 1⟩
theorem RdAt.set {w : World} {g : Nat} {s : ByteArray} {i : Int} (h : RdAt w g s i) (j : Int) : RdAt (w.setCell ⟨g, 1, none⟩ (.int .i64 j)) g s j := blk_set h 1 (.int .i64 j)
theorem drewN_belowR (w : World) (n : Nat) : Below w.heap.size w (w.drewN n) := ⟨rfl, rfl, rfl, Nat.le_refl _, fun _ _ => rfl⟩
theorem rdFail (g : Nat) (s : ByteArray) (i : Int) (w : World) (h : RdAt w g s i) : Calls Tryd.prog 59 #[.pointer (some ⟨g, 0, none⟩)] w fun e w' => e = pnc i ∧ w = w' := by
  obtain ⟨c0, c1, f0, f1⟩ := h.two
  clear h
  go_enter Tryd.func59, Tryd.ntmps59
  go_wp2_with fail
  exact ⟨rfl, rfl, rfl⟩
theorem rdGo_no (g : Nat) (s : ByteArray) (i n : Int) (w : World) (h : RdAt w g s i) (hn : n < 0) : Calls Tryd.prog 74 #[.pointer (some ⟨g, 0, none⟩), .int .i64 n] w fun e w' => e = pnc i ∧ w = w' := by
  have HF := hide (fun w1 h => rdFail g s i w1 h)
  have H := hide h
  clear h
  go_enter Tryd.func74, Tryd.ntmps74
  go_wp2_with fail
  refine (unhide HF _ (unhide H)).mono ?_
  rintro e w1 ⟨rfl, rfl⟩
  go_wp2_with fail
  exact ⟨rfl, rfl, rfl⟩
theorem rdGo_yes (g : Nat) (s : ByteArray) (i n : Int) (w : World) (h : RdAt w g s i) (hn : 0 ≤ n) : Calls Tryd.prog 74 #[.pointer (some ⟨g, 0, none⟩), .int .i64 n] w fun e w' => e = .returned (.tuple #[]) ∧ w.setCell ⟨g, 1, none⟩ (.int .i64 n) = w' := by
  obtain ⟨c0, c1, f0, f1⟩ := h.two
  have hn2 : ¬ n < 0 := by omega
  clear h
  go_enter Tryd.func74, Tryd.ntmps74
  go_wp2_with fail
  exact bodyPost_end (v := .tuple #[]) (by simp [results, Tryd.results74, go_sem]) rfl ⟨rfl, rfl⟩
theorem rdKind_no (g : Nat) (s : ByteArray) (w : World) (h : RdAt w g s 0) (hs : s.size = 0) : Calls Tryd.prog 55 #[.pointer (some ⟨g, 0, none⟩)] w fun e w' => e = pnc 0 ∧ Below w.heap.size w w' := by
  have HF := hide (fun w1 h => rdFail g s 0 w1 h)
  obtain ⟨c0, c1, f0, f1⟩ := h.two
  have H := hide h
  have he : ((0 : Int) == (s.size : Int)) = true := by simp [hs]
  clear h
  go_enter Tryd.func55, Tryd.ntmps55
  go_upto_region 1 with fail
  go_quiet (fail)
  go_wp2_with fail
  refine (unhide HF _ (blk_step (unhide H) (drewN_belowR w _))).mono ?_
  rintro e w1 ⟨rfl, rfl⟩
  go_wp2_with fail
  exact ⟨rfl, rfl, drewN_belowR w _⟩
set_option maxHeartbeats 1000000 in
theorem rdKind_yes (g : Nat) (s : ByteArray) (w : World) (h : RdAt w g s 0) (hs : 0 < s.size) : Calls Tryd.prog 55 #[.pointer (some ⟨g, 0, none⟩)] w fun e w' => e = .returned (.int .i64 (s[0].toNat : Int)) ∧ RdAt w' g s 1 ∧ Keep1 g w w' := by
  obtain ⟨c0, c1, f0, f1⟩ := h.two
  have H := hide h
  have he : ((0 : Int) == (s.size : Int)) = false := by simp; omega
  have he2 : ¬ ((0 : Int) = (s.size : Int)) := by omega
  have hi0 : (0 : Int) < (s.size : Int) := by omega
  have hb0 : s[0].toNat < 256 := s[0].toNat_lt
  have hw64 : wrap64 (s[0].toNat : Int) = (s[0].toNat : Int) := IntWalk.wrap64_in _ ⟨by omega, by omega⟩
  clear h
  go_enter Tryd.func55, Tryd.ntmps55
  go_upto_region 1 with fail
  go_quiet (fail)
  go_upto_region 4 with fail
  refine wp_at (fun V hV => ?_)
  have HRV : Hid (RdAt V g s 1) := by rw [hV]; exact (show RdAt (w.drewN _) g s 0 from unhide H).set 1
  have HKV : Hid (Keep1 g w V) := by rw [hV]; exact (Keep1.of_below (drewN_belowR w _)).trans (Keep1.set _)
  clear hV c0 c1 f0 f1
  obtain ⟨c0, c1, f0, f1⟩ := (unhide HRV).two
  go_quiet (fail)
  go_wp2_with fail
  go_ret
  exact ⟨rfl, blk_step (unhide HRV) (drewN_belowR V _), (unhide HKV).trans (Keep1.of_below (drewN_belowR V _))⟩

set_option maxRecDepth 100000 in
set_option maxHeartbeats 2000000 in
theorem rdNum_no (g : Nat) (s : ByteArray) (i : Int) (w : World) (hs : s.size ≤ maxLen) (h : RdAt w g s i) (hH : Handle w) (hE : rdE s i < 0) : Calls Tryd.prog 56 #[.pointer (some ⟨g, 0, none⟩)] w fun e w' => e = pnc i ∧ Below w.heap.size w w' := by
  have HC := hide (fun w1 h => implRd s i hs w1 h)
  have HG := hide (fun w1 h => rdGo_no g s i (rdE s i) w1 h hE)
  have HTG := hide (fun p : Regrown => hH.below (below_regrown w p.d p.os))
  have H := hide h
  obtain ⟨c0, c1, f0, f1⟩ := h.two
  clear h hs hH hE f0 f1
  generalize rdE s i = E at *
  generalize rdN s i = R at *
  go_enter Tryd.func56, Tryd.ntmps56
  go_upto_region 1 with fail
  have y0 := cell_regrown c0
  have y1 := cell_regrown c1
  clear c0 c1
  refine wp_region_mix (by kernel_rfl) ?_
  show wpMix _ _ _ _ 14 (Array.replicate 14 false) _ _
  refine wpMix_take 0 rfl (by kernel_rfl) (by kernel_rfl) (by kernel_rfl) (fun _ _ _ _ h => h) (fun K hK => ?_)
  go_simp
  first
    | (refine hK _ ?_; clear hK K)
    | (apply Exists.intro
       refine ⟨fun _ => ?_, hK _ ?_⟩
       (fail)
       clear hK K)
  refine wpMix_take 1 rfl (by kernel_rfl) (by kernel_rfl) (by kernel_rfl) (fun _ _ _ _ h => h) (fun K hK => ?_)
  go_simp
  first
    | (refine hK _ ?_; clear hK K)
    | (apply Exists.intro
       refine ⟨fun _ => ?_, hK _ ?_⟩
       (fail)
       clear hK K)
  refine wpMix_take 2 rfl (by kernel_rfl) (by kernel_rfl) (by kernel_rfl) (fun _ _ _ _ h => h) (fun K hK => ?_)
  go_simp
  first
    | (refine hK _ ?_; clear hK K)
    | (apply Exists.intro
       refine ⟨fun _ => ?_, hK _ ?_⟩
       (fail)
       clear hK K)
  refine wpMix_take 3 rfl (by kernel_rfl) (by kernel_rfl) (by kernel_rfl) (fun _ _ _ _ h => h) (fun K hK => ?_)
  go_simp
  first
    | (refine hK _ ?_; clear hK K)
    | (apply Exists.intro
       refine ⟨fun _ => ?_, hK _ ?_⟩
       (fail)
       clear hK K)
  refine wpMix_take 4 rfl (by kernel_rfl) (by kernel_rfl) (by kernel_rfl) (fun _ _ _ _ h => h) (fun K hK => ?_)
  go_simp
  first
    | (refine hK _ ?_; clear hK K)
    | (apply Exists.intro
       refine ⟨fun _ => ?_, hK _ ?_⟩
       (fail)
       clear hK K)
  refine wpMix_take 5 rfl (by kernel_rfl) (by kernel_rfl) (by kernel_rfl) (fun _ _ _ _ h => h) (fun K hK => ?_)
  go_simp
  first
    | (refine hK _ ?_; clear hK K)
    | (apply Exists.intro
       refine ⟨fun _ => ?_, hK _ ?_⟩
       (fail)
       clear hK K)
  refine wpMix_take 6 rfl (by kernel_rfl) (by kernel_rfl) (by kernel_rfl) (fun _ _ _ _ h => h) (fun K hK => ?_)
  go_simp
  first
    | (refine hK _ ?_; clear hK K)
    | (apply Exists.intro
       refine ⟨fun _ => ?_, hK _ ?_⟩
       (fail)
       clear hK K)
  refine wpMix_take 7 rfl (by kernel_rfl) (by kernel_rfl) (by kernel_rfl) (fun _ _ _ _ h => h) (fun K hK => ?_)
  go_simp
  first
    | (refine hK _ ?_; clear hK K)
    | (apply Exists.intro
       refine ⟨fun _ => ?_, hK _ ?_⟩
       (fail)
       clear hK K)
  refine wpMix_take 8 rfl (by kernel_rfl) (by kernel_rfl) (by kernel_rfl) (fun _ _ _ _ h => h) (fun K hK => ?_)
  go_simp
  first
    | (refine hK _ ?_; clear hK K)
    | (apply Exists.intro
       refine ⟨fun _ => ?_, hK _ ?_⟩
       (exact unhide HC _ (unhide HTG _))
       clear hK K)
  refine wpMix_take 9 rfl (by kernel_rfl) (by kernel_rfl) (by kernel_rfl) (fun _ _ _ _ h => h) (fun K hK => ?_)
  go_simp
  first
    | (refine hK _ ?_; clear hK K)
    | (apply Exists.intro
       refine ⟨fun _ => ?_, hK _ ?_⟩
       (fail)
       clear hK K)
  refine wpMix_take 10 rfl (by kernel_rfl) (by kernel_rfl) (by kernel_rfl) (fun _ _ _ _ h => h) (fun K hK => ?_)
  go_simp
  first
    | (refine hK _ ?_; clear hK K)
    | (apply Exists.intro
       refine ⟨fun _ => ?_, hK _ ?_⟩
       (fail)
       clear hK K)
  refine wpMix_take 11 rfl (by kernel_rfl) (by kernel_rfl) (by kernel_rfl) (fun _ _ _ _ h => h) (fun K hK => ?_)
  go_simp
  first
    | (refine hK _ ?_; clear hK K)
    | (apply Exists.intro
       refine ⟨fun _ => ?_, hK _ ?_⟩
       (fail)
       clear hK K)
  refine wpMix_take 12 rfl (by kernel_rfl) (by kernel_rfl) (by kernel_rfl) (fun _ _ _ _ h => h) (fun K hK => ?_)
  go_simp
  first
    | (refine hK _ ?_; clear hK K)
    | (apply Exists.intro
       refine ⟨fun _ => ?_, hK _ ?_⟩
       (fail)
       clear hK K)
  refine wpMix_take 13 rfl (by kernel_rfl) (by kernel_rfl) (by kernel_rfl) (fun _ _ _ _ h => h) (fun K hK => ?_)
  go_simp
  first
    | (refine hK _ ?_; clear hK K)
    | (apply Exists.intro
       refine ⟨fun _ => ?_, hK _ ?_⟩
       (fail)
       clear hK K)
  refine wpMix_done (by kernel_rfl) (fun z hz => ?_)
  have HZ := hide hz
  have HRZ := hide (blk_step (unhide H) hz)
  clear hz y0 y1 HTG HC H
  go_simp
  go_wp2_with fail
  refine (unhide HG _ (unhide HRZ)).mono ?_
  rintro e w1 ⟨rfl, rfl⟩
  go_wp2_with fail
  exact ⟨rfl, rfl, unhide HZ⟩
set_option maxRecDepth 100000 in
set_option maxHeartbeats 2000000 in
theorem rdNum_yes (g : Nat) (s : ByteArray) (i : Int) (w : World) (hs : s.size ≤ maxLen) (h : RdAt w g s i) (hH : Handle w) (hE : 0 ≤ rdE s i) : Calls Tryd.prog 56 #[.pointer (some ⟨g, 0, none⟩)] w fun e w' => e = .returned (.int .i64 (rdN s i)) ∧ RdAt w' g s (rdE s i) ∧ Keep1 g w w' := by
  have HC := hide (fun w1 h => implRd s i hs w1 h)
  have HG := hide (fun w1 h => rdGo_yes g s i (rdE s i) w1 h hE)
  have HTG := hide (fun p : Regrown => hH.below (below_regrown w p.d p.os))
  have H := hide h
  obtain ⟨c0, c1, f0, f1⟩ := h.two
  clear h hs hH hE f0 f1
  generalize rdE s i = E at *
  generalize rdN s i = R at *
  go_enter Tryd.func56, Tryd.ntmps56
  go_upto_region 1 with fail
  have y0 := cell_regrown c0
  have y1 := cell_regrown c1
  clear c0 c1
  refine wp_region_mix (by kernel_rfl) ?_
  show wpMix _ _ _ _ 14 (Array.replicate 14 false) _ _
  refine wpMix_take 0 rfl (by kernel_rfl) (by kernel_rfl) (by kernel_rfl) (fun _ _ _ _ h => h) (fun K hK => ?_)
  go_simp
  first
    | (refine hK _ ?_; clear hK K)
    | (apply Exists.intro
       refine ⟨fun _ => ?_, hK _ ?_⟩
       (fail)
       clear hK K)
  refine wpMix_take 1 rfl (by kernel_rfl) (by kernel_rfl) (by kernel_rfl) (fun _ _ _ _ h => h) (fun K hK => ?_)
  go_simp
  first
    | (refine hK _ ?_; clear hK K)
    | (apply Exists.intro
       refine ⟨fun _ => ?_, hK _ ?_⟩
       (fail)
       clear hK K)
  refine wpMix_take 2 rfl (by kernel_rfl) (by kernel_rfl) (by kernel_rfl) (fun _ _ _ _ h => h) (fun K hK => ?_)
  go_simp
  first
    | (refine hK _ ?_; clear hK K)
    | (apply Exists.intro
       refine ⟨fun _ => ?_, hK _ ?_⟩
       (fail)
       clear hK K)
  refine wpMix_take 3 rfl (by kernel_rfl) (by kernel_rfl) (by kernel_rfl) (fun _ _ _ _ h => h) (fun K hK => ?_)
  go_simp
  first
    | (refine hK _ ?_; clear hK K)
    | (apply Exists.intro
       refine ⟨fun _ => ?_, hK _ ?_⟩
       (fail)
       clear hK K)
  refine wpMix_take 4 rfl (by kernel_rfl) (by kernel_rfl) (by kernel_rfl) (fun _ _ _ _ h => h) (fun K hK => ?_)
  go_simp
  first
    | (refine hK _ ?_; clear hK K)
    | (apply Exists.intro
       refine ⟨fun _ => ?_, hK _ ?_⟩
       (fail)
       clear hK K)
  refine wpMix_take 5 rfl (by kernel_rfl) (by kernel_rfl) (by kernel_rfl) (fun _ _ _ _ h => h) (fun K hK => ?_)
  go_simp
  first
    | (refine hK _ ?_; clear hK K)
    | (apply Exists.intro
       refine ⟨fun _ => ?_, hK _ ?_⟩
       (fail)
       clear hK K)
  refine wpMix_take 6 rfl (by kernel_rfl) (by kernel_rfl) (by kernel_rfl) (fun _ _ _ _ h => h) (fun K hK => ?_)
  go_simp
  first
    | (refine hK _ ?_; clear hK K)
    | (apply Exists.intro
       refine ⟨fun _ => ?_, hK _ ?_⟩
       (fail)
       clear hK K)
  refine wpMix_take 7 rfl (by kernel_rfl) (by kernel_rfl) (by kernel_rfl) (fun _ _ _ _ h => h) (fun K hK => ?_)
  go_simp
  first
    | (refine hK _ ?_; clear hK K)
    | (apply Exists.intro
       refine ⟨fun _ => ?_, hK _ ?_⟩
       (fail)
       clear hK K)
  refine wpMix_take 8 rfl (by kernel_rfl) (by kernel_rfl) (by kernel_rfl) (fun _ _ _ _ h => h) (fun K hK => ?_)
  go_simp
  first
    | (refine hK _ ?_; clear hK K)
    | (apply Exists.intro
       refine ⟨fun _ => ?_, hK _ ?_⟩
       (exact unhide HC _ (unhide HTG _))
       clear hK K)
  refine wpMix_take 9 rfl (by kernel_rfl) (by kernel_rfl) (by kernel_rfl) (fun _ _ _ _ h => h) (fun K hK => ?_)
  go_simp
  first
    | (refine hK _ ?_; clear hK K)
    | (apply Exists.intro
       refine ⟨fun _ => ?_, hK _ ?_⟩
       (fail)
       clear hK K)
  refine wpMix_take 10 rfl (by kernel_rfl) (by kernel_rfl) (by kernel_rfl) (fun _ _ _ _ h => h) (fun K hK => ?_)
  go_simp
  first
    | (refine hK _ ?_; clear hK K)
    | (apply Exists.intro
       refine ⟨fun _ => ?_, hK _ ?_⟩
       (fail)
       clear hK K)
  refine wpMix_take 11 rfl (by kernel_rfl) (by kernel_rfl) (by kernel_rfl) (fun _ _ _ _ h => h) (fun K hK => ?_)
  go_simp
  first
    | (refine hK _ ?_; clear hK K)
    | (apply Exists.intro
       refine ⟨fun _ => ?_, hK _ ?_⟩
       (fail)
       clear hK K)
  refine wpMix_take 12 rfl (by kernel_rfl) (by kernel_rfl) (by kernel_rfl) (fun _ _ _ _ h => h) (fun K hK => ?_)
  go_simp
  first
    | (refine hK _ ?_; clear hK K)
    | (apply Exists.intro
       refine ⟨fun _ => ?_, hK _ ?_⟩
       (fail)
       clear hK K)
  refine wpMix_take 13 rfl (by kernel_rfl) (by kernel_rfl) (by kernel_rfl) (fun _ _ _ _ h => h) (fun K hK => ?_)
  go_simp
  first
    | (refine hK _ ?_; clear hK K)
    | (apply Exists.intro
       refine ⟨fun _ => ?_, hK _ ?_⟩
       (fail)
       clear hK K)
  refine wpMix_done (by kernel_rfl) (fun z hz => ?_)
  have HZ := hide hz
  have HRZ := hide (blk_step (unhide H) hz)
  clear hz y0 y1 HTG HC H
  go_simp
  go_wp2_with fail
  refine (unhide HG _ (unhide HRZ)).mono ?_
  rintro e w1 ⟨rfl, rfl⟩
  go_wp2_with fail
  go_ret
  exact ⟨rfl, RdAt.set (unhide HRZ) _, (Keep1.of_below (unhide HZ)).trans (Keep1.set _)⟩
set_option maxRecDepth 100000 in
set_option maxHeartbeats 2000000 in
theorem rdText_no (g : Nat) (s : ByteArray) (i : Int) (w : World) (hs : s.size ≤ maxLen) (h : RdAt w g s i) (hH : Handle w) (hE : rtE s i < 0) : Calls Tryd.prog 57 #[.pointer (some ⟨g, 0, none⟩)] w fun e w' => e = pnc i ∧ Below w.heap.size w w' := by
  have HC := hide (fun w1 h => implRt s i hs w1 h)
  have HG := hide (fun w1 h => rdGo_no g s i (rtE s i) w1 h hE)
  have HTG := hide (fun p : Regrown => hH.below (below_regrown w p.d p.os))
  have H := hide h
  obtain ⟨c0, c1, f0, f1⟩ := h.two
  clear h hs hH hE f0 f1
  generalize rtE s i = E at *
  generalize rtS s i = R at *
  go_enter Tryd.func57, Tryd.ntmps57
  go_upto_region 1 with fail
  have y0 := cell_regrown c0
  have y1 := cell_regrown c1
  clear c0 c1
  refine wp_region_mix (by kernel_rfl) ?_
  show wpMix _ _ _ _ 14 (Array.replicate 14 false) _ _
  refine wpMix_take 0 rfl (by kernel_rfl) (by kernel_rfl) (by kernel_rfl) (fun _ _ _ _ h => h) (fun K hK => ?_)
  go_simp
  first
    | (refine hK _ ?_; clear hK K)
    | (apply Exists.intro
       refine ⟨fun _ => ?_, hK _ ?_⟩
       (fail)
       clear hK K)
  refine wpMix_take 1 rfl (by kernel_rfl) (by kernel_rfl) (by kernel_rfl) (fun _ _ _ _ h => h) (fun K hK => ?_)
  go_simp
  first
    | (refine hK _ ?_; clear hK K)
    | (apply Exists.intro
       refine ⟨fun _ => ?_, hK _ ?_⟩
       (fail)
       clear hK K)
  refine wpMix_take 2 rfl (by kernel_rfl) (by kernel_rfl) (by kernel_rfl) (fun _ _ _ _ h => h) (fun K hK => ?_)
  go_simp
  first
    | (refine hK _ ?_; clear hK K)
    | (apply Exists.intro
       refine ⟨fun _ => ?_, hK _ ?_⟩
       (fail)
       clear hK K)
  refine wpMix_take 3 rfl (by kernel_rfl) (by kernel_rfl) (by kernel_rfl) (fun _ _ _ _ h => h) (fun K hK => ?_)
  go_simp
  first
    | (refine hK _ ?_; clear hK K)
    | (apply Exists.intro
       refine ⟨fun _ => ?_, hK _ ?_⟩
       (fail)
       clear hK K)
  refine wpMix_take 4 rfl (by kernel_rfl) (by kernel_rfl) (by kernel_rfl) (fun _ _ _ _ h => h) (fun K hK => ?_)
  go_simp
  first
    | (refine hK _ ?_; clear hK K)
    | (apply Exists.intro
       refine ⟨fun _ => ?_, hK _ ?_⟩
       (fail)
       clear hK K)
  refine wpMix_take 5 rfl (by kernel_rfl) (by kernel_rfl) (by kernel_rfl) (fun _ _ _ _ h => h) (fun K hK => ?_)
  go_simp
  first
    | (refine hK _ ?_; clear hK K)
    | (apply Exists.intro
       refine ⟨fun _ => ?_, hK _ ?_⟩
       (fail)
       clear hK K)
  refine wpMix_take 6 rfl (by kernel_rfl) (by kernel_rfl) (by kernel_rfl) (fun _ _ _ _ h => h) (fun K hK => ?_)
  go_simp
  first
    | (refine hK _ ?_; clear hK K)
    | (apply Exists.intro
       refine ⟨fun _ => ?_, hK _ ?_⟩
       (fail)
       clear hK K)
  refine wpMix_take 7 rfl (by kernel_rfl) (by kernel_rfl) (by kernel_rfl) (fun _ _ _ _ h => h) (fun K hK => ?_)
  go_simp
  first
    | (refine hK _ ?_; clear hK K)
    | (apply Exists.intro
       refine ⟨fun _ => ?_, hK _ ?_⟩
       (fail)
       clear hK K)
  refine wpMix_take 8 rfl (by kernel_rfl) (by kernel_rfl) (by kernel_rfl) (fun _ _ _ _ h => h) (fun K hK => ?_)
  go_simp
  first
    | (refine hK _ ?_; clear hK K)
    | (apply Exists.intro
       refine ⟨fun _ => ?_, hK _ ?_⟩
       (exact unhide HC _ (unhide HTG _))
       clear hK K)
  refine wpMix_take 9 rfl (by kernel_rfl) (by kernel_rfl) (by kernel_rfl) (fun _ _ _ _ h => h) (fun K hK => ?_)
  go_simp
  first
    | (refine hK _ ?_; clear hK K)
    | (apply Exists.intro
       refine ⟨fun _ => ?_, hK _ ?_⟩
       (fail)
       clear hK K)
  refine wpMix_take 10 rfl (by kernel_rfl) (by kernel_rfl) (by kernel_rfl) (fun _ _ _ _ h => h) (fun K hK => ?_)
  go_simp
  first
    | (refine hK _ ?_; clear hK K)
    | (apply Exists.intro
       refine ⟨fun _ => ?_, hK _ ?_⟩
       (fail)
       clear hK K)
  refine wpMix_take 11 rfl (by kernel_rfl) (by kernel_rfl) (by kernel_rfl) (fun _ _ _ _ h => h) (fun K hK => ?_)
  go_simp
  first
    | (refine hK _ ?_; clear hK K)
    | (apply Exists.intro
       refine ⟨fun _ => ?_, hK _ ?_⟩
       (fail)
       clear hK K)
  refine wpMix_take 12 rfl (by kernel_rfl) (by kernel_rfl) (by kernel_rfl) (fun _ _ _ _ h => h) (fun K hK => ?_)
  go_simp
  first
    | (refine hK _ ?_; clear hK K)
    | (apply Exists.intro
       refine ⟨fun _ => ?_, hK _ ?_⟩
       (fail)
       clear hK K)
  refine wpMix_take 13 rfl (by kernel_rfl) (by kernel_rfl) (by kernel_rfl) (fun _ _ _ _ h => h) (fun K hK => ?_)
  go_simp
  first
    | (refine hK _ ?_; clear hK K)
    | (apply Exists.intro
       refine ⟨fun _ => ?_, hK _ ?_⟩
       (fail)
       clear hK K)
  refine wpMix_done (by kernel_rfl) (fun z hz => ?_)
  have HZ := hide hz
  have HRZ := hide (blk_step (unhide H) hz)
  clear hz y0 y1 HTG HC H
  go_simp
  go_wp2_with fail
  refine (unhide HG _ (unhide HRZ)).mono ?_
  rintro e w1 ⟨rfl, rfl⟩
  go_wp2_with fail
  exact ⟨rfl, rfl, unhide HZ⟩
set_option maxRecDepth 100000 in
set_option maxHeartbeats 2000000 in
theorem rdText_yes (g : Nat) (s : ByteArray) (i : Int) (w : World) (hs : s.size ≤ maxLen) (h : RdAt w g s i) (hH : Handle w) (hE : 0 ≤ rtE s i) : Calls Tryd.prog 57 #[.pointer (some ⟨g, 0, none⟩)] w fun e w' => e = .returned (.string (rtS s i)) ∧ RdAt w' g s (rtE s i) ∧ Keep1 g w w' := by
  have HC := hide (fun w1 h => implRt s i hs w1 h)
  have HG := hide (fun w1 h => rdGo_yes g s i (rtE s i) w1 h hE)
  have HTG := hide (fun p : Regrown => hH.below (below_regrown w p.d p.os))
  have H := hide h
  obtain ⟨c0, c1, f0, f1⟩ := h.two
  clear h hs hH hE f0 f1
  generalize rtE s i = E at *
  generalize rtS s i = R at *
  go_enter Tryd.func57, Tryd.ntmps57
  go_upto_region 1 with fail
  have y0 := cell_regrown c0
  have y1 := cell_regrown c1
  clear c0 c1
  refine wp_region_mix (by kernel_rfl) ?_
  show wpMix _ _ _ _ 14 (Array.replicate 14 false) _ _
  refine wpMix_take 0 rfl (by kernel_rfl) (by kernel_rfl) (by kernel_rfl) (fun _ _ _ _ h => h) (fun K hK => ?_)
  go_simp
  first
    | (refine hK _ ?_; clear hK K)
    | (apply Exists.intro
       refine ⟨fun _ => ?_, hK _ ?_⟩
       (fail)
       clear hK K)
  refine wpMix_take 1 rfl (by kernel_rfl) (by kernel_rfl) (by kernel_rfl) (fun _ _ _ _ h => h) (fun K hK => ?_)
  go_simp
  first
    | (refine hK _ ?_; clear hK K)
    | (apply Exists.intro
       refine ⟨fun _ => ?_, hK _ ?_⟩
       (fail)
       clear hK K)
  refine wpMix_take 2 rfl (by kernel_rfl) (by kernel_rfl) (by kernel_rfl) (fun _ _ _ _ h => h) (fun K hK => ?_)
  go_simp
  first
    | (refine hK _ ?_; clear hK K)
    | (apply Exists.intro
       refine ⟨fun _ => ?_, hK _ ?_⟩
       (fail)
       clear hK K)
  refine wpMix_take 3 rfl (by kernel_rfl) (by kernel_rfl) (by kernel_rfl) (fun _ _ _ _ h => h) (fun K hK => ?_)
  go_simp
  first
    | (refine hK _ ?_; clear hK K)
    | (apply Exists.intro
       refine ⟨fun _ => ?_, hK _ ?_⟩
       (fail)
       clear hK K)
  refine wpMix_take 4 rfl (by kernel_rfl) (by kernel_rfl) (by kernel_rfl) (fun _ _ _ _ h => h) (fun K hK => ?_)
  go_simp
  first
    | (refine hK _ ?_; clear hK K)
    | (apply Exists.intro
       refine ⟨fun _ => ?_, hK _ ?_⟩
       (fail)
       clear hK K)
  refine wpMix_take 5 rfl (by kernel_rfl) (by kernel_rfl) (by kernel_rfl) (fun _ _ _ _ h => h) (fun K hK => ?_)
  go_simp
  first
    | (refine hK _ ?_; clear hK K)
    | (apply Exists.intro
       refine ⟨fun _ => ?_, hK _ ?_⟩
       (fail)
       clear hK K)
  refine wpMix_take 6 rfl (by kernel_rfl) (by kernel_rfl) (by kernel_rfl) (fun _ _ _ _ h => h) (fun K hK => ?_)
  go_simp
  first
    | (refine hK _ ?_; clear hK K)
    | (apply Exists.intro
       refine ⟨fun _ => ?_, hK _ ?_⟩
       (fail)
       clear hK K)
  refine wpMix_take 7 rfl (by kernel_rfl) (by kernel_rfl) (by kernel_rfl) (fun _ _ _ _ h => h) (fun K hK => ?_)
  go_simp
  first
    | (refine hK _ ?_; clear hK K)
    | (apply Exists.intro
       refine ⟨fun _ => ?_, hK _ ?_⟩
       (fail)
       clear hK K)
  refine wpMix_take 8 rfl (by kernel_rfl) (by kernel_rfl) (by kernel_rfl) (fun _ _ _ _ h => h) (fun K hK => ?_)
  go_simp
  first
    | (refine hK _ ?_; clear hK K)
    | (apply Exists.intro
       refine ⟨fun _ => ?_, hK _ ?_⟩
       (exact unhide HC _ (unhide HTG _))
       clear hK K)
  refine wpMix_take 9 rfl (by kernel_rfl) (by kernel_rfl) (by kernel_rfl) (fun _ _ _ _ h => h) (fun K hK => ?_)
  go_simp
  first
    | (refine hK _ ?_; clear hK K)
    | (apply Exists.intro
       refine ⟨fun _ => ?_, hK _ ?_⟩
       (fail)
       clear hK K)
  refine wpMix_take 10 rfl (by kernel_rfl) (by kernel_rfl) (by kernel_rfl) (fun _ _ _ _ h => h) (fun K hK => ?_)
  go_simp
  first
    | (refine hK _ ?_; clear hK K)
    | (apply Exists.intro
       refine ⟨fun _ => ?_, hK _ ?_⟩
       (fail)
       clear hK K)
  refine wpMix_take 11 rfl (by kernel_rfl) (by kernel_rfl) (by kernel_rfl) (fun _ _ _ _ h => h) (fun K hK => ?_)
  go_simp
  first
    | (refine hK _ ?_; clear hK K)
    | (apply Exists.intro
       refine ⟨fun _ => ?_, hK _ ?_⟩
       (fail)
       clear hK K)
  refine wpMix_take 12 rfl (by kernel_rfl) (by kernel_rfl) (by kernel_rfl) (fun _ _ _ _ h => h) (fun K hK => ?_)
  go_simp
  first
    | (refine hK _ ?_; clear hK K)
    | (apply Exists.intro
       refine ⟨fun _ => ?_, hK _ ?_⟩
       (fail)
       clear hK K)
  refine wpMix_take 13 rfl (by kernel_rfl) (by kernel_rfl) (by kernel_rfl) (fun _ _ _ _ h => h) (fun K hK => ?_)
  go_simp
  first
    | (refine hK _ ?_; clear hK K)
    | (apply Exists.intro
       refine ⟨fun _ => ?_, hK _ ?_⟩
       (fail)
       clear hK K)
  refine wpMix_done (by kernel_rfl) (fun z hz => ?_)
  have HZ := hide hz
  have HRZ := hide (blk_step (unhide H) hz)
  clear hz y0 y1 HTG HC H
  go_simp
  go_wp2_with fail
  refine (unhide HG _ (unhide HRZ)).mono ?_
  rintro e w1 ⟨rfl, rfl⟩
  go_wp2_with fail
  go_ret
  exact ⟨rfl, RdAt.set (unhide HRZ) _, (Keep1.of_below (unhide HZ)).trans (Keep1.set _)⟩
theorem seven_keep1 {w w0 : World} {g : Nat} {b0 b1 b2 b3 b4 b5 b6 : Value} (h : Keep1 g w0 w) : Keep1 g w0 (((((((w.setCell ⟨w0.heap.size, 0, none⟩ b0).setCell ⟨w0.heap.size, 1, none⟩ b1).setCell ⟨w0.heap.size, 2, none⟩ b2).setCell ⟨w0.heap.size, 3, none⟩ b3).setCell ⟨w0.heap.size, 4, none⟩ b4).setCell ⟨w0.heap.size, 5, none⟩ b5).setCell ⟨w0.heap.size, 6, none⟩ b6) := by
  have hb := seven_below (a := w) (w := w) (B := w0.heap.size) (g := w0.heap.size) (b0 := b0) (b1 := b1) (b2 := b2) (b3 := b3) (b4 := b4) (b5 := b5) (b6 := b6) (Below.refl _ _) (Nat.le_refl _)
  exact ⟨hb.os.trans h.os, hb.tape.trans h.tape, hb.output.trans h.output, Nat.le_trans h.size hb.size, fun k hk hg => (hb.block k hk).trans (h.block k hk hg)⟩
theorem seven_otherR {w : World} {h g : Nat} {b0 b1 b2 b3 b4 b5 b6 : Value} {o : Option Obj} (hne : g ≠ h) (e : w.heap[g]? = o) : (((((((w.setCell ⟨h, 0, none⟩ b0).setCell ⟨h, 1, none⟩ b1).setCell ⟨h, 2, none⟩ b2).setCell ⟨h, 3, none⟩ b3).setCell ⟨h, 4, none⟩ b4).setCell ⟨h, 5, none⟩ b5).setCell ⟨h, 6, none⟩ b6).heap[g]? = o :=
  one_other (one_other (one_other (one_other (one_other (one_other (one_other e hne) hne) hne) hne) hne) hne) hne
/-- The handle lies in a block that is not the reader's. -/
theorem hnd_keep {g : Nat} {w w' : World} (h : Handle w) (hk : Keep1 g w w') (_hg : g < w.heap.size) (hne : g ≠ 1) : Handle w' := by
  unfold Handle at h ⊢
  have hlt : 1 < w.heap.size := by
    rcases Nat.lt_or_ge 1 w.heap.size with h' | h'
    · exact h'
    · unfold World.cell? at h
      rw [Array.getElem?_eq_none h'] at h
      cases h
  rw [← h]
  exact World.cell?_of_block (w := w) (hk.block _ hlt (Ne.symm hne))
/-- The message at a place is there: none, or one that is right. -/
def msB (s : ByteArray) (i : Int) : Bool := decide ((rtS s i).size = 0) || getOk (rtS s i)
set_option maxRecDepth 100000 in
set_option maxHeartbeats 2000000 in
theorem rdMsg_cut (g : Nat) (s : ByteArray) (i : Int) (w : World) (hs : s.size ≤ maxLen) (h : RdAt w g s i) (hH : Handle w) (hE : rtE s i < 0) : Calls Tryd.prog 58 #[.pointer (some ⟨g, 0, none⟩)] w fun e w' => (∃ p, e = pnc p) ∧ Keep1 g w w' := by
  have HT := hide (fun w1 h h2 => rdText_no g s i w1 hs h h2 hE)
  have H := hide (blk_step h (below_one w (.cells #[.int .i64 0, .int .i64 0, .int .i64 0, .int .i64 0, .int .i64 0, .string ⟨#[]⟩, .int .i64 0] 23)))
  have HH := hide (hH.below (below_one w (.cells #[.int .i64 0, .int .i64 0, .int .i64 0, .int .i64 0, .int .i64 0, .string ⟨#[]⟩, .int .i64 0] 23)))
  clear h hH hE hs
  go_enter Tryd.func58, Tryd.ntmps58
  go_wp2_with fail
  refine (unhide HT _ (unhide H) (unhide HH)).mono ?_
  rintro e w1 ⟨rfl, hb1⟩
  have HB := hide (Keep1.of_below (g := g) ((below_one w _).trans (hb1.mono (by simp))))
  clear hb1
  go_wp2_with fail
  exact ⟨rfl, ⟨_, rfl⟩, unhide HB⟩
set_option maxRecDepth 100000 in
set_option maxHeartbeats 2000000 in
theorem rdMsg_nil (g : Nat) (s : ByteArray) (i : Int) (w : World) (hs : s.size ≤ maxLen) (hg : g < w.heap.size) (h : RdAt w g s i) (hH : Handle w) (hE : 0 ≤ rtE s i) (hb : (rtS s i).size = 0) : Calls Tryd.prog 58 #[.pointer (some ⟨g, 0, none⟩)] w fun e w' => e = .returned (mgv (getMg (rtS s i))) ∧ RdAt w' g s (rtE s i) ∧ Keep1 g w w' := by
  have HT := hide (fun w1 h h2 => rdText_yes g s i w1 hs h h2 hE)
  have H := hide (blk_step h (below_one w (.cells #[.int .i64 0, .int .i64 0, .int .i64 0, .int .i64 0, .int .i64 0, .string ⟨#[]⟩, .int .i64 0] 23)))
  have HH := hide (hH.below (below_one w (.cells #[.int .i64 0, .int .i64 0, .int .i64 0, .int .i64 0, .int .i64 0, .string ⟨#[]⟩, .int .i64 0] 23)))
  rw [(getMg_nil hb).1]
  rw [size_zero hb] at HT
  clear h hH hE hs hb
  generalize rtE s i = E at *
  have hg2 : w.heap.size ≠ g := by omega
  go_enter Tryd.func58, Tryd.ntmps58
  go_wp2_with fail
  refine (unhide HT _ (unhide H) (unhide HH)).mono ?_
  rintro e w1 ⟨rfl, hr1, hk1⟩
  have HR := hide (hk1.obj (heap_alloc_new w _) hg2)
  have HK := hide ((Keep1.of_below (below_one w _)).trans hk1)
  have HR1 := hide hr1
  clear hr1 hk1
  obtain ⟨⟨d0, d1, d2, d3, d4, d5, d6⟩, f0, f1, f2, f3, f4, f5, f6⟩ := seven_at (unhide HR)
  go_wp2_with fail
  refine bodyPost_atE (fun W' hW' => ?_)
  obtain ⟨⟨r0, r1, r2, r3, r4, r5, r6⟩, _⟩ := seven_at (show W'.heap[w.heap.size]? = some (.cells #[.int .i64 0, .int .i64 0, .int .i64 0, .int .i64 0, .int .i64 0, .string ⟨#[]⟩, .int .i64 0] 23 (0, 0)) by rw [hW']; exact seven_set (unhide HR))
  have hKK : Keep1 g w W' := by rw [hW']; exact seven_keep1 (unhide HK)
  have hRR : RdAt W' g s E := by rw [hW']; exact seven_otherR (Ne.symm hg2) (unhide HR1)
  exact bodyPost_ret (v := .agg #[.int .i64 0, .int .i64 0, .int .i64 0, .int .i64 0, .int .i64 0, .string ⟨#[]⟩, .int .i64 0]) (by simp [results, Tryd.results58, go_sem, r0, r1, r2, r3, r4, r5, r6]) rfl ⟨rfl, hRR, hKK⟩
set_option maxRecDepth 100000 in
set_option maxHeartbeats 2000000 in
theorem rdMsg_bad (g : Nat) (s : ByteArray) (i : Int) (w : World) (hs : s.size ≤ maxLen) (hg : g < w.heap.size) (hge : g ≠ 1) (h : RdAt w g s i) (hH : Handle w) (hE : 0 ≤ rtE s i) (hb : 0 < (rtS s i).size) (ho : getOk (rtS s i) = false) : Calls Tryd.prog 58 #[.pointer (some ⟨g, 0, none⟩)] w fun e w' => (∃ p, e = pnc p) ∧ Keep1 g w w' := by
  have HT := hide (fun w1 h h2 => rdText_yes g s i w1 hs h h2 hE)
  have HGM := hide (fun w1 h => implGetMsg (rtS s i) (Nat.le_trans (rtS_size s i) (by unfold maxLen; omega)) w1 h)
  rw [getV_no ho] at HGM
  have HF := hide (fun w1 h => rdFail g s (rtE s i) w1 h)
  have H := hide (blk_step h (below_one w (.cells #[.int .i64 0, .int .i64 0, .int .i64 0, .int .i64 0, .int .i64 0, .string ⟨#[]⟩, .int .i64 0] 23)))
  have HH := hide hH
  have hne := not_empty _ hb
  clear h hH hE hs hb ho
  generalize rtE s i = E at *
  generalize rtS s i = B at *
  have hg2 : w.heap.size ≠ g := by omega
  go_enter Tryd.func58, Tryd.ntmps58
  go_wp2_with fail
  refine (unhide HT _ (unhide H) ((unhide HH).below (below_one w _))).mono ?_
  rintro e w1 ⟨rfl, hr1, hk1⟩
  have HK := hide ((Keep1.of_below (below_one w _)).trans hk1)
  have HR1 := hide hr1
  have HH1 := hide (hnd_keep (unhide HH) (unhide HK) hg hge)
  clear hr1 hk1
  go_wp2_with fail
  refine (unhide HGM _ (unhide HH1)).mono ?_
  rintro e w2 ⟨rfl, hb2⟩
  have HR2 := hide (blk_step (blk_step (unhide HR1) hb2) (below_one w2 (.cells #[.int .i64 0, .int .i64 0, .int .i64 0, .int .i64 0, .int .i64 0, .string ⟨#[]⟩, .int .i64 0] 23)))
  have HK2 := hide ((unhide HK).trans (Keep1.of_below ((hb2.trans ((below_one w2 (.cells #[.int .i64 0, .int .i64 0, .int .i64 0, .int .i64 0, .int .i64 0, .string ⟨#[]⟩, .int .i64 0] 23)).mono hb2.size)))))
  clear hb2
  go_wp2_with fail
  refine (unhide HF _ (unhide HR2)).mono ?_
  rintro e w3 ⟨rfl, rfl⟩
  go_wp2_with fail
  exact ⟨rfl, ⟨_, rfl⟩, unhide HK2⟩
set_option maxRecDepth 100000 in
set_option maxHeartbeats 2000000 in
theorem rdMsg_ok (g : Nat) (s : ByteArray) (i : Int) (w : World) (hs : s.size ≤ maxLen) (hg : g < w.heap.size) (hge : g ≠ 1) (h : RdAt w g s i) (hH : Handle w) (hE : 0 ≤ rtE s i) (hb : 0 < (rtS s i).size) (ho : getOk (rtS s i) = true) : Calls Tryd.prog 58 #[.pointer (some ⟨g, 0, none⟩)] w fun e w' => e = .returned (mgv (getMg (rtS s i))) ∧ RdAt w' g s (rtE s i) ∧ Keep1 g w w' := by
  have HT := hide (fun w1 h h2 => rdText_yes g s i w1 hs h h2 hE)
  have HGM := hide (fun w1 h => implGetMsg (rtS s i) (Nat.le_trans (rtS_size s i) (by unfold maxLen; omega)) w1 h)
  unfold getV at HGM
  rw [ho] at HGM
  have H := hide (blk_step h (below_one w (.cells #[.int .i64 0, .int .i64 0, .int .i64 0, .int .i64 0, .int .i64 0, .string ⟨#[]⟩, .int .i64 0] 23)))
  have HH := hide hH
  have hne := not_empty _ hb
  clear h hH hE hs hb ho
  generalize rtE s i = E at *
  generalize getMg (rtS s i) = m at *
  generalize rtS s i = B at *
  obtain ⟨mK, mF, mT, mI, mL, mk, mN⟩ := m
  have hg2 : w.heap.size ≠ g := by omega
  go_enter Tryd.func58, Tryd.ntmps58
  go_wp2_with fail
  refine (unhide HT _ (unhide H) ((unhide HH).below (below_one w _))).mono ?_
  rintro e w1 ⟨rfl, hr1, hk1⟩
  have HR := hide (hk1.obj (heap_alloc_new w _) hg2)
  have HK := hide ((Keep1.of_below (below_one w _)).trans hk1)
  have HR1 := hide hr1
  have HH1 := hide (hnd_keep (unhide HH) (unhide HK) hg hge)
  clear hr1 hk1
  go_wp2_with fail
  refine (unhide HGM _ (unhide HH1)).mono ?_
  rintro e w2 ⟨rfl, hb2⟩
  have HR2 := hide (blk_step (unhide HR) hb2)
  have HA2 := hide (blk_step (unhide HR1) hb2)
  have HK2 := hide ((unhide HK).trans (Keep1.of_below hb2))
  have hz2 := blk_lt (unhide HR2)
  have hz3 := blk_lt (unhide HA2)
  clear hb2 HR HK HR1 HH1
  go_upto_region 7 with fail
  refine wp_at (fun V hV => ?_)
  have HMV : Hid (V.heap[w2.heap.size]? = some (.cells #[.int .i64 mK, .int .i64 mF, .int .i64 mT, .int .i64 mI, .int .i64 mL, .string mk, .int .i64 mN] 23 (0, 0))) := by rw [hV]; exact heap_alloc_new w2 _
  have HRV : Hid (V.heap[w.heap.size]? = some (.cells #[.int .i64 0, .int .i64 0, .int .i64 0, .int .i64 0, .int .i64 0, .string ⟨#[]⟩, .int .i64 0] 23 (0, 0))) := by rw [hV]; exact blk_step (unhide HR2) (below_one w2 _)
  have HAV : Hid (RdAt V g s E) := by rw [hV]; exact blk_step (unhide HA2) (below_one w2 _)
  have HKV : Hid (Keep1 g w V) := by rw [hV]; exact (unhide HK2).trans (Keep1.of_below (below_one w2 _))
  clear hV HR2 HA2 HK2
  have hz4 := blk_lt (unhide HMV)
  obtain ⟨q0, q1, q2, q3, q4, q5, q6⟩ := cells7 (unhide HMV)
  obtain ⟨⟨d0, d1, d2, d3, d4, d5, d6⟩, f0, f1, f2, f3, f4, f5, f6⟩ := seven_at (unhide HRV)
  go_wp2_with fail
  refine bodyPost_atE (fun W' hW' => ?_)
  obtain ⟨⟨r0, r1, r2, r3, r4, r5, r6⟩, _⟩ := seven_at (show W'.heap[w.heap.size]? = some (.cells #[.int .i64 mK, .int .i64 mF, .int .i64 mT, .int .i64 mI, .int .i64 mL, .string mk, .int .i64 mN] 23 (0, 0)) by rw [hW']; exact seven_set (unhide HRV))
  have hKK : Keep1 g w W' := by rw [hW']; exact seven_keep1 (unhide HKV)
  have hRR : RdAt W' g s E := by rw [hW']; exact seven_otherR (Ne.symm hg2) (unhide HAV)
  exact bodyPost_ret (v := .agg #[.int .i64 mK, .int .i64 mF, .int .i64 mT, .int .i64 mI, .int .i64 mL, .string mk, .int .i64 mN]) (by simp [results, Tryd.results58, go_sem, r0, r1, r2, r3, r4, r5, r6]) rfl ⟨rfl, hRR, hKK⟩
end Go.Proofs.YtiinpdkgnflmeaaDoor
namespace Go.Proofs.YtiinpdkgnflmeaaDoor
open Go.RowKit
open Mth

/-- While an operation is read: the reader, the result's block, the operation's block. -/
structure OS (w0 W : World) (g o : Nat) (s : ByteArray) (i : Int) (cs : Array Value) : Prop where
  rd : RdAt W g s i
  res : W.heap[w0.heap.size]? = some (.cells #[.int .i64 0, .int .i64 0, .string ⟨#[]⟩, .int .i64 0, .int .i64 0, .int .i64 0, .int .i64 0, .int .i64 0, .int .i64 0, .string ⟨#[]⟩, .int .i64 0] 25 (0, 0))
  op : W.heap[o]? = some (.cells cs 25 (0, 0))
  keep : Keep1 g w0 W
  lo : w0.heap.size < o
theorem OS.step {w0 W w' : World} {g o : Nat} {s : ByteArray} {i j : Int} {cs : Array Value} (h : OS w0 W g o s i cs) (hr : RdAt w' g s j) (hk : Keep1 g W w') (hg : g < w0.heap.size) : OS w0 w' g o s j cs :=
  ⟨hr, hk.obj h.res (by omega), hk.obj h.op (by have := h.lo; omega), h.keep.trans hk, h.lo⟩
theorem OS.below {w0 W w' : World} {g o : Nat} {s : ByteArray} {i : Int} {cs : Array Value} (h : OS w0 W g o s i cs) (hb : Below W.heap.size W w') (hg : g < w0.heap.size) : OS w0 w' g o s i cs :=
  h.step (blk_step h.rd hb) (Keep1.of_below hb) hg
theorem Keep1.setNew {g h i : Nat} {w0 w : World} {v : Value} (k : Keep1 g w0 w) (hh : w0.heap.size ≤ h) : Keep1 g w0 (w.setCell ⟨h, i, none⟩ v) :=
  ⟨k.os, k.tape, k.output, by have := k.size; simpa [World.setCell] using this, fun x hx hg => by
    have hne : x ≠ h := by omega
    rw [Below.heap_setCell _ _ _ _ hne]
    exact k.block x hx hg⟩
theorem OS.set {w0 W : World} {g o : Nat} {s : ByteArray} {i : Int} {cs : Array Value} (h : OS w0 W g o s i cs) (hg : g < w0.heap.size) (k : Nat) (v : Value) : OS w0 (W.setCell ⟨o, k, none⟩ v) g o s i (cs.setIfInBounds k v) := by
  have hlo := h.lo
  exact ⟨one_other h.rd (by omega), one_other h.res (by omega), blk_set h.op k v, h.keep.setNew (by omega), hlo⟩
theorem OS.tail {w0 W : World} {g o : Nat} {s : ByteArray} {i : Int} {a0 a1 a2 a3 a4 a5 a6 a7 a8 a9 a10 b4 b5 b6 b7 b8 b9 b10 : Value} (h : OS w0 W g o s i #[a0, a1, a2, a3, a4, a5, a6, a7, a8, a9, a10]) (hg : g < w0.heap.size) : OS w0 (((((((W.setCell ⟨o, 4, none⟩ b4).setCell ⟨o, 5, none⟩ b5).setCell ⟨o, 6, none⟩ b6).setCell ⟨o, 7, none⟩ b7).setCell ⟨o, 8, none⟩ b8).setCell ⟨o, 9, none⟩ b9).setCell ⟨o, 10, none⟩ b10) g o s i #[a0, a1, a2, a3, b4, b5, b6, b7, b8, b9, b10] := by
  have h4 : OS w0 (W.setCell ⟨o, 4, none⟩ b4) g o s i #[a0, a1, a2, a3, b4, a5, a6, a7, a8, a9, a10] := h.set hg 4 b4
  have h5 : OS w0 ((W.setCell ⟨o, 4, none⟩ b4).setCell ⟨o, 5, none⟩ b5) g o s i #[a0, a1, a2, a3, b4, b5, a6, a7, a8, a9, a10] := h4.set hg 5 b5
  have h6 : OS w0 (((W.setCell ⟨o, 4, none⟩ b4).setCell ⟨o, 5, none⟩ b5).setCell ⟨o, 6, none⟩ b6) g o s i #[a0, a1, a2, a3, b4, b5, b6, a7, a8, a9, a10] := h5.set hg 6 b6
  have h7 : OS w0 ((((W.setCell ⟨o, 4, none⟩ b4).setCell ⟨o, 5, none⟩ b5).setCell ⟨o, 6, none⟩ b6).setCell ⟨o, 7, none⟩ b7) g o s i #[a0, a1, a2, a3, b4, b5, b6, b7, a8, a9, a10] := h6.set hg 7 b7
  have h8 : OS w0 (((((W.setCell ⟨o, 4, none⟩ b4).setCell ⟨o, 5, none⟩ b5).setCell ⟨o, 6, none⟩ b6).setCell ⟨o, 7, none⟩ b7).setCell ⟨o, 8, none⟩ b8) g o s i #[a0, a1, a2, a3, b4, b5, b6, b7, b8, a9, a10] := h7.set hg 8 b8
  have h9 : OS w0 ((((((W.setCell ⟨o, 4, none⟩ b4).setCell ⟨o, 5, none⟩ b5).setCell ⟨o, 6, none⟩ b6).setCell ⟨o, 7, none⟩ b7).setCell ⟨o, 8, none⟩ b8).setCell ⟨o, 9, none⟩ b9) g o s i #[a0, a1, a2, a3, b4, b5, b6, b7, b8, b9, a10] := h8.set hg 9 b9
  have h10 : OS w0 (((((((W.setCell ⟨o, 4, none⟩ b4).setCell ⟨o, 5, none⟩ b5).setCell ⟨o, 6, none⟩ b6).setCell ⟨o, 7, none⟩ b7).setCell ⟨o, 8, none⟩ b8).setCell ⟨o, 9, none⟩ b9).setCell ⟨o, 10, none⟩ b10) g o s i #[a0, a1, a2, a3, b4, b5, b6, b7, b8, b9, b10] := h9.set hg 10 b10
  exact h10
theorem Handle.keep1 {g : Nat} {w w' : World} (h : Handle w) (hk : Keep1 g w w') (hg : g < w.heap.size) (hge : g ≠ 1) : Handle w' := hnd_keep h hk hg hge

set_option maxRecDepth 100000 in
set_option maxHeartbeats 8000000 in
theorem rdOp (g : Nat) (s : ByteArray) (w : World) (hs : s.size ≤ maxLen) (hg : g < w.heap.size) (hge : g ≠ 1) (h : RdAt w g s 0) (hH : Handle w) : Calls Tryd.prog 44 #[.pointer (some ⟨g, 0, none⟩)] w fun e w' => (gopB s = true ∧ e = .returned (opw (opC s)) ∨ gopB s = false ∧ ∃ p, e = pnc p) ∧ Keep1 g w w' := by
  by_cases h0 : s.size = 0
  · have HK := hide (fun w1 h => rdKind_no g s w1 h h0)
    have H := hide (blk_step h (below_one w (.cells #[.int .i64 0, .int .i64 0, .string ⟨#[]⟩, .int .i64 0, .int .i64 0, .int .i64 0, .int .i64 0, .int .i64 0, .int .i64 0, .string ⟨#[]⟩, .int .i64 0] 25)))
    have hno : gopB s = false := by unfold gopB; rw [decide_eq_false (by omega)]; rfl
    have HNO := hide hno
    clear h hH hno
    generalize gopB s = OK at *
    go_enter Tryd.func44, Tryd.ntmps44
    go_wp2_with fail
    refine (unhide HK _ (unhide H)).mono ?_
    rintro e w1 ⟨rfl, hb1⟩
    have HB := hide (Keep1.of_below (g := g) ((below_one w _).trans (hb1.mono (by simp))))
    clear hb1
    go_wp2_with fail
    exact ⟨rfl, .inr ⟨unhide HNO, _, rfl⟩, unhide HB⟩
  have h1 : 0 < s.size := by omega
  have HK := hide (fun w1 h => rdKind_yes g s w1 h h1)
  have HN1y := hide (fun w1 h hh hE => rdNum_yes g s 1 w1 hs h hh hE)
  have HN1n := hide (fun w1 h hh hE => rdNum_no g s 1 w1 hs h hh hE)
  have HT1y := hide (fun w1 h hh hE => rdText_yes g s (rdE s 1) w1 hs h hh hE)
  have HT1n := hide (fun w1 h hh hE => rdText_no g s (rdE s 1) w1 hs h hh hE)
  have HN2y : Hid (∀ w1 : World, RdAt w1 g s (rtE s (rdE s 1)) → Handle w1 → 0 ≤ opX s → Calls Tryd.prog 56 #[.pointer (some ⟨g, 0, none⟩)] w1 fun e w' => e = .returned (.int .i64 (rdN s (rtE s (rdE s 1)))) ∧ RdAt w' g s (opX s) ∧ Keep1 g w1 w') := fun w1 h hh hE => rdNum_yes g s (rtE s (rdE s 1)) w1 hs h hh hE
  have HN2n : Hid (∀ w1 : World, RdAt w1 g s (rtE s (rdE s 1)) → Handle w1 → opX s < 0 → Calls Tryd.prog 56 #[.pointer (some ⟨g, 0, none⟩)] w1 fun e w' => e = pnc (rtE s (rdE s 1)) ∧ Below w1.heap.size w1 w') := fun w1 h hh hE => rdNum_no g s (rtE s (rdE s 1)) w1 hs h hh hE
  have HM : Hid (∀ w1 : World, g < w1.heap.size → RdAt w1 g s (opX s) → Handle w1 → Calls Tryd.prog 58 #[.pointer (some ⟨g, 0, none⟩)] w1 fun e w' => ((0 ≤ opE s ∧ bodyB s = true) ∧ e = .returned (mgv (getMg (opB s))) ∧ RdAt w' g s (opE s) ∨ ¬ (0 ≤ opE s ∧ bodyB s = true) ∧ ∃ p, e = pnc p) ∧ Keep1 g w1 w') := by
    intro w1 hg1 h2 h3
    by_cases hE : 0 ≤ opE s
    · by_cases hb : (opB s).size = 0
      · refine (rdMsg_nil g s (opX s) w1 hs hg1 h2 h3 hE hb).mono ?_
        rintro e w' ⟨he, hr, hk⟩
        exact ⟨.inl ⟨⟨hE, by unfold bodyB; rw [decide_eq_true hb]; rfl⟩, he, hr⟩, hk⟩
      · cases ho : getOk (opB s)
        · refine (rdMsg_bad g s (opX s) w1 hs hg1 hge h2 h3 hE (by have : (opB s).size ≠ 0 := hb; unfold opB at this; omega) ho).mono ?_
          rintro e w' ⟨he, hk⟩
          exact ⟨.inr ⟨(fun hx => by have h9 := hx.2; unfold bodyB at h9; rw [decide_eq_false hb, ho] at h9; cases h9), he⟩, hk⟩
        · refine (rdMsg_ok g s (opX s) w1 hs hg1 hge h2 h3 hE (by have : (opB s).size ≠ 0 := hb; unfold opB at this; omega) ho).mono ?_
          rintro e w' ⟨he, hr, hk⟩
          exact ⟨.inl ⟨⟨hE, by unfold bodyB; rw [ho]; simp⟩, he, hr⟩, hk⟩
    · refine (rdMsg_cut g s (opX s) w1 hs h2 h3 (by have : ¬ 0 ≤ opE s := hE; unfold opE at this; omega)).mono ?_
      rintro e w' ⟨he, hk⟩
      exact ⟨.inr ⟨fun hx => hE hx.1, he⟩, hk⟩
  have HOK := hide (fun w1 => implOpOkW (opC s) w1)
  have HF := hide (fun w1 h => rdFail g s (opE s) w1 h)
  have HG : Hid (gopB s = true ↔ opE s = s.size ∧ bodyB s = true ∧ opOk (opC s) = true) := by
    show gopB s = true ↔ _
    unfold gopB
    rw [decide_eq_true h1]
    simp [and_assoc]
  have HX : Hid (0 ≤ opE s → 0 ≤ opX s ∧ 0 ≤ rtE s (rdE s 1) ∧ 0 ≤ rdE s 1) := fun hE => by
    have g3 : 0 ≤ opX s := (text_piece (s := s) (i := opX s) hE).1
    have g2 := (num_piece (s := s) (i := rtE s (rdE s 1)) g3).1
    exact ⟨g3, g2, (text_piece (s := s) (i := rdE s 1) g2).1⟩
  have hC : opC s = ⟨s[0].toNat, rdN s 1, rtS s (rdE s 1), rdN s (rtE s (rdE s 1)), getMg (opB s)⟩ := by unfold opC; rw [head_at h1]
  rw [hC] at HOK HG ⊢
  have HNO : Hid (¬ (0 ≤ opE s ∧ bodyB s = true) → gopB s = false) := fun hx => by
    rw [Bool.eq_false_iff]
    intro hy
    have := (unhide HG).1 hy
    exact hx ⟨by omega, this.2.1⟩
  have HH := hide hH
  have H := hide (blk_step h (below_one w (.cells #[.int .i64 0, .int .i64 0, .string ⟨#[]⟩, .int .i64 0, .int .i64 0, .int .i64 0, .int .i64 0, .int .i64 0, .int .i64 0, .string ⟨#[]⟩, .int .i64 0] 25)))
  clear h hH hC h0
  generalize gopB s = OK at *
  generalize getMg (opB s) = m at *
  generalize bodyB s = BO at *
  generalize opB s = B at *
  generalize opE s = E at *
  generalize opX s = X at *
  generalize rdN s (rtE s (rdE s 1)) = N2 at *
  generalize rtE s (rdE s 1) = E2 at *
  generalize rtS s (rdE s 1) = TX at *
  generalize rdN s 1 = N1 at *
  generalize rdE s 1 = E1 at *
  obtain ⟨mK, mF, mT, mI, mL, mk, mN⟩ := m
  have HH0 := hide (fun W (k : Keep1 g w W) => (unhide HH).keep1 k hg hge)
  go_enter Tryd.func44, Tryd.ntmps44
  go_wp2_with fail
  refine (unhide HK _ (unhide H)).mono ?_
  rintro e w1 ⟨rfl, hr1, hk1⟩
  have HR1 := hide (hk1.obj (heap_alloc_new w _) (show w.heap.size ≠ g by omega))
  have HK1 := hide ((Keep1.of_below (below_one w _)).trans hk1)
  have HA1 := hide hr1
  have hz1 : w.heap.size < w1.heap.size := blk_lt (unhide HR1)
  clear hr1 hk1 HK H
  go_upto_region 2 with fail
  refine wp_at (fun V2 hV => ?_)
  have HS : Hid (OS w V2 g w1.heap.size s 1 #[.int .i64 (s[0].toNat : Int), .int .i64 0, .string ⟨#[]⟩, .int .i64 0, .int .i64 0, .int .i64 0, .int .i64 0, .int .i64 0, .int .i64 0, .string ⟨#[]⟩, .int .i64 0]) := by
    rw [hV]
    exact ⟨blk_step (unhide HA1) (below_one w1 _), blk_step (unhide HR1) (below_one w1 _), heap_alloc_new w1 _, (unhide HK1).trans (Keep1.of_below (below_one w1 _)), hz1⟩
  clear hV HR1 HK1 HA1
  generalize w1.heap.size = o at *
  clear w1

  by_cases hE0 : 0 ≤ E1
  case' neg =>
    have hno : OK = false := unhide HNO (fun hx => hE0 (by have := unhide HX hx.1; omega))
    have HNN := hide (unhide HN1n V2 (unhide HS).rd (unhide HH0 _ (unhide HS).keep) (by omega))
    clear hE0
    go_wp2_with fail
    refine (unhide HNN).mono ?_
    rintro e w9 ⟨rfl, hb9⟩
    have HKK := hide ((unhide HS).keep.trans (Keep1.of_below hb9))
    clear hb9
    go_wp2_with fail
    exact ⟨rfl, .inr ⟨hno, _, rfl⟩, unhide HKK⟩
  have HNY := hide (unhide HN1y V2 (unhide HS).rd (unhide HH0 _ (unhide HS).keep) hE0)
  go_wp2_with fail
  refine (unhide HNY).mono ?_
  rintro e u0 ⟨rfl, hr, hk⟩
  have HT := hide ((unhide HS).step hr hk hg)
  clear hr hk HNY HS
  have hz0 := blk_lt (unhide HT).op
  obtain ⟨⟨c0, c1, c2, c3, c4, c5, c6, c7, c8, c9, c10⟩, f0, f1, f2, f3, f4, f5, f6, f7, f8, f9, f10⟩ := eleven_at (unhide HT).op
  go_upto_region 3 with fail
  refine wp_at (fun V3 hV => ?_)
  have HS : Hid (OS w V3 g o s E1 #[.int .i64 (s[0].toNat : Int), .int .i64 N1, .string ⟨#[]⟩, .int .i64 0, .int .i64 0, .int .i64 0, .int .i64 0, .int .i64 0, .int .i64 0, .string ⟨#[]⟩, .int .i64 0]) := by rw [hV]; exact (unhide HT).set hg 1 (.int .i64 N1)
  clear hV HT hz0 c0 c1 c2 c3 c4 c5 c6 c7 c8 c9 c10 f0 f1 f2 f3 f4 f5 f6 f7 f8 f9 f10 u0 V2
  by_cases hE1 : 0 ≤ E2
  case' neg =>
    have hno : OK = false := unhide HNO (fun hx => hE1 (by have := unhide HX hx.1; omega))
    have HNN := hide (unhide HT1n V3 (unhide HS).rd (unhide HH0 _ (unhide HS).keep) (by omega))
    clear hE1
    go_wp2_with fail
    refine (unhide HNN).mono ?_
    rintro e w9 ⟨rfl, hb9⟩
    have HKK := hide ((unhide HS).keep.trans (Keep1.of_below hb9))
    clear hb9
    go_wp2_with fail
    exact ⟨rfl, .inr ⟨hno, _, rfl⟩, unhide HKK⟩
  have HNY := hide (unhide HT1y V3 (unhide HS).rd (unhide HH0 _ (unhide HS).keep) hE1)
  go_wp2_with fail
  refine (unhide HNY).mono ?_
  rintro e u1 ⟨rfl, hr, hk⟩
  have HT := hide ((unhide HS).step hr hk hg)
  clear hr hk HNY HS
  have hz1 := blk_lt (unhide HT).op
  obtain ⟨⟨c0, c1, c2, c3, c4, c5, c6, c7, c8, c9, c10⟩, f0, f1, f2, f3, f4, f5, f6, f7, f8, f9, f10⟩ := eleven_at (unhide HT).op
  go_upto_region 4 with fail
  refine wp_at (fun V4 hV => ?_)
  have HS : Hid (OS w V4 g o s E2 #[.int .i64 (s[0].toNat : Int), .int .i64 N1, .string TX, .int .i64 0, .int .i64 0, .int .i64 0, .int .i64 0, .int .i64 0, .int .i64 0, .string ⟨#[]⟩, .int .i64 0]) := by rw [hV]; exact (unhide HT).set hg 2 (.string TX)
  clear hV HT hz1 c0 c1 c2 c3 c4 c5 c6 c7 c8 c9 c10 f0 f1 f2 f3 f4 f5 f6 f7 f8 f9 f10 u1 V3
  by_cases hE2 : 0 ≤ X
  case' neg =>
    have hno : OK = false := unhide HNO (fun hx => hE2 (by have := unhide HX hx.1; omega))
    have HNN := hide (unhide HN2n V4 (unhide HS).rd (unhide HH0 _ (unhide HS).keep) (by omega))
    clear hE2
    go_wp2_with fail
    refine (unhide HNN).mono ?_
    rintro e w9 ⟨rfl, hb9⟩
    have HKK := hide ((unhide HS).keep.trans (Keep1.of_below hb9))
    clear hb9
    go_wp2_with fail
    exact ⟨rfl, .inr ⟨hno, _, rfl⟩, unhide HKK⟩
  have HNY := hide (unhide HN2y V4 (unhide HS).rd (unhide HH0 _ (unhide HS).keep) hE2)
  go_wp2_with fail
  refine (unhide HNY).mono ?_
  rintro e u2 ⟨rfl, hr, hk⟩
  have HT := hide ((unhide HS).step hr hk hg)
  clear hr hk HNY HS
  have hz2 := blk_lt (unhide HT).op
  obtain ⟨⟨c0, c1, c2, c3, c4, c5, c6, c7, c8, c9, c10⟩, f0, f1, f2, f3, f4, f5, f6, f7, f8, f9, f10⟩ := eleven_at (unhide HT).op
  go_upto_region 5 with fail
  refine wp_at (fun V5 hV => ?_)
  have HS : Hid (OS w V5 g o s X #[.int .i64 (s[0].toNat : Int), .int .i64 N1, .string TX, .int .i64 N2, .int .i64 0, .int .i64 0, .int .i64 0, .int .i64 0, .int .i64 0, .string ⟨#[]⟩, .int .i64 0]) := by rw [hV]; exact (unhide HT).set hg 3 (.int .i64 N2)
  clear hV HT hz2 c0 c1 c2 c3 c4 c5 c6 c7 c8 c9 c10 f0 f1 f2 f3 f4 f5 f6 f7 f8 f9 f10 u2 V4
  have hgl : g < V5.heap.size := Nat.lt_of_lt_of_le hg (unhide HS).keep.size
  have HMM := hide (unhide HM V5 hgl (unhide HS).rd (unhide HH0 _ (unhide HS).keep))
  go_wp2_with fail
  refine (unhide HMM).mono ?_
  rintro e w6 ⟨hcase, hk⟩
  have HK6 := hide hk
  clear hk HMM
  rcases hcase with ⟨hyes, rfl, hr⟩ | ⟨hnot, p, rfl⟩
  case' inr =>
    have hno := unhide HNO hnot
    have HKK := hide ((unhide HS).keep.trans (unhide HK6))
    clear hnot
    go_wp2_with fail
    exact ⟨rfl, .inr ⟨hno, _, rfl⟩, unhide HKK⟩
  have HT := hide ((unhide HS).step hr (unhide HK6) hg)
  have HYE := hide hyes
  clear hr HK6 HS hyes hgl
  have hz6 := blk_lt (unhide HT).op
  obtain ⟨⟨c0, c1, c2, c3, c4, c5, c6, c7, c8, c9, c10⟩, f0, f1, f2, f3, f4, f5, f6, f7, f8, f9, f10⟩ := eleven_at (unhide HT).op
  go_upto_region 6 with fail
  refine wp_at (fun V6 hV => ?_)
  have HS : Hid (OS w V6 g o s E #[.int .i64 (s[0].toNat : Int), .int .i64 N1, .string TX, .int .i64 N2, .int .i64 mK, .int .i64 mF, .int .i64 mT, .int .i64 mI, .int .i64 mL, .string mk, .int .i64 mN]) := by rw [hV]; exact (unhide HT).tail hg
  clear hV HT hz6 c0 c1 c2 c3 c4 c5 c6 c7 c8 c9 c10 f0 f1 f2 f3 f4 f5 f6 f7 f8 f9 f10 w6 V5
  obtain ⟨e0, e1, _, _⟩ := (unhide HS).rd.two
  obtain ⟨⟨c0, c1, c2, c3, c4, c5, c6, c7, c8, c9, c10⟩, f0, f1, f2, f3, f4, f5, f6, f7, f8, f9, f10⟩ := eleven_at (unhide HS).op
  have hoV := blk_lt (unhide HS).op
  have hgV := blk_lt (unhide HS).rd
  clear f0 f1 f2 f3 f4 f5 f6 f7 f8 f9 f10
  by_cases hEs : E = s.size
  case' neg =>
    have hno : OK = false := by rw [Bool.eq_false_iff]; intro hy; exact hEs ((unhide HG).1 hy).1
    have hq : (E == (s.size : Int)) = false := by simpa using hEs
    have hq2 : (E != (s.size : Int)) = true := by simpa using hEs
    clear c0 c1 c2 c3 c4 c5 c6 c7 c8 c9 c10
    refine wp_region_quiet_lit (by kernel_rfl) (by kernel_rfl) ?_
    repeat (any_goals (first | go_big_quiet_step (fail) | quiet_step (fail)))
    refine wpQuiet_nil ?_
    intro _ hw'
    obtain ⟨nq, hw''⟩ := hw'
    subst hw''
    go_wp2_with fail
    refine (unhide HF _ (blk_step (unhide HS).rd (drewN_belowR V6 _))).mono ?_
    rintro e w9 ⟨rfl, rfl⟩
    go_wp2_with fail
    exact ⟨rfl, .inr ⟨hno, _, rfl⟩, (unhide HS).keep.trans (Keep1.of_below (drewN_belowR V6 _))⟩
  have hq : (E == (s.size : Int)) = true := by simpa using hEs
  have hq2 : (E != (s.size : Int)) = false := by simpa using hEs
  have HES := hide hEs
  clear hEs
  have x0 := cell_regrown e0
  have x1 := cell_regrown e1
  have y0 := cell_regrown c0
  have y1 := cell_regrown c1
  have y2 := cell_regrown c2
  have y3 := cell_regrown c3
  have y4 := cell_regrown c4
  have y5 := cell_regrown c5
  have y6 := cell_regrown c6
  have y7 := cell_regrown c7
  have y8 := cell_regrown c8
  have y9 := cell_regrown c9
  have y10 := cell_regrown c10
  clear e0 e1 c0 c1 c2 c3 c4 c5 c6 c7 c8 c9 c10
  generalize opOk ⟨s[0].toNat, N1, TX, N2, ⟨mK, mF, mT, mI, mL, mk, mN⟩⟩ = bo at *
  refine wp_region_mix (by kernel_rfl) ?_
  show wpMix _ _ _ _ 15 (Array.replicate 15 false) _ _
  refine wpMix_take 0 rfl (by kernel_rfl) (by kernel_rfl) (by kernel_rfl) (fun _ _ _ _ h => h) (fun K hK => ?_)
  go_simp
  first
    | (refine hK _ ?_; clear hK K)
    | (apply Exists.intro
       refine ⟨fun _ => ?_, hK _ ?_⟩
       (fail)
       clear hK K)
  refine wpMix_take 1 rfl (by kernel_rfl) (by kernel_rfl) (by kernel_rfl) (fun _ _ _ _ h => h) (fun K hK => ?_)
  go_simp
  first
    | (refine hK _ ?_; clear hK K)
    | (apply Exists.intro
       refine ⟨fun _ => ?_, hK _ ?_⟩
       (fail)
       clear hK K)
  refine wpMix_take 2 rfl (by kernel_rfl) (by kernel_rfl) (by kernel_rfl) (fun _ _ _ _ h => h) (fun K hK => ?_)
  go_simp
  first
    | (refine hK _ ?_; clear hK K)
    | (apply Exists.intro
       refine ⟨fun _ => ?_, hK _ ?_⟩
       (fail)
       clear hK K)
  refine wpMix_take 3 rfl (by kernel_rfl) (by kernel_rfl) (by kernel_rfl) (fun _ _ _ _ h => h) (fun K hK => ?_)
  go_simp
  first
    | (refine hK _ ?_; clear hK K)
    | (apply Exists.intro
       refine ⟨fun _ => ?_, hK _ ?_⟩
       (fail)
       clear hK K)
  refine wpMix_take 4 rfl (by kernel_rfl) (by kernel_rfl) (by kernel_rfl) (fun _ _ _ _ h => h) (fun K hK => ?_)
  go_simp
  first
    | (refine hK _ ?_; clear hK K)
    | (apply Exists.intro
       refine ⟨fun _ => ?_, hK _ ?_⟩
       (fail)
       clear hK K)
  refine wpMix_take 5 rfl (by kernel_rfl) (by kernel_rfl) (by kernel_rfl) (fun _ _ _ _ h => h) (fun K hK => ?_)
  go_simp
  first
    | (refine hK _ ?_; clear hK K)
    | (apply Exists.intro
       refine ⟨fun _ => ?_, hK _ ?_⟩
       (fail)
       clear hK K)
  refine wpMix_take 6 rfl (by kernel_rfl) (by kernel_rfl) (by kernel_rfl) (fun _ _ _ _ h => h) (fun K hK => ?_)
  go_simp
  first
    | (refine hK _ ?_; clear hK K)
    | (apply Exists.intro
       refine ⟨fun _ => ?_, hK _ ?_⟩
       (fail)
       clear hK K)
  refine wpMix_take 7 rfl (by kernel_rfl) (by kernel_rfl) (by kernel_rfl) (fun _ _ _ _ h => h) (fun K hK => ?_)
  go_simp
  first
    | (refine hK _ ?_; clear hK K)
    | (apply Exists.intro
       refine ⟨fun _ => ?_, hK _ ?_⟩
       (fail)
       clear hK K)
  refine wpMix_take 8 rfl (by kernel_rfl) (by kernel_rfl) (by kernel_rfl) (fun _ _ _ _ h => h) (fun K hK => ?_)
  go_simp
  first
    | (refine hK _ ?_; clear hK K)
    | (apply Exists.intro
       refine ⟨fun _ => ?_, hK _ ?_⟩
       (fail)
       clear hK K)
  refine wpMix_take 9 rfl (by kernel_rfl) (by kernel_rfl) (by kernel_rfl) (fun _ _ _ _ h => h) (fun K hK => ?_)
  go_simp
  first
    | (refine hK _ ?_; clear hK K)
    | (apply Exists.intro
       refine ⟨fun _ => ?_, hK _ ?_⟩
       (fail)
       clear hK K)
  refine wpMix_take 10 rfl (by kernel_rfl) (by kernel_rfl) (by kernel_rfl) (fun _ _ _ _ h => h) (fun K hK => ?_)
  go_simp
  first
    | (refine hK _ ?_; clear hK K)
    | (apply Exists.intro
       refine ⟨fun _ => ?_, hK _ ?_⟩
       (fail)
       clear hK K)
  refine wpMix_take 11 rfl (by kernel_rfl) (by kernel_rfl) (by kernel_rfl) (fun _ _ _ _ h => h) (fun K hK => ?_)
  go_simp
  first
    | (refine hK _ ?_; clear hK K)
    | (apply Exists.intro
       refine ⟨fun _ => ?_, hK _ ?_⟩
       (fail)
       clear hK K)
  refine wpMix_take 12 rfl (by kernel_rfl) (by kernel_rfl) (by kernel_rfl) (fun _ _ _ _ h => h) (fun K hK => ?_)
  go_simp
  first
    | (refine hK _ ?_; clear hK K)
    | (apply Exists.intro
       refine ⟨fun _ => ?_, hK _ ?_⟩
       (exact unhide HOK _)
       clear hK K)
  refine wpMix_take 13 rfl (by kernel_rfl) (by kernel_rfl) (by kernel_rfl) (fun _ _ _ _ h => h) (fun K hK => ?_)
  go_simp
  first
    | (refine hK _ ?_; clear hK K)
    | (apply Exists.intro
       refine ⟨fun _ => ?_, hK _ ?_⟩
       (fail)
       clear hK K)
  refine wpMix_take 14 rfl (by kernel_rfl) (by kernel_rfl) (by kernel_rfl) (fun _ _ _ _ h => h) (fun K hK => ?_)
  go_simp
  first
    | (refine hK _ ?_; clear hK K)
    | (apply Exists.intro
       refine ⟨fun _ => ?_, hK _ ?_⟩
       (fail)
       clear hK K)
  refine wpMix_done (by kernel_rfl) (fun z hz => ?_)
  have HSZ := hide ((unhide HS).below hz hg)
  clear hz x0 x1 y0 y1 y2 y3 y4 y5 y6 y7 y8 y9 y10 HS HOK
  go_simp
  cases hbo : bo
  · have hno : OK = false := by rw [Bool.eq_false_iff]; intro hy; have := ((unhide HG).1 hy).2.2; rw [hbo] at this; cases this
    subst hbo
    go_wp2_with fail
    refine (unhide HF _ (unhide HSZ).rd).mono ?_
    rintro e w9 ⟨rfl, rfl⟩
    go_wp2_with fail
    exact ⟨rfl, .inr ⟨hno, _, rfl⟩, (unhide HSZ).keep⟩
  · have hyes : OK = true := (unhide HG).2 ⟨unhide HES, (unhide HYE).2, hbo⟩
    subst hbo
    have HYES := hide hyes
    clear hyes
    have hzo := blk_lt (unhide HSZ).op
    have hlo := (unhide HSZ).lo
    obtain ⟨⟨c0, c1, c2, c3, c4, c5, c6, c7, c8, c9, c10⟩, _⟩ := eleven_at (unhide HSZ).op
    obtain ⟨⟨d0, d1, d2, d3, d4, d5, d6, d7, d8, d9, d10⟩, f0, f1, f2, f3, f4, f5, f6, f7, f8, f9, f10⟩ := eleven_at (unhide HSZ).res
    go_wp2_with fail
    refine bodyPost_atE (fun W' hW' => ?_)
    obtain ⟨⟨r0, r1, r2, r3, r4, r5, r6, r7, r8, r9, r10⟩, _⟩ := eleven_at (show W'.heap[w.heap.size]? = some (.cells #[.int .i64 (s[0].toNat : Int), .int .i64 N1, .string TX, .int .i64 N2, .int .i64 mK, .int .i64 mF, .int .i64 mT, .int .i64 mI, .int .i64 mL, .string mk, .int .i64 mN] 25 (0, 0)) by rw [hW']; exact eleven_set (unhide HSZ).res)
    have hKK : Keep1 g w W' := by
      rw [hW']
      exact ((((((((((((unhide HSZ).keep.setNew (Nat.le_refl _)).setNew (Nat.le_refl _)).setNew (Nat.le_refl _)).setNew (Nat.le_refl _)).setNew (Nat.le_refl _)).setNew (Nat.le_refl _)).setNew (Nat.le_refl _)).setNew (Nat.le_refl _)).setNew (Nat.le_refl _)).setNew (Nat.le_refl _)).setNew (Nat.le_refl _))
    exact bodyPost_ret (v := .agg #[.int .i64 (s[0].toNat : Int), .int .i64 N1, .string TX, .int .i64 N2, .int .i64 mK, .int .i64 mF, .int .i64 mT, .int .i64 mI, .int .i64 mL, .string mk, .int .i64 mN]) (by simp [results, Tryd.results44, go_sem, r0, r1, r2, r3, r4, r5, r6, r7, r8, r9, r10]) rfl ⟨.inl ⟨unhide HYES, rfl⟩, hKK⟩

set_option maxRecDepth 100000 in
set_option maxHeartbeats 2000000 in
theorem opIn (s : ByteArray) (w : World) (hs : s.size ≤ maxLen) (hH : Handle w) : Calls Tryd.prog 24 #[.string s] w fun e w' => (gopB s = true ∧ e = .returned (opw (opC s)) ∨ gopB s = false ∧ ∃ p, e = pnc p) ∧ Below w.heap.size w w' := by
  obtain ⟨hP, hR, hB⟩ := allocsE2 w (.cells #[.int .i64 0, .int .i64 0, .string ⟨#[]⟩, .int .i64 0, .int .i64 0, .int .i64 0, .int .i64 0, .int .i64 0, .int .i64 0, .string ⟨#[]⟩, .int .i64 0] 25) (.cells #[.string s, .int .i64 0] 74)
  have hlt : 1 < w.heap.size := by
    rcases Nat.lt_or_ge 1 w.heap.size with h' | h'
    · exact h'
    · have h := hH
      unfold Handle World.cell? at h
      rw [Array.getElem?_eq_none h'] at h
      cases h
  have HO := hide (rdOp (w.heap.size + 1) s _ hs (by simp) (by omega) hR (hH.below hB))
  have HP := hide hP
  have HB := hide hB
  clear hP hR hB hs hH hlt
  generalize opC s = oc at *
  obtain ⟨K, no, k, n, ⟨mK, mF, mT, mI, mL, mk, mN⟩⟩ := oc
  go_enter Tryd.func24, Tryd.ntmps24
  go_wp2_with fail
  refine (unhide HO).mono ?_
  rintro e w1 ⟨hcase, hk⟩
  have HR1 := hide (hk.obj (unhide HP) (by omega))
  have HB1 := hide (hk.below (unhide HB) (by omega) (unhide HB).size)
  clear hk HO HP HB
  rcases hcase with ⟨hyes, rfl⟩ | ⟨hno, p, rfl⟩
  · obtain ⟨⟨d0, d1, d2, d3, d4, d5, d6, d7, d8, d9, d10⟩, f0, f1, f2, f3, f4, f5, f6, f7, f8, f9, f10⟩ := eleven_at (unhide HR1)
    go_wp2_with fail
    refine bodyPost_atE (fun W' hW' => ?_)
    obtain ⟨⟨r0, r1, r2, r3, r4, r5, r6, r7, r8, r9, r10⟩, _⟩ := eleven_at (show W'.heap[w.heap.size]? = some (.cells #[.int .i64 K, .int .i64 no, .string k, .int .i64 n, .int .i64 mK, .int .i64 mF, .int .i64 mT, .int .i64 mI, .int .i64 mL, .string mk, .int .i64 mN] 25 (0, 0)) by rw [hW']; exact eleven_set (unhide HR1))
    have hbb : Below w.heap.size w W' := by rw [hW']; exact eleven_set_below (unhide HB1) (Nat.le_refl _)
    exact bodyPost_ret (v := .agg #[.int .i64 K, .int .i64 no, .string k, .int .i64 n, .int .i64 mK, .int .i64 mF, .int .i64 mT, .int .i64 mI, .int .i64 mL, .string mk, .int .i64 mN]) (by simp [results, Tryd.results24, go_sem, r0, r1, r2, r3, r4, r5, r6, r7, r8, r9, r10]) rfl ⟨.inl ⟨hyes, rfl⟩, hbb⟩
  · go_wp2_with fail
    exact ⟨rfl, .inr ⟨hno, _, rfl⟩, unhide HB1⟩
end Go.Proofs.YtiinpdkgnflmeaaDoor
namespace Go.Proofs.YtiinpdkgnflmeaaDoor
open Go.RowKit

set_option maxRecDepth 100000 in
theorem catch_idle (w : World) : CallsD Tryd.prog 43 #[] .returning w fun e u' w' => e = .returned (.tuple #[]) ∧ u' = .returning ∧ w = w' := by
  refine callsD_of_wpS Tryd.func43 rfl fun c₀ cs hu => ?_
  apply wpS_seq
  apply wpS_region
  simp [wpOpsS, go_sem, recoverD, hu, Tryd.ntmps43, Exit.thenS]
  refine wpS_of_wp ?_
  show Code.wp _ _ _ { tmps := #[.nilIface, undef, undef, .nilIface, undef, undef, undef, undef, undef, undef, undef, undef, undef, undef], defers := [] } _
  have hnil : ∀ W : World, (binOp BinOp.eql 20 .nilIface .nilIface).run Tryd.prog W = .ok (.bool true) W := fun _ => by kernel_rfl
  go_wp2_with fail
  cases c₀
  simp_all [bodyPostS, results, Tryd.results43]
set_option maxRecDepth 100000 in
theorem catch_pnc (p : Int) (older : List PanicEntry) (w : World) : CallsD Tryd.prog 43 #[] (.panicking ({ v := .iface 71 (.agg #[.int .i64 p]), recovered := false } :: older)) w fun e u' w' => e = .returned (.tuple #[]) ∧ u' = .panicking ({ v := .iface 71 (.agg #[.int .i64 p]), recovered := true } :: older) ∧ Below w.heap.size w w' := by
  refine callsD_of_wpS Tryd.func43 rfl fun c₀ cs hu => ?_
  apply wpS_seq
  apply wpS_region
  simp [wpOpsS, go_sem, recoverD, hu, Tryd.ntmps43, Exit.thenS]
  refine wpS_of_wp ?_
  show Code.wp _ _ _ { tmps := #[.iface 71 (.agg #[.int .i64 p]), undef, undef, .iface 71 (.agg #[.int .i64 p]), undef, undef, undef, undef, undef, undef, undef, undef, undef, undef], defers := [] } _
  have hnil : ∀ W : World, (binOp BinOp.eql 20 (.iface 71 (.agg #[.int .i64 p])) .nilIface).run Tryd.prog W = .ok (.bool false) W := fun _ => by kernel_rfl
  have has : ∀ W : World, (Instr.typeAssert (.iface 71 (.agg #[.int .i64 p])) 20 71 true).run Tryd.prog W = .ok (.tuple #[.agg #[.int .i64 p], .bool true]) W := fun _ => by kernel_rfl
  go_wp2_with fail
  have hb : Below w.heap.size w (w.alloc (.cells #[.int .i64 p] 71)) := (Below.refl _ _).alloc (Nat.le_refl _) _
  cases c₀
  simp_all [bodyPostS, results, Tryd.results43]
end Go.Proofs.YtiinpdkgnflmeaaDoor
namespace Go.Proofs.YtiinpdkgnflmeaaDoor
open Go.RowKit
open Mth

set_option maxRecDepth 100000 in
theorem specOpOkW (o : Op5) (w : World) (hs : o.k.size ≤ maxLen) (hm : o.m.k.size ≤ maxLen) : Calls Tryd.prog 32 #[opw o] w fun e w' => e = .returned (.bool (opOk o)) ∧ Below w.heap.size w w' := by
  have HO := hide (fun w1 => specOpOk o w1 hs hm)
  generalize opOk o = r at *
  obtain ⟨K, no, k, n, ⟨mK, mF, mT, mI, mL, mk, mN⟩⟩ := o
  go_enter Tryd.func32, Tryd.ntmps32
  go_wp2_with fail
  refine (unhide HO _).mono ?_
  rintro e w1 ⟨rfl, hb1⟩
  have hB := (below_one w _).trans (hb1.mono (by simp))
  clear hb1 HO
  go_wp2_with fail
  go_ret
  exact ⟨rfl, hB⟩
set_option maxRecDepth 100000 in
set_option maxHeartbeats 2000000 in
theorem specPutOp_no (o : Op5) (w : World) (hs : o.k.size ≤ maxLen) (hm : o.m.k.size ≤ maxLen) (h : opOk o = false) : Calls Tryd.prog 21 #[opw o] w fun e w' => e = .returned (.string ByteArray.empty) ∧ Below w.heap.size w w' := by
  have HO := hide (fun w1 => specOpOkW o w1 hs hm)
  rw [h] at HO
  clear h hs hm
  obtain ⟨K, no, k, n, ⟨mK, mF, mT, mI, mL, mk, mN⟩⟩ := o
  go_enter Tryd.func21, Tryd.ntmps21
  go_wp2_with fail
  refine (unhide HO _).mono ?_
  rintro e w1 ⟨rfl, hb1⟩
  have hB := (below_one w _).trans (hb1.mono (by simp))
  clear hb1
  go_wp2_with fail
  go_ret
  exact ⟨rfl, hB⟩

set_option maxRecDepth 100000 in
set_option maxHeartbeats 4000000 in
theorem specPutOp_yes (o : Op5) (w : World) (hs : o.k.size ≤ maxLen) (hm : o.m.k.size ≤ maxLen) (h : opOk o = true) : Calls Tryd.prog 21 #[opw o] w fun e w' => e = .returned (.string (opBytes o)) ∧ Below w.heap.size w w' := by
  have hK := opKind_in h
  have HO := hide (fun w1 => specOpOkW o w1 hs hm)
  have NM := hide (fun w1 => specPutMsg o.m w1 hm)
  rw [h] at HO
  clear h hs hm
  obtain ⟨K, no, k, n, m⟩ := o
  obtain ⟨hK0, hK6⟩ := hK
  dsimp only at hK0 hK6 NM
  have hw8 := wrap_kind6 K hK0 hK6
  show Calls Tryd.prog 21 #[opw ⟨K, no, k, n, m⟩] w fun e w' => e = .returned (.string (kb K ++ putS no ++ putT k ++ putS n ++ putT (putMsg m))) ∧ Below w.heap.size w w'
  have N1 := hide (fun w1 => specPutAny no w1)
  have N2 := hide (fun w1 => specPutTAny k w1)
  have N3 := hide (fun w1 => specPutAny n w1)
  have N4 := hide (fun w1 => specPutTAny (putMsg m) w1)
  have s1 := putS_size no
  have s2 := putT_size k
  have s3 := putS_size n
  have s4 := putT_size (putMsg m)
  have s0 := kb_size K
  have HCV := hide (fun w1 g => conv_kind6 w1 g K ⟨hK0, hK6⟩)
  generalize putS no = b1 at *
  generalize putT k = b2 at *
  generalize putS n = b3 at *
  generalize putT (putMsg m) = b4 at *
  generalize putMsg m = bM at *
  generalize kb K = bK at *
  obtain ⟨mK, mF, mT, mI, mL, mk, mN⟩ := m
  have a1 := fun w1 => run_string_add_sum (P := Tryd.prog) w1 bK b1 (by omega)
  have a2 := fun w1 => run_string_add_sum (P := Tryd.prog) w1 (bK ++ b1) b2 (by simp only [ByteArray.size_append]; omega)
  have a3 := fun w1 => run_string_add_sum (P := Tryd.prog) w1 (bK ++ b1 ++ b2) b3 (by simp only [ByteArray.size_append]; omega)
  have a4 := fun w1 => run_string_add_sum (P := Tryd.prog) w1 (bK ++ b1 ++ b2 ++ b3) b4 (by simp only [ByteArray.size_append]; omega)
  have HA := hide (And.intro a1 (And.intro a2 (And.intro a3 a4)))
  clear s0 s1 s2 s3 s4 a1 a2 a3 a4 hK0 hK6
  go_enter Tryd.func21, Tryd.ntmps21
  go_wp2_with fail
  refine (unhide HO _).mono ?_
  rintro e w1 ⟨rfl, hb1⟩
  have hA := blk_step (heap_alloc_new w _) hb1
  have hB := (below_one w _).trans (hb1.mono (by simp))
  obtain ⟨c0, c1, c2, c3, c4, c5, c6, c7, c8, c9, c10⟩ := elevenP hA
  have hz := blk_lt hA
  clear hb1
  go_upto_region 3 with fail
  refine wp_at (fun V hV => ?_)
  have hblk : V.heap[w.heap.size]? = some (.cells #[.int .i64 K, .int .i64 no, .string k, .int .i64 n, .int .i64 mK, .int .i64 mF, .int .i64 mT, .int .i64 mI, .int .i64 mL, .string mk, .int .i64 mN] 25 (0, 0)) := by rw [hV]; exact hA
  have HBV := hide (show Below w.heap.size w V by rw [hV]; exact hB)
  have hgV := blk_lt hblk
  obtain ⟨p0, p1, p2, p3, p4, p5, p6, p7, p8, p9, p10⟩ := elevenP hblk
  clear hV hblk hA hB c0 c1 c2 c3 c4 c5 c6 c7 c8 c9 c10 hz
  have y0 := cell_regrown p0
  have y1 := cell_regrown p1
  have y2 := cell_regrown p2
  have y3 := cell_regrown p3
  have y4 := cell_regrown p4
  have y5 := cell_regrown p5
  have y6 := cell_regrown p6
  have y7 := cell_regrown p7
  have y8 := cell_regrown p8
  have y9 := cell_regrown p9
  have y10 := cell_regrown p10
  clear p0 p1 p2 p3 p4 p5 p6 p7 p8 p9 p10
  refine wp_region_mix (by kernel_rfl) ?_
  show wpMix _ _ _ _ 23 (Array.replicate 23 false) _ _
  refine wpMix_take 0 rfl (by kernel_rfl) (by kernel_rfl) (by kernel_rfl) (fun _ _ _ _ h => h) (fun K hK => ?_)
  go_simp
  first
    | (refine hK _ ?_; clear hK K)
    | (apply Exists.intro
       refine ⟨fun _ => ?_, hK _ ?_⟩
       (fail)
       clear hK K)
  refine wpMix_take 1 rfl (by kernel_rfl) (by kernel_rfl) (by kernel_rfl) (fun _ _ _ _ h => h) (fun K hK => ?_)
  go_simp
  first
    | (refine hK _ ?_; clear hK K)
    | (apply Exists.intro
       refine ⟨fun _ => ?_, hK _ ?_⟩
       (fail)
       clear hK K)
  refine wpMix_take 2 rfl (by kernel_rfl) (by kernel_rfl) (by kernel_rfl) (fun _ _ _ _ h => h) (fun K hK => ?_)
  go_simp
  first
    | (refine hK _ ?_; clear hK K)
    | (apply Exists.intro
       refine ⟨fun _ => ?_, hK _ ?_⟩
       (fail)
       clear hK K)
  refine wpMix_take 5 rfl (by kernel_rfl) (by kernel_rfl) (by kernel_rfl) (fun _ _ _ _ h => h) (fun K hK => ?_)
  go_simp
  first
    | (refine hK _ ?_; clear hK K)
    | (apply Exists.intro
       refine ⟨fun _ => ?_, hK _ ?_⟩
       (fail)
       clear hK K)
  refine wpMix_take 6 rfl (by kernel_rfl) (by kernel_rfl) (by kernel_rfl) (fun _ _ _ _ h => h) (fun K hK => ?_)
  go_simp
  first
    | (refine hK _ ?_; clear hK K)
    | (apply Exists.intro
       refine ⟨fun _ => ?_, hK _ ?_⟩
       (fail)
       clear hK K)
  refine wpMix_take 7 rfl (by kernel_rfl) (by kernel_rfl) (by kernel_rfl) (fun _ _ _ _ h => h) (fun K hK => ?_)
  go_simp
  first
    | (refine hK _ ?_; clear hK K)
    | (apply Exists.intro
       refine ⟨fun _ => ?_, hK _ ?_⟩
       (exact unhide N1 _)
       clear hK K)
  refine wpMix_take 9 rfl (by kernel_rfl) (by kernel_rfl) (by kernel_rfl) (fun _ _ _ _ h => h) (fun K hK => ?_)
  go_simp
  first
    | (refine hK _ ?_; clear hK K)
    | (apply Exists.intro
       refine ⟨fun _ => ?_, hK _ ?_⟩
       (fail)
       clear hK K)
  refine wpMix_take 10 rfl (by kernel_rfl) (by kernel_rfl) (by kernel_rfl) (fun _ _ _ _ h => h) (fun K hK => ?_)
  go_simp
  first
    | (refine hK _ ?_; clear hK K)
    | (apply Exists.intro
       refine ⟨fun _ => ?_, hK _ ?_⟩
       (fail)
       clear hK K)
  refine wpMix_take 11 rfl (by kernel_rfl) (by kernel_rfl) (by kernel_rfl) (fun _ _ _ _ h => h) (fun K hK => ?_)
  go_simp
  first
    | (refine hK _ ?_; clear hK K)
    | (apply Exists.intro
       refine ⟨fun _ => ?_, hK _ ?_⟩
       (exact unhide N2 _)
       clear hK K)
  refine wpMix_take 13 rfl (by kernel_rfl) (by kernel_rfl) (by kernel_rfl) (fun _ _ _ _ h => h) (fun K hK => ?_)
  go_simp
  first
    | (refine hK _ ?_; clear hK K)
    | (apply Exists.intro
       refine ⟨fun _ => ?_, hK _ ?_⟩
       (fail)
       clear hK K)
  refine wpMix_take 14 rfl (by kernel_rfl) (by kernel_rfl) (by kernel_rfl) (fun _ _ _ _ h => h) (fun K hK => ?_)
  go_simp
  first
    | (refine hK _ ?_; clear hK K)
    | (apply Exists.intro
       refine ⟨fun _ => ?_, hK _ ?_⟩
       (fail)
       clear hK K)
  refine wpMix_take 15 rfl (by kernel_rfl) (by kernel_rfl) (by kernel_rfl) (fun _ _ _ _ h => h) (fun K hK => ?_)
  go_simp
  first
    | (refine hK _ ?_; clear hK K)
    | (apply Exists.intro
       refine ⟨fun _ => ?_, hK _ ?_⟩
       (exact unhide N3 _)
       clear hK K)
  refine wpMix_take 17 rfl (by kernel_rfl) (by kernel_rfl) (by kernel_rfl) (fun _ _ _ _ h => h) (fun K hK => ?_)
  go_simp
  first
    | (refine hK _ ?_; clear hK K)
    | (apply Exists.intro
       refine ⟨fun _ => ?_, hK _ ?_⟩
       (fail)
       clear hK K)
  refine wpMix_take 18 rfl (by kernel_rfl) (by kernel_rfl) (by kernel_rfl) (fun _ _ _ _ h => h) (fun K hK => ?_)
  go_simp
  first
    | (refine hK _ ?_; clear hK K)
    | (apply Exists.intro
       refine ⟨fun _ => ?_, hK _ ?_⟩
       (fail)
       clear hK K)
  refine wpMix_take 19 rfl (by kernel_rfl) (by kernel_rfl) (by kernel_rfl) (fun _ _ _ _ h => h) (fun K hK => ?_)
  go_simp
  first
    | (refine hK _ ?_; clear hK K)
    | (apply Exists.intro
       refine ⟨fun _ => ?_, hK _ ?_⟩
       (exact unhide NM _)
       clear hK K)
  refine wpMix_take 20 rfl (by kernel_rfl) (by kernel_rfl) (by kernel_rfl) (fun _ _ _ _ h => h) (fun K hK => ?_)
  go_simp
  first
    | (refine hK _ ?_; clear hK K)
    | (apply Exists.intro
       refine ⟨fun _ => ?_, hK _ ?_⟩
       (exact unhide N4 _)
       clear hK K)
  clear y0 y1 y2 y3 y4 y5 y6 y7 y8 y9 y10 N1 N2 N3 N4 NM
  refine wpMix_one 3 rfl (by kernel_rfl) (by rfl) (fun x hx => ?_)
  go_simp
  refine ⟨below_one x _, ?_⟩
  have HBX := hide (Ge.trans (Ge.trans (unhide HBV) hx) (below_one x (.cells #[.int .u8 K] 5)))
  have hcx : (x.alloc (.cells #[.int .u8 K] 5)).cell? ⟨x.heap.size, 0, none⟩ = some (.int .u8 K) := by simp
  have hcv := fun d os => unhide HCV (Sort.grow (redrawn (x.alloc (.cells #[.int .u8 K] 5)) d) os) x.heap.size (cell_regrown hcx d os)
  obtain ⟨a1, a2, a3, a4⟩ := unhide HA
  clear hx HBV HCV HA hcx
  generalize hy : x.alloc (.cells #[.int .u8 K] 5) = y at *
  refine wpMix_take 4 rfl (by kernel_rfl) (by kernel_rfl) (by kernel_rfl) (fun _ _ _ _ h => h) (fun K hK => ?_)
  go_simp
  first
    | (refine hK _ ?_; clear hK K)
    | (apply Exists.intro
       refine ⟨fun _ => ?_, hK _ ?_⟩
       (fail)
       clear hK K)
  refine wpMix_take 8 rfl (by kernel_rfl) (by kernel_rfl) (by kernel_rfl) (fun _ _ _ _ h => h) (fun K hK => ?_)
  go_simp
  first
    | (refine hK _ ?_; clear hK K)
    | (apply Exists.intro
       refine ⟨fun _ => ?_, hK _ ?_⟩
       (fail)
       clear hK K)
  refine wpMix_take 12 rfl (by kernel_rfl) (by kernel_rfl) (by kernel_rfl) (fun _ _ _ _ h => h) (fun K hK => ?_)
  go_simp
  first
    | (refine hK _ ?_; clear hK K)
    | (apply Exists.intro
       refine ⟨fun _ => ?_, hK _ ?_⟩
       (fail)
       clear hK K)
  refine wpMix_take 16 rfl (by kernel_rfl) (by kernel_rfl) (by kernel_rfl) (fun _ _ _ _ h => h) (fun K hK => ?_)
  go_simp
  first
    | (refine hK _ ?_; clear hK K)
    | (apply Exists.intro
       refine ⟨fun _ => ?_, hK _ ?_⟩
       (fail)
       clear hK K)
  refine wpMix_take 21 rfl (by kernel_rfl) (by kernel_rfl) (by kernel_rfl) (fun _ _ _ _ h => h) (fun K hK => ?_)
  go_simp
  first
    | (refine hK _ ?_; clear hK K)
    | (apply Exists.intro
       refine ⟨fun _ => ?_, hK _ ?_⟩
       (fail)
       clear hK K)
  refine wpMix_take 22 rfl (by kernel_rfl) (by kernel_rfl) (by kernel_rfl) (fun _ _ _ _ h => h) (fun K hK => ?_)
  go_simp
  first
    | (refine hK _ ?_; clear hK K)
    | (apply Exists.intro
       refine ⟨fun _ => ?_, hK _ ?_⟩
       (fail)
       clear hK K)
  refine wpMix_done (by kernel_rfl) (fun z hz => ?_)
  have HBZ := hide (Ge.trans (unhide HBX) hz)
  clear hz HBX hcv a1 a2 a3 a4
  go_simp
  go_wp2_with fail
  go_ret
  exact ⟨rfl, unhide HBZ⟩

theorem specPutOp (o : Op5) (w : World) (hs : o.k.size ≤ maxLen) (hm : o.m.k.size ≤ maxLen) : Calls Tryd.prog 21 #[opw o] w fun e w' => e = .returned (.string (putOp o)) ∧ Below w.heap.size w w' := by
  cases h : opOk o
  · rw [putOp_no h]; exact specPutOp_no o w hs hm h
  · rw [putOp_yes h]; exact specPutOp_yes o w hs hm h
end Go.Proofs.YtiinpdkgnflmeaaDoor
namespace Go.Proofs.YtiinpdkgnflmeaaDoor
open Go.RowKit
open Mth

set_option maxRecDepth 100000 in
set_option maxHeartbeats 2000000 in
theorem specGetMsg_nil (w : World) : Calls Tryd.prog 20 #[.string ByteArray.empty] w fun e w' => e = .returned (.tuple #[.agg #[.int .i64 0, .int .i64 0, .int .i64 0, .int .i64 0, .int .i64 0, .string ⟨#[]⟩, .int .i64 0], .bool false]) ∧ Below w.heap.size w w' := by
  go_enter Tryd.func20, Tryd.ntmps20
  go_wp2_with fail
  exact bodyPost_ret (v := .tuple #[.agg #[.int .i64 0, .int .i64 0, .int .i64 0, .int .i64 0, .int .i64 0, .string ⟨#[]⟩, .int .i64 0], .bool false]) (by simp [results, Tryd.results20, go_sem]) rfl ⟨rfl, below_one w _⟩

set_option maxRecDepth 100000 in
set_option maxHeartbeats 4000000 in
theorem specGetMsg_some (s : ByteArray) (hs : s.size ≤ maxLen) (h0 : 0 < s.size) (w : World) : Calls Tryd.prog 20 #[.string s] w fun e w' => e = .returned (getV s) ∧ Below w.heap.size w w' := by
  have HN := hide (fun w1 => l04Nums s hs w1)
  have HT := hide (fun w1 => specRt s (posN s 4) hs w1)
  have HG := hide (fun w1 => specRd s (rtE s (posN s 4)) hs w1)
  have hcs : (cand s).k.size ≤ maxLen := by
    show (rtS s (posN s 4)).size ≤ maxLen
    by_cases h : 0 ≤ rtE s (posN s 4)
    · exact Nat.le_trans (text_piece h).2.2.2.1 (by unfold maxLen; omega)
    · unfold rtE at h
      unfold rtS
      cases hG : textOf s (posN s 4).toNat (getAt s (posN s 4)) with
      | none => simp [txtS]
      | some p => rw [hG] at h; exact absurd (by simp [txtE]) h
  have HP := hide (fun w1 => specPutMsg (cand s) w1 hcs)
  have HO := hide (getOk_spec h0)
  have hcand : cand s = ⟨s[0].toNat, rdN s (posN s 0), rdN s (posN s 1), rdN s (posN s 2), rdN s (posN s 3), rtS s (posN s 4), rdN s (rtE s (posN s 4))⟩ := by unfold cand; rw [head_at h0]; rfl
  have HM := hide (show getOk s = true → getV s = .tuple #[mgv (cand s), .bool true] from fun h => by unfold getV getMg; rw [h, if_pos rfl])
  have HZ := hide (show getOk s = false → getV s = .tuple #[.agg #[.int .i64 0, .int .i64 0, .int .i64 0, .int .i64 0, .int .i64 0, .string ⟨#[]⟩, .int .i64 0], .bool false] from getV_no)
  have hE : candE s = rdE s (rtE s (posN s 4)) := rfl
  rw [hE] at HO
  rw [hcand] at HP HM HO
  clear hcs hcand hE
  have hne := not_empty s h0
  have hi0 : (0 : Int) < (s.size : Int) := by omega
  generalize getV s = RES at *
  generalize getOk s = OK at *
  generalize rdN s (posN s 0) = N1 at *
  generalize rdN s (posN s 1) = N2 at *
  generalize rdN s (posN s 2) = N3 at *
  generalize rdN s (posN s 3) = N4 at *
  generalize rdN s (rtE s (posN s 4)) = N5 at *
  generalize rtS s (posN s 4) = TX at *
  generalize rdE s (rtE s (posN s 4)) = E6 at *
  generalize rtE s (posN s 4) = E5 at *
  generalize posN s 4 = E4 at *
  go_enter Tryd.func20, Tryd.ntmps20
  go_wp2_with fail
  refine (unhide HN _).mono ?_
  rintro e w1 ⟨g, cap, rfl, hg1, hc1, hb1⟩
  have hR1 := blk_step (heap_alloc_new w _) hb1
  have hB1 := (below_one w _).trans (hb1.mono (by simp))
  have hC1 := hide hc1
  clear hb1 hc1
  go_wp2_with fail
  refine (unhide HT _).mono ?_
  rintro e w2 ⟨rfl, hb2⟩
  have hR2 := blk_step hR1 hb2
  have hB2 := hB1.trans (hb2.mono hB1.size)
  have hg2 := Nat.lt_of_lt_of_le hg1 hb2.size
  have hC2 := hide (show w2.cell? ⟨g, 0, none⟩ = some (.int .i64 N1) ∧ w2.cell? ⟨g, 1, none⟩ = some (.int .i64 N2) ∧ w2.cell? ⟨g, 2, none⟩ = some (.int .i64 N3) ∧ w2.cell? ⟨g, 3, none⟩ = some (.int .i64 N4) by simp only [(bcell hb2).1 g _ hg1]; exact unhide hC1)
  clear hb2 hR1 hB1 hg1 hC1
  go_wp2_with fail
  refine (unhide HG _).mono ?_
  rintro e w3 ⟨rfl, hb3⟩
  have hR3 := blk_step hR2 hb3
  have hB3 := hB2.trans (hb3.mono hB2.size)
  have hg3 := Nat.lt_of_lt_of_le hg2 hb3.size
  have hC3 : w3.cell? ⟨g, 0, none⟩ = some (.int .i64 N1) ∧ w3.cell? ⟨g, 1, none⟩ = some (.int .i64 N2) ∧ w3.cell? ⟨g, 2, none⟩ = some (.int .i64 N3) ∧ w3.cell? ⟨g, 3, none⟩ = some (.int .i64 N4) := by simp only [(bcell hb3).1 g _ hg2]; exact unhide hC2
  obtain ⟨c0, c1, c2, c3⟩ := hC3
  clear hb3 hR2 hB2 hg2 hC2
  have HR3 := hide hR3
  have HB3 := hide hB3
  clear hR3 hB3
  have hb0 : s[0].toNat < 256 := s[0].toNat_lt
  have hw64 : wrap64 (s[0].toNat : Int) = (s[0].toNat : Int) := IntWalk.wrap64_in _ ⟨by omega, by omega⟩
  go_upto_region 6 with fail
  go_region
  go_upto_region 7 with fail
  refine wp_at (fun V hV => ?_)
  have hM : V.heap[w3.heap.size]? = some (.cells #[.int .i64 (s[0].toNat : Int), .int .i64 N1, .int .i64 N2, .int .i64 N3, .int .i64 N4, .string TX, .int .i64 N5] 23 (0, 0)) := by rw [hV]; exact heap_alloc_new w3 _
  have hlt := blk_lt (unhide HR3)
  have hR : V.heap[w.heap.size]? = some (.cells #[.int .i64 0, .int .i64 0, .int .i64 0, .int .i64 0, .int .i64 0, .string ⟨#[]⟩, .int .i64 0] 23 (0, 0)) := by
    rw [hV]
    show (w3.alloc _).heap[w.heap.size]? = _
    rw [Below.heap_alloc _ _ _ hlt]
    exact unhide HR3
  have hB : Below w.heap.size w V := by
    rw [hV]
    have h1 := (unhide HB3).alloc (unhide HB3).size (.cells #[.int .i64 (s[0].toNat : Int), .int .i64 N1, .int .i64 N2, .int .i64 N3, .int .i64 N4, .string TX, .int .i64 N5] 23)
    exact ⟨h1.os, h1.tape, h1.output, h1.size, h1.block⟩
  clear hV HR3 HB3 c0 c1 c2 c3 hg3 HN HT HG hw64 hb0
  have hzM := blk_lt hM
  have hzR := blk_lt hR
  by_cases hE : 0 ≤ E6
  case' neg =>
    have hO : OK = false := by rw [unhide HO, decide_eq_false hE]; rfl
    have hRes := hide (unhide HZ hO)
    have hE2 : E6 < 0 := by omega
    obtain ⟨⟨d0, d1, d2, d3, d4, d5, d6⟩, f0, f1, f2, f3, f4, f5, f6⟩ := seven_at hR
    have HR := hide hR
    have HB := hide hB
    clear hO HO HZ HM HP hM hR hB hE
    go_wp2_with fail
    refine bodyPost_at (fun W' hW' => ?_)
    obtain ⟨⟨r0, r1, r2, r3, r4, r5, r6⟩, _⟩ := seven_at (show W'.heap[w.heap.size]? = some (.cells #[.int .i64 0, .int .i64 0, .int .i64 0, .int .i64 0, .int .i64 0, .string ⟨#[]⟩, .int .i64 0] 23 (0, 0)) by rw [hW']; exact seven_set (unhide HR))
    have hbb : Below w.heap.size w W' := by rw [hW']; exact seven_below (unhide HB) (Nat.le_refl _)
    exact bodyPost_ret (v := .tuple #[.agg #[.int .i64 0, .int .i64 0, .int .i64 0, .int .i64 0, .int .i64 0, .string ⟨#[]⟩, .int .i64 0], .bool false]) (by simp [results, Tryd.results20, go_sem, r0, r1, r2, r3, r4, r5, r6]) rfl ⟨by rw [unhide hRes], hbb⟩
  have hE2 : ¬ (E6 < 0) := by omega
  obtain ⟨q0, q1, q2, q3, q4, q5, q6⟩ := cells7 hM
  have HR := hide hR
  have HB := hide hB
  have HMB := hide hM
  clear hR hB hM
  go_wp2_with fail
  refine (unhide HP _).mono ?_
  rintro e w5 ⟨rfl, hb5⟩
  have hR5 := blk_step (unhide HR) hb5
  have hM5 := blk_step (unhide HMB) hb5
  have hB5 := (unhide HB).trans (hb5.mono (unhide HB).size)
  have hzM5 := blk_lt hM5
  have hzR5 := blk_lt hR5
  obtain ⟨⟨d0, d1, d2, d3, d4, d5, d6⟩, f0, f1, f2, f3, f4, f5, f6⟩ := seven_at hR5
  have HR5 := hide hR5
  have HB5 := hide hB5
  clear hb5 HR HMB HB q0 q1 q2 q3 q4 q5 q6 HP hzM hzR
  by_cases hp : putMsg ⟨s[0].toNat, N1, N2, N3, N4, TX, N5⟩ = s
  case' neg =>
    have hO : OK = false := by rw [unhide HO, decide_eq_false hp]; simp
    have hRes := hide (unhide HZ hO)
    have hq : ((putMsg ⟨s[0].toNat, N1, N2, N3, N4, TX, N5⟩).toList == s.toList) = false := by
      rw [beq_eq_false_iff_ne]
      intro h
      rw [ByteArray.toList_eq, ByteArray.toList_eq] at h
      exact hp (ByteArray.ext (Array.ext' h))
    clear hO HO HZ HM hM5 hR5 hB5
    generalize putMsg ⟨s[0].toNat, N1, N2, N3, N4, TX, N5⟩ = pm at *
    have HP := hide hp
    clear hp
    go_wp2_with fail
    refine bodyPost_at (fun W' hW' => ?_)
    obtain ⟨⟨r0, r1, r2, r3, r4, r5, r6⟩, _⟩ := seven_at (show W'.heap[w.heap.size]? = some (.cells #[.int .i64 0, .int .i64 0, .int .i64 0, .int .i64 0, .int .i64 0, .string ⟨#[]⟩, .int .i64 0] 23 (0, 0)) by rw [hW']; exact seven_set (unhide HR5))
    have hbb : Below w.heap.size w W' := by rw [hW']; exact seven_below (unhide HB5) (Nat.le_refl _)
    exact bodyPost_ret (v := .tuple #[.agg #[.int .i64 0, .int .i64 0, .int .i64 0, .int .i64 0, .int .i64 0, .string ⟨#[]⟩, .int .i64 0], .bool false]) (by simp [results, Tryd.results20, go_sem, r0, r1, r2, r3, r4, r5, r6]) rfl ⟨by rw [unhide hRes], hbb⟩
  have hO : OK = true := by rw [unhide HO, decide_eq_true hE, decide_eq_true hp]; rfl
  have hRes := hide (unhide HM hO)
  have hq : ((putMsg ⟨s[0].toNat, N1, N2, N3, N4, TX, N5⟩).toList == s.toList) = true := by rw [hp]; simp
  obtain ⟨q0, q1, q2, q3, q4, q5, q6⟩ := cells7 hM5
  clear hO HO HZ HM hM5 hR5 hB5
  have HP := hide hp
  clear hp
  generalize putMsg ⟨s[0].toNat, N1, N2, N3, N4, TX, N5⟩ = pm at *
  go_wp2_with fail
  refine bodyPost_at (fun W' hW' => ?_)
  obtain ⟨⟨r0, r1, r2, r3, r4, r5, r6⟩, _⟩ := seven_at (show W'.heap[w.heap.size]? = some (.cells #[.int .i64 (s[0].toNat : Int), .int .i64 N1, .int .i64 N2, .int .i64 N3, .int .i64 N4, .string TX, .int .i64 N5] 23 (0, 0)) by rw [hW']; exact seven_set (unhide HR5))
  have hbb : Below w.heap.size w W' := by rw [hW']; exact seven_below (unhide HB5) (Nat.le_refl _)
  exact bodyPost_ret (v := .tuple #[.agg #[.int .i64 (s[0].toNat : Int), .int .i64 N1, .int .i64 N2, .int .i64 N3, .int .i64 N4, .string TX, .int .i64 N5], .bool true]) (by simp [results, Tryd.results20, go_sem, r0, r1, r2, r3, r4, r5, r6]) rfl ⟨by rw [unhide hRes], hbb⟩
theorem specGetMsg (s : ByteArray) (hs : s.size ≤ maxLen) (w : World) : Calls Tryd.prog 20 #[.string s] w fun e w' => e = .returned (getV s) ∧ Below w.heap.size w w' := by
  by_cases h0 : s.size = 0
  · obtain rfl := eq_empty s h0
    rw [getV_no (show getOk ByteArray.empty = false by unfold getOk; simp)]
    exact specGetMsg_nil w
  · exact specGetMsg_some s hs (by omega) w
end Go.Proofs.YtiinpdkgnflmeaaDoor
namespace Go.Proofs.YtiinpdkgnflmeaaDoor
open Go.RowKit
open Mth

def gopV (s : ByteArray) : Value := .tuple #[opw (getOp s), .bool (gopB s)]
theorem gopV_no {s : ByteArray} (h : gopB s = false) : gopV s = .tuple #[.agg #[.int .i64 0, .int .i64 0, .string ⟨#[]⟩, .int .i64 0, .int .i64 0, .int .i64 0, .int .i64 0, .int .i64 0, .int .i64 0, .string ⟨#[]⟩, .int .i64 0], .bool false] := by
  unfold gopV getOp
  rw [h, if_neg (by simp)]
  rfl
set_option maxRecDepth 100000 in
set_option maxHeartbeats 2000000 in
theorem specGetOp_nil (w : World) : Calls Tryd.prog 6 #[.string ByteArray.empty] w fun e w' => e = .returned (.tuple #[.agg #[.int .i64 0, .int .i64 0, .string ⟨#[]⟩, .int .i64 0, .int .i64 0, .int .i64 0, .int .i64 0, .int .i64 0, .int .i64 0, .string ⟨#[]⟩, .int .i64 0], .bool false]) ∧ Below w.heap.size w w' := by
  go_enter Tryd.func6, Tryd.ntmps6
  go_wp2_with fail
  exact bodyPost_ret (v := .tuple #[.agg #[.int .i64 0, .int .i64 0, .string ⟨#[]⟩, .int .i64 0, .int .i64 0, .int .i64 0, .int .i64 0, .int .i64 0, .int .i64 0, .string ⟨#[]⟩, .int .i64 0], .bool false]) (by simp [results, Tryd.results6, go_sem]) rfl ⟨rfl, below_one w _⟩
set_option maxRecDepth 100000 in
set_option maxHeartbeats 8000000 in
theorem specGetOp_some (s : ByteArray) (hs : s.size ≤ maxLen) (h0 : 0 < s.size) (w : World) : Calls Tryd.prog 6 #[.string s] w fun e w' => e = .returned (gopV s) ∧ Below w.heap.size w w' := by
  have HN1 := hide (fun w1 => specRd s 1 hs w1)
  have HT1 := hide (fun w1 => specRt s (rdE s 1) hs w1)
  have HN2 : Hid (∀ w1 : World, Calls Tryd.prog 18 #[.string s, .int .i64 (rtE s (rdE s 1))] w1 fun e w' => e = .returned (.tuple #[.int .i64 (rdN s (rtE s (rdE s 1))), .int .i64 (opX s)]) ∧ Below w1.heap.size w1 w') := fun w1 => specRd s (rtE s (rdE s 1)) hs w1
  have HT2 : Hid (∀ w1 : World, Calls Tryd.prog 19 #[.string s, .int .i64 (opX s)] w1 fun e w' => e = .returned (.tuple #[.string (opB s), .int .i64 (opE s)]) ∧ Below w1.heap.size w1 w') := fun w1 => specRt s (opX s) hs w1
  have hbz : (opB s).size ≤ maxLen := Nat.le_trans (rtS_size s (opX s)) (by unfold maxLen; omega)
  have HG := hide (fun w1 => specGetMsg (opB s) hbz w1)
  unfold getV at HG
  have HP := hide (fun w1 => specPutOp (opC s) w1 (Nat.le_trans (rtS_size s (rdE s 1)) (by unfold maxLen; omega)) (Nat.le_trans (opMg_key (opB s)) (by unfold maxLen; omega)))
  have HO := hide (gopB_spec h0)
  have hC : opC s = ⟨s[0].toNat, rdN s 1, rtS s (rdE s 1), rdN s (rtE s (rdE s 1)), getMg (opB s)⟩ := by unfold opC; rw [head_at h0]
  have HM := hide (show gopB s = true → gopV s = .tuple #[opw (opC s), .bool true] from fun h => by unfold gopV getOp; rw [h, if_pos rfl])
  have HZ := hide (show gopB s = false → gopV s = .tuple #[.agg #[.int .i64 0, .int .i64 0, .string ⟨#[]⟩, .int .i64 0, .int .i64 0, .int .i64 0, .int .i64 0, .int .i64 0, .int .i64 0, .string ⟨#[]⟩, .int .i64 0], .bool false] from gopV_no)
  rw [show bodyB s = (decide ((opB s).size = 0) || getOk (opB s)) from rfl] at HO
  rw [hC] at HP HM HO
  clear hbz hC
  have hne := not_empty s h0
  have hi0 : (0 : Int) < (s.size : Int) := by omega
  generalize gopV s = RES at *
  generalize gopB s = OK at *
  generalize getMg (opB s) = m at *
  generalize getOk (opB s) = mo at *
  generalize opB s = B at *
  generalize opE s = E at *
  generalize opX s = X at *
  generalize rdN s (rtE s (rdE s 1)) = N2 at *
  generalize rtE s (rdE s 1) = E2 at *
  generalize rtS s (rdE s 1) = TX at *
  generalize rdN s 1 = N1 at *
  generalize rdE s 1 = E1 at *
  obtain ⟨mK, mF, mT, mI, mL, mk, mN⟩ := m
  go_enter Tryd.func6, Tryd.ntmps6
  go_wp2_with fail
  refine (unhide HN1 _).mono ?_
  rintro e w1 ⟨rfl, hb1⟩
  have hR1 := blk_step (heap_alloc_new w _) hb1
  have hB1 := (below_one w _).trans (hb1.mono (by simp))
  clear hb1 HN1
  go_wp2_with fail
  refine (unhide HT1 _).mono ?_
  rintro e w2 ⟨rfl, hb2⟩
  have hR2 := blk_step hR1 hb2
  have hB2 := hB1.trans (hb2.mono hB1.size)
  clear hb2 hR1 hB1 HT1
  go_wp2_with fail
  refine (unhide HN2 _).mono ?_
  rintro e w3 ⟨rfl, hb3⟩
  have hR3 := blk_step hR2 hb3
  have hB3 := hB2.trans (hb3.mono hB2.size)
  clear hb3 hR2 hB2 HN2
  go_wp2_with fail
  refine (unhide HT2 _).mono ?_
  rintro e w4 ⟨rfl, hb4⟩
  have hR4 := blk_step hR3 hb4
  have hB4 := hB3.trans (hb4.mono hB3.size)
  clear hb4 hR3 hB3 HT2
  go_wp2_with fail
  refine (unhide HG _).mono ?_
  rintro e w5 ⟨rfl, hb5⟩
  have HR5 := hide (blk_step hR4 hb5)
  have HB5 := hide (hB4.trans (hb5.mono hB4.size))
  clear hb5 hR4 hB4 HG
  have hb0 : s[0].toNat < 256 := s[0].toNat_lt
  have hw64 : wrap64 (s[0].toNat : Int) = (s[0].toNat : Int) := IntWalk.wrap64_in _ ⟨by omega, by omega⟩
  go_upto_region 8 with fail
  go_region
  go_upto_region 9 with fail
  refine wp_at (fun V hV => ?_)
  have hM : V.heap[w5.heap.size + 1]? = some (.cells #[.int .i64 (s[0].toNat : Int), .int .i64 N1, .string TX, .int .i64 N2, .int .i64 mK, .int .i64 mF, .int .i64 mT, .int .i64 mI, .int .i64 mL, .string mk, .int .i64 mN] 25 (0, 0)) := by rw [hV]; exact (allocsE2 w5 (.cells #[.int .i64 mK, .int .i64 mF, .int .i64 mT, .int .i64 mI, .int .i64 mL, .string mk, .int .i64 mN] 23) _).2.1
  have hlt := blk_lt (unhide HR5)
  have hB : Below w.heap.size w V := by
    rw [hV]
    have h1 := ((unhide HB5).alloc (unhide HB5).size (.cells #[.int .i64 mK, .int .i64 mF, .int .i64 mT, .int .i64 mI, .int .i64 mL, .string mk, .int .i64 mN] 23)).alloc (by have := (unhide HB5).size; simp; omega) (.cells #[.int .i64 (s[0].toNat : Int), .int .i64 N1, .string TX, .int .i64 N2, .int .i64 mK, .int .i64 mF, .int .i64 mT, .int .i64 mI, .int .i64 mL, .string mk, .int .i64 mN] 25)
    exact ⟨h1.os, h1.tape, h1.output, h1.size, h1.block⟩
  have hR : V.heap[w.heap.size]? = some (.cells #[.int .i64 0, .int .i64 0, .string ⟨#[]⟩, .int .i64 0, .int .i64 0, .int .i64 0, .int .i64 0, .int .i64 0, .int .i64 0, .string ⟨#[]⟩, .int .i64 0] 25 (0, 0)) := by
    rw [hV]
    have h1 := Below.heap_alloc (w5.alloc (.cells #[.int .i64 mK, .int .i64 mF, .int .i64 mT, .int .i64 mI, .int .i64 mL, .string mk, .int .i64 mN] 23)) (.cells #[.int .i64 (s[0].toNat : Int), .int .i64 N1, .string TX, .int .i64 N2, .int .i64 mK, .int .i64 mF, .int .i64 mT, .int .i64 mI, .int .i64 mL, .string mk, .int .i64 mN] 25) w.heap.size (by simp; omega)
    have h2 := Below.heap_alloc w5 (.cells #[.int .i64 mK, .int .i64 mF, .int .i64 mT, .int .i64 mI, .int .i64 mL, .string mk, .int .i64 mN] 23) w.heap.size hlt
    exact h1.trans (h2.trans (unhide HR5))
  clear hV HR5 HB5 hw64 hb0 hlt
  have hzM := blk_lt hM
  have hzR := blk_lt hR
  by_cases hE : 0 ≤ E
  case' neg =>
    have hO : OK = false := by rw [unhide HO, decide_eq_false hE, Bool.false_and, Bool.false_and]
    have hRes := hide (unhide HZ hO)
    have hE2 : E < 0 := by omega
    obtain ⟨⟨d0, d1, d2, d3, d4, d5, d6, d7, d8, d9, d10⟩, f0, f1, f2, f3, f4, f5, f6, f7, f8, f9, f10⟩ := eleven_at hR
    have HR := hide hR
    have HB := hide hB
    clear hO HO HZ HM HP hM hR hB hE
    go_wp2_with fail
    refine bodyPost_atE (fun W' hW' => ?_)
    obtain ⟨⟨r0, r1, r2, r3, r4, r5, r6, r7, r8, r9, r10⟩, _⟩ := eleven_at (show W'.heap[w.heap.size]? = some (.cells #[.int .i64 0, .int .i64 0, .string ⟨#[]⟩, .int .i64 0, .int .i64 0, .int .i64 0, .int .i64 0, .int .i64 0, .int .i64 0, .string ⟨#[]⟩, .int .i64 0] 25 (0, 0)) by rw [hW']; exact eleven_set (unhide HR))
    have hbb : Below w.heap.size w W' := by rw [hW']; exact eleven_set_below (unhide HB) (Nat.le_refl _)
    exact bodyPost_ret (v := .tuple #[.agg #[.int .i64 0, .int .i64 0, .string ⟨#[]⟩, .int .i64 0, .int .i64 0, .int .i64 0, .int .i64 0, .int .i64 0, .int .i64 0, .string ⟨#[]⟩, .int .i64 0], .bool false]) (by simp [results, Tryd.results6, go_sem, r0, r1, r2, r3, r4, r5, r6, r7, r8, r9, r10]) rfl ⟨by rw [unhide hRes], hbb⟩
  have hE2 : ¬ (E < 0) := by omega
  cases hbd : (decide (B.size = 0) || mo)
  case' false =>
    have hO : OK = false := by rw [unhide HO, hbd, Bool.and_false, Bool.false_and]
    have hRes := hide (unhide HZ hO)
    simp only [Bool.or_eq_false_iff, decide_eq_false_iff_not] at hbd
    obtain ⟨hb1, rfl⟩ := hbd
    have hbe := not_empty B (by omega)
    obtain ⟨⟨d0, d1, d2, d3, d4, d5, d6, d7, d8, d9, d10⟩, f0, f1, f2, f3, f4, f5, f6, f7, f8, f9, f10⟩ := eleven_at hR
    have HR := hide hR
    have HB := hide hB
    clear hO HO HZ HM HP hM hR hB hE hb1
    go_wp2_with fail
    refine bodyPost_atE (fun W' hW' => ?_)
    obtain ⟨⟨r0, r1, r2, r3, r4, r5, r6, r7, r8, r9, r10⟩, _⟩ := eleven_at (show W'.heap[w.heap.size]? = some (.cells #[.int .i64 0, .int .i64 0, .string ⟨#[]⟩, .int .i64 0, .int .i64 0, .int .i64 0, .int .i64 0, .int .i64 0, .int .i64 0, .string ⟨#[]⟩, .int .i64 0] 25 (0, 0)) by rw [hW']; exact eleven_set (unhide HR))
    have hbb : Below w.heap.size w W' := by rw [hW']; exact eleven_set_below (unhide HB) (Nat.le_refl _)
    exact bodyPost_ret (v := .tuple #[.agg #[.int .i64 0, .int .i64 0, .string ⟨#[]⟩, .int .i64 0, .int .i64 0, .int .i64 0, .int .i64 0, .int .i64 0, .int .i64 0, .string ⟨#[]⟩, .int .i64 0], .bool false]) (by simp [results, Tryd.results6, go_sem, r0, r1, r2, r3, r4, r5, r6, r7, r8, r9, r10]) rfl ⟨by rw [unhide hRes], hbb⟩
  have HBD := hide hbd
  obtain ⟨q0, q1, q2, q3, q4, q5, q6, q7, q8, q9, q10⟩ := (eleven_at hM).1
  have HR := hide hR
  have HB := hide hB
  have HMB := hide hM
  clear hR hB hM
  have hcond : ((!B.toList.isEmpty) && !mo) = false := by
    rcases Bool.or_eq_true_iff.1 hbd with h | h
    · have h1 := eq_empty B (of_decide_eq_true h)
      subst h1
      rw [ByteArray.toList_eq]
      rfl
    · rw [h]; simp
  clear hbd
  have HQ : Hid ((B.toList.isEmpty = true) ∨ (B.toList.isEmpty = false ∧ mo = true)) := by
    cases h1 : B.toList.isEmpty
    · rw [h1] at hcond
      exact .inr ⟨rfl, by simpa using hcond⟩
    · exact .inl rfl
  clear hcond
  have HPP : Hid (∀ Q : Prop, (B.toList.isEmpty = true → Q) → (B.toList.isEmpty = false → mo = true → Q) → Q) := fun Q h1 h2 => (unhide HQ).elim h1 (fun h => h2 h.1 h.2)
  clear HQ
  refine unhide HPP _ (fun hbe => ?_) (fun hbe hmo => ?_)
  all_goals
    clear HPP
    go_wp2_with fail
    refine (unhide HP _).mono ?_
    rintro e w7 ⟨rfl, hb7⟩
    have HR7 := hide (blk_step (unhide HR) hb7)
    have HM7 := hide (blk_step (unhide HMB) hb7)
    have HB7 := hide ((unhide HB).trans (hb7.mono (unhide HB).size))
    have hzM7 := blk_lt (unhide HM7)
    have hzR7 := blk_lt (unhide HR7)
    clear hb7 HR HMB HB q0 q1 q2 q3 q4 q5 q6 q7 q8 q9 q10 HP hzM hzR
    obtain ⟨⟨d0, d1, d2, d3, d4, d5, d6, d7, d8, d9, d10⟩, f0, f1, f2, f3, f4, f5, f6, f7, f8, f9, f10⟩ := eleven_at (unhide HR7)
    by_cases hp : putOp ⟨s[0].toNat, N1, TX, N2, ⟨mK, mF, mT, mI, mL, mk, mN⟩⟩ = s
    case' neg =>
      have hO : OK = false := by rw [unhide HO, decide_eq_false hp, Bool.and_false]
      have hRes := hide (unhide HZ hO)
      have hq : ((putOp ⟨s[0].toNat, N1, TX, N2, ⟨mK, mF, mT, mI, mL, mk, mN⟩⟩).toList == s.toList) = false := by
        rw [beq_eq_false_iff_ne]
        intro h
        rw [ByteArray.toList_eq, ByteArray.toList_eq] at h
        exact hp (ByteArray.ext (Array.ext' h))
      clear hO HO HZ HM HBD hp
      generalize putOp ⟨s[0].toNat, N1, TX, N2, ⟨mK, mF, mT, mI, mL, mk, mN⟩⟩ = pm at *
      go_wp2_with fail
      refine bodyPost_atE (fun W' hW' => ?_)
      obtain ⟨⟨r0, r1, r2, r3, r4, r5, r6, r7, r8, r9, r10⟩, _⟩ := eleven_at (show W'.heap[w.heap.size]? = some (.cells #[.int .i64 0, .int .i64 0, .string ⟨#[]⟩, .int .i64 0, .int .i64 0, .int .i64 0, .int .i64 0, .int .i64 0, .int .i64 0, .string ⟨#[]⟩, .int .i64 0] 25 (0, 0)) by rw [hW']; exact eleven_set (unhide HR7))
      have hbb : Below w.heap.size w W' := by rw [hW']; exact eleven_set_below (unhide HB7) (Nat.le_refl _)
      exact bodyPost_ret (v := .tuple #[.agg #[.int .i64 0, .int .i64 0, .string ⟨#[]⟩, .int .i64 0, .int .i64 0, .int .i64 0, .int .i64 0, .int .i64 0, .int .i64 0, .string ⟨#[]⟩, .int .i64 0], .bool false]) (by simp [results, Tryd.results6, go_sem, r0, r1, r2, r3, r4, r5, r6, r7, r8, r9, r10]) rfl ⟨by rw [unhide hRes], hbb⟩
    have hO : OK = true := by rw [unhide HO, decide_eq_true hE, unhide HBD, decide_eq_true hp]; rfl
    have hRes := hide (unhide HM hO)
    have hq : ((putOp ⟨s[0].toNat, N1, TX, N2, ⟨mK, mF, mT, mI, mL, mk, mN⟩⟩).toList == s.toList) = true := by rw [hp]; simp
    obtain ⟨⟨q0, q1, q2, q3, q4, q5, q6, q7, q8, q9, q10⟩, _⟩ := eleven_at (unhide HM7)
    clear hO HO HZ HM HBD
    have HPX := hide hp
    clear hp
    generalize putOp ⟨s[0].toNat, N1, TX, N2, ⟨mK, mF, mT, mI, mL, mk, mN⟩⟩ = pm at *
    go_wp2_with fail
    refine bodyPost_atE (fun W' hW' => ?_)
    obtain ⟨⟨r0, r1, r2, r3, r4, r5, r6, r7, r8, r9, r10⟩, _⟩ := eleven_at (show W'.heap[w.heap.size]? = some (.cells #[.int .i64 (s[0].toNat : Int), .int .i64 N1, .string TX, .int .i64 N2, .int .i64 mK, .int .i64 mF, .int .i64 mT, .int .i64 mI, .int .i64 mL, .string mk, .int .i64 mN] 25 (0, 0)) by rw [hW']; exact eleven_set (unhide HR7))
    have hbb : Below w.heap.size w W' := by rw [hW']; exact eleven_set_below (unhide HB7) (Nat.le_refl _)
    exact bodyPost_ret (v := .tuple #[.agg #[.int .i64 (s[0].toNat : Int), .int .i64 N1, .string TX, .int .i64 N2, .int .i64 mK, .int .i64 mF, .int .i64 mT, .int .i64 mI, .int .i64 mL, .string mk, .int .i64 mN], .bool true]) (by simp [results, Tryd.results6, go_sem, r0, r1, r2, r3, r4, r5, r6, r7, r8, r9, r10]) rfl ⟨by rw [unhide hRes], hbb⟩
theorem specGetOp (s : ByteArray) (hs : s.size ≤ maxLen) (w : World) : Calls Tryd.prog 6 #[.string s] w fun e w' => e = .returned (gopV s) ∧ Below w.heap.size w w' := by
  by_cases h0 : s.size = 0
  · obtain rfl := eq_empty s h0
    rw [gopV_no (show gopB ByteArray.empty = false by unfold gopB; simp)]
    exact specGetOp_nil w
  · exact specGetOp_some s hs (by omega) w
end Go.Proofs.YtiinpdkgnflmeaaDoor
namespace Go.Proofs.YtiinpdkgnflmeaaDoor
open Go.RowKit
open Mth

set_option maxRecDepth 100000 in
set_option maxHeartbeats 2000000 in
theorem getClosure (a b : Nat) (s : ByteArray) (w : World) (hs : s.size ≤ maxLen) (hH : Handle w) (ha : w.cell? ⟨a, 0, none⟩ = some (.string s)) (hb : w.heap[b]? = some (.cells #[.int .i64 0, .int .i64 0, .string ⟨#[]⟩, .int .i64 0, .int .i64 0, .int .i64 0, .int .i64 0, .int .i64 0, .int .i64 0, .string ⟨#[]⟩, .int .i64 0] 25 (0, 0))) :
    Calls Tryd.prog 23 #[.pointer (some ⟨a, 0, none⟩), .pointer (some ⟨b, 0, none⟩)] w fun e w' => (gopB s = true ∧ e = .returned (.tuple #[]) ∧ w'.heap[b]? = some (.cells (opw (opC s)).cells 25 (0, 0)) ∨ gopB s = false ∧ (∃ p, e = pnc p) ∧ w'.heap[b]? = some (.cells #[.int .i64 0, .int .i64 0, .string ⟨#[]⟩, .int .i64 0, .int .i64 0, .int .i64 0, .int .i64 0, .int .i64 0, .int .i64 0, .string ⟨#[]⟩, .int .i64 0] 25 (0, 0))) ∧ Keep1 b w w' := by
  have HO := hide (opIn s w hs hH)
  have HB := hide hb
  clear hs hH hb
  generalize opC s = oc at *
  obtain ⟨K, no, k, n, ⟨mK, mF, mT, mI, mL, mk, mN⟩⟩ := oc
  go_enter Tryd.func23, Tryd.ntmps23
  go_wp2_with fail
  refine (unhide HO).mono ?_
  rintro e w1 ⟨hcase, hb1⟩
  have HB1 := hide (blk_step (unhide HB) hb1)
  have HK1 := hide (Keep1.of_below (g := b) hb1)
  clear hb1
  rcases hcase with ⟨hyes, rfl⟩ | ⟨hno, p, rfl⟩
  · obtain ⟨⟨d0, d1, d2, d3, d4, d5, d6, d7, d8, d9, d10⟩, f0, f1, f2, f3, f4, f5, f6, f7, f8, f9, f10⟩ := eleven_at (unhide HB1)
    go_wp2_with fail
    refine bodyPost_atE (fun W' hW' => ?_)
    have hR : W'.heap[b]? = some (.cells #[.int .i64 K, .int .i64 no, .string k, .int .i64 n, .int .i64 mK, .int .i64 mF, .int .i64 mT, .int .i64 mI, .int .i64 mL, .string mk, .int .i64 mN] 25 (0, 0)) := by rw [hW']; exact eleven_set (unhide HB1)
    have hK : Keep1 b w W' := by
      rw [hW']
      exact (((((((((((unhide HK1).trans (Keep1.set _)).trans (Keep1.set _)).trans (Keep1.set _)).trans (Keep1.set _)).trans (Keep1.set _)).trans (Keep1.set _)).trans (Keep1.set _)).trans (Keep1.set _)).trans (Keep1.set _)).trans (Keep1.set _)).trans (Keep1.set _)
    exact bodyPost_end (v := .tuple #[]) (by simp [results, Tryd.results23, go_sem]) rfl ⟨.inl ⟨hyes, rfl, hR⟩, hK⟩
  · go_wp2_with fail
    exact ⟨rfl, .inr ⟨hno, ⟨_, rfl⟩, unhide HB1⟩, unhide HK1⟩
set_option maxRecDepth 100000 in
set_option maxHeartbeats 2000000 in
theorem wasReadOp (a b : Nat) (s : ByteArray) (w : World) (hs : s.size ≤ maxLen) (hH : Handle w) (ha : w.cell? ⟨a, 0, none⟩ = some (.string s)) (hb : w.heap[b]? = some (.cells #[.int .i64 0, .int .i64 0, .string ⟨#[]⟩, .int .i64 0, .int .i64 0, .int .i64 0, .int .i64 0, .int .i64 0, .int .i64 0, .string ⟨#[]⟩, .int .i64 0] 25 (0, 0))) :
    Calls Tryd.prog 22 #[.func (.func 23) #[] #[.pointer (some ⟨a, 0, none⟩), .pointer (some ⟨b, 0, none⟩)]] w fun e w' => e = .returned (.bool (gopB s)) ∧ w'.heap[b]? = some (.cells (opw (getOp s)).cells 25 (0, 0)) ∧ Keep1 b w w' := by
  have HC := hide (getClosure a b s w hs hH ha hb)
  have HY : Hid (gopB s = true → opw (getOp s) = opw (opC s)) := fun h => by unfold getOp; rw [if_pos h]
  have HN : Hid (gopB s = false → opw (getOp s) = .agg #[.int .i64 0, .int .i64 0, .string ⟨#[]⟩, .int .i64 0, .int .i64 0, .int .i64 0, .int .i64 0, .int .i64 0, .int .i64 0, .string ⟨#[]⟩, .int .i64 0]) := fun h => by unfold getOp; rw [if_neg (by rw [h]; simp)]; rfl
  clear hs hH ha hb
  generalize gopB s = OK at *
  generalize opw (getOp s) = G at *
  generalize opw (opC s) = GC at *
  have hdf : ∀ (fn : Fn) (first cap : Array Value) (w : World), (Instr.makeFunc fn first cap).run Tryd.prog w = .ok (.func fn first cap) w := fun _ _ _ _ => rfl
  go_enter_defers Tryd.func22, Tryd.ntmps22
  go_wp2_with fail
  refine (unhide HC).mono ?_
  rintro e w1 ⟨hcase, hk⟩
  have HK := hide hk
  clear hk HC
  rcases hcase with ⟨rfl, rfl, hR⟩ | ⟨rfl, ⟨p, rfl⟩, hR⟩
  · have hG := unhide HY rfl
    subst hG
    have HR := hide hR
    clear hR HY HN
    go_wp2_with fail
    refine leaves_cons (f := 43) (args := #[]) (by simp) (by simp [go_sem]) ?_
    refine (catch_idle _).mono ?_
    rintro e u' w'' ⟨rfl, rfl, rfl⟩
    simp [Leaves, settle, results, Tryd.results22, go_sem]
    exact ⟨unhide HR, unhide HK⟩
  · have hG := unhide HN rfl
    subst hG
    have HR := hide hR
    clear hR HY HN
    go_wp2_with fail
    refine leaves_cons (f := 43) (args := #[]) (by simp) (by simp [go_sem]) ?_
    refine (catch_pnc p [] _).mono ?_
    rintro e u' w'' ⟨rfl, rfl, hb⟩
    have HR2 := hide (blk_step (unhide HR) hb)
    have HK2 := hide ((unhide HK).trans (Keep1.of_below hb))
    clear hb
    simp [Leaves, settle, results, Tryd.results22, go_sem]
    exact ⟨unhide HR2, unhide HK2⟩
set_option maxRecDepth 100000 in
set_option maxHeartbeats 2000000 in
theorem implGetOp (s : ByteArray) (hs : s.size ≤ maxLen) (w : World) (hH : Handle w) : Calls Tryd.prog 7 #[.string s] w fun e w' => e = .returned (gopV s) ∧ Below w.heap.size w w' := by
  obtain ⟨hP, hR, hO, hB⟩ := allocsG3 w (.cells #[.string s] 9) (.cells #[.int .i64 0, .int .i64 0, .string ⟨#[]⟩, .int .i64 0, .int .i64 0, .int .i64 0, .int .i64 0, .int .i64 0, .int .i64 0, .string ⟨#[]⟩, .int .i64 0] 25) (.cells #[.int .i64 0, .int .i64 0, .string ⟨#[]⟩, .int .i64 0, .int .i64 0, .int .i64 0, .int .i64 0, .int .i64 0, .int .i64 0, .string ⟨#[]⟩, .int .i64 0] 25)
  have hc : (((w.alloc (.cells #[.string s] 9)).alloc (.cells #[.int .i64 0, .int .i64 0, .string ⟨#[]⟩, .int .i64 0, .int .i64 0, .int .i64 0, .int .i64 0, .int .i64 0, .int .i64 0, .string ⟨#[]⟩, .int .i64 0] 25)).alloc (.cells #[.int .i64 0, .int .i64 0, .string ⟨#[]⟩, .int .i64 0, .int .i64 0, .int .i64 0, .int .i64 0, .int .i64 0, .int .i64 0, .string ⟨#[]⟩, .int .i64 0] 25)).cell? ⟨w.heap.size, 0, none⟩ = some (.string s) := cell_of_row _ w.heap.size 0 _ 9 (0, 0) hP
  have HW := hide (wasReadOp w.heap.size (w.heap.size + 1 + 1) s _ hs (hH.below hB) hc hO)
  have HR := hide hR
  have HB := hide hB
  unfold gopV
  clear hP hR hO hB hc hs hH
  generalize gopB s = OK at *
  generalize getOp s = oc at *
  obtain ⟨K, no, k, n, ⟨mK, mF, mT, mI, mL, mk, mN⟩⟩ := oc
  have hmf : ∀ (fn : Fn) (first cap : Array Value) (w : World), (Instr.makeFunc fn first cap).run Tryd.prog w = .ok (.func fn first cap) w := fun _ _ _ _ => rfl
  go_enter Tryd.func7, Tryd.ntmps7
  go_wp2_with fail
  refine (unhide HW).mono ?_
  rintro e w1 ⟨rfl, hO1, hk⟩
  have HO1 : Hid (w1.heap[w.heap.size + 1 + 1]? = some (.cells #[.int .i64 K, .int .i64 no, .string k, .int .i64 n, .int .i64 mK, .int .i64 mF, .int .i64 mT, .int .i64 mI, .int .i64 mL, .string mk, .int .i64 mN] 25 (0, 0))) := hO1
  have HR1 := hide (hk.obj (unhide HR) (show w.heap.size + 1 ≠ w.heap.size + 1 + 1 by omega))
  have HB1 := hide (hk.below (unhide HB) (by omega) (unhide HB).size)
  clear hk hO1 HW HR HB
  have hz1 := blk_lt (unhide HR1)
  have hz2 := blk_lt (unhide HO1)
  obtain ⟨⟨o0, o1, o2, o3, o4, o5, o6, o7, o8, o9, o10⟩, _⟩ := eleven_at (unhide HO1)
  obtain ⟨⟨d0, d1, d2, d3, d4, d5, d6, d7, d8, d9, d10⟩, f0, f1, f2, f3, f4, f5, f6, f7, f8, f9, f10⟩ := eleven_at (unhide HR1)
  go_wp2_with fail
  refine bodyPost_atE (fun W' hW' => ?_)
  obtain ⟨⟨r0, r1, r2, r3, r4, r5, r6, r7, r8, r9, r10⟩, _⟩ := eleven_at (show W'.heap[w.heap.size + 1]? = some (.cells #[.int .i64 K, .int .i64 no, .string k, .int .i64 n, .int .i64 mK, .int .i64 mF, .int .i64 mT, .int .i64 mI, .int .i64 mL, .string mk, .int .i64 mN] 25 (0, 0)) by rw [hW']; exact eleven_set (unhide HR1))
  have hbb : Below w.heap.size w W' := by rw [hW']; exact eleven_set_below (unhide HB1) (by omega)
  exact bodyPost_ret (v := .tuple #[.agg #[.int .i64 K, .int .i64 no, .string k, .int .i64 n, .int .i64 mK, .int .i64 mF, .int .i64 mT, .int .i64 mI, .int .i64 mL, .string mk, .int .i64 mN], .bool OK]) (by simp [results, Tryd.results7, go_sem, r0, r1, r2, r3, r4, r5, r6, r7, r8, r9, r10]) rfl ⟨rfl, hbb⟩
end Go.Proofs.YtiinpdkgnflmeaaDoor
namespace Go.Proofs.YtiinpdkgnflmeaaDoor
open Go.RowKit
open Mth

set_option maxRecDepth 100000 in
set_option maxHeartbeats 1000000 in
theorem eqMsg (m : Mg) (w : World) : Calls Tryd.prog 25 #[mgv m, mgv m] w fun e w' => e = .returned (.bool true) ∧ Below w.heap.size w w' := by
  obtain ⟨K, F, T, I, L, k, N⟩ := m
  go_enter Tryd.func25, Tryd.ntmps25
  go_wp2_with fail
  go_ret
  exact ⟨rfl, ((Below.refl _ _).alloc (Nat.le_refl _) _).alloc (by simp) _⟩
end Go.Proofs.YtiinpdkgnflmeaaDoor
namespace Go.Proofs.YtiinpdkgnflmeaaDoor
open Go.RowKit
open Mth

set_option maxRecDepth 100000 in
set_option maxHeartbeats 2000000 in
theorem eqOp (o : Op5) (w : World) : Calls Tryd.prog 8 #[opw o, opw o] w fun e w' => e = .returned (.bool true) ∧ Below w.heap.size w w' := by
  obtain ⟨K, no, k, n, m⟩ := o
  have HQ := hide (fun w1 => eqMsg m w1)
  obtain ⟨mK, mF, mT, mI, mL, mk, mN⟩ := m
  go_enter Tryd.func8, Tryd.ntmps8
  go_wp2_with fail
  refine (unhide HQ _).mono ?_
  rintro e w1 ⟨rfl, hb1⟩
  have hB := (allocsE2 w (.cells #[.int .i64 K, .int .i64 no, .string k, .int .i64 n, .int .i64 mK, .int .i64 mF, .int .i64 mT, .int .i64 mI, .int .i64 mL, .string mk, .int .i64 mN] 25) (.cells #[.int .i64 K, .int .i64 no, .string k, .int .i64 n, .int .i64 mK, .int .i64 mF, .int .i64 mT, .int .i64 mI, .int .i64 mL, .string mk, .int .i64 mN] 25)).2.2.trans (hb1.mono (by simp; omega))
  clear hb1
  go_wp2_with fail
  go_ret
  exact ⟨rfl, hB⟩
set_option maxRecDepth 100000 in
set_option maxHeartbeats 2000000 in
theorem fnExactGetOp_walk (s : ByteArray) (hs : s.size ≤ maxLen) (w : World) (hH : Handle w) : Calls Tryd.prog 3 #[.string s] w fun e w' => e = .returned (.bool true) ∧ Below w.heap.size w w' := by
  by_cases hbig : 1048576 < s.size
  · clear hs hH
    go_enter Tryd.func3, Tryd.ntmps3
    go_wp2_with fail
    go_ret
    exact ⟨rfl, Below.refl _ _⟩
  have HS := hide (fun w1 => specGetOp s hs w1)
  have HI := hide (fun w1 h => implGetOp s hs w1 h)
  have HQ := hide (fun w1 => eqOp (getOp s) w1)
  unfold gopV at HS HI
  generalize gopB s = ok at *
  generalize getOp s = o at *
  have HH := hide hH
  clear hs hH
  obtain ⟨K, no, k, n, ⟨mK, mF, mT, mI, mL, mk, mN⟩⟩ := o
  go_enter Tryd.func3, Tryd.ntmps3
  go_wp2_with fail
  refine (unhide HS _).mono ?_
  rintro e w1 ⟨rfl, hb1⟩
  have HB1 := hide hb1
  clear hb1
  go_wp2_with fail
  have hB2 : Below w.heap.size w (w1.alloc (.cells #[.int .i64 K, .int .i64 no, .string k, .int .i64 n, .int .i64 mK, .int .i64 mF, .int .i64 mT, .int .i64 mI, .int .i64 mL, .string mk, .int .i64 mN] 25)) := (unhide HB1).alloc (unhide HB1).size _
  refine (unhide HI _ ((unhide HH).below hB2)).mono ?_
  rintro e w3 ⟨rfl, hb3⟩
  have hW3 := blk_step (heap_alloc_new w1 _) hb3
  have hB3 := hB2.trans (hb3.mono hB2.size)
  obtain ⟨⟨c0, c1, c2, c3, c4, c5, c6, c7, c8, c9, c10⟩, _⟩ := eleven_at hW3
  have hz3 := blk_lt hW3
  have HB3 := hide hB3
  clear hb3 hB2 hW3 hB3 HB1
  go_wp2_with fail
  refine (unhide HQ _).mono ?_
  rintro e w4 ⟨rfl, hb4⟩
  have hB4 := ((unhide HB3).alloc (unhide HB3).size (.cells #[.int .i64 K, .int .i64 no, .string k, .int .i64 n, .int .i64 mK, .int .i64 mF, .int .i64 mT, .int .i64 mI, .int .i64 mL, .string mk, .int .i64 mN] 25)).trans (hb4.mono (by have := (unhide HB3).size; simp; omega))
  clear hb4
  cases ok
  all_goals
    go_wp2_with fail
    go_ret
    exact ⟨rfl, hB4⟩
end Go.Proofs.YtiinpdkgnflmeaaDoor
