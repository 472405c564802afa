/-
  The law's walk: FnExactReadTree returns true at every text.
-/
import Derived.Test.YtccpcmhideijpaaDoorTrReadI
import Derived.Test.YtccpcmhideijpaaDoorNdMark
namespace Go.Proofs.YtccpcmhideijpaaDoor
open Go.RowKit
open Mth

set_option maxRecDepth 100000 in
theorem markTreeG (a : Option Addr) (g c s : Nat) (l : List Int) (w : World) (hs0 : 0 < s) (hs1 : s ≤ 4000000000000) (hl : l.length ≤ 1048600) (ha : GR.W encNum 1 w a g l) :
    Calls Tryd.prog 8 #[trv a l c, .int .i64 s] w fun e w' => e = .returned (.int .i64 (s + (l.length : Int))) ∧ GR.W encNum 1 w' a g (mks mkInt 1 s l l.length) ∧ KeepsL (fp g l) w w' := by
  have hb := below_one' w (.cells #[.slice a l.length c] 24)
  have HC := hide (markIntG a g c s l _ hs0 hs1 hl (ha.below hb))
  have HB := hide hb
  clear ha hb
  go_enter Tryd.func8, Tryd.ntmps8
  go_wp2_with (go_at_call 21; refine (unhide HC).mono ?_; rintro e w1 ⟨rfl, hW1, hk1⟩; have HW1 := hide hW1; have HK1 := hide hk1; clear hW1 hk1)
  go_ret
  exact ⟨rfl, unhide HW1, (KeepsL.of_below (unhide HB)).trans (unhide HK1)⟩
set_option maxRecDepth 100000 in
theorem heldTreeG (a : Option Addr) (g c s : Nat) (l : List Int) (w : World) (hs0 : 0 < s) (hs1 : s ≤ 4000000000000) (hl : l.length ≤ 1048600) (ha : GR.W encNum 1 w a g (mks mkInt 1 s l l.length)) :
    Calls Tryd.prog 9 #[trv a l c, .int .i64 s] w fun e w' => e = .returned (.int .i64 (s + (l.length : Int))) ∧ Below w.heap.size w w' := by
  have hb := below_one' w (.cells #[.slice a l.length c] 24)
  have HC := hide (heldIntG a g c l.length s l _ rfl hs0 hs1 hl (ha.below hb))
  have HB := hide hb
  clear ha hb
  have hp : decide (((s : Nat) : Int) + (l.length : Int) < 0) = false := decide_eq_false (by omega)
  go_enter Tryd.func9, Tryd.ntmps9
  go_wp2_with (go_at_call 22; refine (unhide HC).mono ?_; rintro e w1 ⟨rfl, hb1⟩)
  go_ret
  exact ⟨rfl, (unhide HB).trans (hb1.mono (unhide HB).size)⟩
theorem rdTree_len (l : List Int) : (rdTree l).1.length ≤ l.length := by unfold rdTree; split <;> simp
/-- What the program wants of the world. -/
def RtIs (w : World) : Prop := MaxLenIs w ∧ Handle w
theorem RtIs.below {w w' : World} (h : RtIs w) (hb : Below w.heap.size w w') : RtIs w' := ⟨h.1.below hb, h.2.below hb⟩
set_option maxRecDepth 100000 in
set_option maxHeartbeats 4000000 in
theorem fnExactReadTree_walk (s : ByteArray) (_hs : s.size ≤ maxLen) (w : World) (hR : RtIs w) : Calls Tryd.prog 3 #[.string s] w fun e w' => e = .returned (.bool true) ∧ Below w.heap.size w w' := by
  by_cases hbig : 1048576 < s.size
  · clear _hs hR
    go_enter Tryd.func3, Tryd.ntmps3
    go_wp2_with fail
    go_ret
    exact ⟨rfl, Below.refl _ _⟩
  have HSR := hide (specReadTree s w (by omega))
  have HIR := hide (fun W (h : Below w.heap.size w W) => implReadTree s W (by omega) (hR.below h).1 (hR.below h).2)
  have hlen := Nat.le_trans (rdTree_len (upOf s)) (upOf_len s (by omega))
  unfold GivesTr at HSR HIR
  clear _hs hR
  generalize rdTree (upOf s) = RD at *
  obtain ⟨l, ok⟩ := RD
  dsimp only at HSR HIR hlen
  have hokk : (ok != ok) = false := by simp
  go_enter Tryd.func3, Tryd.ntmps3
  go_wp2_with fail
  refine (unhide HSR).mono ?_
  rintro e w1 ⟨v0, rfl, ho0, hb1⟩
  obtain ⟨a0, c0, g0, rfl, hW0, hg0, _⟩ := GR.W.of_own encNum_length ho0
  have hz0 := hb1.size
  have HX1 := hide (heap_alloc_new w1 (.cells #[.slice a0 l.length c0] 24))
  have hbw1 := below_one' w1 (.cells #[.slice a0 l.length c0] 24)
  have HW0 := hide (hW0.below hbw1)
  have HB1 := hide (hb1.trans (hbw1.mono hb1.size))
  have hg0' : ∀ x ∈ fp g0 l, x < w1.heap.size := fun x hx => (hg0 x hx).2
  clear hb1 hW0 ho0 HSR hbw1 hg0
  go_wp2_with fail
  generalize w1.alloc (.cells #[.slice a0 l.length c0] 24) = W1 at *
  refine (unhide HIR W1 (unhide HB1)).mono ?_
  rintro e w2 ⟨v1, rfl, ho1, hb2⟩
  obtain ⟨a1, c1, g1, rfl, hW1, hg1, _⟩ := GR.W.of_own encNum_length ho1
  have hbw2 := below_one' w2 (.cells #[.slice a1 l.length c1] 24)
  have hz1 := tr_lt (unhide HX1)
  have hz2 := hb2.size
  have hgg : ∀ x ∈ fp g1 l, W1.heap.size ≤ x ∧ x < w2.heap.size := hg1
  have HX2 := hide (tr_step (tr_step (unhide HX1) hb2) hbw2)
  have HW02 := hide (((unhide HW0).below hb2).below hbw2)
  have HW1 := hide (hW1.below hbw2)
  have HB2 := hide (((unhide HB1).trans (hb2.mono (unhide HB1).size)).trans (hbw2.mono (Nat.le_trans (unhide HB1).size hb2.size)))
  have HY2 := hide (heap_alloc_new w2 (.cells #[.slice a1 l.length c1] 24))
  clear hb2 hW1 ho1 HW0 HB1 HX1 hbw2 hg1
  go_upto_region 5 with fail
  refine wp_at (fun W2 hW2 => ?_)
  rw [← hW2] at HX2 HW02 HW1 HB2 HY2
  clear hW2
  obtain ⟨x2, _⟩ := one_at (unhide HX2)
  obtain ⟨y2, _⟩ := one_at (unhide HY2)
  go_wp2_with fail
  refine (eqTree a1 a0 c1 c0 l W2 (by omega) (unhide HW1).at (unhide HW02).at).mono ?_
  rintro e w3 ⟨rfl, hb3⟩
  have HX3 := hide (tr_step (unhide HX2) hb3)
  have HY3 := hide (tr_step (unhide HY2) hb3)
  have HW03 := hide ((unhide HW02).below hb3)
  have HW13 := hide ((unhide HW1).below hb3)
  have HB3 := hide ((unhide HB2).trans (hb3.mono (unhide HB2).size))
  have hz3 := tr_lt (unhide HY3)
  clear hb3 x2 y2 HX2 HY2 HW02 HW1 HB2
  obtain ⟨y3, _⟩ := one_at (unhide HY3)
  go_wp2_with fail
  refine (markTreeG a1 g1 c1 1 l w3 (by omega) (by omega) (by omega) (unhide HW13)).mono ?_
  rintro e w4 ⟨rfl, hM4, hk4⟩
  have HB4 := hide ((unhide HB3).trans (hk4.below (B := w.heap.size) (fun x hx => by have := (hgg x hx).1; omega) (unhide HB3).size))
  have HX4 := hide (hk4.obj (unhide HX3) (fun hx => by have := (hgg _ hx).1; omega))
  have HY4 := hide (hk4.obj (unhide HY3) (fun hx => by have := (hgg _ hx).2; omega))
  have HW04 := hide ((unhide HW03).keeps hk4 (fun x hx hx2 => by have h1 := hg0' x hx; have h2 := (hgg x hx2).1; omega))
  have HM4 := hide hM4
  have hz4 := tr_lt (unhide HY4)
  clear hk4 hM4 HX3 HY3 HW03 HW13 HB3 y3
  obtain ⟨y4, _⟩ := one_at (unhide HY4)
  have hp1 : decide (((1 : Nat) : Int) + (l.length : Int) < 0) = false := decide_eq_false (by omega)
  have hp2 : decide ((1 : Int) + (l.length : Int) < 0) = false := decide_eq_false (by omega)
  have hp3 : (((1 : Nat) : Int) + (l.length : Int) != ((1 : Nat) : Int) + (l.length : Int)) = false := by simp
  have hp4 : ((1 : Int) + (l.length : Int) != (1 : Int) + (l.length : Int)) = false := by simp
  go_wp2_with fail
  refine (heldTreeG a1 g1 c1 1 l w4 (by omega) (by omega) (by omega) (unhide HM4)).mono ?_
  rintro e w5 ⟨rfl, hb5⟩
  have HB5 := hide ((unhide HB4).trans (hb5.mono (unhide HB4).size))
  have HX5 := hide (tr_step (unhide HX4) hb5)
  have HY5 := hide (tr_step (unhide HY4) hb5)
  have HW05 := hide ((unhide HW04).below hb5)
  have HM5 := hide ((unhide HM4).below hb5)
  clear hb5 y4 HX4 HY4 HW04 HM4 HB4
  go_wp2_with fail
  refine (unhide HIR w5 (unhide HB5)).mono ?_
  rintro e w6 ⟨v6, rfl, ho6, hb6⟩
  obtain ⟨a6, c6, g6, rfl, hW6, hg6, _⟩ := GR.W.of_own encNum_length ho6
  have hbw6 := below_one' w6 (.cells #[.slice a6 l.length c6] 24)
  have HX6 := hide (tr_step (tr_step (unhide HX5) hb6) hbw6)
  have HY6 := hide (tr_step (tr_step (unhide HY5) hb6) hbw6)
  have HW06 := hide (((unhide HW05).below hb6).below hbw6)
  have HM6 := hide (((unhide HM5).below hb6).below hbw6)
  have HW6 := hide (hW6.below hbw6)
  have HB6 := hide (((unhide HB5).trans (hb6.mono (unhide HB5).size)).trans (hbw6.mono (Nat.le_trans (unhide HB5).size hb6.size)))
  have HV6 := hide (heap_alloc_new w6 (.cells #[.slice a6 l.length c6] 24))
  clear hb6 hW6 ho6 hbw6 hg6 HX5 HY5 HW05 HM5 HB5
  go_upto_region 16 with fail
  refine wp_at (fun W6 hW6 => ?_)
  rw [← hW6] at HX6 HY6 HW06 HM6 HW6 HB6 HV6
  clear hW6
  obtain ⟨x6, _⟩ := one_at (unhide HX6)
  obtain ⟨u6, _⟩ := one_at (unhide HV6)
  go_wp2_with fail
  refine (eqTree a6 a0 c6 c0 l W6 (by omega) (unhide HW6).at (unhide HW06).at).mono ?_
  rintro e w7 ⟨rfl, hb7⟩
  have HY7 := hide (tr_step (unhide HY6) hb7)
  have HM7 := hide ((unhide HM6).below hb7)
  have HB7 := hide ((unhide HB6).trans (hb7.mono (unhide HB6).size))
  clear hb7 x6 u6 HX6 HY6 HW06 HM6 HW6 HB6 HV6
  obtain ⟨y7, _⟩ := one_at (unhide HY7)
  go_wp2_with fail
  refine (heldTreeG a1 g1 c1 1 l w7 (by omega) (by omega) (by omega) (unhide HM7)).mono ?_
  rintro e w8 ⟨rfl, hb8⟩
  go_wp2_with fail
  go_ret
  exact ⟨rfl, (unhide HB7).trans (hb8.mono (unhide HB7).size)⟩
end Go.Proofs.YtccpcmhideijpaaDoor
