/-
  NdDoI.
-/
import Derived.Test.YtppmcficiphgdaaGreatDoorQa21
import Derived.Test.YtppmcficiphgdaaGreatDoorQa26
import Derived.Test.YtppmcficiphgdaaGreatDoorQa16
import Derived.Test.YtppmcficiphgdaaGreatDoorQaZ3
namespace Go.Proofs.YtppmcficiphgdaaGreatDoor
set_option maxHeartbeats 8000000
set_option maxRecDepth 100000
open Go.RowKit
open Mth
theorem NO.base {w:World} {B B':Nat} {n:Nd} {A:Ads} {G:Blks} {c:Nat→Nat} (h:NO w B n A G c) (hB:B'≤B):NO w B' n A G c:=
 ⟨h.k,h.p,own_base h.o hB,h.s,own_base h.r hB,fun x hx=>h.lo x (by omega),h.ck,h.cp,h.co,h.c4,h.ci,h.cr,h.ni⟩
theorem NO.kc0 {w w':World} {B:Nat} {n:Nd} {A:Ads} {G:Blks} {c:Nat→Nat} (h:NO w B n A G c) (hk:KC c 0 w w'):NO w' B n A G c:=
 ⟨hk.w h.k h.ck (by omega),hk.w h.p h.cp (by omega),hk.own h.o h.co (by omega),hk.seen h.s h.c4 h.ci (by omega) (by omega),hk.own h.r h.cr (by omega),h.lo,h.ck,h.cp,h.co,h.c4,h.ci,h.cr,h.ni⟩
theorem allocs3E (w:World) (a b d:Obj):(((w.alloc a).alloc b).alloc d).heap[w.heap.size]?=some a∧(((w.alloc a).alloc b).alloc d).heap[w.heap.size+1]?=some b∧(((w.alloc a).alloc b).alloc d).heap[w.heap.size+2]?=some d∧Below w.heap.size w (((w.alloc a).alloc b).alloc d):=allocs3 w a b d
theorem far9 {w:World} {g h i:Nat} {u b0 b1 b2 b3 b4 b5 b6 b7 b8:Value} (hne:g≠h) (e:w.cell? ⟨h,i,none⟩=some u):
 (((((((((w.setCell ⟨g,0,none⟩ b0).setCell ⟨g,1,none⟩ b1).setCell ⟨g,2,none⟩ b2).setCell ⟨g,3,none⟩ b3).setCell ⟨g,4,none⟩ b4).setCell ⟨g,5,none⟩ b5).setCell ⟨g,6,none⟩ b6).setCell ⟨g,7,none⟩ b7).setCell ⟨g,8,none⟩ b8).cell? ⟨h,i,none⟩=some u:=by
 rw [World.cell?_setCell_far _ _ _ _ hne,World.cell?_setCell_far _ _ _ _ hne,World.cell?_setCell_far _ _ _ _ hne,World.cell?_setCell_far _ _ _ _ hne,World.cell?_setCell_far _ _ _ _ hne,World.cell?_setCell_far _ _ _ _ hne,World.cell?_setCell_far _ _ _ _ hne,World.cell?_setCell_far _ _ _ _ hne,World.cell?_setCell_far _ _ _ _ hne];exact e
theorem wpAny_two {P:Program} {ops:Array Oper} {Q:Exit→Act→World→Prop} {md:Region.Mode} (i j:Nat) {oi oj:Oper} {fuel:Nat} {listed:Array Bool} {a:Act} {w:World} (hi:ops[i]?=some oi) (hj:ops[j]?=some oj) (hr:Region.ready md ops listed=[i,j]) (hwi:Region.wanted oi (yielded ops a.tmps)=true) (hwj:Region.wanted oj (yielded ops a.tmps)=true)
 (h1:oi.wp P a w (wpAny P md ops Q fuel (listed.setIfInBounds i true)) Q) (h2:oj.wp P a w (wpAny P md ops Q fuel (listed.setIfInBounds j true)) Q):wpAny P md ops Q (fuel+1) listed a w:=by
 refine⟨fun h=>(by rw [hr] at h;cases h),fun k hk=>?_⟩;rw [hr] at hk;have hk':k=i∨k=j:=by simpa using hk
 rcases hk' with rfl|rfl
 ·unfold wpOp;simp only[hi];rw [if_pos hwi];exact .inl h1
 ·unfold wpOp;simp only[hj];rw [if_pos hwj];exact .inl h2
def GivesD (w:World) (R:Nd×List Mg×Int) (e:Ending) (w':World):Prop:=∃A' G' c' v',e= .returned (.tuple #[ndv R.1 A',v',.int .i64 R.2.2])∧NO w' w.heap.size R.1 A' G' c'∧w'.ownsRow w.heap.size 32 7 v' R.2.1.length (GR.flat encM R.2.1)∧(∀x,v'.ownBlock=some x→c' x=7)∧Below w.heap.size w w'
theorem WK.start {w0 y W:World} {wb:Nat} {n:Nd} {A:Ads} {G:Blks} {c:Nat→Nat} (hb:Below w0.heap.size w0 y) (hN:NO y w0.heap.size n A G c) (hs:y.heap.size≤wb) (hY:Below y.heap.size y W) (hblk:W.heap[wb]?=some (.cells (wkc n A (.slice none 0 0)) 74 (0,0))):WK w0 W wb n A G (newC y.heap.size 8 c) (.slice none 0 0) []:=by
 have h1:=(hN.recol (c':=newC y.heap.size 8 c) hb.size (fun x hx=>newC_old hx)).kc (k:=9) (KC.of_below hY) (by omega);exact⟨hb.trans (hY.mono hb.size),hblk,h1,World.ownsRow_nil _ _ _ _,(fun x hx=>by cases hx),newC_new hs⟩
theorem implNodeDo_bad (n:Nd) (A:Ads) (o:Op5) (w:World) (hz:NdSz n 1048576) (hok:ndOk n=false) (ha:NodeAt w A n):
 Calls Tryz.prog 10 #[ndv n A,opw o] w (GivesD w (doN n o)):=by
 rw [doN_bad hok];open Sa299 in exact Ya83
theorem implNodeDo_ok (n:Nd) (A:Ads) (o:Op5) (E:Nat→Addr) (w:World) (hz:NdSz n 1048576) (hk:o.k.size≤1048576) (hmk:o.m.k.size≤1048576) (hok:ndOk n=true) (ha:NodeAt w A n) (he:Errs w E):
 Calls Tryz.prog 10 #[ndv n A,opw o] w (GivesD w (doN n o)):=by
 rw [doN_ok hok];open Sa298 in exact Ya83
theorem implNodeDo (n:Nd) (A:Ads) (o:Op5) (E:Nat→Addr) (w:World) (hz:NdSz n 1048576) (hk:o.k.size≤1048576) (hmk:o.m.k.size≤1048576) (ha:NodeAt w A n) (he:Errs w E):
 Calls Tryz.prog 10 #[ndv n A,opw o] w (GivesD w (doN n o)):=by
 cases hok:ndOk n with
 |false=>exact implNodeDo_bad n A o w hz hok ha
 |true=>exact implNodeDo_ok n A o E w hz hk hmk hok ha he
end Go.Proofs.YtppmcficiphgdaaGreatDoor
