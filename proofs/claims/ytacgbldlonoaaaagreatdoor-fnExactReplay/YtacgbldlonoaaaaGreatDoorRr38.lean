/- Parts. -/
import Derived.Test.YtacgbldlonoaaaaGreatDoorRr37
namespace Go.Proofs.YtacgbldlonoaaaaGreatDoor
set_option maxHeartbeats 8000000
set_option maxRecDepth 100000
open Go.RowKit
open Mth
theorem FJ (n:Nd) (A:bH) (G:aV) (c:Nat->Nat) (mK mF mT mI mL:Int) (mk:ByteArray) (mN:Int) (w:World) (B:Nat) (hB:B<=w.heap.size) (h9:∀x,6 < c x->c x=9) (hkl:n.kids.length<=1048600) (hmk:mk.size<=1048576) (hmo:bX ⟨mK,mF,mT,mI,mL,mk,mN⟩=true) (h1:mT≠n.id) (h:NQ w B n A G c):Calls Tryz.prog 41 #[fI n A,.agg (bJ mK mF mT mI mL mk mN)] w (fq w B c (n,[],3)):=by
 have q0:(mT != n.id)=true:=Aaq
 have q0':(mT == n.id)=false:=Aaq
 unfold fq;have H9:=Hq h9;clear h9;have VR:=Hq (λW=>jV ⟨mK,mF,mT,mI,mL,mk,mN⟩ W Aal);rw [hmo] at VR;unfold nS at VR;have OY:=Hq (λW (ha:eu W A.k n.kids)=>Eh n A mF W hkl ha);clear hmo;have jP:=Hq (h.nine hB);clear h;go_enter Tryz.func41,Tryz.ntmps41
 go_upto_region 1 with fail;refine wp_at (λW0 hW=>?_);obtain⟨e1,e2,e3,e4⟩:=fC w (.cells (dH n A) 30) (.cells (bJ mK mF mT mI mL mk mN) 32) (.cells gu 30);open aj7 in exact arM
theorem FI (n:Nd) (A:bH) (G:aV) (c:Nat->Nat) (mK mF mT mI mL:Int) (mk:ByteArray) (mN:Int) (w:World) (B:Nat) (hB:B<=w.heap.size) (h9:∀x,6 < c x->c x=9) (hkl:n.kids.length<=1048600) (hmk:mk.size<=1048576) (hmo:bX ⟨mK,mF,mT,mI,mL,mk,mN⟩=true) (h1:mT=n.id) (h2:dV n mF=false) (h:NQ w B n A G c):Calls Tryz.prog 41 #[fI n A,.agg (bJ mK mF mT mI mL mk mN)] w (fq w B c (n,[],3)):=by
 open aqC in exact Lp
theorem Oq (n:Nd) (A:bH) (G:aV) (c:Nat->Nat) (mK mF mT mI mL:Int) (mk:ByteArray) (mN:Int) (w:World) (B:Nat) (hB:B<=w.heap.size) (h9:∀x,6 < c x->c x=9) (hkl:n.kids.length<=1048600) (hmk:mk.size<=1048576) (hmo:bX ⟨mK,mF,mT,mI,mL,mk,mN⟩=true) (h1:mT=n.id) (h2:dV n mF=true) (h3:mK=0) (h4:mF=n.par) (h:NQ w B n A G c):Calls Tryz.prog 41 #[fI n A,.agg (bJ mK mF mT mI mL mk mN)] w (fq w B c (n,[],1)):=by
 open aqB in exact Lp
theorem FM (n:Nd) (A:bH) (G:aV) (c:Nat->Nat) (mK mF mT mI mL:Int) (mk:ByteArray) (mN:Int) (w:World) (B:Nat) (hB:B<=w.heap.size) (h9:∀x,6 < c x->c x=9) (hkl:n.kids.length<=1048600) (hmk:mk.size<=1048576) (hmo:bX ⟨mK,mF,mT,mI,mL,mk,mN⟩=true) (hz:fu n 1048576) (hP:∃g,A.p=some ⟨g,0,none⟩) (tu:n.pu.length<=A.cp) (h0:0<=n.next) (h1:mT=n.id) (h2:dV n mF=true) (h3:mK=0) (h4:mF≠n.par) (h:NQ w B n A G c):Calls Tryz.prog 41 #[fI n A,.agg (bJ mK mF mT mI mL mk mN)] w (fq w B c ((eO n mF mk mN).1,(eO n mF mk mN).2.1,0)):=by
 open aqA in exact Lp
theorem FN (n:Nd) (A:bH) (G:aV) (c:Nat->Nat) (mK mF mT mI mL:Int) (mk:ByteArray) (mN:Int) (w:World) (B:Nat) (hB:B<=w.heap.size) (h9:∀x,6 < c x->c x=9) (hkl:n.kids.length<=1048600) (hmk:mk.size<=1048576) (hmo:bX ⟨mK,mF,mT,mI,mL,mk,mN⟩=true) (hol:n.out.length<=1048576) (h1:mT=n.id) (h2:dV n mF=true) (h3:mK=2) (h:NQ w B n A G c):Calls Tryz.prog 41 #[fI n A,.agg (bJ mK mF mT mI mL mk mN)] w (fq w B c (setOut n (n.out.filter (λs=> !iK ⟨2,mF,mT,mI,mL,mk,mN⟩ s)),[],0)):=by
 open aqD in exact Lp
end Go.Proofs.YtacgbldlonoaaaaGreatDoor
