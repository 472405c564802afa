/- Parts. -/
import Derived.Test.YtohmklmkjmlpjaaGreatDoorRc31
namespace Go.Proofs.YtohmklmkjmlpjaaGreatDoor
open Go.Proofs.Tryz
set_option maxHeartbeats 8000000
set_option maxRecDepth 100000
open Go.RowKit
open Mth
variable (n:Nd) (A:bV) (G:aR) (c:Nat->Nat) (mK mF mT mI mL:Int) (mk:ByteArray) (mN:Int) (w:World) (B:Nat)
theorem Jh (hB:B<=w.heap.size) (h9:∀x,6 < c x->c x=9) (hkl:n.kids.length<=1048600) (hmk:mk.size<=1048576) (hmo:cZ ⟨mK,mF,mT,mI,mL,mk,mN⟩=true) (h1:mT≠n.id) (h:NQ w B n A G c):Calls prog 110 #[gP n A,.agg (bX mK mF mT mI mL mk mN)] w (gJ w B c (n,[],3)):=by
 have q0:(mT != n.id)=true:=Aax
 have q0':(mT == n.id)=false:=Aax
 unfold gJ;have H9:=Hq h9;clear h9;have HMO:=Hq (λW=>kZ ⟨mK,mF,mT,mI,mL,mk,mN⟩ W Aal);rw [hmo] at HMO;unfold oz at HMO;have Sl:=Hq (λW (ha:dH W A.k n.kids)=>GK n A mF W hkl ha);clear hmo;have mZ:=Hq (h.nine hB);clear h;go_in
 go_upto_region 1 with fail;refine wp_at (λW0 hW=>?_);obtain⟨e1,e2,e3,e4⟩:=gF w (.cells (dG n A) 40) (.cells (bX mK mF mT mI mL mk mN) 98) (.cells iP 40);open aqg in exact ayy
theorem Jg (hB:B<=w.heap.size) (h9:∀x,6 < c x->c x=9) (hkl:n.kids.length<=1048600) (hmk:mk.size<=1048576) (hmo:cZ ⟨mK,mF,mT,mI,mL,mk,mN⟩=true) (h1:mT=n.id) (h2:eD n mF=false) (h:NQ w B n A G c):Calls prog 110 #[gP n A,.agg (bX mK mF mT mI mL mk mN)] w (gJ w B c (n,[],3)):=by
 open axO in exact O3
theorem Rx (hB:B<=w.heap.size) (h9:∀x,6 < c x->c x=9) (hkl:n.kids.length<=1048600) (hmk:mk.size<=1048576) (hmo:cZ ⟨mK,mF,mT,mI,mL,mk,mN⟩=true) (h1:mT=n.id) (h2:eD n mF=true) (h3:mK=0) (h4:mF=n.par) (h:NQ w B n A G c):Calls prog 110 #[gP n A,.agg (bX mK mF mT mI mL mk mN)] w (gJ w B c (n,[],1)):=by
 open axN in exact O3
theorem Ji (hB:B<=w.heap.size) (h9:∀x,6 < c x->c x=9) (hkl:n.kids.length<=1048600) (hmk:mk.size<=1048576) (hmo:cZ ⟨mK,mF,mT,mI,mL,mk,mN⟩=true) (hz:eG n 1048576) (hP:∃g,A.p=some ⟨g,0,none⟩) (xR:n.pu.length<=A.cp) (h0:0<=n.next) (h1:mT=n.id) (h2:eD n mF=true) (h3:mK=0) (h4:mF≠n.par) (h:NQ w B n A G c):Calls prog 110 #[gP n A,.agg (bX mK mF mT mI mL mk mN)] w (gJ w B c ((fC n mF mk mN).1,(fC n mF mk mN).2.1,0)):=by
 open axM in exact O3
theorem Jj (hB:B<=w.heap.size) (h9:∀x,6 < c x->c x=9) (hkl:n.kids.length<=1048600) (hmk:mk.size<=1048576) (hmo:cZ ⟨mK,mF,mT,mI,mL,mk,mN⟩=true) (hol:n.out.length<=1048576) (h1:mT=n.id) (h2:eD n mF=true) (h3:mK=2) (h:NQ w B n A G c):Calls prog 110 #[gP n A,.agg (bX mK mF mT mI mL mk mN)] w (gJ w B c (setOut n (n.out.filter (λs=> !jg ⟨2,mF,mT,mI,mL,mk,mN⟩ s)),[],0)):=by
 open axP in exact O3
end Go.Proofs.YtohmklmkjmlpjaaGreatDoor
