/- Parts. -/
import Derived.Test.YtohmklmkjmlpjaaGreatDoorRk31
namespace Go.Proofs.YtohmklmkjmlpjaaGreatDoor
open Go.Proofs.Tryz
set_option maxHeartbeats 8000000
set_option maxRecDepth 100000
open Go.RowKit
open Mth
variable (n:Nd) (A:bQ) (G:aX) (c:Nat->Nat) (mK mF mT mI mL:Int) (mk:ByteArray) (mN:Int) (w:World) (B:Nat)
theorem Ig (hB:B<=w.heap.size) (h9:∀x,6 < c x->c x=9) (hkl:n.kids.length<=1048600) (hmk:mk.size<=1048576) (hmo:cZ ⟨mK,mF,mT,mI,mL,mk,mN⟩=true) (h1:mT≠n.id) (h:NQ w B n A G c):Calls prog 110 #[gB n A,.agg (bV mK mF mT mI mL mk mN)] w (gD w B c (n,[],3)):=by
 have q0:(mT != n.id)=true:=Aaw
 have q0':(mT == n.id)=false:=Aaw
 unfold gD;have H9:=Hq h9;clear h9;have Zd:=Hq (λW=>jZ ⟨mK,mF,mT,mI,mL,mk,mN⟩ W Aam);rw [hmo] at Zd;unfold nK at Zd;have Ra:=Hq (λW (ha:bX W A.k n.kids)=>FN n A mF W hkl ha);clear hmo;have l7:=Hq (h.nine hB);clear h;go_in
 go_upto_region 1 with fail;refine wp_at (λW0 hW=>?_);obtain⟨e1,e2,e3,e4⟩:=fV w (.cells (dG n A) 40) (.cells (bV mK mF mT mI mL mk mN) 98) (.cells iF 40);open aoP in exact awn
theorem Ie (hB:B<=w.heap.size) (h9:∀x,6 < c x->c x=9) (hkl:n.kids.length<=1048600) (hmk:mk.size<=1048576) (hmo:cZ ⟨mK,mF,mT,mI,mL,mk,mN⟩=true) (h1:mT=n.id) (h2:dZ n mF=false) (h:NQ w B n A G c):Calls prog 110 #[gB n A,.agg (bV mK mF mT mI mL mk mN)] w (gD w B c (n,[],3)):=by
 open avF in exact N8
theorem QG (hB:B<=w.heap.size) (h9:∀x,6 < c x->c x=9) (hkl:n.kids.length<=1048600) (hmk:mk.size<=1048576) (hmo:cZ ⟨mK,mF,mT,mI,mL,mk,mN⟩=true) (h1:mT=n.id) (h2:dZ n mF=true) (h3:mK=0) (h4:mF=n.par) (h:NQ w B n A G c):Calls prog 110 #[gB n A,.agg (bV mK mF mT mI mL mk mN)] w (gD w B c (n,[],1)):=by
 open avE in exact N8
theorem Ih (hB:B<=w.heap.size) (h9:∀x,6 < c x->c x=9) (hkl:n.kids.length<=1048600) (hmk:mk.size<=1048576) (hmo:cZ ⟨mK,mF,mT,mI,mL,mk,mN⟩=true) (hz:eU n 1048576) (hP:∃g,A.p=some ⟨g,0,none⟩) (wP:n.pu.length<=A.cp) (h0:0<=n.next) (h1:mT=n.id) (h2:dZ n mF=true) (h3:mK=0) (h4:mF≠n.par) (h:NQ w B n A G c):Calls prog 110 #[gB n A,.agg (bV mK mF mT mI mL mk mN)] w (gD w B c ((eZ n mF mk mN).1,(eZ n mF mk mN).2.1,0)):=by
 open avD in exact N8
theorem Ii (hB:B<=w.heap.size) (h9:∀x,6 < c x->c x=9) (hkl:n.kids.length<=1048600) (hmk:mk.size<=1048576) (hmo:cZ ⟨mK,mF,mT,mI,mL,mk,mN⟩=true) (hol:n.out.length<=1048576) (h1:mT=n.id) (h2:dZ n mF=true) (h3:mK=2) (h:NQ w B n A G c):Calls prog 110 #[gB n A,.agg (bV mK mF mT mI mL mk mN)] w (gD w B c (setOut n (n.out.filter (λs=> !iV ⟨2,mF,mT,mI,mL,mk,mN⟩ s)),[],0)):=by
 open avG in exact N8
end Go.Proofs.YtohmklmkjmlpjaaGreatDoor
