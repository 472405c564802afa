/- Parts. -/
import Derived.Test.YtfachhcijcjbpaaGreatDoorRw33
import Derived.Test.YtfachhcijcjbpaaGreatDoorRw11
namespace Go.Proofs.YtfachhcijcjbpaaGreatDoor
open Go.Proofs.Tryz
set_option maxHeartbeats 16000000
set_option maxRecDepth 100000
open Go.RowKit
open Mth
variable (n:Nd) (A:bg) (G:aR) (c:Nat->Nat) (mK mF mT mI mL:Int) (mk:ByteArray) (mN:Int) (w:World) (B:Nat)
def fZ (w:World) (B:Nat) (c:Nat->Nat) (R:Nd×List Mg×Int) (e:Ending) (w':World):Prop:=∃A' a cp,e= .returned (.tuple #[gP R.1 A',.slice a R.2.1.length cp,.int .i64 R.2.2])/\(∀W'',Out c w w' W''->RM W'' A' R.1)/\(∀W'',Out c w w' W''->GR.At lQ 7 W'' a R.2.1)/\Below B w w'/\Apart c w w'
theorem RA (n:Nd) (A:bg) (G:aR) (c:Nat->Nat) (dst:Int) (key:ByteArray) (most:Int) (w:World) (B:Nat) (hB:B<=w.heap.size) (h9:∀x,6 < c x->c x=9) (pk:ByteArray) (pm pf ps:Int) (hpp:aD n.pu key=⟨pk,pm,pf,ps⟩) (hl:n.pu.length<=1048600) (gI:Int) (hc:(if pf < most then pf else most)=gI) (h1:gI < 1) (h:NQ w B n A G c):Calls prog 102 #[gP n A,.int .i64 dst,.string key,.int .i64 most] w (fZ w B c (n,[],1)):=by
 have q1:decide (gI < 1)=true:=Aap
 exact Zk3
theorem RH (n:Nd) (A:bg) (G:aR) (c:Nat->Nat) (dst:Int) (key:ByteArray) (most:Int) (w:World) (B:Nat) (hB:B<=w.heap.size) (h9:∀x,6 < c x->c x=9) (pk:ByteArray) (pm pf ps:Int) (hpp:aD n.pu key=⟨pk,pm,pf,ps⟩) (hl:n.pu.length<=1048600) (gI:Int) (hc:(if pf < most then pf else most)=gI) (h1:¬gI < 1) (h2:40<=n.out.length) (h:NQ w B n A G c):Calls prog 102 #[gP n A,.int .i64 dst,.string key,.int .i64 most] w (fZ w B c (n,[],1)):=by
 have q1:decide (gI < 1)=false:=Aap
 have h2I:(40:Int)<=(n.out.length:Int):=Aaa
 have q2:decide ((40:Int)<=(n.out.length:Int))=true:=by simpa using h2I
 exact Zk3
theorem RI (n:Nd) (A:bg) (G:aR) (c:Nat->Nat) (dst:Int) (key:ByteArray) (most:Int) (w:World) (B:Nat) (hB:B<=w.heap.size) (h9:∀x,6 < c x->c x=9) (pk:ByteArray) (pm pf ps:Int) (hpp:aD n.pu key=⟨pk,pm,pf,ps⟩) (hl:n.pu.length<=1048600) (gI:Int) (hc:(if pf < most then pf else most)=gI) (h1:¬gI < 1) (h2:¬40<=n.out.length) (h3:1000000000<=n.next) (h:NQ w B n A G c):Calls prog 102 #[gP n A,.int .i64 dst,.string key,.int .i64 most] w (fZ w B c (n,[],1)):=by
 have q1:decide (gI < 1)=false:=Aap
 have h2I:¬(40:Int)<=(n.out.length:Int):=Aaa
 have q2:decide ((40:Int)<=(n.out.length:Int))=false:=by simpa using h2I
 have q3:decide ((1000000000:Int)<=n.next)=true:=by simpa using h3
 exact Zk3
theorem Vl (n:Nd) (a_k qV iV iM jd:Option Addr) (cZ fD dW dw dG:Nat) (G:aR) (c:Nat->Nat) (dst:Int) (key:ByteArray) (most:Int) (w:World) (B:Nat) (hB:B<=w.heap.size) (h9:∀x,6 < c x->c x=9) (pk:ByteArray) (pm pf ps:Int) (hpp:aD n.pu key=⟨pk,pm,pf,ps⟩) (hl:n.pu.length<=1048600) (hz:eH n 1048576) (hkey:key.size<=1048576) (hP:∃g,qV=some ⟨g,0,none⟩) (yI:n.pu.length<=fD) (gI:Int) (RL:List Pu) (bu:Bool) (hu:cK n.pu key 0 (-1) 0 gI=(RL,bu)) (hc:(if pf < most then pf else most)=gI) (h1:¬gI < 1) (h2:¬40<=n.out.length) (h3:¬1000000000<=n.next) (h0:0<=n.next) (h:NQ w B n (⟨a_k,qV,iV,iM,jd,cZ,fD,dW,dw,dG⟩:bg) G c):Calls prog 102 #[gP n (⟨a_k,qV,iV,iM,jd,cZ,fD,dW,dw,dG⟩:bg),.int .i64 dst,.string key,.int .i64 most] w (fZ w B c (⟨n.id,n.par,n.kids,n.next+1,RL,n.out++[⟨n.next,dst,key,gI⟩],n.seen,n.old,n.reqs⟩,[qh ⟨n.id,n.par,n.kids,n.next+1,RL,n.out++[⟨n.next,dst,key,gI⟩],n.seen,n.old,n.reqs⟩ ⟨n.next,dst,key,gI⟩],0)):=by
 have q1:decide (gI < 1)=false:=Aap
 have h2I:¬(40:Int)<=(n.out.length:Int):=Aaa
 have q2:decide ((40:Int)<=(n.out.length:Int))=false:=by simpa using h2I
 have q3:decide ((1000000000:Int)<=n.next)=false:=by simpa using h3
 obtain⟨gp,hgp⟩:=hP;subst hgp;obtain⟨i0,hi,hz0,hz1,hz2⟩:=aEY MV;have HPT:=Hq (λW (ha:aH W (some ⟨gp,0,none⟩) n.pu)=>adD gp 0 fD n.pu key gI W (aEA hz.p Aaa) yI hz.pk hkey ha);unfold iN at HPT;rw [hu] at HPT;obtain⟨PM,Io⟩:∃PM,qh ⟨n.id,n.par,n.kids,n.next+1,RL,n.out++[⟨n.next,dst,key,gI⟩],n.seen,n.old,n.reqs⟩ ⟨n.next,dst,key,gI⟩=PM:=⟨_,rfl⟩;have Ii:=Hq Io;rw [Io];clear hz yI hu Io;unfold fZ;have H9:=Hq h9;clear h9;have JR:=Hq (λW (ha:aH W (some ⟨gp,0,none⟩) n.pu)=>wE (some ⟨gp,0,none⟩) fD n.pu key W hl ha);rw [hpp] at JR;unfold xO at JR;clear hpp;have hbw0:=au w (.cells (dR n (⟨a_k,(some ⟨gp,0,none⟩),iV,iM,jd,cZ,fD,dW,dw,dG⟩:bg)) 53);have jD:=Hq (h.nine hB);clear h;go_in
 go_upto_region 1 with fail;refine wp_at (λW0 hW=>?_);obtain⟨e1,e2,e3⟩:=gU w (.cells (dR n (⟨a_k,(some ⟨gp,0,none⟩),iV,iM,jd,cZ,fD,dW,dw,dG⟩:bg)) 53) (.cells kH 53);open ap0 in exact awt
theorem Rz (n:Nd) (A:bg) (G:aR) (c:Nat->Nat) (dst:Int) (key:ByteArray) (most:Int) (w:World) (B:Nat) (hB:B<=w.heap.size) (h9:∀x,6 < c x->c x=9) (hz:eH n 1048576) (hkey:key.size<=1048576) (hP:∃g,A.p=some ⟨g,0,none⟩) (yI:n.pu.length<=A.cp) (h0:0<=n.next) (h:NQ w B n A G c):Calls prog 102 #[gP n A,.int .i64 dst,.string key,.int .i64 most] w (fZ w B c ((eU n dst key most).1,(eU n dst key most).2.1,if (eU n dst key most).2.2=true then 0 else 1)):=by
 obtain⟨pp,hpp⟩:∃pp,aD n.pu key=pp:=⟨_,rfl⟩;obtain⟨pk,pm,pf,ps⟩:=pp;have hl:n.pu.length<=1048600:=aEA hz.p Aaa
 have key2:∀gI,qO n key most=gI->(¬(1<=gI/\n.out.length < 40/\n.next < 1000000000)->((eU n dst key most).1,(eU n dst key most).2.1,if (eU n dst key most).2.2=true then(0:Int) else 1)=(n,[],1))/\((1<=gI/\n.out.length < 40/\n.next < 1000000000)->((eU n dst key most).1,(eU n dst key most).2.1,if (eU n dst key most).2.2=true then(0:Int) else 1)=(sJ n dst key gI,[qh (sJ n dst key gI) ⟨n.next,dst,key,gI⟩],0)):=λgI e=>by
  subst e
  constructor
  .intro hn;have e:QW n (qO n key most)=false:=by unfold QW;exact aEw hn
   unfold eU;rw [e];rfl
  .intro hy;have e:QW n (qO n key most)=true:=by unfold QW;exact aEy hy
   unfold eU;rw [e];rfl
 obtain⟨ak,ap,ao,az,ar,ck,cp,co,cs,cr⟩:=A;obtain⟨gI,hc⟩:∃gI,(if pf < most then pf else most)=gI:=⟨_,rfl⟩;obtain⟨k1,k2⟩:=key2 gI (by unfold qO;rw [hpp];exact hc);obtain⟨R,hR⟩:∃R,cK n.pu key 0 (-1) 0 gI=R:=⟨_,rfl⟩;by_cases h1:gI < 1
 .rw [k1 Aaa];exact RA n _ G c dst key most w B hB h9 pk pm pf ps hpp hl gI hc h1 h
 by_cases h2:40<=n.out.length
 .rw [k1 Aaa];exact RH n _ G c dst key most w B hB h9 pk pm pf ps hpp hl gI hc h1 h2 h
 by_cases h3:1000000000<=n.next
 .rw [k1 Aaa];exact RI n _ G c dst key most w B hB h9 pk pm pf ps hpp hl gI hc h1 h2 h3 h
 rw [k2 Aaa];unfold sJ;rw [hR];exact Vl n ak ap ao az ar ck cp co cs cr G c dst key most w B hB h9 pk pm pf ps hpp hl hz hkey hP yI gI R.1 R.2 hR hc h1 h2 h3 h0 h
theorem Jr (hB:B<=w.heap.size) (h9:∀x,6 < c x->c x=9) (hkl:n.kids.length<=1048600) (hmk:mk.size<=1048576) (hmo:bJ ⟨mK,mF,mT,mI,mL,mk,mN⟩=true) (h1:mT≠n.id) (h:NQ w B n A G c):Calls prog 101 #[gP n A,.agg (bH mK mF mT mI mL mk mN)] w (fZ w B c (n,[],3)):=by
 have q0:(mT != n.id)=true:=Aap
 have q0':(mT == n.id)=false:=Aap
 unfold fZ;have H9:=Hq h9;clear h9;have HMO:=Hq (λW=>kD ⟨mK,mF,mT,mI,mL,mk,mN⟩ W Aal);rw [hmo] at HMO;unfold nT at HMO;have SI:=Hq (λW (ha:aK W A.k n.kids)=>GN n A mF W hkl ha);clear hmo;have jD:=Hq (h.nine hB);clear h;go_in
 go_upto_region 1 with fail;refine wp_at (λW0 hW=>?_);obtain⟨e1,e2,e3,e4⟩:=fP w (.cells (dR n A) 53) (.cells (bH mK mF mT mI mL mk mN) 104) (.cells kH 53);open apo in exact awm
theorem Jq (hB:B<=w.heap.size) (h9:∀x,6 < c x->c x=9) (hkl:n.kids.length<=1048600) (hmk:mk.size<=1048576) (hmo:bJ ⟨mK,mF,mT,mI,mL,mk,mN⟩=true) (h1:mT=n.id) (h2:dU n mF=false) (h:NQ w B n A G c):Calls prog 101 #[gP n A,.agg (bH mK mF mT mI mL mk mN)] w (fZ w B c (n,[],3)):=by
 open avA in exact O9
theorem RJ (hB:B<=w.heap.size) (h9:∀x,6 < c x->c x=9) (hkl:n.kids.length<=1048600) (hmk:mk.size<=1048576) (hmo:bJ ⟨mK,mF,mT,mI,mL,mk,mN⟩=true) (h1:mT=n.id) (h2:dU n mF=true) (h3:mK=0) (h4:mF=n.par) (h:NQ w B n A G c):Calls prog 101 #[gP n A,.agg (bH mK mF mT mI mL mk mN)] w (fZ w B c (n,[],1)):=by
 open avz in exact O9
theorem Js (hB:B<=w.heap.size) (h9:∀x,6 < c x->c x=9) (hkl:n.kids.length<=1048600) (hmk:mk.size<=1048576) (hmo:bJ ⟨mK,mF,mT,mI,mL,mk,mN⟩=true) (hz:eH n 1048576) (hP:∃g,A.p=some ⟨g,0,none⟩) (yI:n.pu.length<=A.cp) (h0:0<=n.next) (h1:mT=n.id) (h2:dU n mF=true) (h3:mK=0) (h4:mF≠n.par) (h:NQ w B n A G c):Calls prog 101 #[gP n A,.agg (bH mK mF mT mI mL mk mN)] w (fZ w B c ((eU n mF mk mN).1,(eU n mF mk mN).2.1,0)):=by
 open avy in exact O9
theorem Jt (hB:B<=w.heap.size) (h9:∀x,6 < c x->c x=9) (hkl:n.kids.length<=1048600) (hmk:mk.size<=1048576) (hmo:bJ ⟨mK,mF,mT,mI,mL,mk,mN⟩=true) (hol:n.out.length<=1048576) (h1:mT=n.id) (h2:dU n mF=true) (h3:mK=2) (h:NQ w B n A G c):Calls prog 101 #[gP n A,.agg (bH mK mF mT mI mL mk mN)] w (fZ w B c (setOut n (n.out.filter (λs=> !iJ ⟨2,mF,mT,mI,mL,mk,mN⟩ s)),[],0)):=by
 open avB in exact O9
end Go.Proofs.YtfachhcijcjbpaaGreatDoor
