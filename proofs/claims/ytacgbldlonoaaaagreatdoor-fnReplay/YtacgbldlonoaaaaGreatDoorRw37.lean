/- Parts. -/
import Derived.Test.YtacgbldlonoaaaaGreatDoorRw29
namespace Go.Proofs.YtacgbldlonoaaaaGreatDoor
open Go.Proofs.Tryz
set_option maxHeartbeats 16000000
set_option maxRecDepth 100000
open Go.RowKit
open Mth
variable (n:Nd) (A:bC) (G:bJ) (c:Nat->Nat) (dst:Int) (key:ByteArray) (most:Int) (w:World) (B:Nat)
def fZ (w:World) (B:Nat) (c:Nat->Nat) (R:Nd×List Mg×Int) (e:Ending) (w':World):Prop:=∃A' a cp,e= .returned (.tuple #[fT R.1 A',.slice a R.2.1.length cp,.int .i64 R.2.2])/\(∀W'',Out c w w' W''->RM W'' A' R.1)/\(∀W'',Out c w w' W''->GR.At lF 7 W'' a R.2.1)/\Below B w w'/\Apart c w w'
theorem MR (hB:B<=w.heap.size) (h9:∀x,6 < c x->c x=9) (pk:ByteArray) (pm pf ps:Int) (hpp:aG n.pu key=⟨pk,pm,pf,ps⟩) (hl:n.pu.length<=1048600) (hc:¬pf < most) (h1:most < 1) (h:NQ w B n A G c):Calls prog 42 #[fT n A,.int .i64 dst,.string key,.int .i64 most] w (fZ w B c (n,[],1)):=by
 have q0:decide (pf < most)=false:=Abj
 have q1:decide (most < 1)=true:=Aap
 exact Zw0
theorem MV (hB:B<=w.heap.size) (h9:∀x,6 < c x->c x=9) (pk:ByteArray) (pm pf ps:Int) (hpp:aG n.pu key=⟨pk,pm,pf,ps⟩) (hl:n.pu.length<=1048600) (hc:¬pf < most) (h1:¬most < 1) (h2:40<=n.out.length) (h:NQ w B n A G c):Calls prog 42 #[fT n A,.int .i64 dst,.string key,.int .i64 most] w (fZ w B c (n,[],1)):=by
 have q0:decide (pf < most)=false:=Abj
 have q1:decide (most < 1)=false:=Aap
 exact ahn
theorem MW (hB:B<=w.heap.size) (h9:∀x,6 < c x->c x=9) (pk:ByteArray) (pm pf ps:Int) (hpp:aG n.pu key=⟨pk,pm,pf,ps⟩) (hl:n.pu.length<=1048600) (hc:¬pf < most) (h1:¬most < 1) (h2:¬40<=n.out.length) (h3:1000000000<=n.next) (h:NQ w B n A G c):Calls prog 42 #[fT n A,.int .i64 dst,.string key,.int .i64 most] w (fZ w B c (n,[],1)):=by
 have q0:decide (pf < most)=false:=Abj
 have q1:decide (most < 1)=false:=Aap
 exact axU
theorem MX (hB:B<=w.heap.size) (h9:∀x,6 < c x->c x=9) (pk:ByteArray) (pm pf ps:Int) (hpp:aG n.pu key=⟨pk,pm,pf,ps⟩) (hl:n.pu.length<=1048600) (hc:pf < most) (h1:pf < 1) (h:NQ w B n A G c):Calls prog 42 #[fT n A,.int .i64 dst,.string key,.int .i64 most] w (fZ w B c (n,[],1)):=by
 have q0:decide (pf < most)=true:=Abj
 have q1:decide (pf < 1)=true:=Aap
 exact Zw0
theorem MZ (hB:B<=w.heap.size) (h9:∀x,6 < c x->c x=9) (pk:ByteArray) (pm pf ps:Int) (hpp:aG n.pu key=⟨pk,pm,pf,ps⟩) (hl:n.pu.length<=1048600) (hc:pf < most) (h1:¬pf < 1) (h2:40<=n.out.length) (h:NQ w B n A G c):Calls prog 42 #[fT n A,.int .i64 dst,.string key,.int .i64 most] w (fZ w B c (n,[],1)):=by
 have q0:decide (pf < most)=true:=Abj
 have q1:decide (pf < 1)=false:=Aap
 exact ahn
theorem M0 (hB:B<=w.heap.size) (h9:∀x,6 < c x->c x=9) (pk:ByteArray) (pm pf ps:Int) (hpp:aG n.pu key=⟨pk,pm,pf,ps⟩) (hl:n.pu.length<=1048600) (hc:pf < most) (h1:¬pf < 1) (h2:¬40<=n.out.length) (h3:1000000000<=n.next) (h:NQ w B n A G c):Calls prog 42 #[fT n A,.int .i64 dst,.string key,.int .i64 most] w (fZ w B c (n,[],1)):=by
 have q0:decide (pf < most)=true:=Abj
 have q1:decide (pf < 1)=false:=Aap
 exact axU
theorem QU (n:Nd) (a_k jE eD eO gN:Option Addr) (aL bE aP aM aV:Nat) (G:bJ) (c:Nat->Nat) (dst:Int) (key:ByteArray) (most:Int) (w:World) (B:Nat) (hB:B<=w.heap.size) (h9:∀x,6 < c x->c x=9) (pk:ByteArray) (pm pf ps:Int) (hpp:aG n.pu key=⟨pk,pm,pf,ps⟩) (hl:n.pu.length<=1048600) (hz:eY n 1048576) (hkey:key.size<=1048576) (hP:∃g,jE=some ⟨g,0,none⟩) (vC:n.pu.length<=bE) (RL:List Pu) (bu:Bool) (hu:dJ n.pu key 0 (-1) 0 most=(RL,bu)) (hc:¬pf < most) (h1:¬most < 1) (h2:¬40<=n.out.length) (h3:¬1000000000<=n.next) (h0:0<=n.next) (h:NQ w B n (⟨a_k,jE,eD,eO,gN,aL,bE,aP,aM,aV⟩:bC) G c):Calls prog 42 #[fT n (⟨a_k,jE,eD,eO,gN,aL,bE,aP,aM,aV⟩:bC),.int .i64 dst,.string key,.int .i64 most] w (fZ w B c (⟨n.id,n.par,n.kids,n.next+1,RL,n.out++[⟨n.next,dst,key,most⟩],n.seen,n.old,n.reqs⟩,[pU ⟨n.id,n.par,n.kids,n.next+1,RL,n.out++[⟨n.next,dst,key,most⟩],n.seen,n.old,n.reqs⟩ ⟨n.next,dst,key,most⟩],0)):=by
 have q0:decide (pf < most)=false:=Abj
 have q1:decide (most < 1)=false:=Aap
 open asT in exact af3
theorem QV (n:Nd) (a_k jE eD eO gN:Option Addr) (aL bE aP aM aV:Nat) (G:bJ) (c:Nat->Nat) (dst:Int) (key:ByteArray) (most:Int) (w:World) (B:Nat) (hB:B<=w.heap.size) (h9:∀x,6 < c x->c x=9) (pk:ByteArray) (pm pf ps:Int) (hpp:aG n.pu key=⟨pk,pm,pf,ps⟩) (hl:n.pu.length<=1048600) (hz:eY n 1048576) (hkey:key.size<=1048576) (hP:∃g,jE=some ⟨g,0,none⟩) (vC:n.pu.length<=bE) (RL:List Pu) (bu:Bool) (hu:dJ n.pu key 0 (-1) 0 pf=(RL,bu)) (hc:pf < most) (h1:¬pf < 1) (h2:¬40<=n.out.length) (h3:¬1000000000<=n.next) (h0:0<=n.next) (h:NQ w B n (⟨a_k,jE,eD,eO,gN,aL,bE,aP,aM,aV⟩:bC) G c):Calls prog 42 #[fT n (⟨a_k,jE,eD,eO,gN,aL,bE,aP,aM,aV⟩:bC),.int .i64 dst,.string key,.int .i64 most] w (fZ w B c (⟨n.id,n.par,n.kids,n.next+1,RL,n.out++[⟨n.next,dst,key,pf⟩],n.seen,n.old,n.reqs⟩,[pU ⟨n.id,n.par,n.kids,n.next+1,RL,n.out++[⟨n.next,dst,key,pf⟩],n.seen,n.old,n.reqs⟩ ⟨n.next,dst,key,pf⟩],0)):=by
 have q0:decide (pf < most)=true:=Abj
 have q1:decide (pf < 1)=false:=Aap
 open asS in exact af3
theorem QT (hB:B<=w.heap.size) (h9:∀x,6 < c x->c x=9) (hz:eY n 1048576) (hkey:key.size<=1048576) (hP:∃g,A.p=some ⟨g,0,none⟩) (vC:n.pu.length<=A.cp) (h0:0<=n.next) (h:NQ w B n A G c):Calls prog 42 #[fT n A,.int .i64 dst,.string key,.int .i64 most] w (fZ w B c ((fG n dst key most).1,(fG n dst key most).2.1,if (fG n dst key most).2.2=true then 0 else 1)):=by
 obtain⟨pp,hpp⟩:∃pp,aG n.pu key=pp:=⟨_,rfl⟩;obtain⟨pk,pm,pf,ps⟩:=pp;have hl:n.pu.length<=1048600:=Nat.le_trans hz.p Aaa
 have key2:∀tY,qc n key most=tY->(¬(1<=tY/\n.out.length < 40/\n.next < 1000000000)->((fG n dst key most).1,(fG n dst key most).2.1,if (fG n dst key most).2.2=true then(0:Int) else 1)=(n,[],1))/\((1<=tY/\n.out.length < 40/\n.next < 1000000000)->((fG n dst key most).1,(fG n dst key most).2.1,if (fG n dst key most).2.2=true then(0:Int) else 1)=(rH n dst key tY,[pU (rH n dst key tY) ⟨n.next,dst,key,tY⟩],0)):=λtY e=>by
  subst e
  constructor
  .intro hn;have e:Qr n (qc n key most)=false:=by unfold Qr;exact decide_eq_false hn
   unfold fG;rw [e];rfl
  .intro hy;have e:Qr n (qc n key most)=true:=by unfold Qr;exact decide_eq_true hy
   unfold fG;rw [e];rfl
 obtain⟨ak,ap,ao,az,ar,ck,cp,co,cs,cr⟩:=A;by_cases hc:pf < most
 .obtain⟨k1,k2⟩:=key2 pf (by unfold qc;rw [hpp];exact if_pos hc);obtain⟨R,hR⟩:∃R,dJ n.pu key 0 (-1) 0 pf=R:=⟨_,rfl⟩;by_cases h1:pf < 1
  .rw [k1 Aaa];exact MX n _ G c dst key most w B hB h9 pk pm pf ps hpp hl hc h1 h
  by_cases h2:40<=n.out.length
  .rw [k1 Aaa];exact MZ n _ G c dst key most w B hB h9 pk pm pf ps hpp hl hc h1 h2 h
  by_cases h3:1000000000<=n.next
  .rw [k1 Aaa];exact M0 n _ G c dst key most w B hB h9 pk pm pf ps hpp hl hc h1 h2 h3 h
  rw [k2 Aaa];unfold rH;rw [hR];exact QV n ak ap ao az ar ck cp co cs cr G c dst key most w B hB h9 pk pm pf ps hpp hl hz hkey hP vC R.1 R.2 hR hc h1 h2 h3 h0 h
 .obtain⟨k1,k2⟩:=key2 most (by unfold qc;rw [hpp];exact if_neg hc);obtain⟨R,hR⟩:∃R,dJ n.pu key 0 (-1) 0 most=R:=⟨_,rfl⟩;by_cases h1:most < 1
  .rw [k1 Aaa];exact MR n _ G c dst key most w B hB h9 pk pm pf ps hpp hl hc h1 h
  by_cases h2:40<=n.out.length
  .rw [k1 Aaa];exact MV n _ G c dst key most w B hB h9 pk pm pf ps hpp hl hc h1 h2 h
  by_cases h3:1000000000<=n.next
  .rw [k1 Aaa];exact MW n _ G c dst key most w B hB h9 pk pm pf ps hpp hl hc h1 h2 h3 h
  rw [k2 Aaa];unfold rH;rw [hR];exact QU n ak ap ao az ar ck cp co cs cr G c dst key most w B hB h9 pk pm pf ps hpp hl hz hkey hP vC R.1 R.2 hR hc h1 h2 h3 h0 h
theorem IX (n:Nd) (A:bC) (G:bJ) (c:Nat->Nat) (mK mF mT mI mL:Int) (mk:ByteArray) (mN:Int) (w:World) (B:Nat) (hB:B<=w.heap.size) (h9:∀x,6 < c x->c x=9) (hkl:n.kids.length<=1048600) (hmk:mk.size<=1048576) (hmo:bY ⟨mK,mF,mT,mI,mL,mk,mN⟩=true) (h1:mT≠n.id) (h:NQ w B n A G c):Calls prog 41 #[fT n A,.agg (cK mK mF mT mI mL mk mN)] w (fZ w B c (n,[],3)):=by
 have q0:(mT != n.id)=true:=Aap
 have q0':(mT == n.id)=false:=Aap
 unfold fZ;have H9:=Hq h9;clear h9;have Zp:=Hq (λW=>kX ⟨mK,mF,mT,mI,mL,mk,mN⟩ W Aal);rw [hmo] at Zp;unfold qg at Zp;have Nu:=Hq (λW (ha:dX W A.k n.kids)=>AO n A mF W hkl ha);clear hmo;have kS:=Hq (h.nine hB);clear h;go_in
 go_upto_region 1 with fail;refine wp_at (λW0 hW=>?_);obtain⟨e1,e2,e3,e4⟩:=gD w (.cells (dD n A) 30) (.cells (cK mK mF mT mI mL mk mN) 32) (.cells fU 30);open aom in exact awz
theorem IW (n:Nd) (A:bC) (G:bJ) (c:Nat->Nat) (mK mF mT mI mL:Int) (mk:ByteArray) (mN:Int) (w:World) (B:Nat) (hB:B<=w.heap.size) (h9:∀x,6 < c x->c x=9) (hkl:n.kids.length<=1048600) (hmk:mk.size<=1048576) (hmo:bY ⟨mK,mF,mT,mI,mL,mk,mN⟩=true) (h1:mT=n.id) (h2:dV n mF=false) (h:NQ w B n A G c):Calls prog 41 #[fT n A,.agg (cK mK mF mT mI mL mk mN)] w (fZ w B c (n,[],3)):=by
 open avy in exact OE
theorem QW (n:Nd) (A:bC) (G:bJ) (c:Nat->Nat) (mK mF mT mI mL:Int) (mk:ByteArray) (mN:Int) (w:World) (B:Nat) (hB:B<=w.heap.size) (h9:∀x,6 < c x->c x=9) (hkl:n.kids.length<=1048600) (hmk:mk.size<=1048576) (hmo:bY ⟨mK,mF,mT,mI,mL,mk,mN⟩=true) (h1:mT=n.id) (h2:dV n mF=true) (h3:mK=0) (h4:mF=n.par) (h:NQ w B n A G c):Calls prog 41 #[fT n A,.agg (cK mK mF mT mI mL mk mN)] w (fZ w B c (n,[],1)):=by
 open avx in exact OE
theorem IY (n:Nd) (A:bC) (G:bJ) (c:Nat->Nat) (mK mF mT mI mL:Int) (mk:ByteArray) (mN:Int) (w:World) (B:Nat) (hB:B<=w.heap.size) (h9:∀x,6 < c x->c x=9) (hkl:n.kids.length<=1048600) (hmk:mk.size<=1048576) (hmo:bY ⟨mK,mF,mT,mI,mL,mk,mN⟩=true) (hz:eY n 1048576) (hP:∃g,A.p=some ⟨g,0,none⟩) (vC:n.pu.length<=A.cp) (h0:0<=n.next) (h1:mT=n.id) (h2:dV n mF=true) (h3:mK=0) (h4:mF≠n.par) (h:NQ w B n A G c):Calls prog 41 #[fT n A,.agg (cK mK mF mT mI mL mk mN)] w (fZ w B c ((fG n mF mk mN).1,(fG n mF mk mN).2.1,0)):=by
 open avw in exact OE
end Go.Proofs.YtacgbldlonoaaaaGreatDoor
