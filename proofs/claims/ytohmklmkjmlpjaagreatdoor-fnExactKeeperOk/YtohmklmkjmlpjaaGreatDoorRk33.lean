/- Parts. -/
import Derived.Test.YtohmklmkjmlpjaaGreatDoorRk31
namespace Go.Proofs.YtohmklmkjmlpjaaGreatDoor
open Go.Proofs.Tryz
set_option maxHeartbeats 16000000
set_option maxRecDepth 100000
open Go.RowKit
open Mth
variable (n:Nd) (A:bV) (G:aY) (c:Nat->Nat) (dst:Int) (key:ByteArray) (most:Int) (w:World) (B:Nat)
def fG (w:World) (B:Nat) (c:Nat->Nat) (R:Nd×List Mg×Int) (e:Ending) (w':World):Prop:=∃A' a cp,e= .returned (.tuple #[fQ R.1 A',.slice a R.2.1.length cp,.int .i64 R.2.2])/\(∀W'',Out c w w' W''->RM W'' A' R.1)/\(∀W'',Out c w w' W''->GR.At lu 7 W'' a R.2.1)/\Below B w w'/\Apart c w w'
theorem Mr (hB:B<=w.heap.size) (h9:∀x,6 < c x->c x=9) (pk:ByteArray) (pm pf ps:Int) (hpp:aD n.pu key=⟨pk,pm,pf,ps⟩) (hl:n.pu.length<=1048600) (hc:¬pf < most) (h1:most < 1) (h:NQ w B n A G c):Calls prog 111 #[fQ n A,.int .i64 dst,.string key,.int .i64 most] w (fG w B c (n,[],1)):=by
 have q0:decide (pf < most)=false:=Abe
 have q1:decide (most < 1)=true:=Aaq
 exact Zk0
theorem Mt (hB:B<=w.heap.size) (h9:∀x,6 < c x->c x=9) (pk:ByteArray) (pm pf ps:Int) (hpp:aD n.pu key=⟨pk,pm,pf,ps⟩) (hl:n.pu.length<=1048600) (hc:¬pf < most) (h1:¬most < 1) (h2:40<=n.out.length) (h:NQ w B n A G c):Calls prog 111 #[fQ n A,.int .i64 dst,.string key,.int .i64 most] w (fG w B c (n,[],1)):=by
 have q0:decide (pf < most)=false:=Abe
 have q1:decide (most < 1)=false:=Aaq
 exact ajk
theorem Mv (hB:B<=w.heap.size) (h9:∀x,6 < c x->c x=9) (pk:ByteArray) (pm pf ps:Int) (hpp:aD n.pu key=⟨pk,pm,pf,ps⟩) (hl:n.pu.length<=1048600) (hc:¬pf < most) (h1:¬most < 1) (h2:¬40<=n.out.length) (h3:1000000000<=n.next) (h:NQ w B n A G c):Calls prog 111 #[fQ n A,.int .i64 dst,.string key,.int .i64 most] w (fG w B c (n,[],1)):=by
 have q0:decide (pf < most)=false:=Abe
 have q1:decide (most < 1)=false:=Aaq
 exact aiK
theorem Mw (hB:B<=w.heap.size) (h9:∀x,6 < c x->c x=9) (pk:ByteArray) (pm pf ps:Int) (hpp:aD n.pu key=⟨pk,pm,pf,ps⟩) (hl:n.pu.length<=1048600) (hc:pf < most) (h1:pf < 1) (h:NQ w B n A G c):Calls prog 111 #[fQ n A,.int .i64 dst,.string key,.int .i64 most] w (fG w B c (n,[],1)):=by
 have q0:decide (pf < most)=true:=Abe
 have q1:decide (pf < 1)=true:=Aaq
 exact Zk0
theorem Mx (hB:B<=w.heap.size) (h9:∀x,6 < c x->c x=9) (pk:ByteArray) (pm pf ps:Int) (hpp:aD n.pu key=⟨pk,pm,pf,ps⟩) (hl:n.pu.length<=1048600) (hc:pf < most) (h1:¬pf < 1) (h2:40<=n.out.length) (h:NQ w B n A G c):Calls prog 111 #[fQ n A,.int .i64 dst,.string key,.int .i64 most] w (fG w B c (n,[],1)):=by
 have q0:decide (pf < most)=true:=Abe
 have q1:decide (pf < 1)=false:=Aaq
 exact ajk
theorem MC (hB:B<=w.heap.size) (h9:∀x,6 < c x->c x=9) (pk:ByteArray) (pm pf ps:Int) (hpp:aD n.pu key=⟨pk,pm,pf,ps⟩) (hl:n.pu.length<=1048600) (hc:pf < most) (h1:¬pf < 1) (h2:¬40<=n.out.length) (h3:1000000000<=n.next) (h:NQ w B n A G c):Calls prog 111 #[fQ n A,.int .i64 dst,.string key,.int .i64 most] w (fG w B c (n,[],1)):=by
 have q0:decide (pf < most)=true:=Abe
 have q1:decide (pf < 1)=false:=Aaq
 exact aiK
theorem QS (n:Nd) (a_k jl dW eH gH:Option Addr) (aK bJ aQ aL aU:Nat) (G:aY) (c:Nat->Nat) (dst:Int) (key:ByteArray) (most:Int) (w:World) (B:Nat) (hB:B<=w.heap.size) (h9:∀x,6 < c x->c x=9) (pk:ByteArray) (pm pf ps:Int) (hpp:aD n.pu key=⟨pk,pm,pf,ps⟩) (hl:n.pu.length<=1048600) (hz:eX n 1048576) (hkey:key.size<=1048576) (hP:∃g,jl=some ⟨g,0,none⟩) (uJ:n.pu.length<=bJ) (RL:List Pu) (bu:Bool) (hu:dJ n.pu key 0 (-1) 0 most=(RL,bu)) (hc:¬pf < most) (h1:¬most < 1) (h2:¬40<=n.out.length) (h3:¬1000000000<=n.next) (h0:0<=n.next) (h:NQ w B n (⟨a_k,jl,dW,eH,gH,aK,bJ,aQ,aL,aU⟩:bV) G c):Calls prog 111 #[fQ n (⟨a_k,jl,dW,eH,gH,aK,bJ,aQ,aL,aU⟩:bV),.int .i64 dst,.string key,.int .i64 most] w (fG w B c (⟨n.id,n.par,n.kids,n.next+1,RL,n.out++[⟨n.next,dst,key,most⟩],n.seen,n.old,n.reqs⟩,[nZ ⟨n.id,n.par,n.kids,n.next+1,RL,n.out++[⟨n.next,dst,key,most⟩],n.seen,n.old,n.reqs⟩ ⟨n.next,dst,key,most⟩],0)):=by
 have q0:decide (pf < most)=false:=Abe
 have q1:decide (most < 1)=false:=Aaq
 open awx in exact ahe
theorem QT (n:Nd) (a_k jl dW eH gH:Option Addr) (aK bJ aQ aL aU:Nat) (G:aY) (c:Nat->Nat) (dst:Int) (key:ByteArray) (most:Int) (w:World) (B:Nat) (hB:B<=w.heap.size) (h9:∀x,6 < c x->c x=9) (pk:ByteArray) (pm pf ps:Int) (hpp:aD n.pu key=⟨pk,pm,pf,ps⟩) (hl:n.pu.length<=1048600) (hz:eX n 1048576) (hkey:key.size<=1048576) (hP:∃g,jl=some ⟨g,0,none⟩) (uJ:n.pu.length<=bJ) (RL:List Pu) (bu:Bool) (hu:dJ n.pu key 0 (-1) 0 pf=(RL,bu)) (hc:pf < most) (h1:¬pf < 1) (h2:¬40<=n.out.length) (h3:¬1000000000<=n.next) (h0:0<=n.next) (h:NQ w B n (⟨a_k,jl,dW,eH,gH,aK,bJ,aQ,aL,aU⟩:bV) G c):Calls prog 111 #[fQ n (⟨a_k,jl,dW,eH,gH,aK,bJ,aQ,aL,aU⟩:bV),.int .i64 dst,.string key,.int .i64 most] w (fG w B c (⟨n.id,n.par,n.kids,n.next+1,RL,n.out++[⟨n.next,dst,key,pf⟩],n.seen,n.old,n.reqs⟩,[nZ ⟨n.id,n.par,n.kids,n.next+1,RL,n.out++[⟨n.next,dst,key,pf⟩],n.seen,n.old,n.reqs⟩ ⟨n.next,dst,key,pf⟩],0)):=by
 have q0:decide (pf < most)=true:=Abe
 have q1:decide (pf < 1)=false:=Aaq
 open aww in exact ahe
theorem QO (hB:B<=w.heap.size) (h9:∀x,6 < c x->c x=9) (hz:eX n 1048576) (hkey:key.size<=1048576) (hP:∃g,A.p=some ⟨g,0,none⟩) (uJ:n.pu.length<=A.cp) (h0:0<=n.next) (h:NQ w B n A G c):Calls prog 111 #[fQ n A,.int .i64 dst,.string key,.int .i64 most] w (fG w B c ((fD n dst key most).1,(fD n dst key most).2.1,if (fD n dst key most).2.2=true then 0 else 1)):=by
 obtain⟨pp,hpp⟩:∃pp,aD n.pu key=pp:=⟨_,rfl⟩;obtain⟨pk,pm,pf,ps⟩:=pp;have hl:n.pu.length<=1048600:=Nat.le_trans hz.p Aaa
 have key2:∀sZ,oF n key most=sZ->(¬(1<=sZ/\n.out.length < 40/\n.next < 1000000000)->((fD n dst key most).1,(fD n dst key most).2.1,if (fD n dst key most).2.2=true then(0:Int) else 1)=(n,[],1))/\((1<=sZ/\n.out.length < 40/\n.next < 1000000000)->((fD n dst key most).1,(fD n dst key most).2.1,if (fD n dst key most).2.2=true then(0:Int) else 1)=(qQ n dst key sZ,[nZ (qQ n dst key sZ) ⟨n.next,dst,key,sZ⟩],0)):=λsZ e=>by
  subst e
  constructor
  .intro hn;have e:Qn n (oF n key most)=false:=by unfold Qn;exact decide_eq_false hn
   unfold fD;rw [e];rfl
  .intro hy;have e:Qn n (oF n key most)=true:=by unfold Qn;exact decide_eq_true hy
   unfold fD;rw [e];rfl
 obtain⟨ak,ap,ao,az,ar,ck,cp,co,cs,cr⟩:=A;by_cases hc:pf < most
 .obtain⟨k1,k2⟩:=key2 pf (by unfold oF;rw [hpp];exact if_pos hc);obtain⟨R,hR⟩:∃R,dJ n.pu key 0 (-1) 0 pf=R:=⟨_,rfl⟩;by_cases h1:pf < 1
  .rw [k1 Aaa];exact Mw n _ G c dst key most w B hB h9 pk pm pf ps hpp hl hc h1 h
  by_cases h2:40<=n.out.length
  .rw [k1 Aaa];exact Mx n _ G c dst key most w B hB h9 pk pm pf ps hpp hl hc h1 h2 h
  by_cases h3:1000000000<=n.next
  .rw [k1 Aaa];exact MC n _ G c dst key most w B hB h9 pk pm pf ps hpp hl hc h1 h2 h3 h
  rw [k2 Aaa];unfold qQ;rw [hR];exact QT n ak ap ao az ar ck cp co cs cr G c dst key most w B hB h9 pk pm pf ps hpp hl hz hkey hP uJ R.1 R.2 hR hc h1 h2 h3 h0 h
 .obtain⟨k1,k2⟩:=key2 most (by unfold oF;rw [hpp];exact if_neg hc);obtain⟨R,hR⟩:∃R,dJ n.pu key 0 (-1) 0 most=R:=⟨_,rfl⟩;by_cases h1:most < 1
  .rw [k1 Aaa];exact Mr n _ G c dst key most w B hB h9 pk pm pf ps hpp hl hc h1 h
  by_cases h2:40<=n.out.length
  .rw [k1 Aaa];exact Mt n _ G c dst key most w B hB h9 pk pm pf ps hpp hl hc h1 h2 h
  by_cases h3:1000000000<=n.next
  .rw [k1 Aaa];exact Mv n _ G c dst key most w B hB h9 pk pm pf ps hpp hl hc h1 h2 h3 h
  rw [k2 Aaa];unfold qQ;rw [hR];exact QS n ak ap ao az ar ck cp co cs cr G c dst key most w B hB h9 pk pm pf ps hpp hl hz hkey hP uJ R.1 R.2 hR hc h1 h2 h3 h0 h
theorem H7 (n:Nd) (A:bV) (G:aY) (c:Nat->Nat) (mK mF mT mI mL:Int) (mk:ByteArray) (mN:Int) (w:World) (B:Nat) (hB:B<=w.heap.size) (h9:∀x,6 < c x->c x=9) (hkl:n.kids.length<=1048600) (hmk:mk.size<=1048576) (hmo:dw ⟨mK,mF,mT,mI,mL,mk,mN⟩=true) (h1:mT≠n.id) (h:NQ w B n A G c):Calls prog 110 #[fQ n A,.agg (bX mK mF mT mI mL mk mN)] w (fG w B c (n,[],3)):=by
 have q0:(mT != n.id)=true:=Aaq
 have q0':(mT == n.id)=false:=Aaq
 unfold fG;have H9:=Hq h9;clear h9;have ZJ:=Hq (λW=>kD ⟨mK,mF,mT,mI,mL,mk,mN⟩ W Aam);rw [hmo] at ZJ;unfold mY at ZJ;have Ro:=Hq (λW (ha:bZ W A.k n.kids)=>FX n A mF W hkl ha);clear hmo;have lI:=Hq (h.nine hB);clear h;go_in
 go_upto_region 1 with fail;refine wp_at (λW0 hW=>?_);obtain⟨e1,e2,e3,e4⟩:=gI w (.cells (dH n A) 40) (.cells (bX mK mF mT mI mL mk mN) 98) (.cells gN 40);open ark in exact aAH
theorem H6 (n:Nd) (A:bV) (G:aY) (c:Nat->Nat) (mK mF mT mI mL:Int) (mk:ByteArray) (mN:Int) (w:World) (B:Nat) (hB:B<=w.heap.size) (h9:∀x,6 < c x->c x=9) (hkl:n.kids.length<=1048600) (hmk:mk.size<=1048576) (hmo:dw ⟨mK,mF,mT,mI,mL,mk,mN⟩=true) (h1:mT=n.id) (h2:eF n mF=false) (h:NQ w B n A G c):Calls prog 110 #[fQ n A,.agg (bX mK mF mT mI mL mk mN)] w (fG w B c (n,[],3)):=by
 open azO in exact Oo
theorem QU (n:Nd) (A:bV) (G:aY) (c:Nat->Nat) (mK mF mT mI mL:Int) (mk:ByteArray) (mN:Int) (w:World) (B:Nat) (hB:B<=w.heap.size) (h9:∀x,6 < c x->c x=9) (hkl:n.kids.length<=1048600) (hmk:mk.size<=1048576) (hmo:dw ⟨mK,mF,mT,mI,mL,mk,mN⟩=true) (h1:mT=n.id) (h2:eF n mF=true) (h3:mK=0) (h4:mF=n.par) (h:NQ w B n A G c):Calls prog 110 #[fQ n A,.agg (bX mK mF mT mI mL mk mN)] w (fG w B c (n,[],1)):=by
 open azN in exact Oo
theorem Ie (n:Nd) (A:bV) (G:aY) (c:Nat->Nat) (mK mF mT mI mL:Int) (mk:ByteArray) (mN:Int) (w:World) (B:Nat) (hB:B<=w.heap.size) (h9:∀x,6 < c x->c x=9) (hkl:n.kids.length<=1048600) (hmk:mk.size<=1048576) (hmo:dw ⟨mK,mF,mT,mI,mL,mk,mN⟩=true) (hz:eX n 1048576) (hP:∃g,A.p=some ⟨g,0,none⟩) (uJ:n.pu.length<=A.cp) (h0:0<=n.next) (h1:mT=n.id) (h2:eF n mF=true) (h3:mK=0) (h4:mF≠n.par) (h:NQ w B n A G c):Calls prog 110 #[fQ n A,.agg (bX mK mF mT mI mL mk mN)] w (fG w B c ((fD n mF mk mN).1,(fD n mF mk mN).2.1,0)):=by
 open azM in exact Oo
theorem Ig (n:Nd) (A:bV) (G:aY) (c:Nat->Nat) (mK mF mT mI mL:Int) (mk:ByteArray) (mN:Int) (w:World) (B:Nat) (hB:B<=w.heap.size) (h9:∀x,6 < c x->c x=9) (hkl:n.kids.length<=1048600) (hmk:mk.size<=1048576) (hmo:dw ⟨mK,mF,mT,mI,mL,mk,mN⟩=true) (hol:n.out.length<=1048576) (h1:mT=n.id) (h2:eF n mF=true) (h3:mK=2) (h:NQ w B n A G c):Calls prog 110 #[fQ n A,.agg (bX mK mF mT mI mL mk mN)] w (fG w B c (setOut n (n.out.filter (λs=> !iY ⟨2,mF,mT,mI,mL,mk,mN⟩ s)),[],0)):=by
 open azP in exact Oo
end Go.Proofs.YtohmklmkjmlpjaaGreatDoor
