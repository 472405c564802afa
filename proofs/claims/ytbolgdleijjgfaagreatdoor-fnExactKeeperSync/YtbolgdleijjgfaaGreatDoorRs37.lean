/- Parts. -/
import Derived.Test.YtbolgdleijjgfaaGreatDoorRs35
namespace Go.Proofs.YtbolgdleijjgfaaGreatDoor
open Go.Proofs.Tryz
set_option maxHeartbeats 16000000
set_option maxRecDepth 100000
open Go.RowKit
open Mth
variable (n:Nd) (A:bq) (G:aK) (c:Nat->Nat) (mK mF mT mI mL:Int) (mk:ByteArray) (mN:Int) (w:World) (B:Nat) {x k b L sz gk gs:Nat} {W' w' W'':World} {α:Type} {enc:α->List Value} {a:Option Addr} {l:List α} {I:Nat->Nat}
def gH (w:World) (B:Nat) (c:Nat->Nat) (R:Nd×List Mg×Int) (e:Ending) (w':World):Prop:=∃A' a cp,e= .returned (.tuple #[gM R.1 A',.slice a R.2.1.length cp,.int .i64 R.2.2])/\(∀W'',Out c w w' W''->RM W'' A' R.1)/\(∀W'',Out c w w' W''->GR.At jh 7 W'' a R.2.1)/\Below B w w'/\Apart c w w'
theorem Rl (n:Nd) (A:bq) (G:aK) (c:Nat->Nat) (dst:Int) (key:ByteArray) (most:Int) (w:World) (B:Nat) (hB:B<=w.heap.size) (h9:∀x,6 < c x->c x=9) (pk:ByteArray) (pm pf ps:Int) (hpp:aD n.pu key=⟨pk,pm,pf,ps⟩) (hl:n.pu.length<=1048600) (gP:Int) (hc:(if pf < most then pf else most)=gP) (h1:gP < 1) (h:NQ w B n A G c):Calls prog 132 #[gM n A,.int .i64 dst,.string key,.int .i64 most] w (gH w B c (n,[],1)):=by
 have q1:decide (gP < 1)=true:=Aaw
 exact Zk3
theorem Rm (n:Nd) (A:bq) (G:aK) (c:Nat->Nat) (dst:Int) (key:ByteArray) (most:Int) (w:World) (B:Nat) (hB:B<=w.heap.size) (h9:∀x,6 < c x->c x=9) (pk:ByteArray) (pm pf ps:Int) (hpp:aD n.pu key=⟨pk,pm,pf,ps⟩) (hl:n.pu.length<=1048600) (gP:Int) (hc:(if pf < most then pf else most)=gP) (h1:¬gP < 1) (h2:40<=n.out.length) (h:NQ w B n A G c):Calls prog 132 #[gM n A,.int .i64 dst,.string key,.int .i64 most] w (gH w B c (n,[],1)):=by
 have q1:decide (gP < 1)=false:=Aaw
 have h2I:(40:Int)<=(n.out.length:Int):=Aaa
 have q2:decide ((40:Int)<=(n.out.length:Int))=true:=by simpa using h2I
 exact Zk3
theorem Rn (n:Nd) (A:bq) (G:aK) (c:Nat->Nat) (dst:Int) (key:ByteArray) (most:Int) (w:World) (B:Nat) (hB:B<=w.heap.size) (h9:∀x,6 < c x->c x=9) (pk:ByteArray) (pm pf ps:Int) (hpp:aD n.pu key=⟨pk,pm,pf,ps⟩) (hl:n.pu.length<=1048600) (gP:Int) (hc:(if pf < most then pf else most)=gP) (h1:¬gP < 1) (h2:¬40<=n.out.length) (h3:1000000000<=n.next) (h:NQ w B n A G c):Calls prog 132 #[gM n A,.int .i64 dst,.string key,.int .i64 most] w (gH w B c (n,[],1)):=by
 have q1:decide (gP < 1)=false:=Aaw
 have h2I:¬(40:Int)<=(n.out.length:Int):=Aaa
 have q2:decide ((40:Int)<=(n.out.length:Int))=false:=by simpa using h2I
 have q3:decide ((1000000000:Int)<=n.next)=true:=Aci
 exact Zk3
theorem UO (n:Nd) (a_k rG je iU jq:Option Addr) (dz fJ dX dA dK:Nat) (G:aK) (c:Nat->Nat) (dst:Int) (key:ByteArray) (most:Int) (w:World) (B:Nat) (hB:B<=w.heap.size) (h9:∀x,6 < c x->c x=9) (pk:ByteArray) (pm pf ps:Int) (hpp:aD n.pu key=⟨pk,pm,pf,ps⟩) (hl:n.pu.length<=1048600) (hz:eF n 1048576) (hkey:key.size<=1048576) (hP:∃g,rG=some ⟨g,0,none⟩) (yP:n.pu.length<=fJ) (gP:Int) (RL:List Pu) (bu:Bool) (hu:dw n.pu key 0 (-1) 0 gP=(RL,bu)) (hc:(if pf < most then pf else most)=gP) (h1:¬gP < 1) (h2:¬40<=n.out.length) (h3:¬1000000000<=n.next) (h0:0<=n.next) (h:NQ w B n (⟨a_k,rG,je,iU,jq,dz,fJ,dX,dA,dK⟩:bq) G c):Calls prog 132 #[gM n (⟨a_k,rG,je,iU,jq,dz,fJ,dX,dA,dK⟩:bq),.int .i64 dst,.string key,.int .i64 most] w (gH w B c (⟨n.id,n.par,n.kids,n.next+1,RL,n.out++[⟨n.next,dst,key,gP⟩],n.seen,n.old,n.reqs⟩,[qE ⟨n.id,n.par,n.kids,n.next+1,RL,n.out++[⟨n.next,dst,key,gP⟩],n.seen,n.old,n.reqs⟩ ⟨n.next,dst,key,gP⟩],0)):=by
 have q1:decide (gP < 1)=false:=Aaw
 have h2I:¬(40:Int)<=(n.out.length:Int):=Aaa
 have q2:decide ((40:Int)<=(n.out.length:Int))=false:=by simpa using h2I
 have q3:decide ((1000000000:Int)<=n.next)=false:=Aci
 obtain⟨gp,hgp⟩:=hP;subst hgp;obtain⟨i0,hi,hz0,hz1,hz2⟩:=aFm Mx;have HPT:=Hq (λW (ha:aG W (some ⟨gp,0,none⟩) n.pu)=>adx gp 0 fJ n.pu key gP W (aEP hz.p Aaa) yP hz.pk hkey ha);unfold iV at HPT;rw [hu] at HPT;obtain⟨PM,Ih⟩:∃PM,qE ⟨n.id,n.par,n.kids,n.next+1,RL,n.out++[⟨n.next,dst,key,gP⟩],n.seen,n.old,n.reqs⟩ ⟨n.next,dst,key,gP⟩=PM:=⟨_,rfl⟩;have HPM:=Hq Ih;rw [Ih];clear hz yP hu Ih;unfold gH;have H9:=Hq h9;clear h9;have JK:=Hq (λW (ha:aG W (some ⟨gp,0,none⟩) n.pu)=>wT (some ⟨gp,0,none⟩) fJ n.pu key W hl ha);rw [hpp] at JK;unfold yc at JK;clear hpp;have hbw0:=au w (.cells (dH n (⟨a_k,(some ⟨gp,0,none⟩),je,iU,jq,dz,fJ,dX,dA,dK⟩:bq)) 39);have mP:=Hq (h.nine hB);clear h;go_in
 go_upto_region 1 with fail;refine wp_at (λW0 hW=>?_);obtain⟨e1,e2,e3⟩:=fU w (.cells (dH n (⟨a_k,(some ⟨gp,0,none⟩),je,iU,jq,dz,fJ,dX,dA,dK⟩:bq)) 39) (.cells kR 39);open apR in exact awU
theorem Rk (n:Nd) (A:bq) (G:aK) (c:Nat->Nat) (dst:Int) (key:ByteArray) (most:Int) (w:World) (B:Nat) (hB:B<=w.heap.size) (h9:∀x,6 < c x->c x=9) (hz:eF n 1048576) (hkey:key.size<=1048576) (hP:∃g,A.p=some ⟨g,0,none⟩) (yP:n.pu.length<=A.cp) (h0:0<=n.next) (h:NQ w B n A G c):Calls prog 132 #[gM n A,.int .i64 dst,.string key,.int .i64 most] w (gH w B c ((eY n dst key most).1,(eY n dst key most).2.1,if (eY n dst key most).2.2=true then 0 else 1)):=by
 obtain⟨pp,hpp⟩:∃pp,aD n.pu key=pp:=⟨_,rfl⟩;obtain⟨pk,pm,pf,ps⟩:=pp;have hl:n.pu.length<=1048600:=aEP hz.p Aaa
 have key2:∀gP,rC n key most=gP->(¬(1<=gP/\n.out.length < 40/\n.next < 1000000000)->((eY n dst key most).1,(eY n dst key most).2.1,if (eY n dst key most).2.2=true then(0:Int) else 1)=(n,[],1))/\((1<=gP/\n.out.length < 40/\n.next < 1000000000)->((eY n dst key most).1,(eY n dst key most).2.1,if (eY n dst key most).2.2=true then(0:Int) else 1)=(tu n dst key gP,[qE (tu n dst key gP) ⟨n.next,dst,key,gP⟩],0)):=λgP e=>by
  subst e
  constructor
  .intro hn;have e:QG n (rC n key most)=false:=by unfold QG;exact aEN hn
   unfold eY;rw [e];rfl
  .intro hy;have e:QG n (rC n key most)=true:=by unfold QG;exact aEO hy
   unfold eY;rw [e];rfl
 obtain⟨ak,ap,ao,az,ar,ck,cp,co,cs,cr⟩:=A;obtain⟨gP,hc⟩:∃gP,(if pf < most then pf else most)=gP:=⟨_,rfl⟩;obtain⟨k1,k2⟩:=key2 gP (by unfold rC;rw [hpp];exact hc);obtain⟨R,hR⟩:∃R,dw n.pu key 0 (-1) 0 gP=R:=⟨_,rfl⟩;by_cases h1:gP < 1
 .rw [k1 Aaa];exact Rl n _ G c dst key most w B hB h9 pk pm pf ps hpp hl gP hc h1 h
 by_cases h2:40<=n.out.length
 .rw [k1 Aaa];exact Rm n _ G c dst key most w B hB h9 pk pm pf ps hpp hl gP hc h1 h2 h
 by_cases h3:1000000000<=n.next
 .rw [k1 Aaa];exact Rn n _ G c dst key most w B hB h9 pk pm pf ps hpp hl gP hc h1 h2 h3 h
 rw [k2 Aaa];unfold tu;rw [hR];exact UO n ak ap ao az ar ck cp co cs cr G c dst key most w B hB h9 pk pm pf ps hpp hl hz hkey hP yP gP R.1 R.2 hR hc h1 h2 h3 h0 h
theorem Jj (hB:B<=w.heap.size) (h9:∀x,6 < c x->c x=9) (hkl:n.kids.length<=1048600) (hmk:mk.size<=1048576) (hmo:bV ⟨mK,mF,mT,mI,mL,mk,mN⟩=true) (h1:mT≠n.id) (h:NQ w B n A G c):Calls prog 131 #[gM n A,.agg (bQ mK mF mT mI mL mk mN)] w (gH w B c (n,[],3)):=by
 have q0:(mT != n.id)=true:=Aaw
 have q0':(mT == n.id)=false:=Aaw
 unfold gH;have H9:=Hq h9;clear h9;have HMO:=Hq (λW=>kN ⟨mK,mF,mT,mI,mL,mk,mN⟩ W Aal);rw [hmo] at HMO;unfold nZ at HMO;have R7:=Hq (λW (ha:bC W A.k n.kids)=>GQ n A mF W hkl ha);clear hmo;have mP:=Hq (h.nine hB);clear h;go_in
 go_upto_region 1 with fail;refine wp_at (λW0 hW=>?_);obtain⟨e1,e2,e3,e4⟩:=gu w (.cells (dH n A) 39) (.cells (bQ mK mF mT mI mL mk mN) 70) (.cells kR 39);open ao1 in exact awN
theorem Ji (hB:B<=w.heap.size) (h9:∀x,6 < c x->c x=9) (hkl:n.kids.length<=1048600) (hmk:mk.size<=1048576) (hmo:bV ⟨mK,mF,mT,mI,mL,mk,mN⟩=true) (h1:mT=n.id) (h2:dV n mF=false) (h:NQ w B n A G c):Calls prog 131 #[gM n A,.agg (bQ mK mF mT mI mL mk mN)] w (gH w B c (n,[],3)):=by
 open av8 in exact OO
theorem Ro (hB:B<=w.heap.size) (h9:∀x,6 < c x->c x=9) (hkl:n.kids.length<=1048600) (hmk:mk.size<=1048576) (hmo:bV ⟨mK,mF,mT,mI,mL,mk,mN⟩=true) (h1:mT=n.id) (h2:dV n mF=true) (h3:mK=0) (h4:mF=n.par) (h:NQ w B n A G c):Calls prog 131 #[gM n A,.agg (bQ mK mF mT mI mL mk mN)] w (gH w B c (n,[],1)):=by
 open av7 in exact OO
theorem Jk (hB:B<=w.heap.size) (h9:∀x,6 < c x->c x=9) (hkl:n.kids.length<=1048600) (hmk:mk.size<=1048576) (hmo:bV ⟨mK,mF,mT,mI,mL,mk,mN⟩=true) (hz:eF n 1048576) (hP:∃g,A.p=some ⟨g,0,none⟩) (yP:n.pu.length<=A.cp) (h0:0<=n.next) (h1:mT=n.id) (h2:dV n mF=true) (h3:mK=0) (h4:mF≠n.par) (h:NQ w B n A G c):Calls prog 131 #[gM n A,.agg (bQ mK mF mT mI mL mk mN)] w (gH w B c ((eY n mF mk mN).1,(eY n mF mk mN).2.1,0)):=by
 open av6 in exact OO
def yh (w W' W'':World):Prop:=∃F,aA F W' W''/\∀x∈F,x < w.heap.size
theorem yh.refl {w:World}:yh w W' W':=⟨[],aA.refl _ _,λx hx=>Aaz⟩
theorem yh.kc {c:Nat->Nat} {w:World} (h:yh w W' W'') (hc:∀x,x < w.heap.size->c x=k):KC c k W' W'':=by
 obtain⟨F,hk,hF⟩:=h;exact KC.keeps hk (λx hx=>hc x (hF x hx))
theorem NQ.kc0 {w:World} {B:Nat} {n:Nd} {A:bq} {G:aK} {c:Nat->Nat} (h:NQ w B n A G c) (hk:KC c 0 w w'):NQ w' B n A G c:=⟨h.toNO.kc0 hk,hk.seenQ h.sq h.c4 h.ci Aaa Aaa⟩
def jR (w:World) (R:Nd×List Mg×Int) (e:Ending) (w':World):Prop:=∃A' a cp,e= .returned (.tuple #[gM R.1 A',.slice a R.2.1.length cp,.int .i64 R.2.2])/\(∀W'',yh w w' W''->RM W'' A' R.1)/\(∀W'',yh w w' W''->GR.At jh 7 W'' a R.2.1)/\aH w w'
theorem Q9 (n:Nd) (A:bq) (K no:Int) (k:ByteArray) (nn mK mF mT mI mL:Int) (mk:ByteArray) (mN:Int) (w:World) (hz:eF n 1048576) (hok:dR n=false) (ha:bY w A n):Calls prog 99 #[gM n A,.agg (bJ K no k nn mK mF mT mI mL mk mN)] w (jR w (n,[],3)):=by
 open aoi in exact DU
theorem Ra (n:Nd) (A:bq) (K no:Int) (k:ByteArray) (nn mK mF mT mI mL:Int) (mk:ByteArray) (mN:Int) (w:World) (hz:eF n 1048576) (hk:k.size<=1048576) (hmk:mk.size<=1048576) (hok:dR n=true) (hop:bH ⟨K,no,k,nn,⟨mK,mF,mT,mI,mL,mk,mN⟩⟩=false) (ha:bY w A n):Calls prog 99 #[gM n A,.agg (bJ K no k nn mK mF mT mI mL mk mN)] w (jR w (n,[],3)):=by
 open aoh in exact DU
def yD (b:Nat) (c:Nat->Nat):Nat->Nat:=λx=>if x < b then 0 else if c x=0 then 9 else if 6 < c x then 9 else c x
theorem abI (b:Nat) (c:Nat->Nat):∀x,6 < yD b c x->yD b c x=9:=λx hx=>by
 unfold yD at *;by_cases h1:x < b
 .rw [aE7 h1] at hx;omega
 .rw [aEX h1] at hx ⊢;by_cases h2:c x=0
  .rw [aE7 h2]
  .rw [aEX h2] at hx ⊢;by_cases h3:6 < c x
   .rw [aE7 h3]
   .rw [aEX h3] at hx;omega
theorem Yg {c:Nat->Nat} (h:b<=x) (h0:c x=0):yD b c x=9:=by
 unfold yD;rw [aEX Aaa,aE7 h0]
theorem nA {B:Nat} {c:Nat->Nat} (hlo:∀x,x < B->c x=0) (hb:b<=B) (h:c x=k) (h1:0 < k) (h6:k<=6):yD b c x=k:=by
 grind [yD]
theorem NO.flat {w:World} {B:Nat} {n:Nd} {A:bq} {G:aK} {c:Nat->Nat} (h:NO w B n A G c) (hb:b<=B):NO w b n A G (yD b c):=
 ⟨h.k,h.p,lu h.o hb,h.s,lu h.r hb,λx hx=>aE7 hx,λx hx=>nA h.lo hb (h.ck x hx) Aaa Aaa,λx hx=>nA h.lo hb (h.cp x hx) Aaa Aaa,λx hx=>nA h.lo hb (h.co x hx) Aaa Aaa,λx hx=>nA h.lo hb (h.c4 x hx) Aaa Aaa,λx hx=>nA h.lo hb (h.ci x hx) Aaa Aaa,λx hx=>nA h.lo hb (h.cr x hx) Aaa Aaa,h.ni⟩
theorem NQ.flat {w:World} {B:Nat} {n:Nd} {A:bq} {G:aK} {c:Nat->Nat} (h:NQ w B n A G c) (hb:b<=B):NQ w b n A G (yD b c):=⟨h.toNO.flat hb,h.sq⟩
theorem O7 {c:Nat->Nat} {w X Y:World} (hX:aH w X) (hb:Below 0 X Y) (hap:Apart c X Y) (hc:∀x,x < w.heap.size+3->c x=9):aH w Y:=
 ⟨hb.os.trans hX.os,hb.tape.trans hX.tape,hb.output.trans hX.output,aEP hX.size hb.size,λx hx=>(hap x (by have:=hX.size;omega) (by rw [hc x Aaa];omega)).trans (hX.block x hx)⟩
theorem yh.out {c:Nat->Nat} {w X Y:World} (h:yh w W' W'') (hk:aA [w.heap.size+2] Y W') (hX:w.heap.size+2 < X.heap.size) (hc:∀x,x < w.heap.size+3->c x=9):Out c X Y W'':=by
 obtain⟨F,hk2,hF⟩:=h;refine⟨(w.heap.size+2)::F,(hk.mono (λx hx=>Aba)).trans (hk2.mono (λx hx=>Aai)),λy hy=>?_⟩;rcases aE8.1 hy with h1|h1
 .rw [h1];exact⟨hX,by rw [hc _ Aaa];omega⟩
 .have:=hF y h1;exact⟨Aaa,by rw [hc _ Aaa];omega⟩
theorem yh.out0 {c:Nat->Nat} {w:World} (h:yh w W' W'') (hc:∀x,x < w.heap.size+3->c x=9):Out c w W' W'':=by
 obtain⟨F,hk2,hF⟩:=h;exact⟨F,hk2,λy hy=>⟨hF y hy,by rw [hc _ (by have:=hF y hy;omega)];omega⟩⟩
theorem Jl (hB:B<=w.heap.size) (h9:∀x,6 < c x->c x=9) (hkl:n.kids.length<=1048600) (hmk:mk.size<=1048576) (hmo:bV ⟨mK,mF,mT,mI,mL,mk,mN⟩=true) (hol:n.out.length<=1048576) (h1:mT=n.id) (h2:dV n mF=true) (h3:mK=2) (h:NQ w B n A G c):Calls prog 131 #[gM n A,.agg (bQ mK mF mT mI mL mk mN)] w (gH w B c (setOut n (n.out.filter (λs=> !iQ ⟨2,mF,mT,mI,mL,mk,mN⟩ s)),[],0)):=by
 open av9 in exact OO
theorem ax7 {α:Type} {enc:α->List Value} {sz:Nat} {c:Nat->Nat} {k j:Nat} {w w':World} {a:Option Addr} {l:List α} (h:KC c k w w') (ha:GR.At enc sz w a l) (hc:∀g,a.map (λy=>y.block)=some g->0 < l.length->c g=j) (hj:j≠k):GR.At enc sz w' a l:=λi hi=>by
 obtain⟨g,off,e,hg,hcell⟩:=ha i hi;have hb:=h.block g hg (by rw [hc g (by rw [e];rfl) Aaa];exact hj);exact⟨g,off,e,aEU hg h.size,λq hq=>(aFq (w:=w) hb).trans (hcell q hq)⟩
theorem RMc.kc {w:World} {A:bq} {n:Nd} {c:Nat->Nat} (h:RMc w A n gk gs I c) (hk:KC c k w w') (h0:k=0\/6 < k):RMc w' A n gk gs I c:=
 ⟨hk.w h.k h.ck Aaa,ax7 hk h.p h.cp Aaa,hk.own h.o h.co Aaa,hk.seenQ h.s h.c4 h.ci Aaa Aaa,hk.own h.r h.cr Aaa,h.ck,h.cp,h.co,h.c4,h.ci,h.cr,h.ni⟩
def vP (L:Nat) (w:World):World:={w with heap:=w.heap.mapIdx (λi o=>if i < L then .cells #[] 0 (0,0) else o)}
theorem KV {w:World} (hx:x < L) (hw:x < w.heap.size):(vP L w).heap[x]?=some (.cells #[] 0 (0,0)):=by
 unfold vP;simp[hx,hw]
theorem Hl {L x:Nat} {w:World} (hx:L<=x):(vP L w).heap[x]?=w.heap[x]?:=by
 unfold vP;simp only[Array.getElem?_mapIdx];cases h:w.heap[x]? with
 |none=>rfl
 |some o=>simp[Nat.not_lt.2 hx]
theorem qV (L:Nat) (w:World):(vP L w).heap.size=w.heap.size:=by simp[vP]
theorem Hg {o:Nat} {w:World} (hx:x < L) (hw:x < w.heap.size):(vP L w).cell? ⟨x,o,none⟩=none:=by
 rw [aEW _ x o _ _ _ (KV hx hw)];simp
theorem QB {n B:Nat} {e:TypeId} {v:Value} {xs:List Value} {w:World} (h:(vP L w).ownsRow B e sz v n xs) (hx:v.ownBlock=some x) (he:e≠0):L<=x:=by
 rcases h.2 with⟨hv,_⟩|⟨g,cap,cur,hv,_,hgg,_⟩
 .rw [hv] at hx;simp[Value.ownBlock] at hx
 .rw [hv] at hx;have e1:g=x:=Abl
  subst e1;rcases aFX g L with hl|hl
  .have hs:=ay hgg;rw [qV] at hs;rw [KV hl hs] at hgg;simp only[aGc,Obj.cells.injEq] at hgg;exact absurd hgg.2.1.symm he
  .exact hl
theorem SH {α:Type} {enc:α->List Value} {sz L g:Nat} {w:World} {a:Option Addr} {l:List α} (hs:∀x,(enc x).length=sz) (hz:0 < sz) (h:GR.W enc sz (vP L w) a g l) (hp:0 < l.length):L<=g:=by
 obtain⟨_,hg,hc⟩:=h 0 hp;rw [qV] at hg;rcases aFX g L with hl|hl
 .have h1:=(hc 0 hz).1;rw [Hg hl hg,aEQ (by rw [hs];exact hz)] at h1;cases h1
 .exact hl
theorem yh.rm {w:World} {A:bq} {n:Nd} (h:∀W'',yh w w' W''->RM W'' A n):∃gk gs I c,RMc w' A n gk gs I c/\∀x,x < w.heap.size->c x=0:=by
 have hk:aA (List.range w.heap.size) w' (vP w.heap.size w'):=⟨rfl,rfl,rfl,by rw [qV];exact aEM _,λx _ hx=>Hl (by have:¬x < w.heap.size:=λh=>hx (aFP.2 h);omega)⟩;obtain⟨gk,gs,I,c,hr⟩:=h (vP w.heap.size w') ⟨List.range w.heap.size,hk,λx hx=>aFP.1 hx⟩;have b1:∀x∈fp gk n.kids,w.heap.size<=x:=λx hx=>by rw [(cu hx).1];exact SH aW Aaa hr.k (cu hx).2
 have b2:∀g,A.p.map (λy=>y.block)=some g->0 < n.pu.length->w.heap.size<=g:=λg hg hp=>by
  obtain⟨g',off,e,hg',hc⟩:=hr.p 0 hp
  rw [e] at hg
  cases hg
  rw [qV] at hg'
  rcases aFX g' w.heap.size with hl|hl
  .have h1:=hc 0 Aaa;rw [Hg hl hg',aEQ (by rw [aP];omega)] at h1;cases h1
  .exact hl
 have b3:∀x,(Value.slice A.o n.out.length A.co).ownBlock=some x->w.heap.size<=x:=λx hx=>QB hr.o hx Aae
 have b6:∀x,(Value.slice A.r n.reqs.length A.cr).ownBlock=some x->w.heap.size<=x:=λx hx=>QB hr.r hx Aae
 have b4:∀x∈fp gs n.seen,w.heap.size<=x:=λx hx=>by
  rw [(cu hx).1]
  obtain⟨⟨T,hT,hl,_⟩,_⟩:=hr.s
  exact SH bg Aaa hT (by rw [hl];exact(cu hx).2)
 have b5:∀x∈mX I n.seen,w.heap.size<=x:=λx hx=>by
  obtain⟨i,hi,rfl,hp⟩:=rY hx
  obtain⟨⟨T,hT,hl,hq⟩,_⟩:=hr.s
  obtain⟨b,cc,_,ho⟩:=hq i hi
  exact SH aW Aaa ho.W hp
 have same:∀x,w.heap.size<=x->(if x < w.heap.size then 0 else c x)=c x:=λx hx=>aEX Aaa
 have hr2:RMc (vP w.heap.size w') A n gk gs I (λx=>if x < w.heap.size then 0 else c x):=
  ⟨hr.k,hr.p,hr.o,hr.s,hr.r,λx hx=>(same x (b1 x hx)).trans (hr.ck x hx),λg hg hp=>(same g (b2 g hg hp)).trans (hr.cp g hg hp),λx hx=>(same x (b3 x hx)).trans (hr.co x hx),λx hx=>(same x (b4 x hx)).trans (hr.c4 x hx),λx hx=>(same x (b5 x hx)).trans (hr.ci x hx),λx hx=>(same x (b6 x hx)).trans (hr.cr x hx),hr.ni⟩
 refine⟨gk,gs,I,λx=>if x < w.heap.size then 0 else c x,hr2.kc (k:=0) ⟨rfl,rfl,rfl,by rw [qV];exact aEM _,λx _ hx=>?_⟩ (.inl rfl),λx hx=>aE7 hx⟩
 exact(Hl (by
  rcases aFX x w.heap.size with hl|hl
  .exact absurd (aE7 hl) hx
  .exact hl)).symm
theorem RMc.node {w:World} {A:bq} {n n':Nd} {c:Nat->Nat} (h:RMc w A n gk gs I c) (e1:n'.kids=n.kids) (e2:n'.pu=n.pu) (e3:n'.out=n.out) (e4:n'.seen=n.seen) (e5:n'.reqs=n.reqs):RMc w A n' gk gs I c:=by
 obtain⟨_,_,_,_,_,_,_,_,_⟩:=n;obtain⟨_,_,_,_,_,_,_,_,_⟩:=n';dsimp only at e1 e2 e3 e4 e5;subst e1 e2 e3 e4 e5;exact⟨h.k,h.p,h.o,h.s,h.r,h.ck,h.cp,h.co,h.c4,h.ci,h.cr,h.ni⟩
end Go.Proofs.YtbolgdleijjgfaaGreatDoor
