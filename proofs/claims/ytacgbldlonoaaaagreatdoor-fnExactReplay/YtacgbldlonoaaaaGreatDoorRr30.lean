/- Parts. -/
import Derived.Test.YtacgbldlonoaaaaGreatDoorRr29
namespace Go.Proofs.YtacgbldlonoaaaaGreatDoor
set_option maxHeartbeats 8000000
set_option maxRecDepth 100000
open Go.RowKit
open Mth
def qV (l:List Rq) (no:Int):Int:=if mH l no=true then(dP l no:Int) else -1
theorem yP (n:Nd) (A:bH) (no:Int) (w:World) (hl:n.reqs.length<=1000) (hp:n.reqs.Pairwise (λs t=>s.no < t.no)) (ha:iU w A.r n.reqs):
 Calls Tryz.prog 116 #[fI n A,.int .i64 no] w (eP w (.int .i64 (qV n.reqs no))):=by
 have HA:=Hq ha;have HP:=Hq hp;have HB0:=Hq (aj w (.cells (dH n A) 30));have Kt:=Hq (heap_alloc_new w (.cells (dH n A) 30));obtain⟨R,hR⟩:∃R,qV n.reqs no=R:=⟨_,rfl⟩;have HR:=Hq hR;rw [hR];clear ha hp hR;go_enter Tryz.func116,Tryz.ntmps116
 go_wp2_with fail;go_loopw [5] (λi wr=>∃k:Nat,k<=n.reqs.length/\i= .int .i64 k/\(∀j (hj:j < n.reqs.length),j < k->n.reqs[j].no≠no)/\Below (w.alloc (.cells (dH n A) 30)).heap.size (w.alloc (.cells (dH n A) 30)) wr) (λi _=>n.reqs.length - (intOf i).toNat)
 case atStart=>exact⟨0,Nat.zero_le _,rfl,λj _ h=>Aaa,Below.refl _ _⟩
 case round=>
  obtain⟨k,hk,rfl,hno,hbw⟩:=hrel;have jP:=Hq hno;have OZ:=Hq (ay Kt hbw);have VE:=Hq (HB0.trans (hbw.mono HB0.size));have gZ:=Hq hbw;obtain⟨c0,c1,c2,c3,c4,c5,c6,c7,c8⟩:=nine OZ;have hnl:=aA OZ;clear hno hbw;by_cases hlt:k < n.reqs.length
  .have Md:(k:Int) < (n.reqs.length:Int):=Aaa
   obtain⟨g,off,e0,hg,q0,q1,q2,q3⟩:=iU.four (GR.At.below HA VE) k hlt;rw [e0] at c8;clear e0;by_cases he:n.reqs[k].no=no
   .have HF:=Hq (NH HP hlt he)
    have hRk:R=k:=by
     rw [<-ah HR];unfold qV;rw [if_pos (ah HF).2,(ah HF).1]
    subst hRk;rw [he] at q0;have hq:(no == no)=true:=Aac
    go_wp2_with fail;go_ret;exact⟨rfl,VE⟩
   .have hq:(n.reqs[k].no == no)=false:=by simpa using he
    have HE:=Hq he;clear he;generalize hx:n.reqs[k].no=x0 at *;have HX:=Hq hx;clear hx;go_wp2_with fail;go_roundw
    case rel=>exact⟨k+1,Aaa,Aai,λj hj hjk=>by
     by_cases e:j=k
     .subst e;rw [ah HX];exact HE
     .exact jP j hj Aaa,gZ⟩
    case measure=>simp[intOf];omega
  .have hke:k=n.reqs.length:=Aaa
   subst hke;have hnlt:decide ((n.reqs.length:Int) < (n.reqs.length:Int))=false:=Aac
   have hRk:R= -1:=by
    rw [<-ah HR];unfold qV;rw [if_neg (by rw [UE (λq hq=>by obtain⟨j,hj,rfl⟩:=List.mem_iff_getElem.1 hq;exact ah jP j hj hj)];simp)]
   subst hRk;go_wp2_with fail;go_ret;exact⟨rfl,VE⟩
theorem GR.own_ati {α:Type} {enc:α->List Value} {sz:Nat} {w:World} {B:Nat} {t:TypeId} {a:Option Addr} {c:Nat} {l:List α} (hs:∀x,(enc x).length=sz) (h:w.ownsRow B t sz (.slice a l.length c) l.length (GR.flat enc l)):GR.At enc sz w a l:=by
 obtain⟨a',c',e,h'⟩:=GR.own_at hs h;simp only[Value.slice.injEq] at e;rw [e.1];exact h'
def Apart (c:Nat->Nat) (w w':World):Prop:=∀x,x < w.heap.size->6 < c x->w'.heap[x]?=w.heap[x]?
theorem Apart.of_below {c:Nat->Nat} {w w':World} (h:aX w w'):Apart c w w':=λx hx _=>h.block x hx
theorem Apart.keeps {c:Nat->Nat} {w X W':World} {F:List Nat} (h:Apart c w X) (hs:w.heap.size<=X.heap.size) (hk:aC F X W') (hF:∀x∈F,w.heap.size<=x\/c x<=6):Apart c w W':=λx hx hc=>(hk.block x Aaa (λhm=>by have:=hF x hm;omega)).trans (h x hx hc)
theorem Apart.step {c:Nat->Nat} {w X W':World} (h:Apart c w X) (hs:w.heap.size<=X.heap.size) (hb:aX X W'):Apart c w W':=λx hx hc=>(hb.block x Aaa).trans (h x hx hc)
theorem Apart.grown {c:Nat->Nat} {w X W':World} {row:Option Nat} (h:Apart c w X) (hs:w.heap.size<=X.heap.size) (hg:X.grownBy W' row) (hr:∀x,row=some x->x < w.heap.size->c x<=6):Apart c w W':=λx hx hc=>(hg.block x Aaa (λhm=>by have:=hr x hm.symm hx;omega)).trans (h x hx hc)
def Out (c:Nat->Nat) (w W' W'':World):Prop:=∃F,aC F W' W''/\∀x∈F,x < w.heap.size/\6 < c x
theorem Out.refl {c:Nat->Nat} {w W':World}:Out c w W' W':=⟨[],aC.refl _ _,λx hx=>by simp at hx⟩
theorem KC.out {c:Nat->Nat} {w W' W'':World} (h9:∀x,6 < c x->c x=9) (h:Out c w W' W''):KC (newC w.heap.size 9 c) 9 W' W'':=by
 obtain⟨F,hk,hF⟩:=h;exact KC.keeps hk (λx hx=>by rw [dW (hF x hx).1];exact h9 x (hF x hx).2)
def gY (w:World) (B:Nat) (c:Nat->Nat) (R:Nd×Int) (e:Ending) (w':World):Prop:=∃A',e= .returned (.tuple #[fI R.1 A',.int .i64 R.2])/\(∀W'',Out c w w' W''->RM W'' A' R.1)/\Below B w w'/\Apart c w w'
theorem NQ.nine {w:World} {B:Nat} {n:Nd} {A:bH} {G:aV} {c:Nat->Nat} (h:NQ w B n A G c) (hB:B<=w.heap.size):NQ w B n A G (newC w.heap.size 9 c):=h.recol hB (λ_ hx=>dW hx)
theorem F8 (n:Nd) (A:bH) (G:aV) (c:Nat->Nat) (no:Int) (w:World) (B:Nat) (hB:B<=w.heap.size) (h9:∀x,6 < c x->c x=9) (hs:no<=n.old) (h:NQ w B n A G c):Calls Tryz.prog 40 #[fI n A,.int .i64 no] w (gY w B c (bf n no)):=by
 have hR:bf n no=(n,2):=if_pos hs;rw [hR];clear hR;unfold gY;have H9:=Hq h9;clear h9;have hbw0:=aj w (.cells (dH n A) 30);open anr in exact Rl
theorem J9 (n:Nd) (A:bH) (G:aV) (c:Nat->Nat) (no:Int) (w:World) (B:Nat) (hB:B<=w.heap.size) (h9:∀x,6 < c x->c x=9) (hok:gP n=true) (hs:¬no<=n.old) (hf:mH n.reqs no=false) (h:NQ w B n A G c):Calls Tryz.prog 40 #[fI n A,.int .i64 no] w (gY w B c (bf n no)):=by
 have hR:bf n no=(n,1):=by unfold bf;rw [if_neg hs,if_pos hf]
 have hJ:qV n.reqs no= -1:=by unfold qV;rw [if_neg Abk]
 rw [hR];clear hR hf;have hp:=iM hok;have K7:=Hq (λW1 (ha:iU W1 A.r n.reqs)=>yP n A no W1 Aaa hp.1 ha);rw [hJ] at K7;clear hp hok;unfold gY;have H9:=Hq h9;clear h9;have hbw0:=aj w (.cells (dH n A) 30);open anq in exact Rl
theorem Ow (n:Nd) (a_k iX dR dY fU:Option Addr) (aJ bq aO aK aP:Nat) (G:aV) (c:Nat->Nat) (no:Int) (w:World) (B:Nat) (hB:B<=w.heap.size) (h9:∀x,6 < c x->c x=9) (i:Nat) (hi:i < n.reqs.length) (hok:gP n=true) (hs:¬no<=n.old) (hJ:qV n.reqs no=i) (hR:bf n no=(n,1)) (hst:n.reqs[i].s=1) (h:NQ w B n (⟨a_k,iX,dR,dY,fU,aJ,bq,aO,aK,aP⟩:bH) G c):Calls Tryz.prog 40 #[fI n (⟨a_k,iX,dR,dY,fU,aJ,bq,aO,aK,aP⟩:bH),.int .i64 no] w (gY w B c (bf n no)):=by
 rw [hR];open auZ in exact arb
theorem F7 (n:Nd) (a_k iX dR dY fU:Option Addr) (aJ bq aO aK aP:Nat) (G:aV) (c:Nat->Nat) (no:Int) (w:World) (B:Nat) (hB:B<=w.heap.size) (h9:∀x,6 < c x->c x=9) (i:Nat) (hi:i < n.reqs.length) (hok:gP n=true) (hs:¬no<=n.old) (hJ:qV n.reqs no=i) (hR:bf n no=(n,0)) (hst:n.reqs[i].s=2) (h:NQ w B n (⟨a_k,iX,dR,dY,fU,aJ,bq,aO,aK,aP⟩:bH) G c):Calls Tryz.prog 40 #[fI n (⟨a_k,iX,dR,dY,fU,aJ,bq,aO,aK,aP⟩:bH),.int .i64 no] w (gY w B c (bf n no)):=by
 rw [hR];open auY in exact arb
theorem yO (n:Nd) (a_k iX dR dY fU:Option Addr) (aJ bq aO aK aP:Nat) (G:aV) (c:Nat->Nat) (no:Int) (w:World) (B:Nat) (hB:B<=w.heap.size) (h9:∀x,6 < c x->c x=9) (i:Nat) (hi:i < n.reqs.length) (hz:fu n 1048576) (hP:∃g,iX=some ⟨g,0,none⟩) (tu:n.pu.length<=bq) (hok:gP n=true) (hs:¬no<=n.old) (hJ:qV n.reqs no=i) (RL:List Pu) (hR:bf n no=(n,1)) (hst:n.reqs[i].s=0) (hu:dx n.pu n.reqs[i].k 0 1 (-1) n.reqs[i].n=(RL,false)) (h:NQ w B n (⟨a_k,iX,dR,dY,fU,aJ,bq,aO,aK,aP⟩:bH) G c):Calls Tryz.prog 40 #[fI n (⟨a_k,iX,dR,dY,fU,aJ,bq,aO,aK,aP⟩:bH),.int .i64 no] w (gY w B c (bf n no)):=by
 rw [hR];obtain⟨gp,Yf⟩:=hP;subst Yf;have hiI:(i:Int) < (n.reqs.length:Int):=Aaa
 have HST:=Hq hst;open avp in exact arf
theorem Ak (n:Nd) (a_k iX dR dY fU:Option Addr) (aJ bq aO aK aP:Nat) (G:aV) (c:Nat->Nat) (no:Int) (w:World) (B:Nat) (hB:B<=w.heap.size) (h9:∀x,6 < c x->c x=9) (i:Nat) (hi:i < n.reqs.length) (hz:fu n 1048576) (hP:∃g,iX=some ⟨g,0,none⟩) (tu:n.pu.length<=bq) (hok:gP n=true) (hs:¬no<=n.old) (hJ:qV n.reqs no=i) (RL:List Pu) (hR:bf n no=(dS (setPu n RL) (n.reqs.set i (nU n.reqs[i])),0)) (hst:n.reqs[i].s=0) (hu:dx n.pu n.reqs[i].k 0 1 (-1) n.reqs[i].n=(RL,true)) (h:NQ w B n (⟨a_k,iX,dR,dY,fU,aJ,bq,aO,aK,aP⟩:bH) G c):Calls Tryz.prog 40 #[fI n (⟨a_k,iX,dR,dY,fU,aJ,bq,aO,aK,aP⟩:bH),.int .i64 no] w (gY w B c (bf n no)):=by
 rw [hR];obtain⟨gp,Yf⟩:=hP;subst Yf;have hiI:(i:Int) < (n.reqs.length:Int):=Aaa
 have HST:=Hq hst;open avo in exact arf
theorem Oz (n:Nd) (A:bH) (G:aV) (c:Nat->Nat) (no:Int) (w:World) (B:Nat) (hB:B<=w.heap.size) (h9:∀x,6 < c x->c x=9) (hz:fu n 1048576) (hP:∃g,A.p=some ⟨g,0,none⟩) (tu:n.pu.length<=A.cp) (hok:gP n=true) (h:NQ w B n A G c):Calls Tryz.prog 40 #[fI n A,.int .i64 no] w (gY w B c (bf n no)):=by
 by_cases hs:no<=n.old
 .exact F8 n A G c no w B hB h9 hs h
 cases hf:mH n.reqs no with
 |false=>exact J9 n A G c no w B hB h9 hok hs hf h
 |true=>
  have hil:=((nA n.reqs no).1 hf).1
  have hgd:n.reqs.getD (dP n.reqs no) default=n.reqs[dP n.reqs no]:=by rw [List.getD_eq_getElem?_getD,List.getElem?_eq_getElem hil];rfl
  have hJ:qV n.reqs no=(dP n.reqs no:Nat):=by unfold qV;rw [if_pos hf]
  obtain⟨_,_,_,_,b1,b2⟩:=jL ((iM hok).2.2.1 _ (List.getElem_mem hil))
  obtain⟨ak,ap,ao,az,ar,ck,cp,co,cs,cr⟩:=A
  by_cases s1:n.reqs[dP n.reqs no].s=1
  .exact Ow n ak ap ao az ar ck cp co cs cr G c no w B hB h9 _ hil hok hs hJ (by unfold bf;rw [if_neg hs,if_neg Abk,hgd,if_pos s1]) s1 h
  by_cases s2:n.reqs[dP n.reqs no].s=2
  .exact F7 n ak ap ao az ar ck cp co cs cr G c no w B hB h9 _ hil hok hs hJ (by unfold bf;rw [if_neg hs,if_neg Abk,hgd,if_neg s1,if_pos s2]) s2 h
  obtain⟨R,hR⟩:∃R,dx n.pu n.reqs[dP n.reqs no].k 0 1 (-1) n.reqs[dP n.reqs no].n=R:=⟨_,rfl⟩
  obtain⟨RL,b⟩:=R
  have hrel:bf n no=if b=true then(dS (setPu n RL) (n.reqs.set (dP n.reqs no) (nU n.reqs[dP n.reqs no])),0) else(n,1):=by
   unfold bf;rw [if_neg hs,if_neg Abk,hgd,if_neg s1,if_neg s2,hR]
  cases b with
  |false=>exact yO n ak ap ao az ar ck cp co cs cr G c no w B hB h9 _ hil hz hP tu hok hs hJ RL (by rw [hrel];simp) Aaa hR h
  |true=>exact Ak n ak ap ao az ar ck cp co cs cr G c no w B hB h9 _ hil hz hP tu hok hs hJ RL (by rw [hrel];simp) Aaa hR h
theorem FC (n:Nd) (A:bH) (G:aV) (c:Nat->Nat) (K no:Int) (k:ByteArray) (nn mK mF mT mI mL:Int) (mk:ByteArray) (mN:Int) (w:World) (B:Nat) (hB:B<=w.heap.size) (h9:∀x,6 < c x->c x=9) (hs:no<=n.old) (h:NQ w B n A G c):Calls Tryz.prog 39 #[fI n A,.agg (bY K no k nn mK mF mT mI mL mk mN)] w (gY w B c (n,2)):=by
 unfold gY;have H9:=Hq h9;clear h9;have jP:=Hq (h.nine hB);clear h;go_enter Tryz.func39,Tryz.ntmps39
 go_upto_region 1 with fail;refine wp_at (λW0 hW=>?_);obtain⟨e1,e2,e3,e4⟩:=fC w (.cells (dH n A) 30) (.cells (bY K no k nn mK mF mT mI mL mk mN) 34) (.cells gu 30);open aoF in exact WI
theorem Qx (n:Nd) (a_k iX dR dY fU:Option Addr) (aJ bq aO aK aP:Nat) (G:aV) (c:Nat->Nat) (K no:Int) (k:ByteArray) (nn mK mF mT mI mL:Int) (mk:ByteArray) (mN:Int) (w:World) (B:Nat) (hB:B<=w.heap.size) (h9:∀x,6 < c x->c x=9) (i:Nat) (hi:i < n.reqs.length) (hok:gP n=true) (hs:¬no<=n.old) (hJ:qV n.reqs no=i) (rq:Rq) (hrq:n.reqs[i]=rq) (h1:(rq.s == 0)=false) (h:NQ w B n (⟨a_k,iX,dR,dY,fU,aJ,bq,aO,aK,aP⟩:bH) G c):Calls Tryz.prog 39 #[fI n (⟨a_k,iX,dR,dY,fU,aJ,bq,aO,aK,aP⟩:bH),.agg (bY K no k nn mK mF mT mI mL mk mN)] w (gY w B c (n,1)):=by
 open auB in exact Yr4
theorem Qy (n:Nd) (a_k iX dR dY fU:Option Addr) (aJ bq aO aK aP:Nat) (G:aV) (c:Nat->Nat) (K no:Int) (k:ByteArray) (nn mK mF mT mI mL:Int) (mk:ByteArray) (mN:Int) (w:World) (B:Nat) (hB:B<=w.heap.size) (h9:∀x,6 < c x->c x=9) (i:Nat) (hi:i < n.reqs.length) (hok:gP n=true) (hs:¬no<=n.old) (hJ:qV n.reqs no=i) (rq:Rq) (hrq:n.reqs[i]=rq) (h1:(rq.s == 0)=true) (h2:(rq.k.toList == k.toList)=false) (h:NQ w B n (⟨a_k,iX,dR,dY,fU,aJ,bq,aO,aK,aP⟩:bH) G c):Calls Tryz.prog 39 #[fI n (⟨a_k,iX,dR,dY,fU,aJ,bq,aO,aK,aP⟩:bH),.agg (bY K no k nn mK mF mT mI mL mk mN)] w (gY w B c (n,1)):=by
 open auA in exact Yr4
theorem Qz (n:Nd) (a_k iX dR dY fU:Option Addr) (aJ bq aO aK aP:Nat) (G:aV) (c:Nat->Nat) (K no:Int) (k:ByteArray) (nn mK mF mT mI mL:Int) (mk:ByteArray) (mN:Int) (w:World) (B:Nat) (hB:B<=w.heap.size) (h9:∀x,6 < c x->c x=9) (i:Nat) (hi:i < n.reqs.length) (hok:gP n=true) (hs:¬no<=n.old) (hJ:qV n.reqs no=i) (rq:Rq) (hrq:n.reqs[i]=rq) (h1:(rq.s == 0)=true) (h2:(rq.k.toList == k.toList)=true) (h3:(rq.n == nn)=false) (h:NQ w B n (⟨a_k,iX,dR,dY,fU,aJ,bq,aO,aK,aP⟩:bH) G c):Calls Tryz.prog 39 #[fI n (⟨a_k,iX,dR,dY,fU,aJ,bq,aO,aK,aP⟩:bH),.agg (bY K no k nn mK mF mT mI mL mk mN)] w (gY w B c (n,1)):=by
 open auz in exact Yr4
theorem QA (n:Nd) (a_k iX dR dY fU:Option Addr) (aJ bq aO aK aP:Nat) (G:aV) (c:Nat->Nat) (K no:Int) (k:ByteArray) (nn mK mF mT mI mL:Int) (mk:ByteArray) (mN:Int) (w:World) (B:Nat) (hB:B<=w.heap.size) (h9:∀x,6 < c x->c x=9) (i:Nat) (hi:i < n.reqs.length) (hok:gP n=true) (hs:¬no<=n.old) (hJ:qV n.reqs no=i) (rq:Rq) (hrq:n.reqs[i]=rq) (h1:(rq.s == 0)=true) (h2:(rq.k.toList == k.toList)=true) (h3:(rq.n == nn)=true) (h:NQ w B n (⟨a_k,iX,dR,dY,fU,aJ,bq,aO,aK,aP⟩:bH) G c):Calls Tryz.prog 39 #[fI n (⟨a_k,iX,dR,dY,fU,aJ,bq,aO,aK,aP⟩:bH),.agg (bY K no k nn mK mF mT mI mL mk mN)] w (gY w B c (n,0)):=by
 open auy in exact Yr4
end Go.Proofs.YtacgbldlonoaaaaGreatDoor
