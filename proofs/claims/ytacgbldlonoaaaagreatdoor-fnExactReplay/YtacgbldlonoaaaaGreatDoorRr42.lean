/- Parts. -/
import Derived.Test.YtacgbldlonoaaaaGreatDoorRr41
import Derived.Test.YtacgbldlonoaaaaGreatDoorRr39
import Derived.Test.YtacgbldlonoaaaaGreatDoorRr22
namespace Go.Proofs.YtacgbldlonoaaaaGreatDoor
set_option maxHeartbeats 8000000
set_option maxRecDepth 100000
open Go.RowKit
open Mth
theorem J5 (n:Nd) (A:bH) (G:aV) (c:Nat->Nat) (mK mF mT mI mL:Int) (mk:ByteArray) (mN:Int) (w:World) (B:Nat) (hB:B<=w.heap.size) (h9:∀x,6 < c x->c x=9) (hkl:n.kids.length<=1048600) (hmk:mk.size<=1048576) (hmo:bX ⟨mK,mF,mT,mI,mL,mk,mN⟩=true) (hz:fu n 1048576) (hP:∃g,A.p=some ⟨g,0,none⟩) (tu:n.pu.length<=A.cp) (hok:dU n=true) (h1:mT=n.id) (h2:dV n mF=true) (h3:mK=1) (h:NQ w B n A G c):Calls Tryz.prog 41 #[fI n A,.agg (bJ mK mF mT mI mL mk mN)] w (fq w B c ((takeN n ⟨mK,mF,mT,mI,mL,mk,mN⟩).1,if (takeN n ⟨mK,mF,mT,mI,mL,mk,mN⟩).2=true then[Tp n ⟨mK,mF,mT,mI,mL,mk,mN⟩] else[],if (takeN n ⟨mK,mF,mT,mI,mL,mk,mN⟩).2=true then 0 else 1)):=by
 open aqE in exact Lp
def AA (n:Nd) (m:Mg):Nd×List Mg×Int:=if m.T=n.id/\dV n m.F=true then fG n m else(n,[],3)
theorem YQ {n:Nd} (hok:dU n=true):hasB n.kids n.par=false:=by
 have h1:=(bQ hok).1;unfold dZ at h1;simp only[Bool.and_eq_true] at h1;have h2:=xO h1.2;cases hh:hasB n.kids n.par
 .rfl
 .rw [xU] at hh;have:=h2 _ hh;unfold jo at this;simp at this
theorem Zz (n:Nd) (A:bH) (G:aV) (c:Nat->Nat) (mK mF mT mI mL:Int) (mk:ByteArray) (mN:Int) (w:World) (B:Nat) (hB:B<=w.heap.size) (h9:∀x,6 < c x->c x=9)
 (hz:fu n 1048576) (hmk:mk.size<=1048576) (hok:dU n=true) (hmo:bX ⟨mK,mF,mT,mI,mL,mk,mN⟩=true) (hP:∃g,A.p=some ⟨g,0,none⟩) (tu:n.pu.length<=A.cp) (h:NQ w B n A G c):
 Calls Tryz.prog 41 #[fI n A,.agg (bJ mK mF mT mI mL mk mN)] w (fq w B c (AA n ⟨mK,mF,mT,mI,mL,mk,mN⟩)):=by
 have hkl:n.kids.length<=1048600:=Nat.le_trans hz.k Aaa;have h0:0<=n.next:=by have h:=(bQ hok).2.2.2.1;unfold fD at h;simp at h;omega
 by_cases h1:mT=n.id
 .cases h2:dV n mF
  .rw [show AA n ⟨mK,mF,mT,mI,mL,mk,mN⟩=(n,[],3) from if_neg (λh=>by have:=h.2;dsimp only at this;rw [h2] at this;exact absurd this Aac)];exact FI n A G c mK mF mT mI mL mk mN w B hB h9 hkl hmk hmo h1 h2 h
  .rw [show AA n ⟨mK,mF,mT,mI,mL,mk,mN⟩=fG n ⟨mK,mF,mT,mI,mL,mk,mN⟩ from if_pos ⟨h1,h2⟩];by_cases k1:mK=1
   .rw [show fG n ⟨mK,mF,mT,mI,mL,mk,mN⟩=_ from if_pos k1];exact J5 n A G c mK mF mT mI mL mk mN w B hB h9 hkl hmk hmo hz hP tu hok h1 h2 k1 h
   by_cases k2:mK=2
   .rw [show fG n ⟨mK,mF,mT,mI,mL,mk,mN⟩=_ from(if_neg k1).trans (if_pos k2)];have:=FN n A G c mK mF mT mI mL mk mN w B hB h9 hkl hmk hmo hz.o h1 h2 k2 h;rw [k2] at this ⊢;exact this
   have k0:mK=0:=by
    unfold bX at hmo;rw [Bool.and_eq_true] at hmo;have q:=hmo.2;dsimp only at q;by_cases k0:mK=0
    .exact k0
    .rw [if_neg k0,if_neg k1,if_neg k2] at q;exact absurd q Aac
   by_cases h4:mF=n.par
   .rw [show fG n ⟨mK,mF,mT,mI,mL,mk,mN⟩=(n,[],1) from(if_neg k1).trans ((if_neg k2).trans (if_neg (by dsimp only;rw [h4,YQ hok];simp)))];exact Oq n A G c mK mF mT mI mL mk mN w B hB h9 hkl hmk hmo h1 h2 k0 h4 h
   .have hk:hasB n.kids mF=true:=by
     unfold dV at h2;rw [decide_eq_false h4,Bool.and_false,Bool.false_or] at h2;exact h2
    rw [show fG n ⟨mK,mF,mT,mI,mL,mk,mN⟩=_ from(if_neg k1).trans ((if_neg k2).trans (if_pos hk))];exact FM n A G c mK mF mT mI mL mk mN w B hB h9 hkl hmk hmo hz hP tu h0 h1 h2 k0 h4 h
 .rw [show AA n ⟨mK,mF,mT,mI,mL,mk,mN⟩=(n,[],3) from if_neg (λh=>h1 h.1)];exact FJ n A G c mK mF mT mI mL mk mN w B hB h9 hkl hmk hmo h1 h
theorem Oc (n:Nd) (A:bH) (K no:Int) (k:ByteArray) (nn mK mF mT mI mL:Int) (mk:ByteArray) (mN:Int) (w:World) (hz:fu n 1048576) (hk:k.size<=1048576) (hmk:mk.size<=1048576) (hok:dU n=true) (hop:bV ⟨K,no,k,nn,⟨mK,mF,mT,mI,mL,mk,mN⟩⟩=true) (hK:K=6) (ha:dK w A n):Calls Tryz.prog 9 #[fI n A,.agg (bY K no k nn mK mF mT mI mL mk mN)] w (jC w (AA n ⟨mK,mF,mT,mI,mL,mk,mN⟩)):=by
 subst hK;open ajw in exact zy
def JcQ (_:Ending->World->Prop) (w:World) (R:Nd×List Mg×Int):Ending->World->Prop:=jC w R
theorem Oi (n:Nd) (A:bH) (K no:Int) (k:ByteArray) (nn mK mF mT mI mL:Int) (mk:ByteArray) (mN:Int) (w:World) (hz:fu n 1048576) (hk:k.size<=1048576) (hmk:mk.size<=1048576) (hok:dU n=true) (hop:bV ⟨K,no,k,nn,⟨mK,mF,mT,mI,mL,mk,mN⟩⟩=true) (hK:K=3) (hpar:n.par≠ -1) (ha:dK w A n):Calls Tryz.prog 9 #[fI n A,.agg (bY K no k nn mK mF mT mI mL mk mN)] w (jC w (n,[⟨0,n.id,n.par,0,0,k,nn⟩],0)):=by
 subst hK
 have h:Calls Tryz.prog 9 #[fI n A,.agg (bY 3 no k nn mK mF mT mI mL mk mN)] w (JcQ (jC w (n,[⟨0,n.id,n.par,0,0,k,nn⟩],0)) w (n,[⟨0,n.id,n.par,0,0,k,nn⟩],0)):=by open ajD in exact zy
 exact h
theorem agq {o:gM} (h:bV o=true):o.K=0\/o.K=1\/o.K=2\/o.K=3\/o.K=4\/o.K=5\/o.K=6:=by
 unfold bV at h;by_cases h0:o.K=0\/o.K=3\/o.K=4
 .omega
 rw [if_neg h0] at h;by_cases h1:o.K=1
 .omega
 rw [if_neg h1] at h;by_cases h2:o.K=2
 .omega
 rw [if_neg h2] at h;by_cases h5:o.K=5
 .omega
 rw [if_neg h5] at h;by_cases h6:o.K=6
 .omega
 rw [if_neg h6] at h;exact absurd h Aac
theorem QE (n:Nd) (A:bH) (K no:Int) (k:ByteArray) (nn mK mF mT mI mL:Int) (mk:ByteArray) (mN:Int) (w:World) (hz:fu n 1048576) (hk:k.size<=1048576) (hmk:mk.size<=1048576) (ha:dK w A n):
 Calls Tryz.prog 9 #[fI n A,.agg (bY K no k nn mK mF mT mI mL mk mN)] w (jC w (PO n ⟨K,no,k,nn,⟨mK,mF,mT,mI,mL,mk,mN⟩⟩)):=by
 cases hok:dU n
 .rw [Ce hok];exact N9 n A K no k nn mK mF mT mI mL mk mN w hz hok ha
 rw [Jb hok];cases hop:bV ⟨K,no,k,nn,⟨mK,mF,mT,mI,mL,mk,mN⟩⟩
 .rw [show lV n ⟨K,no,k,nn,⟨mK,mF,mT,mI,mL,mk,mN⟩⟩=(n,[],3) from if_neg (by rw [hop];simp)];exact Ob n A K no k nn mK mF mT mI mL mk mN w hz hk hmk hok hop ha
 by_cases h6:K=6
 .have e:lV n ⟨K,no,k,nn,⟨mK,mF,mT,mI,mL,mk,mN⟩⟩=AA n ⟨mK,mF,mT,mI,mL,mk,mN⟩:=by
   unfold lV AA vS eZ;rw [hop,h6];dsimp only;by_cases hc:mT=n.id/\dV n mF=true
   .rw [if_pos hc,if_pos (by rw [hc.2,decide_eq_true hc.1];rfl),if_neg Aaa,if_neg Aaa,if_neg Aaa,if_neg Aaa,if_neg Aaa,if_neg Aaa]
   .rw [if_neg hc,if_neg (by simp only[decide_true,Bool.not_true,Bool.false_or,Bool.true_and,Bool.and_eq_true,decide_eq_true_eq];exact hc)]
  rw [e];exact Oc n A K no k nn mK mF mT mI mL mk mN w hz hk hmk hok hop h6 ha
 rw [show lV n ⟨K,no,k,nn,⟨mK,mF,mT,mI,mL,mk,mN⟩⟩=eZ n ⟨K,no,k,nn,⟨mK,mF,mT,mI,mL,mk,mN⟩⟩ from if_pos (by rw [hop];unfold vS;rw [decide_eq_false h6];rfl)];have hK:=agq hop;dsimp only at hK;by_cases h0:K=0
 .rw [show eZ n ⟨K,no,k,nn,⟨mK,mF,mT,mI,mL,mk,mN⟩⟩=_ from if_pos h0];dsimp only;cases hu:dx n.pu k 1 1 0 nn with
  |mk RL ok=>
   by_cases hp:n.par= -1
   .cases ok
    .rw [if_neg (λh=>absurd h.2 Aac)];exact FD n A K no k nn mK mF mT mI mL mk mN w hz hk hmk hok hop h0 RL hu hp ha
    .rw [if_pos ⟨hp,rfl⟩];exact D9 n A K no k nn mK mF mT mI mL mk mN w hz hk hmk hok hop h0 RL hu hp ha
   .rw [if_neg (λh=>hp h.1)];exact FE n A K no k nn mK mF mT mI mL mk mN w hz hk hmk hok hop h0 RL ok hu hp ha
 by_cases h1:K=1
 .rw [show eZ n ⟨K,no,k,nn,⟨mK,mF,mT,mI,mL,mk,mN⟩⟩=_ from(if_neg h0).trans (if_pos h1)];exact JW n A K no k nn mK mF mT mI mL mk mN w hz hk hmk hok hop h1 ha
 by_cases h2:K=2
 .rw [show eZ n ⟨K,no,k,nn,⟨mK,mF,mT,mI,mL,mk,mN⟩⟩=_ from(if_neg h0).trans ((if_neg h1).trans (if_pos h2))];exact QB n A K no k nn mK mF mT mI mL mk mN w hz hk hmk hok hop h2 ha
 by_cases h3:K=3
 .rw [show eZ n ⟨K,no,k,nn,⟨mK,mF,mT,mI,mL,mk,mN⟩⟩=_ from(if_neg h0).trans ((if_neg h1).trans ((if_neg h2).trans (if_pos h3)))];by_cases hp:n.par= -1
  .rw [if_pos hp];exact Oe n A K no k nn mK mF mT mI mL mk mN w hz hk hmk hok hop h3 hp ha
  .rw [if_neg hp];exact Oi n A K no k nn mK mF mT mI mL mk mN w hz hk hmk hok hop h3 hp ha
 by_cases h4:K=4
 .rw [show eZ n ⟨K,no,k,nn,⟨mK,mF,mT,mI,mL,mk,mN⟩⟩=_ from(if_neg h0).trans ((if_neg h1).trans ((if_neg h2).trans ((if_neg h3).trans (if_pos h4))))];by_cases hp:n.par= -1
  .rw [if_pos hp];exact Og n A K no k nn mK mF mT mI mL mk mN w hz hk hmk hok hop h4 hp ha
  .rw [if_neg hp];exact N8 n A K no k nn mK mF mT mI mL mk mN w hz hk hmk hok hop h4 hp ha
 have h5:K=5:=Aaa
 rw [show eZ n ⟨K,no,k,nn,⟨mK,mF,mT,mI,mL,mk,mN⟩⟩=_ from(if_neg h0).trans ((if_neg h1).trans ((if_neg h2).trans ((if_neg h3).trans ((if_neg h4).trans (if_pos h5)))))];exact Oh n A K no k nn mK mF mT mI mL mk mN w hz hk hmk hok hop h5 ha
theorem aby (n:Nd) (A:bH) (o:gM) (w:World) (hz:fu n 1048576) (hk:o.k.size<=1048576) (hmk:o.m.k.size<=1048576) (ha:dK w A n):
 Calls Tryz.prog 9 #[fI n A,jB o] w (jC w (PO n o)):=by
 obtain⟨K,no,k,nn,⟨mK,mF,mT,mI,mL,mk,mN⟩⟩:=o;exact QE n A K no k nn mK mF mT mI mL mk mN w hz hk hmk ha
def NL (B:Nat) (x:World) (A:bH) (m:Nd):Prop:=∀F W'',aC F x W''->(∀f∈F,f < B)->dK W'' A m
theorem NL.at {B:Nat} {x:World} {A:bH} {m:Nd} (h:NL B x A m):dK x A m:=h [] x (aC.refl _ _) (λ_ h=>by simp at h)
theorem NL.step {B:Nat} {x y:World} {A:bH} {m:Nd} (h:NL B x A m) (hb:aX x y):NL B y A m:=λF W'' hk hF=>h F W'' ((aC.of_below hb).trans hk) hF
theorem NL.keeps {B:Nat} {x y:World} {A:bH} {m:Nd} {G:List Nat} (h:NL B x A m) (hg:aC G x y) (hG:∀f∈G,f < B):NL B y A m:=λF W'' hk hF=>
 h (G++F) W'' ((hg.mono (λ_ h=>List.mem_append_left _ h)).trans (hk.mono (λ_ h=>List.mem_append_right _ h))) (λf hf=>by
   rcases List.mem_append.1 hf with h|h
   .exact hG f h
   .exact hF f h)
theorem NL.mono {B B':Nat} {x:World} {A:bH} {m:Nd} (h:NL B x A m) (hB:B'<=B):NL B' x A m:=λF W'' hk hF=>h F W'' hk (λf hf=>Nat.lt_of_lt_of_le (hF f hf) hB)
theorem NL.or {B q:Nat} {y z:World} {A:bH} {m:Nd} (h:NL B y A m) (hq:q < B\/y.heap.size<=q) (hk:aC [q] y z):NL B z A m:=by
 rcases hq with h'|h'
 .exact h.keeps hk (λf hf=>by rw [List.mem_singleton.1 hf];exact h')
 .exact h.step (hk.below (λf hf=>by rw [List.mem_singleton.1 hf];exact h') (Nat.le_refl _))
theorem NL.aft {w x:World} {A:bH} {m:Nd} (h:NL (w.heap.size+2) x A m):∀W'',Co w x W''->dK W'' A m:=λW'' ⟨F,hk,hF⟩=>h F W'' hk (λf hf=>by have:=hF f hf;omega)
structure RsS (w:World) (B:Nat) (v:Value) (L:List gM) (m:Nd) (A:bH) (x:World):Prop where
 bel:aX w x
 siz:w.heap.size+2<=x.heap.size
 res:x.heap[w.heap.size+1]?=some (.cells gu 30 (0,0))
 blk:x.heap[w.heap.size]?=some (.cells (dH m A) 30 (0,0))
 nl:NL (w.heap.size+2) x A m
 own:x.ownsRow B 34 11 v L.length (GR.flat mY L)
theorem RsS.step {w x y:World} {B:Nat} {v:Value} {L:List gM} {m:Nd} {A:bH} (h:RsS w B v L m A x) (hb:aX x y):RsS w B v L m A y:=
 ⟨h.bel.trans (hb.mono h.bel.size),Nat.le_trans h.siz hb.size,ay h.res hb,ay h.blk hb,h.nl.step hb,GR.own_below h.own hb⟩
theorem RsS.put {w x:World} {B:Nat} {v:Value} {L:List gM} {m m':Nd} {A A':bH} (h:RsS w B v L m A x) (hB:w.heap.size+2<=B) (hn:NL (w.heap.size+2) x A' m'):RsS w B v L m' A' (((((((((x.setCell ⟨w.heap.size,0,none⟩ (.int .i64 m'.id)).setCell ⟨w.heap.size,1,none⟩ (.int .i64 m'.par)).setCell ⟨w.heap.size,2,none⟩ (.slice A'.k m'.kids.length A'.ck)).setCell ⟨w.heap.size,3,none⟩ (.int .i64 m'.next)).setCell ⟨w.heap.size,4,none⟩ (.slice A'.p m'.pu.length A'.cp)).setCell ⟨w.heap.size,5,none⟩ (.slice A'.o m'.out.length A'.co)).setCell ⟨w.heap.size,6,none⟩ (.slice A'.s m'.seen.length A'.cs)).setCell ⟨w.heap.size,7,none⟩ (.int .i64 m'.old)).setCell ⟨w.heap.size,8,none⟩ (.slice A'.r m'.reqs.length A'.cr)):=by
 have hk:=mq (X:=x) (g:=w.heap.size) (b0:= .int .i64 m'.id) (b1:= .int .i64 m'.par) (b2:= .slice A'.k m'.kids.length A'.ck) (b3:= .int .i64 m'.next) (b4:= .slice A'.p m'.pu.length A'.cp) (b5:= .slice A'.o m'.out.length A'.co) (b6:= .slice A'.s m'.seen.length A'.cs) (b7:= .int .i64 m'.old) (b8:= .slice A'.r m'.reqs.length A'.cr);exact⟨oC h.bel (Nat.le_refl _),Nat.le_trans h.siz hk.size,hk.obj h.res Aac,qD h.blk,hn.keeps hk (λf hf=>Adl),dA h.own hk (λf hf=>Adl)⟩
def QU (w:World) (n:Nd) (e:Ending) (w':World):Prop:=∃A',e= .returned (fI n A')/\(∀W'',Co w w' W''->dK W'' A' n)/\aX w w'
theorem agt (n:Nd) (A:bH) (s:ByteArray) (w:World) (hs:s.size<=maxLen) (hz:fu n 1048576) (ha:dK w A n):
 Calls Tryz.prog 24 #[fI n A,.string s] w (QU w (iB n (iF s).1)):=by
 have Bf:=Hq (λW (h:aX w W)=>sQ n A W hz (ha.below h));have Vr:=Hq (λW=>ZC s hs W);obtain⟨L,hL⟩:∃L,(iF s).1=L:=⟨_,rfl⟩;have hLl:L.length<=60000:=by rw [<-hL];exact Ig s
 have hok:∀o∈L,o.k.size<=1048576/\o.m.k.size<=1048576:=λo h=>Sb (Nw s o (by rw [hL];exact h))
 unfold kZ at Vr;rw [hL] at Vr;rw [hL];have HSD:=Hq (fun(k:Nat) (hk1:k < L.length) A W (ha:dK W A (iB n (L.take k)))=>aby (iB n (L.take k)) A L[k] W (Sg hz _) (hok _ (List.getElem_mem hk1)).1 (hok _ (List.getElem_mem hk1)).2 ha);have HPS:=Hq (fun(k:Nat) (hk1:k < L.length)=>H6 (n:=n) hk1);have HPE:=Hq (show iB n (L.take L.length)=iB n L by rw [List.take_length]);unfold QU;clear hz ha hs hok hL;generalize (iF s).2=fin at *;go_enter Tryz.func24,Tryz.ntmps24
 go_upto_region 1 with fail;refine wp_at (λW0 hW=>?_);obtain⟨e1,e3,e4⟩:=iw w (.cells (dH n A) 30) (.cells gu 30);have hs0:W0.heap.size=w.heap.size+2:=by rw [hW];simp
 rw [<-hW] at e1 e3 e4;have HN:=Hq e1;have HR:=Hq e3;have HB:=Hq e4;clear hW e1 e3 e4;obtain⟨c0,c1,c2,c3,c4,c5,c6,c7,c8⟩:=nine HN;go_wp2_with fail;refine(Bf W0 HB).mono ?_;rintro e y ⟨A1,G1,cc1,rfl,hNQ,hby,_⟩;have Vw:=ay HN hby;have HR2:=Hq (ay HR hby);have yY:=Hq (HB.trans (hby.mono HB.size));have hys:=hby.size;have HNL:=Hq (show NL (w.heap.size+2) y A1 n from λF W'' hk hF=>(hNQ.toNO.kc0 (KC.keeps hk (λx hx=>hNQ.lo x (by rw [hs0];exact hF x hx)))).at);have KP:=Hq Vw;clear hNQ hby c0 c1 c2 c3 c4 c5 c6 c7 c8 Bf HN HR HB;obtain⟨d0,d1,d2,d3,d4,d5,d6,d7,d8⟩:=nine Vw;have f0:=au Vw 0;have f1:=au Vw 1;have f2:=au Vw 2;have f3:=au Vw 3;have f4:=au Vw 4;have f5:=au Vw 5;have f6:=au Vw 6;have f7:=au Vw 7;have f8:=au Vw 8;clear Vw;go_upto_region 2 with fail;refine wp_at (λW hW=>?_);have hkp:aC [w.heap.size] y W:=by rw [hW];exact mq
 have hblk:W.heap[w.heap.size]?=some (.cells (dH n A1) 30 (0,0)):=by rw [hW];exact qD KP
 have Ey:=Hq hblk;have gZ:=Hq (yY.trans (hkp.below (B:=w.heap.size) (λf hf=>by rw [List.mem_singleton.1 hf];exact Nat.le_refl _) Aaa));have HRW:=Hq (hkp.obj HR2 Aac);have ED:=Hq (HNL.keeps hkp (λf hf=>Adl));have hsw:w.heap.size+2<=W.heap.size:=by have:=hkp.size;omega
 clear hW hkp hblk KP HR2 yY HNL d0 d1 d2 d3 d4 d5 d6 d7 d8 f0 f1 f2 f3 f4 f5 f6 f7 f8 hys hs0;go_wp2_with fail;refine(Vr W).mono ?_;rintro e W1 ⟨v,rfl,hown,hb1⟩;obtain⟨a1,cp1,hv,_⟩:=GR.own_at (enc:=mY) (sz:=11) jG hown;subst hv;have HS:=Hq (show∃A,RsS w W.heap.size (.slice a1 L.length cp1) L (iB n (L.take 0)) A W1 from⟨A1,gZ.trans (hb1.mono gZ.size),Nat.le_trans hsw hb1.size,ay HRW hb1,ay Ey hb1,ED.step hb1,hown⟩);clear hown hb1 gZ HRW ED Ey Vr;generalize W.heap.size=B at *;go_wp2_with fail;go_loopw [7] (λi wr=>∃k:Nat,k<=L.length/\i= .int .i64 k/\∃A,RsS w B (.slice a1 L.length cp1) L (iB n (L.take k)) A wr) (λi _=>L.length - (intOf i).toNat)
 case atStart=>exact⟨0,Nat.zero_le _,rfl,HS⟩
 case round=>
  clear HS;obtain⟨k,hkl,rfl,A2,hS⟩:=hrel;have HS:=Hq hS;clear hS;by_cases hlt:k < L.length
  .obtain⟨g1,o1,ea,hg1,t0,t1,t2,t3,t4,t5,t6,t7,t8,t9,t10⟩:=GD.eleven (GR.own_ati jG HS.own) k hlt;cases ea
   have aax:=Hq (HSD k hlt);have HPk:=Hq (HPS k hlt);have hki:(k:Int) < (L.length:Int):=Aaa
   generalize PO (iB n (L.take k)) L[k]=RR at *;open anb in exact acv
  .open aqt in exact adz
end Go.Proofs.YtacgbldlonoaaaaGreatDoor
