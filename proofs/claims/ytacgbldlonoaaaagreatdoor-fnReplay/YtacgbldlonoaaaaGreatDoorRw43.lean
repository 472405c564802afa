/- Parts. -/
import Derived.Test.YtacgbldlonoaaaaGreatDoorRw38
import Derived.Test.YtacgbldlonoaaaaGreatDoorRw40
namespace Go.Proofs.YtacgbldlonoaaaaGreatDoor
open Go.Proofs.Tryz
set_option maxHeartbeats 8000000
set_option maxRecDepth 100000
open Go.RowKit
open Mth
theorem M4 (n:Nd) (A:bC) (G:bJ) (c:Nat->Nat) (mK mF mT mI mL:Int) (mk:ByteArray) (mN:Int) (w:World) (B:Nat) (hB:B<=w.heap.size) (h9:∀x,6 < c x->c x=9) (hkl:n.kids.length<=1048600) (hmk:mk.size<=1048576) (hmo:bY ⟨mK,mF,mT,mI,mL,mk,mN⟩=true) (hz:eY n 1048576) (hP:∃g,A.p=some ⟨g,0,none⟩) (vC:n.pu.length<=A.cp) (hok:dY n=true) (h1:mT=n.id) (h2:dV n mF=true) (h3:mK=1) (h:NQ w B n A G c):Calls prog 41 #[fT n A,.agg (cK mK mF mT mI mL mk mN)] w (fZ w B c ((takeN n ⟨mK,mF,mT,mI,mL,mk,mN⟩).1,if (takeN n ⟨mK,mF,mT,mI,mL,mk,mN⟩).2=true then[WJ n ⟨mK,mF,mT,mI,mL,mk,mN⟩] else[],if (takeN n ⟨mK,mF,mT,mI,mL,mk,mN⟩).2=true then 0 else 1)):=by
 open avA in exact OE
def CX (n:Nd) (m:Mg):Nd×List Mg×Int:=if m.T=n.id/\dV n m.F=true then gK n m else(n,[],3)
theorem ab0 {n:Nd} (hok:dY n=true):hasB n.kids n.par=false:=by
 have h1:=(cZ hok).1;unfold dH at h1;simp only[Bool.and_eq_true] at h1;have h2:=zB h1.2;cases hh:hasB n.kids n.par
 .rfl
 .rw [zJ] at hh;have:=h2 _ hh;unfold jN at this;simp at this
theorem acQ (n:Nd) (A:bC) (G:bJ) (c:Nat->Nat) (mK mF mT mI mL:Int) (mk:ByteArray) (mN:Int) (w:World) (B:Nat) (hB:B<=w.heap.size) (h9:∀x,6 < c x->c x=9)
 (hz:eY n 1048576) (hmk:mk.size<=1048576) (hok:dY n=true) (hmo:bY ⟨mK,mF,mT,mI,mL,mk,mN⟩=true) (hP:∃g,A.p=some ⟨g,0,none⟩) (vC:n.pu.length<=A.cp) (h:NQ w B n A G c):
 Calls prog 41 #[fT n A,.agg (cK mK mF mT mI mL mk mN)] w (fZ w B c (CX n ⟨mK,mF,mT,mI,mL,mk,mN⟩)):=by
 have hkl:n.kids.length<=1048600:=Nat.le_trans hz.k Aaa;have h0:0<=n.next:=by have h:=(cZ hok).2.2.2.1;unfold fV at h;simp at h;omega
 by_cases h1:mT=n.id
 .cases h2:dV n mF
  .rw [show CX n ⟨mK,mF,mT,mI,mL,mk,mN⟩=(n,[],3) from if_neg (λh=>by have:=h.2;dsimp only at this;rw [h2] at this;exact absurd this Aac)];exact IW n A G c mK mF mT mI mL mk mN w B hB h9 hkl hmk hmo h1 h2 h
  .rw [show CX n ⟨mK,mF,mT,mI,mL,mk,mN⟩=gK n ⟨mK,mF,mT,mI,mL,mk,mN⟩ from if_pos ⟨h1,h2⟩];by_cases k1:mK=1
   .rw [show gK n ⟨mK,mF,mT,mI,mL,mk,mN⟩=_ from if_pos k1];exact M4 n A G c mK mF mT mI mL mk mN w B hB h9 hkl hmk hmo hz hP vC hok h1 h2 k1 h
   by_cases k2:mK=2
   .rw [show gK n ⟨mK,mF,mT,mI,mL,mk,mN⟩=_ from(if_neg k1).trans (if_pos k2)];have:=IZ n A G c mK mF mT mI mL mk mN w B hB h9 hkl hmk hmo hz.o h1 h2 k2 h;rw [k2] at this ⊢;exact this
   have k0:mK=0:=by
    unfold bY at hmo;rw [Bool.and_eq_true] at hmo;have q:=hmo.2;dsimp only at q;by_cases k0:mK=0
    .exact k0
    .rw [if_neg k0,if_neg k1,if_neg k2] at q;exact absurd q Aac
   by_cases h4:mF=n.par
   .rw [show gK n ⟨mK,mF,mT,mI,mL,mk,mN⟩=(n,[],1) from(if_neg k1).trans ((if_neg k2).trans (if_neg (by dsimp only;rw [h4,ab0 hok];simp)))];exact QW n A G c mK mF mT mI mL mk mN w B hB h9 hkl hmk hmo h1 h2 k0 h4 h
   .have hk:hasB n.kids mF=true:=by
     unfold dV at h2;rw [decide_eq_false h4,Bool.and_false,Bool.false_or] at h2;exact h2
    rw [show gK n ⟨mK,mF,mT,mI,mL,mk,mN⟩=_ from(if_neg k1).trans ((if_neg k2).trans (if_pos hk))];exact IY n A G c mK mF mT mI mL mk mN w B hB h9 hkl hmk hmo hz hP vC h0 h1 h2 k0 h4 h
 .rw [show CX n ⟨mK,mF,mT,mI,mL,mk,mN⟩=(n,[],3) from if_neg (λh=>h1 h.1)];exact IX n A G c mK mF mT mI mL mk mN w B hB h9 hkl hmk hmo h1 h
theorem QK (n:Nd) (A:bC) (K no:Int) (k:ByteArray) (nn mK mF mT mI mL:Int) (mk:ByteArray) (mN:Int) (w:World) (hz:eY n 1048576) (hk:k.size<=1048576) (hmk:mk.size<=1048576) (hok:dY n=true) (hop:bq ⟨K,no,k,nn,⟨mK,mF,mT,mI,mL,mk,mN⟩⟩=true) (hK:K=6) (ha:bQ w A n):Calls prog 9 #[fT n A,.agg (cu K no k nn mK mF mT mI mL mk mN)] w (j6 w (CX n ⟨mK,mF,mT,mI,mL,mk,mN⟩)):=by
 subst hK;open anq in exact DK
theorem QO (n:Nd) (A:bC) (K no:Int) (k:ByteArray) (nn mK mF mT mI mL:Int) (mk:ByteArray) (mN:Int) (w:World) (hz:eY n 1048576) (hk:k.size<=1048576) (hmk:mk.size<=1048576) (hok:dY n=true) (hop:bq ⟨K,no,k,nn,⟨mK,mF,mT,mI,mL,mk,mN⟩⟩=true) (hK:K=3) (hpar:n.par≠ -1) (ha:bQ w A n):Calls prog 9 #[fT n A,.agg (cu K no k nn mK mF mT mI mL mk mN)] w (j6 w (n,[⟨0,n.id,n.par,0,0,k,nn⟩],0)):=by
 subst hK;have lD:=Hq (λW (h:aY w W)=>uU n A W (hz.mono Aaa) (ha.below h));rw [hok] at lD
 have hpz:(decide (n.par < 0))=false:=by
  exact ahl
 have GN:=Hq (λW=>jP ⟨3,no,k,nn,⟨mK,mF,mT,mI,mL,mk,mN⟩⟩ W Aal Aal);open alD in exact EL
theorem ajY {o:fP} (h:bq o=true):o.K=0\/o.K=1\/o.K=2\/o.K=3\/o.K=4\/o.K=5\/o.K=6:=by
 unfold bq at h;by_cases h0:o.K=0\/o.K=3\/o.K=4
 .omega
 rw [if_neg h0] at h;by_cases h1:o.K=1
 .omega
 rw [if_neg h1] at h;by_cases h2:o.K=2
 .omega
 rw [if_neg h2] at h;by_cases h5:o.K=5
 .omega
 rw [if_neg h5] at h;by_cases h6:o.K=6
 .omega
 rw [if_neg h6] at h;exact absurd h Aac
theorem yS (n:Nd) (A:bC) (K no:Int) (k:ByteArray) (nn mK mF mT mI mL:Int) (mk:ByteArray) (mN:Int) (w:World) (hz:eY n 1048576) (hk:k.size<=1048576) (hmk:mk.size<=1048576) (ha:bQ w A n):
 Calls prog 9 #[fT n A,.agg (cu K no k nn mK mF mT mI mL mk mN)] w (j6 w (O3 n ⟨K,no,k,nn,⟨mK,mF,mT,mI,mL,mk,mN⟩⟩)):=by
 cases hok:dY n
 .rw [Em hok];exact QI n A K no k nn mK mF mT mI mL mk mN w hz hok ha
 rw [Lf hok];cases hop:bq ⟨K,no,k,nn,⟨mK,mF,mT,mI,mL,mk,mN⟩⟩
 .rw [show nQ n ⟨K,no,k,nn,⟨mK,mF,mT,mI,mL,mk,mN⟩⟩=(n,[],3) from if_neg (by rw [hop];simp)];exact QJ n A K no k nn mK mF mT mI mL mk mN w hz hk hmk hok hop ha
 by_cases h6:K=6
 .have e:nQ n ⟨K,no,k,nn,⟨mK,mF,mT,mI,mL,mk,mN⟩⟩=CX n ⟨mK,mF,mT,mI,mL,mk,mN⟩:=by
   unfold nQ CX xO fQ;rw [hop,h6];dsimp only;by_cases hc:mT=n.id/\dV n mF=true
   .rw [if_pos hc,if_pos (by rw [hc.2,decide_eq_true hc.1];rfl),if_neg Aaa,if_neg Aaa,if_neg Aaa,if_neg Aaa,if_neg Aaa,if_neg Aaa]
   .rw [if_neg hc,if_neg (by simp only[decide_true,Bool.not_true,Bool.false_or,Bool.true_and,Bool.and_eq_true,decide_eq_true_eq];exact hc)]
  rw [e];exact QK n A K no k nn mK mF mT mI mL mk mN w hz hk hmk hok hop h6 ha
 rw [show nQ n ⟨K,no,k,nn,⟨mK,mF,mT,mI,mL,mk,mN⟩⟩=fQ n ⟨K,no,k,nn,⟨mK,mF,mT,mI,mL,mk,mN⟩⟩ from if_pos (by rw [hop];unfold xO;rw [decide_eq_false h6];rfl)];have hK:=ajY hop;dsimp only at hK;by_cases h0:K=0
 .rw [show fQ n ⟨K,no,k,nn,⟨mK,mF,mT,mI,mL,mk,mN⟩⟩=_ from if_pos h0];dsimp only;cases hu:dJ n.pu k 1 1 0 nn with
  |mk RL ok=>
   by_cases hp:n.par= -1
   .cases ok
    .rw [if_neg (λh=>absurd h.2 Aac)];exact IL n A K no k nn mK mF mT mI mL mk mN w hz hk hmk hok hop h0 RL hu hp ha
    .rw [if_pos ⟨hp,rfl⟩];exact Gf n A K no k nn mK mF mT mI mL mk mN w hz hk hmk hok hop h0 RL hu hp ha
   .rw [if_neg (λh=>hp h.1)];exact IU n A K no k nn mK mF mT mI mL mk mN w hz hk hmk hok hop h0 RL ok hu hp ha
 by_cases h1:K=1
 .rw [show fQ n ⟨K,no,k,nn,⟨mK,mF,mT,mI,mL,mk,mN⟩⟩=_ from(if_neg h0).trans (if_pos h1)];exact MQ n A K no k nn mK mF mT mI mL mk mN w hz hk hmk hok hop h1 ha
 by_cases h2:K=2
 .rw [show fQ n ⟨K,no,k,nn,⟨mK,mF,mT,mI,mL,mk,mN⟩⟩=_ from(if_neg h0).trans ((if_neg h1).trans (if_pos h2))];exact Ul n A K no k nn mK mF mT mI mL mk mN w hz hk hmk hok hop h2 ha
 by_cases h3:K=3
 .rw [show fQ n ⟨K,no,k,nn,⟨mK,mF,mT,mI,mL,mk,mN⟩⟩=_ from(if_neg h0).trans ((if_neg h1).trans ((if_neg h2).trans (if_pos h3)))];by_cases hp:n.par= -1
  .rw [if_pos hp];exact QL n A K no k nn mK mF mT mI mL mk mN w hz hk hmk hok hop h3 hp ha
  .rw [if_neg hp];exact QO n A K no k nn mK mF mT mI mL mk mN w hz hk hmk hok hop h3 hp ha
 by_cases h4:K=4
 .rw [show fQ n ⟨K,no,k,nn,⟨mK,mF,mT,mI,mL,mk,mN⟩⟩=_ from(if_neg h0).trans ((if_neg h1).trans ((if_neg h2).trans ((if_neg h3).trans (if_pos h4))))];by_cases hp:n.par= -1
  .rw [if_pos hp];exact QM n A K no k nn mK mF mT mI mL mk mN w hz hk hmk hok hop h4 hp ha
  .rw [if_neg hp];exact QH n A K no k nn mK mF mT mI mL mk mN w hz hk hmk hok hop h4 hp ha
 have h5:K=5:=Aaa
 rw [show fQ n ⟨K,no,k,nn,⟨mK,mF,mT,mI,mL,mk,mN⟩⟩=_ from(if_neg h0).trans ((if_neg h1).trans ((if_neg h2).trans ((if_neg h3).trans ((if_neg h4).trans (if_pos h5)))))];exact QN n A K no k nn mK mF mT mI mL mk mN w hz hk hmk hok hop h5 ha
end Go.Proofs.YtacgbldlonoaaaaGreatDoor
