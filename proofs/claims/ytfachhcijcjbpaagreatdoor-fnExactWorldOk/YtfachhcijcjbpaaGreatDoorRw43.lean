/- Parts. -/
import Derived.Test.YtfachhcijcjbpaaGreatDoorRw42
import Derived.Test.YtfachhcijcjbpaaGreatDoorRw41
namespace Go.Proofs.YtfachhcijcjbpaaGreatDoor
open Go.Proofs.Tryz
set_option maxHeartbeats 8000000
set_option maxRecDepth 100000
open Go.RowKit
open Mth
theorem Rt (n:Nd) (A:bg) (K no:Int) (k:ByteArray) (nn mK mF mT mI mL:Int) (mk:ByteArray) (mN:Int) (w:World) (hz:eH n 1048576) (hk:k.size<=1048576) (hmk:mk.size<=1048576) (hok:dQ n=true) (hop:bC ⟨K,no,k,nn,⟨mK,mF,mT,mI,mL,mk,mN⟩⟩=true) (hK:K=6) (ha:bX w A n):Calls prog 68 #[gP n A,.agg (bE K no k nn mK mF mT mI mL mk mN)] w (jJ w (CY n ⟨mK,mF,mT,mI,mL,mk,mN⟩)):=by
 subst hK;open aom in exact DJ
theorem Rx (n:Nd) (A:bg) (K no:Int) (k:ByteArray) (nn mK mF mT mI mL:Int) (mk:ByteArray) (mN:Int) (w:World) (hz:eH n 1048576) (hk:k.size<=1048576) (hmk:mk.size<=1048576) (hok:dQ n=true) (hop:bC ⟨K,no,k,nn,⟨mK,mF,mT,mI,mL,mk,mN⟩⟩=true) (hK:K=3) (hpar:n.par≠ -1) (ha:bX w A n):Calls prog 68 #[gP n A,.agg (bE K no k nn mK mF mT mI mL mk mN)] w (jJ w (n,[⟨0,n.id,n.par,0,0,k,nn⟩],0)):=by
 subst hK;have nD:=Hq (λW (h:aG w W)=>qA n A W (hz.mono Aaa) (ha.below h));rw [hok] at nD
 have hpz:(decide (n.par < 0))=false:=by
  exact aiA
 have ED:=Hq (λW=>jl ⟨3,no,k,nn,⟨mK,mF,mT,mI,mL,mk,mN⟩⟩ W Aal Aal);open aA2 in exact EO
theorem alz {o:gD} (h:bC o=true):o.K=0\/o.K=1\/o.K=2\/o.K=3\/o.K=4\/o.K=5\/o.K=6:=by
 unfold bC at h;by_cases h0:o.K=0\/o.K=3\/o.K=4
 .omega
 rw [aEG h0] at h;by_cases h1:o.K=1
 .omega
 rw [aEG h1] at h;by_cases h2:o.K=2
 .omega
 rw [aEG h2] at h;by_cases h5:o.K=5
 .omega
 rw [aEG h5] at h;by_cases h6:o.K=6
 .omega
 rw [aEG h6] at h;exact absurd h Aac
theorem Vn (n:Nd) (A:bg) (K no:Int) (k:ByteArray) (nn mK mF mT mI mL:Int) (mk:ByteArray) (mN:Int) (w:World) (hz:eH n 1048576) (hk:k.size<=1048576) (hmk:mk.size<=1048576) (ha:bX w A n):
 Calls prog 68 #[gP n A,.agg (bE K no k nn mK mF mT mI mL mk mN)] w (jJ w (doN n ⟨K,no,k,nn,⟨mK,mF,mT,mI,mL,mk,mN⟩⟩)):=by
 cases hok:dQ n
 .rw [Mh hok];exact Rp n A K no k nn mK mF mT mI mL mk mN w hz hok ha
 rw [Ue hok];cases hop:bC ⟨K,no,k,nn,⟨mK,mF,mT,mI,mL,mk,mN⟩⟩
 .rw [show nC n ⟨K,no,k,nn,⟨mK,mF,mT,mI,mL,mk,mN⟩⟩=(n,[],3) from aEG (by rw [hop];simp)];exact Rs n A K no k nn mK mF mT mI mL mk mN w hz hk hmk hok hop ha
 by_cases h6:K=6
 .have e:nC n ⟨K,no,k,nn,⟨mK,mF,mT,mI,mL,mk,mN⟩⟩=CY n ⟨mK,mF,mT,mI,mL,mk,mN⟩:=by
   unfold nC CY xX eZ;rw [hop,h6];dsimp only;by_cases hc:mT=n.id/\dU n mF=true
   .rw [aER hc,aER (by rw [hc.2,aEy hc.1];rfl),aEG Aaa,aEG Aaa,aEG Aaa,aEG Aaa,aEG Aaa,aEG Aaa]
   .rw [aEG hc,aEG (by simp only[decide_true,Bool.not_true,Bool.false_or,Bool.true_and,aED,aES];exact hc)]
  rw [e];exact Rt n A K no k nn mK mF mT mI mL mk mN w hz hk hmk hok hop h6 ha
 rw [show nC n ⟨K,no,k,nn,⟨mK,mF,mT,mI,mL,mk,mN⟩⟩=eZ n ⟨K,no,k,nn,⟨mK,mF,mT,mI,mL,mk,mN⟩⟩ from aER (by rw [hop];unfold xX;rw [aEw h6];rfl)];have hK:=alz hop;dsimp only at hK;by_cases h0:K=0
 .rw [show eZ n ⟨K,no,k,nn,⟨mK,mF,mT,mI,mL,mk,mN⟩⟩=_ from aER h0];dsimp only;cases hu:cK n.pu k 1 1 0 nn with
  |mk RL ok=>
   by_cases hp:n.par= -1
   .cases ok
    .rw [aEG (λh=>absurd h.2 Aac)];exact Jm n A K no k nn mK mF mT mI mL mk mN w hz hk hmk hok hop h0 RL hu hp ha
    .rw [aER ⟨hp,rfl⟩];exact Gz n A K no k nn mK mF mT mI mL mk mN w hz hk hmk hok hop h0 RL hu hp ha
   .rw [aEG (λh=>hp h.1)];exact Jo n A K no k nn mK mF mT mI mL mk mN w hz hk hmk hok hop h0 RL ok hu hp ha
 by_cases h1:K=1
 .rw [show eZ n ⟨K,no,k,nn,⟨mK,mF,mT,mI,mL,mk,mN⟩⟩=_ from(aEG h0).trans (aER h1)];exact NC n A K no k nn mK mF mT mI mL mk mN w hz hk hmk hok hop h1 ha
 by_cases h2:K=2
 .rw [show eZ n ⟨K,no,k,nn,⟨mK,mF,mT,mI,mL,mk,mN⟩⟩=_ from(aEG h0).trans ((aEG h1).trans (aER h2))];exact Vi n A K no k nn mK mF mT mI mL mk mN w hz hk hmk hok hop h2 ha
 by_cases h3:K=3
 .rw [show eZ n ⟨K,no,k,nn,⟨mK,mF,mT,mI,mL,mk,mN⟩⟩=_ from(aEG h0).trans ((aEG h1).trans ((aEG h2).trans (aER h3)))];by_cases hp:n.par= -1
  .rw [aER hp];exact Ru n A K no k nn mK mF mT mI mL mk mN w hz hk hmk hok hop h3 hp ha
  .rw [aEG hp];exact Rx n A K no k nn mK mF mT mI mL mk mN w hz hk hmk hok hop h3 hp ha
 by_cases h4:K=4
 .rw [show eZ n ⟨K,no,k,nn,⟨mK,mF,mT,mI,mL,mk,mN⟩⟩=_ from(aEG h0).trans ((aEG h1).trans ((aEG h2).trans ((aEG h3).trans (aER h4))))];by_cases hp:n.par= -1
  .rw [aER hp];exact Rv n A K no k nn mK mF mT mI mL mk mN w hz hk hmk hok hop h4 hp ha
  .rw [aEG hp];exact Ro n A K no k nn mK mF mT mI mL mk mN w hz hk hmk hok hop h4 hp ha
 have h5:K=5:=Aaa
 rw [show eZ n ⟨K,no,k,nn,⟨mK,mF,mT,mI,mL,mk,mN⟩⟩=_ from(aEG h0).trans ((aEG h1).trans ((aEG h2).trans ((aEG h3).trans ((aEG h4).trans (aER h5)))))];exact Rw n A K no k nn mK mF mT mI mL mk mN w hz hk hmk hok hop h5 ha
end Go.Proofs.YtfachhcijcjbpaaGreatDoor
