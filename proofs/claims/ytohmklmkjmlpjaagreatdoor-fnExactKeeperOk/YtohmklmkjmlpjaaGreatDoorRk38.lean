/- Parts. -/
import Derived.Test.YtohmklmkjmlpjaaGreatDoorRk35
import Derived.Test.YtohmklmkjmlpjaaGreatDoorRk34
namespace Go.Proofs.YtohmklmkjmlpjaaGreatDoor
open Go.Proofs.Tryz
set_option maxHeartbeats 8000000
set_option maxRecDepth 100000
open Go.RowKit
open Mth
theorem Qw (n:Nd) (A:bQ) (K no:Int) (k:ByteArray) (nn mK mF mT mI mL:Int) (mk:ByteArray) (mN:Int) (w:World) (hz:eU n 1048576) (hk:k.size<=1048576) (hmk:mk.size<=1048576) (hok:dW n=true) (hop:cu ⟨K,no,k,nn,⟨mK,mF,mT,mI,mL,mk,mN⟩⟩=true) (hK:K=6) (ha:dw w A n):Calls prog 58 #[gB n A,.agg (bZ K no k nn mK mF mT mI mL mk mN)] w (jL w (Cc n ⟨mK,mF,mT,mI,mL,mk,mN⟩)):=by
 subst hK;open an6 in exact CW
theorem QA (n:Nd) (A:bQ) (K no:Int) (k:ByteArray) (nn mK mF mT mI mL:Int) (mk:ByteArray) (mN:Int) (w:World) (hz:eU n 1048576) (hk:k.size<=1048576) (hmk:mk.size<=1048576) (hok:dW n=true) (hop:cu ⟨K,no,k,nn,⟨mK,mF,mT,mI,mL,mk,mN⟩⟩=true) (hK:K=3) (hpar:n.par≠ -1) (ha:dw w A n):Calls prog 58 #[gB n A,.agg (bZ K no k nn mK mF mT mI mL mk mN)] w (jL w (n,[⟨0,n.id,n.par,0,0,k,nn⟩],0)):=by
 subst hK;have nS:=Hq (λW (h:aI w W)=>qg n A W (hz.mono Aaa) (ha.below h));rw [hok] at nS
 have hpz:(decide (n.par < 0))=false:=by
  exact ahW
 have D7:=Hq (λW=>jr ⟨3,no,k,nn,⟨mK,mF,mT,mI,mL,mk,mN⟩⟩ W Aam Aam);open amd in exact Ee
theorem akS {o:gK} (h:cu o=true):o.K=0\/o.K=1\/o.K=2\/o.K=3\/o.K=4\/o.K=5\/o.K=6:=by
 unfold cu at h;by_cases h0:o.K=0\/o.K=3\/o.K=4
 .omega
 rw [if_neg h0] at h;by_cases h1:o.K=1
 .omega
 rw [if_neg h1] at h;by_cases h2:o.K=2
 .omega
 rw [if_neg h2] at h;by_cases h5:o.K=5
 .omega
 rw [if_neg h5] at h;by_cases h6:o.K=6
 .omega
 rw [if_neg h6] at h;exact absurd h Aac
theorem Ug (n:Nd) (A:bQ) (K no:Int) (k:ByteArray) (nn mK mF mT mI mL:Int) (mk:ByteArray) (mN:Int) (w:World) (hz:eU n 1048576) (hk:k.size<=1048576) (hmk:mk.size<=1048576) (ha:dw w A n):
 Calls prog 58 #[gB n A,.agg (bZ K no k nn mK mF mT mI mL mk mN)] w (jL w (YJ n ⟨K,no,k,nn,⟨mK,mF,mT,mI,mL,mk,mN⟩⟩)):=by
 cases hok:dW n
 .rw [KG hok];exact Qu n A K no k nn mK mF mT mI mL mk mN w hz hok ha
 rw [Sr hok];cases hop:cu ⟨K,no,k,nn,⟨mK,mF,mT,mI,mL,mk,mN⟩⟩
 .rw [show mV n ⟨K,no,k,nn,⟨mK,mF,mT,mI,mL,mk,mN⟩⟩=(n,[],3) from if_neg (by rw [hop];simp)];exact Qv n A K no k nn mK mF mT mI mL mk mN w hz hk hmk hok hop ha
 by_cases h6:K=6
 .have e:mV n ⟨K,no,k,nn,⟨mK,mF,mT,mI,mL,mk,mN⟩⟩=Cc n ⟨mK,mF,mT,mI,mL,mk,mN⟩:=by
   unfold mV Cc wY fu;rw [hop,h6];dsimp only;by_cases hc:mT=n.id/\dZ n mF=true
   .rw [if_pos hc,if_pos (by rw [hc.2,decide_eq_true hc.1];rfl),if_neg Aaa,if_neg Aaa,if_neg Aaa,if_neg Aaa,if_neg Aaa,if_neg Aaa]
   .rw [if_neg hc,if_neg (by simp only[decide_true,Bool.not_true,Bool.false_or,Bool.true_and,Bool.and_eq_true,decide_eq_true_eq];exact hc)]
  rw [e];exact Qw n A K no k nn mK mF mT mI mL mk mN w hz hk hmk hok hop h6 ha
 rw [show mV n ⟨K,no,k,nn,⟨mK,mF,mT,mI,mL,mk,mN⟩⟩=fu n ⟨K,no,k,nn,⟨mK,mF,mT,mI,mL,mk,mN⟩⟩ from if_pos (by rw [hop];unfold wY;rw [decide_eq_false h6];rfl)];have hK:=akS hop;dsimp only at hK;by_cases h0:K=0
 .rw [show fu n ⟨K,no,k,nn,⟨mK,mF,mT,mI,mL,mk,mN⟩⟩=_ from if_pos h0];dsimp only;cases hu:dJ n.pu k 1 1 0 nn with
  |mk RL ok=>
   by_cases hp:n.par= -1
   .cases ok
    .rw [if_neg (λh=>absurd h.2 Aac)];exact Hz n A K no k nn mK mF mT mI mL mk mN w hz hk hmk hok hop h0 RL hu hp ha
    .rw [if_pos ⟨hp,rfl⟩];exact FC n A K no k nn mK mF mT mI mL mk mN w hz hk hmk hok hop h0 RL hu hp ha
   .rw [if_neg (λh=>hp h.1)];exact H6 n A K no k nn mK mF mT mI mL mk mN w hz hk hmk hok hop h0 RL ok hu hp ha
 by_cases h1:K=1
 .rw [show fu n ⟨K,no,k,nn,⟨mK,mF,mT,mI,mL,mk,mN⟩⟩=_ from(if_neg h0).trans (if_pos h1)];exact Mq n A K no k nn mK mF mT mI mL mk mN w hz hk hmk hok hop h1 ha
 by_cases h2:K=2
 .rw [show fu n ⟨K,no,k,nn,⟨mK,mF,mT,mI,mL,mk,mN⟩⟩=_ from(if_neg h0).trans ((if_neg h1).trans (if_pos h2))];exact Uc n A K no k nn mK mF mT mI mL mk mN w hz hk hmk hok hop h2 ha
 by_cases h3:K=3
 .rw [show fu n ⟨K,no,k,nn,⟨mK,mF,mT,mI,mL,mk,mN⟩⟩=_ from(if_neg h0).trans ((if_neg h1).trans ((if_neg h2).trans (if_pos h3)))];by_cases hp:n.par= -1
  .rw [if_pos hp];exact Qx n A K no k nn mK mF mT mI mL mk mN w hz hk hmk hok hop h3 hp ha
  .rw [if_neg hp];exact QA n A K no k nn mK mF mT mI mL mk mN w hz hk hmk hok hop h3 hp ha
 by_cases h4:K=4
 .rw [show fu n ⟨K,no,k,nn,⟨mK,mF,mT,mI,mL,mk,mN⟩⟩=_ from(if_neg h0).trans ((if_neg h1).trans ((if_neg h2).trans ((if_neg h3).trans (if_pos h4))))];by_cases hp:n.par= -1
  .rw [if_pos hp];exact Qy n A K no k nn mK mF mT mI mL mk mN w hz hk hmk hok hop h4 hp ha
  .rw [if_neg hp];exact Qt n A K no k nn mK mF mT mI mL mk mN w hz hk hmk hok hop h4 hp ha
 have h5:K=5:=Aaa
 rw [show fu n ⟨K,no,k,nn,⟨mK,mF,mT,mI,mL,mk,mN⟩⟩=_ from(if_neg h0).trans ((if_neg h1).trans ((if_neg h2).trans ((if_neg h3).trans ((if_neg h4).trans (if_pos h5)))))];exact Qz n A K no k nn mK mF mT mI mL mk mN w hz hk hmk hok hop h5 ha
end Go.Proofs.YtohmklmkjmlpjaaGreatDoor
