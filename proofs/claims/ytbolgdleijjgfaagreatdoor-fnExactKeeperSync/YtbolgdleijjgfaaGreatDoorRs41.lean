/- Parts. -/
import Derived.Test.YtbolgdleijjgfaaGreatDoorRs37
namespace Go.Proofs.YtbolgdleijjgfaaGreatDoor
open Go.Proofs.Tryz
set_option maxHeartbeats 8000000
set_option maxRecDepth 100000
open Go.RowKit
open Mth
theorem Rc (n:Nd) (A:bq) (K no:Int) (k:ByteArray) (nn mK mF mT mI mL:Int) (mk:ByteArray) (mN:Int) (w:World) (hz:eF n 1048576) (hk:k.size<=1048576) (hmk:mk.size<=1048576) (hok:dR n=true) (hop:bH ⟨K,no,k,nn,⟨mK,mF,mT,mI,mL,mk,mN⟩⟩=true) (hK:K=3) (hpar:n.par= -1) (ha:bY w A n):Calls prog 99 #[gM n A,.agg (bJ K no k nn mK mF mT mI mL mk mN)] w (jR w (n,[],1)):=by
 subst hK;open aoo in exact DU
theorem Rf (n:Nd) (A:bq) (K no:Int) (k:ByteArray) (nn mK mF mT mI mL:Int) (mk:ByteArray) (mN:Int) (w:World) (hz:eF n 1048576) (hk:k.size<=1048576) (hmk:mk.size<=1048576) (hok:dR n=true) (hop:bH ⟨K,no,k,nn,⟨mK,mF,mT,mI,mL,mk,mN⟩⟩=true) (hK:K=4) (hpar:n.par= -1) (ha:bY w A n):Calls prog 99 #[gM n A,.agg (bJ K no k nn mK mF mT mI mL mk mN)] w (jR w (n,[],1)):=by
 subst hK;open aon in exact DU
theorem Jg (n:Nd) (A:bq) (K no:Int) (k:ByteArray) (nn mK mF mT mI mL:Int) (mk:ByteArray) (mN:Int) (w:World) (hz:eF n 1048576) (hk:k.size<=1048576) (hmk:mk.size<=1048576) (hok:dR n=true) (hop:bH ⟨K,no,k,nn,⟨mK,mF,mT,mI,mL,mk,mN⟩⟩=true) (hK:K=0) (RL:List Pu) (ok:Bool) (hu:dw n.pu k 1 1 0 nn=(RL,ok)) (hpar:n.par≠ -1) (ha:bY w A n):Calls prog 99 #[gM n A,.agg (bJ K no k nn mK mF mT mI mL mk mN)] w (jR w (n,[],1)):=by
 subst hK;open aor in exact DU
theorem Jf (n:Nd) (A:bq) (K no:Int) (k:ByteArray) (nn mK mF mT mI mL:Int) (mk:ByteArray) (mN:Int) (w:World) (hz:eF n 1048576) (hk:k.size<=1048576) (hmk:mk.size<=1048576) (hok:dR n=true) (hop:bH ⟨K,no,k,nn,⟨mK,mF,mT,mI,mL,mk,mN⟩⟩=true) (hK:K=0) (RL:List Pu) (hu:dw n.pu k 1 1 0 nn=(RL,false)) (hpar:n.par= -1) (ha:bY w A n):Calls prog 99 #[gM n A,.agg (bJ K no k nn mK mF mT mI mL mk mN)] w (jR w (n,[],1)):=by
 subst hK;open aoq in exact DU
theorem Gz (n:Nd) (A:bq) (K no:Int) (k:ByteArray) (nn mK mF mT mI mL:Int) (mk:ByteArray) (mN:Int) (w:World) (hz:eF n 1048576) (hk:k.size<=1048576) (hmk:mk.size<=1048576) (hok:dR n=true) (hop:bH ⟨K,no,k,nn,⟨mK,mF,mT,mI,mL,mk,mN⟩⟩=true) (hK:K=0) (RL:List Pu) (hu:dw n.pu k 1 1 0 nn=(RL,true)) (hpar:n.par= -1) (ha:bY w A n):Calls prog 99 #[gM n A,.agg (bJ K no k nn mK mF mT mI mL mk mN)] w (jR w (setPu n RL,[],0)):=by
 subst hK;open aop in exact DU
theorem Rh (n:Nd) (A:bq) (K no:Int) (k:ByteArray) (nn mK mF mT mI mL:Int) (mk:ByteArray) (mN:Int) (w:World) (hz:eF n 1048576) (hk:k.size<=1048576) (hmk:mk.size<=1048576) (hok:dR n=true) (hop:bH ⟨K,no,k,nn,⟨mK,mF,mT,mI,mL,mk,mN⟩⟩=true) (hK:K=5) (ha:bY w A n):Calls prog 99 #[gM n A,.agg (bJ K no k nn mK mF mT mI mL mk mN)] w (jR w (n,n.out.map (qE n),0)):=by
 subst hK;open aos in exact DU
end Go.Proofs.YtbolgdleijjgfaaGreatDoor
