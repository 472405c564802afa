/- Parts. -/
import Derived.Test.YtacgbldlonoaaaaGreatDoorRa32
namespace Go.Proofs.YtacgbldlonoaaaaGreatDoor
open Go.RowKit
open Mth
theorem OO (n:Nd) (A:bE) (G:aU) (c:Nat→Nat) (K no:Int) (k:ByteArray) (nn mK mF mT mI mL:Int) (mk:ByteArray) (mN:Int) (w:World) (B:Nat) (hB:B≤w.heap.size) (h9:∀x,6 < c x→c x=9)
 (hz:eH n 1048576) (hkz:k.size≤1048576) (hP:∃g,A.p=some ⟨g,0,none⟩) (qd:n.pu.length≤A.cp) (hR:∃g,A.r=some ⟨g,0,none⟩) (hRc:n.reqs.length≤A.cr) (hok:fQ n=true) (h:NQ w B n A G c):
 Calls Tryz.prog 39 #[gu n A,.agg #[.int .i64 K,.int .i64 no,.string k,.int .i64 nn,.int .i64 mK,.int .i64 mF,.int .i64 mT,.int .i64 mI,.int .i64 mL,.string mk,.int .i64 mN]] w (gG w B c (eP n no k nn)):=by
 by_cases hs:no≤n.old
 ·rw [show eP n no k nn=(n,2) from if_pos hs];exact BK n A G c K no k nn mK mF mT mI mL mk mN w B hB h9 hs h
 cases hf:kK n.reqs no
 ·cases hu:bV n.pu k 0 (-1) 1 nn with
  |mk RL ok=>
   obtain⟨ak,ap,ao,as',ar,ck,cp,co,cs,cr⟩:=A
   cases ok
   ·have hk:=CU (l:=n.pu) (key:=k) (dm:=0) (df:= -1) (ds:=1) (n:=nn) (by rw [hu]);rw [hu] at hk;dsimp only at hk
    rw [show eP n no k nn=(jO n ⟨no,k,nn,1⟩,1) by
     unfold eP
     rw [if_neg hs,hf,hu]
     simp only[hk]
     rfl]
    exact uy n ak ap ao as' ar ck cp co cs cr G c K no k nn mK mF mT mI mL mk mN w B hB h9 hz hkz hP qd hR hRc hok hs hf RL hu h
   ·rw [show eP n no k nn=(jO (setPu n RL) ⟨no,k,nn,0⟩,0) by
     unfold eP
     rw [if_neg hs,hf,hu]
     rfl]
    exact vX n ak ap ao as' ar ck cp co cs cr G c K no k nn mK mF mT mI mL mk mN w B hB h9 hz hkz hP qd hR hRc hok hs hf RL hu h
 ·obtain⟨hi,hno⟩:=(lu n.reqs no).1 hf;have hJ:oq n.reqs no=(dx n.reqs no:Nat):=by unfold oq;rw [hf];rfl
  have hA:eP n no k nn=(n,if Ah n.reqs[dx n.reqs no] k nn=true then 0 else 1):=by
   unfold eP;rw [if_neg hs,if_pos hf,List.getD_eq_getElem?_getD,List.getElem?_eq_getElem hi,Option.getD_some]
  rw [hA];clear hA;generalize hrq:n.reqs[dx n.reqs no]=rq at *;obtain⟨ak,ap,ao,as',ar,ck,cp,co,cs,cr⟩:=A;unfold Ah;by_cases h1:rq.s=0
  ·have b1:(rq.s == 0)=true:=by simpa using h1
   cases h2:(rq.k.toList == k.toList)
   ·rw [show(if (decide (rq.s=0)&&false&&decide (rq.n=nn))=true then(0:Int) else 1)=1 by simp];exact KF n ak ap ao as' ar ck cp co cs cr G c K no k nn mK mF mT mI mL mk mN w B hB h9 _ hi hok hs hJ rq hrq b1 h2 h
   ·by_cases h3:rq.n=nn
    ·rw [show(if (decide (rq.s=0)&&true&&decide (rq.n=nn))=true then(0:Int) else 1)=0 by simp[h1,h3]];exact KH n ak ap ao as' ar ck cp co cs cr G c K no k nn mK mF mT mI mL mk mN w B hB h9 _ hi hok hs hJ rq hrq b1 h2 (by simpa using h3) h
    ·rw [show(if (decide (rq.s=0)&&true&&decide (rq.n=nn))=true then(0:Int) else 1)=1 by simp[h3]];exact KG n ak ap ao as' ar ck cp co cs cr G c K no k nn mK mF mT mI mL mk mN w B hB h9 _ hi hok hs hJ rq hrq b1 h2 (by simpa using h3) h
  ·rw [show(if (decide (rq.s=0)&&(rq.k.toList == k.toList)&&decide (rq.n=nn))=true then(0:Int) else 1)=1 by simp[h1]];exact KD n ak ap ao as' ar ck cp co cs cr G c K no k nn mK mF mT mI mL mk mN w B hB h9 _ hi hok hs hJ rq hrq (by simpa using h1) h
set_option maxHeartbeats 8000000
set_option maxRecDepth 100000
theorem ER (n:Nd) (A:bE) (K no:Int) (k:ByteArray) (nn mK mF mT mI mL:Int) (mk:ByteArray) (mN:Int) (w:World) (hz:eH n 1048576) (hk:k.size≤1048576) (hmk:mk.size≤1048576) (hok:dG n=true) (hop:bX ⟨K,no,k,nn,⟨mK,mF,mT,mI,mL,mk,mN⟩⟩=true) (hK:K=1) (ha:dQ w A n):Calls Tryz.prog 9 #[gu n A,.agg #[.int .i64 K,.int .i64 no,.string k,.int .i64 nn,.int .i64 mK,.int .i64 mF,.int .i64 mT,.int .i64 mI,.int .i64 mL,.string mk,.int .i64 mN]] w (jw w ((eP n no k nn).1,[],(eP n no k nn).2)):=by
 subst hK;open aey in exact wR
theorem KI (n:Nd) (A:bE) (K no:Int) (k:ByteArray) (nn mK mF mT mI mL:Int) (mk:ByteArray) (mN:Int) (w:World) (hz:eH n 1048576) (hk:k.size≤1048576) (hmk:mk.size≤1048576) (hok:dG n=true) (hop:bX ⟨K,no,k,nn,⟨mK,mF,mT,mI,mL,mk,mN⟩⟩=true) (hK:K=2) (ha:dQ w A n):Calls Tryz.prog 9 #[gu n A,.agg #[.int .i64 K,.int .i64 no,.string k,.int .i64 nn,.int .i64 mK,.int .i64 mF,.int .i64 mT,.int .i64 mI,.int .i64 mL,.string mk,.int .i64 mN]] w (jw w ((aX n no).1,[],(aX n no).2)):=by
 subst hK;open aex in exact wR
set_option maxHeartbeats 8000000
theorem IJ (n:Nd) (A:bE) (K no:Int) (k:ByteArray) (nn mK mF mT mI mL:Int) (mk:ByteArray) (mN:Int) (w:World) (hz:eH n 1048576) (hk:k.size≤1048576) (hmk:mk.size≤1048576) (hok:dG n=true) (hop:bX ⟨K,no,k,nn,⟨mK,mF,mT,mI,mL,mk,mN⟩⟩=true) (hK:K=4) (hpar:n.par≠ -1) (ha:dQ w A n):Calls Tryz.prog 9 #[gu n A,.agg #[.int .i64 K,.int .i64 no,.string k,.int .i64 nn,.int .i64 mK,.int .i64 mF,.int .i64 mT,.int .i64 mI,.int .i64 mL,.string mk,.int .i64 mN]] w (jw w ((dV n n.par k nn).1,(dV n n.par k nn).2.1,if (dV n n.par k nn).2.2=true then 0 else 1)):=by
 subst hK;open aez in exact wR
end Go.Proofs.YtacgbldlonoaaaaGreatDoor
