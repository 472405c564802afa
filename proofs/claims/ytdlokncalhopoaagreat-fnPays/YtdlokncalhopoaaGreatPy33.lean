/- Parts. -/
import Derived.Test.YtdlokncalhopoaaGreatPy32
namespace Go.Proofs.YtdlokncalhopoaaGreat
open Go.RowKit
open Mth
theorem specAdmit (n:Nd) (A:Ads) (G:Blks) (c:Nat→Nat) (K no:Int) (k:ByteArray) (nn mK mF mT mI mL:Int) (mk:ByteArray) (mN:Int) (w:World) (B:Nat) (hB:B≤w.heap.size) (h9:∀x,6 < c x→c x=9)
 (hz:NdSz n 1048576) (hkz:k.size≤1048576) (hP:∃g,A.p=some ⟨g,0,none⟩) (hPc:n.pu.length≤A.cp) (hR:∃g,A.r=some ⟨g,0,none⟩) (hRc:n.reqs.length≤A.cr) (hok:reqsB n=true) (h:NQ w B n A G c):
 Calls Tryz.prog 48 #[ndv n A,.agg #[.int .i64 K,.int .i64 no,.string k,.int .i64 nn,.int .i64 mK,.int .i64 mF,.int .i64 mT,.int .i64 mI,.int .i64 mL,.string mk,.int .i64 mN]] w (GivesR w B c (admitN n no k nn)):=by
 by_cases hs:no≤n.old
 ·rw [show admitN n no k nn=(n,2) from if_pos hs]
  exact specAdm_stale n A G c K no k nn mK mF mT mI mL mk mN w B hB h9 hs h
 cases hf:reqF n.reqs no
 ·cases hu:addP n.pu k 0 (-1) 1 nn with
  |mk RL ok=>
   obtain⟨ak,ap,ao,as',ar,ck,cp,co,cs,cr⟩:=A
   cases ok
   ·have hk:=addP_kept (l:=n.pu) (key:=k) (dm:=0) (df:= -1) (ds:=1) (n:=nn) (by rw [hu])
    rw [hu] at hk
    dsimp only at hk
    rw [show admitN n no k nn=(keepN n ⟨no,k,nn,1⟩,1) by
     unfold admitN
     rw [if_neg hs,hf,hu]
     simp only[hk]
     rfl]
    exact specAdm_keep_false n ak ap ao as' ar ck cp co cs cr G c K no k nn mK mF mT mI mL mk mN w B hB h9 hz hkz hP hPc hR hRc hok hs hf RL hu h
   ·rw [show admitN n no k nn=(keepN (setPu n RL) ⟨no,k,nn,0⟩,0) by
     unfold admitN
     rw [if_neg hs,hf,hu]
     rfl]
    exact specAdm_keep_true n ak ap ao as' ar ck cp co cs cr G c K no k nn mK mF mT mI mL mk mN w B hB h9 hz hkz hP hPc hR hRc hok hs hf RL hu h
 ·obtain⟨hi,hno⟩:=(reqF_iff n.reqs no).1 hf
  have hJ:reqJ n.reqs no=(reqI n.reqs no:Nat):=by unfold reqJ;rw [hf];rfl
  have hA:admitN n no k nn=(n,if sameQ n.reqs[reqI n.reqs no] k nn=true then 0 else 1):=by
   unfold admitN
   rw [if_neg hs,if_pos hf,List.getD_eq_getElem?_getD,List.getElem?_eq_getElem hi,Option.getD_some]
  rw [hA]
  clear hA
  generalize hrq:n.reqs[reqI n.reqs no]=rq at *
  obtain⟨ak,ap,ao,as',ar,ck,cp,co,cs,cr⟩:=A
  unfold sameQ
  by_cases h1:rq.s=0
  ·have b1:(rq.s == 0)=true:=by simpa using h1
   cases h2:(rq.k.toList == k.toList)
   ·rw [show(if (decide (rq.s=0)&&false&&decide (rq.n=nn))=true then(0:Int) else 1)=1 by simp]
    exact specAdm_f1 n ak ap ao as' ar ck cp co cs cr G c K no k nn mK mF mT mI mL mk mN w B hB h9 _ hi hok hs hJ rq hrq b1 h2 h
   ·by_cases h3:rq.n=nn
    ·rw [show(if (decide (rq.s=0)&&true&&decide (rq.n=nn))=true then(0:Int) else 1)=0 by simp[h1,h3]]
     exact specAdm_f3 n ak ap ao as' ar ck cp co cs cr G c K no k nn mK mF mT mI mL mk mN w B hB h9 _ hi hok hs hJ rq hrq b1 h2 (by simpa using h3) h
    ·rw [show(if (decide (rq.s=0)&&true&&decide (rq.n=nn))=true then(0:Int) else 1)=1 by simp[h3]]
     exact specAdm_f2 n ak ap ao as' ar ck cp co cs cr G c K no k nn mK mF mT mI mL mk mN w B hB h9 _ hi hok hs hJ rq hrq b1 h2 (by simpa using h3) h
  ·rw [show(if (decide (rq.s=0)&&(rq.k.toList == k.toList)&&decide (rq.n=nn))=true then(0:Int) else 1)=1 by simp[h1]]
   exact specAdm_f0 n ak ap ao as' ar ck cp co cs cr G c K no k nn mK mF mT mI mL mk mN w B hB h9 _ hi hok hs hJ rq hrq (by simpa using h1) h
end Go.Proofs.YtdlokncalhopoaaGreat
