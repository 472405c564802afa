/- Parts. -/
import Derived.Test.YtacgbldlonoaaaaGreatDoorRa34
namespace Go.Proofs.YtacgbldlonoaaaaGreatDoor
open Go.RowKit
open Mth
theorem Tw (n:Nd) (A:bE) (G:aU) (c:Nat→Nat) (mK mF mT mI mL:Int) (mk:ByteArray) (mN:Int) (w:World) (B:Nat) (hB:B≤w.heap.size) (h9:∀x,6 < c x→c x=9)
 (hz:eH n 1048576) (hmk:mk.size≤1048576) (hP:∃g,A.p=some ⟨g,0,none⟩) (qd:n.pu.length≤A.cp) (hok:dG n=true) (hF:dB n mF=true) (h:NQ w B n A G c):
 Calls Tryz.prog 119 #[gu n A,.agg #[.int .i64 mK,.int .i64 mF,.int .i64 mT,.int .i64 mI,.int .i64 mL,.string mk,.int .i64 mN]] w
  (dZ w B c ((takeN n ⟨mK,mF,mT,mI,mL,mk,mN⟩).1,if (takeN n ⟨mK,mF,mT,mI,mL,mk,mN⟩).2=true then[Np n ⟨mK,mF,mT,mI,mL,mk,mN⟩] else[],if (takeN n ⟨mK,mF,mT,mI,mL,mk,mN⟩).2=true then 0 else 1)):=by
 obtain⟨hi,hif⟩:=Ai hok hF;have hsn:=vW hok _ (List.getElem_mem hi)
 have hsl:n.seen.length≤1000:=by
  exact amZ
 have hil:n.seen[gF n.seen mF].ids.length≤1000:=by
  unfold qz at hsn;simp only[Bool.and_eq_true,decide_eq_true_eq] at hsn;omega
 have hbef:∀x (hx:x < n.seen.length),x < gF n.seen mF→n.seen[x].f≠mF:=fun x hx hlt=>by
  have:=List.not_of_lt_findIdx (p:=fun s:Sn=>decide (s.f=mF)) (xs:=n.seen) hlt
  simpa using this
 obtain⟨ak,ap,ao,as',ar,ck,cp,co,cs,cr⟩:=A;cases hh:nU n.seen[gF n.seen mF] mL mI
 ·cases hu:bV n.pu mk 0 1 0 mN with
  |mk RL ok=>
   by_cases hg:ok=true∧(aW n.seen[gF n.seen mF] mL).length < 40
   ·have hgb:jN n n.seen[gF n.seen mF] ⟨mK,mF,mT,mI,mL,mk,mN⟩=true:=by
     unfold jN;dsimp only;rw [hu,hg.1,decide_eq_true hg.2];rfl
    rw [AA (m:=⟨mK,mF,mT,mI,mL,mk,mN⟩) hi rfl rfl hh hgb];obtain⟨rfl,hg2⟩:=hg;have hres:=Ck n ak ap ao as' ar ck cp co cs cr G c mK mF mT mI mL mk mN w B hB h9 _ hi _ rfl hif hbef hsl hil hz hmk hP qd RL hu hh hg2 h;dsimp only;rw [hu];exact hres
   ·have hgb:jN n n.seen[gF n.seen mF] ⟨mK,mF,mT,mI,mL,mk,mN⟩=false:=by
     unfold jN;dsimp only;rw [hu];cases ok
     ·rfl
     ·rw [decide_eq_false (fun h=>hg ⟨rfl,h⟩)];rfl
    rw [Jf (m:=⟨mK,mF,mT,mI,mL,mk,mN⟩) hi rfl rfl hh hgb]
    exact Jd n ak ap ao as' ar ck cp co cs cr G c mK mF mT mI mL mk mN w B hB h9 _ hi _ rfl hif hbef hsl hil hz hmk hP qd RL ok hu hh (by
     cases ok
     ·exact .inl rfl
     ·exact .inr (by have:¬(aW n.seen[gF n.seen mF] mL).length < 40:=fun h=>hg ⟨rfl,h⟩;omega)) h
 ·rw [Du (m:=⟨mK,mF,mT,mI,mL,mk,mN⟩) hi rfl rfl hh];exact Fe n ak ap ao as' ar ck cp co cs cr G c mK mF mT mI mL mk mN w B hB h9 _ hi _ rfl hif hbef hsl hil hh h
set_option maxHeartbeats 8000000
set_option maxRecDepth 100000
theorem BR (n:Nd) (A:bE) (G:aU) (c:Nat→Nat) (mK mF mT mI mL:Int) (mk:ByteArray) (mN:Int) (w:World) (B:Nat) (hB:B≤w.heap.size) (h9:∀x,6 < c x→c x=9) (hkl:n.kids.length≤1048600) (hmk:mk.size≤1048576) (hmo:bJ ⟨mK,mF,mT,mI,mL,mk,mN⟩=true) (hol:n.out.length≤1048576) (h1:mT=n.id) (h2:dB n mF=true) (h3:mK=2) (h:NQ w B n A G c):Calls Tryz.prog 41 #[gu n A,.agg #[.int .i64 mK,.int .i64 mF,.int .i64 mT,.int .i64 mI,.int .i64 mL,.string mk,.int .i64 mN]] w (dZ w B c (setOut n (n.out.filter (fun s=> !gP ⟨2,mF,mT,mI,mL,mk,mN⟩ s)),[],0)):=by
 open aln in exact Gh
set_option maxHeartbeats 8000000
theorem EZ (n:Nd) (A:bE) (G:aU) (c:Nat→Nat) (mK mF mT mI mL:Int) (mk:ByteArray) (mN:Int) (w:World) (B:Nat) (hB:B≤w.heap.size) (h9:∀x,6 < c x→c x=9) (hkl:n.kids.length≤1048600) (hmk:mk.size≤1048576) (hmo:bJ ⟨mK,mF,mT,mI,mL,mk,mN⟩=true) (hz:eH n 1048576) (hP:∃g,A.p=some ⟨g,0,none⟩) (qd:n.pu.length≤A.cp) (hok:dG n=true) (h1:mT=n.id) (h2:dB n mF=true) (h3:mK=1) (h:NQ w B n A G c):Calls Tryz.prog 41 #[gu n A,.agg #[.int .i64 mK,.int .i64 mF,.int .i64 mT,.int .i64 mI,.int .i64 mL,.string mk,.int .i64 mN]] w (dZ w B c ((takeN n ⟨mK,mF,mT,mI,mL,mk,mN⟩).1,if (takeN n ⟨mK,mF,mT,mI,mL,mk,mN⟩).2=true then[Np n ⟨mK,mF,mT,mI,mL,mk,mN⟩] else[],if (takeN n ⟨mK,mF,mT,mI,mL,mk,mN⟩).2=true then 0 else 1)):=by
 open alo in exact Gh
def xO (n:Nd) (m:Mg):Nd×List Mg×Int:=if m.T=n.id∧dB n m.F=true then eF n m else(n,[],3)
theorem Sr {n:Nd} (hok:dG n=true):hasB n.kids n.par=false:=by
 have h1:=(bq hok).1;unfold bQ at h1;simp only[Bool.and_eq_true] at h1;have h2:=uT h1.2;cases hh:hasB n.kids n.par
 ·rfl
 ·rw [uW] at hh;have:=h2 _ hh;unfold iE at this;simp at this
theorem Tt (n:Nd) (A:bE) (G:aU) (c:Nat→Nat) (mK mF mT mI mL:Int) (mk:ByteArray) (mN:Int) (w:World) (B:Nat) (hB:B≤w.heap.size) (h9:∀x,6 < c x→c x=9)
 (hz:eH n 1048576) (hmk:mk.size≤1048576) (hok:dG n=true) (hmo:bJ ⟨mK,mF,mT,mI,mL,mk,mN⟩=true) (hP:∃g,A.p=some ⟨g,0,none⟩) (qd:n.pu.length≤A.cp) (h:NQ w B n A G c):
 Calls Tryz.prog 41 #[gu n A,.agg #[.int .i64 mK,.int .i64 mF,.int .i64 mT,.int .i64 mI,.int .i64 mL,.string mk,.int .i64 mN]] w (dZ w B c (xO n ⟨mK,mF,mT,mI,mL,mk,mN⟩)):=by
 have hkl:n.kids.length≤1048600:=Nat.le_trans hz.k (by omega);have h0:0≤n.next:=by have h:=(bq hok).2.2.2.1;unfold eD at h;simp at h;omega
 by_cases h1:mT=n.id
 ·cases h2:dB n mF
  ·rw [show xO n ⟨mK,mF,mT,mI,mL,mk,mN⟩=(n,[],3) from if_neg (fun h=>by have:=h.2;dsimp only at this;rw [h2] at this;exact absurd this (by simp))];exact BN n A G c mK mF mT mI mL mk mN w B hB h9 hkl hmk hmo h1 h2 h
  ·rw [show xO n ⟨mK,mF,mT,mI,mL,mk,mN⟩=eF n ⟨mK,mF,mT,mI,mL,mk,mN⟩ from if_pos ⟨h1,h2⟩];by_cases k1:mK=1
   ·rw [show eF n ⟨mK,mF,mT,mI,mL,mk,mN⟩=_ from if_pos k1];exact EZ n A G c mK mF mT mI mL mk mN w B hB h9 hkl hmk hmo hz hP qd hok h1 h2 k1 h
   by_cases k2:mK=2
   ·rw [show eF n ⟨mK,mF,mT,mI,mL,mk,mN⟩=_ from(if_neg k1).trans (if_pos k2)];have:=BR n A G c mK mF mT mI mL mk mN w B hB h9 hkl hmk hmo hz.o h1 h2 k2 h;rw [k2] at this ⊢;exact this
   have k0:mK=0:=by
    unfold bJ at hmo;rw [Bool.and_eq_true] at hmo;have q:=hmo.2;dsimp only at q;by_cases k0:mK=0
    ·exact k0
    ·rw [if_neg k0,if_neg k1,if_neg k2] at q;exact absurd q (by simp)
   by_cases h4:mF=n.par
   ·rw [show eF n ⟨mK,mF,mT,mI,mL,mk,mN⟩=(n,[],1) from(if_neg k1).trans ((if_neg k2).trans (if_neg (by dsimp only;rw [h4,Sr hok];simp)))];exact I9 n A G c mK mF mT mI mL mk mN w B hB h9 hkl hmk hmo h1 h2 k0 h4 h
   ·have hk:hasB n.kids mF=true:=by
     unfold dB at h2;rw [decide_eq_false h4,Bool.and_false,Bool.false_or] at h2;exact h2
    rw [show eF n ⟨mK,mF,mT,mI,mL,mk,mN⟩=_ from(if_neg k1).trans ((if_neg k2).trans (if_pos hk))];exact BQ n A G c mK mF mT mI mL mk mN w B hB h9 hkl hmk hmo hz hP qd h0 h1 h2 k0 h4 h
 ·rw [show xO n ⟨mK,mF,mT,mI,mL,mk,mN⟩=(n,[],3) from if_neg (fun h=>h1 h.1)];exact BP n A G c mK mF mT mI mL mk mN w B hB h9 hkl hmk hmo h1 h
set_option maxHeartbeats 8000000
theorem IU (n:Nd) (A:bE) (K no:Int) (k:ByteArray) (nn mK mF mT mI mL:Int) (mk:ByteArray) (mN:Int) (w:World) (hz:eH n 1048576) (hk:k.size≤1048576) (hmk:mk.size≤1048576) (hok:dG n=true) (hop:bX ⟨K,no,k,nn,⟨mK,mF,mT,mI,mL,mk,mN⟩⟩=true) (hK:K=6) (ha:dQ w A n):Calls Tryz.prog 9 #[gu n A,.agg #[.int .i64 K,.int .i64 no,.string k,.int .i64 nn,.int .i64 mK,.int .i64 mF,.int .i64 mT,.int .i64 mI,.int .i64 mL,.string mk,.int .i64 mN]] w (jw w (xO n ⟨mK,mF,mT,mI,mL,mk,mN⟩)):=by
 subst hK;open aeA in exact wR
set_option maxHeartbeats 8000000
theorem IV (n:Nd) (A:bE) (K no:Int) (k:ByteArray) (nn mK mF mT mI mL:Int) (mk:ByteArray) (mN:Int) (w:World) (hz:eH n 1048576) (hk:k.size≤1048576) (hmk:mk.size≤1048576) (hok:dG n=true) (hop:bX ⟨K,no,k,nn,⟨mK,mF,mT,mI,mL,mk,mN⟩⟩=true) (hK:K=3) (hpar:n.par= -1) (ha:dQ w A n):Calls Tryz.prog 9 #[gu n A,.agg #[.int .i64 K,.int .i64 no,.string k,.int .i64 nn,.int .i64 mK,.int .i64 mF,.int .i64 mT,.int .i64 mI,.int .i64 mL,.string mk,.int .i64 mN]] w (jw w (n,[],1)):=by
 subst hK;open aeC in exact wR
theorem IW (n:Nd) (A:bE) (K no:Int) (k:ByteArray) (nn mK mF mT mI mL:Int) (mk:ByteArray) (mN:Int) (w:World) (hz:eH n 1048576) (hk:k.size≤1048576) (hmk:mk.size≤1048576) (hok:dG n=true) (hop:bX ⟨K,no,k,nn,⟨mK,mF,mT,mI,mL,mk,mN⟩⟩=true) (hK:K=4) (hpar:n.par= -1) (ha:dQ w A n):Calls Tryz.prog 9 #[gu n A,.agg #[.int .i64 K,.int .i64 no,.string k,.int .i64 nn,.int .i64 mK,.int .i64 mF,.int .i64 mT,.int .i64 mI,.int .i64 mL,.string mk,.int .i64 mN]] w (jw w (n,[],1)):=by
 subst hK;open aeB in exact wR
set_option maxHeartbeats 8000000
theorem BM (n:Nd) (A:bE) (K no:Int) (k:ByteArray) (nn mK mF mT mI mL:Int) (mk:ByteArray) (mN:Int) (w:World) (hz:eH n 1048576) (hk:k.size≤1048576) (hmk:mk.size≤1048576) (hok:dG n=true) (hop:bX ⟨K,no,k,nn,⟨mK,mF,mT,mI,mL,mk,mN⟩⟩=true) (hK:K=0) (RL:List Pu) (ok:Bool) (hu:bV n.pu k 1 1 0 nn=(RL,ok)) (hpar:n.par≠ -1) (ha:dQ w A n):Calls Tryz.prog 9 #[gu n A,.agg #[.int .i64 K,.int .i64 no,.string k,.int .i64 nn,.int .i64 mK,.int .i64 mF,.int .i64 mT,.int .i64 mI,.int .i64 mL,.string mk,.int .i64 mN]] w (jw w (n,[],1)):=by
 subst hK;open aeF in exact wR
theorem BL (n:Nd) (A:bE) (K no:Int) (k:ByteArray) (nn mK mF mT mI mL:Int) (mk:ByteArray) (mN:Int) (w:World) (hz:eH n 1048576) (hk:k.size≤1048576) (hmk:mk.size≤1048576) (hok:dG n=true) (hop:bX ⟨K,no,k,nn,⟨mK,mF,mT,mI,mL,mk,mN⟩⟩=true) (hK:K=0) (RL:List Pu) (hu:bV n.pu k 1 1 0 nn=(RL,false)) (hpar:n.par= -1) (ha:dQ w A n):Calls Tryz.prog 9 #[gu n A,.agg #[.int .i64 K,.int .i64 no,.string k,.int .i64 nn,.int .i64 mK,.int .i64 mF,.int .i64 mT,.int .i64 mI,.int .i64 mL,.string mk,.int .i64 mN]] w (jw w (n,[],1)):=by
 subst hK;open aeE in exact wR
theorem Ak (n:Nd) (A:bE) (K no:Int) (k:ByteArray) (nn mK mF mT mI mL:Int) (mk:ByteArray) (mN:Int) (w:World) (hz:eH n 1048576) (hk:k.size≤1048576) (hmk:mk.size≤1048576) (hok:dG n=true) (hop:bX ⟨K,no,k,nn,⟨mK,mF,mT,mI,mL,mk,mN⟩⟩=true) (hK:K=0) (RL:List Pu) (hu:bV n.pu k 1 1 0 nn=(RL,true)) (hpar:n.par= -1) (ha:dQ w A n):Calls Tryz.prog 9 #[gu n A,.agg #[.int .i64 K,.int .i64 no,.string k,.int .i64 nn,.int .i64 mK,.int .i64 mF,.int .i64 mT,.int .i64 mI,.int .i64 mL,.string mk,.int .i64 mN]] w (jw w (setPu n RL,[],0)):=by
 subst hK;open aeD in exact wR
set_option maxHeartbeats 8000000
theorem IX (n:Nd) (A:bE) (K no:Int) (k:ByteArray) (nn mK mF mT mI mL:Int) (mk:ByteArray) (mN:Int) (w:World) (hz:eH n 1048576) (hk:k.size≤1048576) (hmk:mk.size≤1048576) (hok:dG n=true) (hop:bX ⟨K,no,k,nn,⟨mK,mF,mT,mI,mL,mk,mN⟩⟩=true) (hK:K=5) (ha:dQ w A n):Calls Tryz.prog 9 #[gu n A,.agg #[.int .i64 K,.int .i64 no,.string k,.int .i64 nn,.int .i64 mK,.int .i64 mF,.int .i64 mT,.int .i64 mI,.int .i64 mL,.string mk,.int .i64 mN]] w (jw w (n,n.out.map (lG n),0)):=by
 subst hK;open aeG in exact wR
set_option maxHeartbeats 8000000
theorem IY (n:Nd) (A:bE) (K no:Int) (k:ByteArray) (nn mK mF mT mI mL:Int) (mk:ByteArray) (mN:Int) (w:World) (hz:eH n 1048576) (hk:k.size≤1048576) (hmk:mk.size≤1048576) (hok:dG n=true) (hop:bX ⟨K,no,k,nn,⟨mK,mF,mT,mI,mL,mk,mN⟩⟩=true) (hK:K=3) (hpar:n.par≠ -1) (ha:dQ w A n):Calls Tryz.prog 9 #[gu n A,.agg #[.int .i64 K,.int .i64 no,.string k,.int .i64 nn,.int .i64 mK,.int .i64 mF,.int .i64 mT,.int .i64 mI,.int .i64 mL,.string mk,.int .i64 mN]] w (jw w (n,[⟨0,n.id,n.par,0,0,k,nn⟩],0)):=by
 subst hK;open aeH in exact wR
theorem abM {o:jE} (h:bX o=true):o.K=0∨o.K=1∨o.K=2∨o.K=3∨o.K=4∨o.K=5∨o.K=6:=by
 unfold bX at h;by_cases h0:o.K=0∨o.K=3∨o.K=4
 ·omega
 rw [if_neg h0] at h;by_cases h1:o.K=1
 ·omega
 rw [if_neg h1] at h;by_cases h2:o.K=2
 ·omega
 rw [if_neg h2] at h;by_cases h5:o.K=5
 ·omega
 rw [if_neg h5] at h;by_cases h6:o.K=6
 ·omega
 rw [if_neg h6] at h;exact absurd h (by simp)
theorem abQ (n:Nd) (A:bE) (K no:Int) (k:ByteArray) (nn mK mF mT mI mL:Int) (mk:ByteArray) (mN:Int) (w:World) (hz:eH n 1048576) (hk:k.size≤1048576) (hmk:mk.size≤1048576) (ha:dQ w A n):
 Calls Tryz.prog 9 #[gu n A,.agg #[.int .i64 K,.int .i64 no,.string k,.int .i64 nn,.int .i64 mK,.int .i64 mF,.int .i64 mT,.int .i64 mI,.int .i64 mL,.string mk,.int .i64 mN]] w (jw w (Pn n ⟨K,no,k,nn,⟨mK,mF,mT,mI,mL,mk,mN⟩⟩)):=by
 cases hok:dG n
 ·rw [Ed hok];exact IK n A K no k nn mK mF mT mI mL mk mN w hz hok ha
 rw [JW hok];cases hop:bX ⟨K,no,k,nn,⟨mK,mF,mT,mI,mL,mk,mN⟩⟩
 ·rw [show kR n ⟨K,no,k,nn,⟨mK,mF,mT,mI,mL,mk,mN⟩⟩=(n,[],3) from if_neg (by rw [hop];simp)];exact IL n A K no k nn mK mF mT mI mL mk mN w hz hk hmk hok hop ha
 by_cases h6:K=6
 ·have e:kR n ⟨K,no,k,nn,⟨mK,mF,mT,mI,mL,mk,mN⟩⟩=xO n ⟨mK,mF,mT,mI,mL,mk,mN⟩:=by
   unfold kR xO sH dW;rw [hop,h6];dsimp only;by_cases hc:mT=n.id∧dB n mF=true
   ·rw [if_pos hc,if_pos (by rw [hc.2,decide_eq_true hc.1];rfl),if_neg (by omega),if_neg (by omega),if_neg (by omega),if_neg (by omega),if_neg (by omega),if_neg (by omega)]
   ·rw [if_neg hc,if_neg (by simp only[decide_true,Bool.not_true,Bool.false_or,Bool.true_and,Bool.and_eq_true,decide_eq_true_eq];exact hc)]
  rw [e];exact IU n A K no k nn mK mF mT mI mL mk mN w hz hk hmk hok hop h6 ha
 rw [show kR n ⟨K,no,k,nn,⟨mK,mF,mT,mI,mL,mk,mN⟩⟩=dW n ⟨K,no,k,nn,⟨mK,mF,mT,mI,mL,mk,mN⟩⟩ from if_pos (by rw [hop];unfold sH;rw [decide_eq_false h6];rfl)];have hK:=abM hop;dsimp only at hK;by_cases h0:K=0
 ·rw [show dW n ⟨K,no,k,nn,⟨mK,mF,mT,mI,mL,mk,mN⟩⟩=_ from if_pos h0];dsimp only;cases hu:bV n.pu k 1 1 0 nn with
  |mk RL ok=>
   by_cases hp:n.par= -1
   ·cases ok
    ·rw [if_neg (fun h=>absurd h.2 (by simp))];exact BL n A K no k nn mK mF mT mI mL mk mN w hz hk hmk hok hop h0 RL hu hp ha
    ·rw [if_pos ⟨hp,rfl⟩];exact Ak n A K no k nn mK mF mT mI mL mk mN w hz hk hmk hok hop h0 RL hu hp ha
   ·rw [if_neg (fun h=>hp h.1)];exact BM n A K no k nn mK mF mT mI mL mk mN w hz hk hmk hok hop h0 RL ok hu hp ha
 by_cases h1:K=1
 ·rw [show dW n ⟨K,no,k,nn,⟨mK,mF,mT,mI,mL,mk,mN⟩⟩=_ from(if_neg h0).trans (if_pos h1)];exact ER n A K no k nn mK mF mT mI mL mk mN w hz hk hmk hok hop h1 ha
 by_cases h2:K=2
 ·rw [show dW n ⟨K,no,k,nn,⟨mK,mF,mT,mI,mL,mk,mN⟩⟩=_ from(if_neg h0).trans ((if_neg h1).trans (if_pos h2))];exact KI n A K no k nn mK mF mT mI mL mk mN w hz hk hmk hok hop h2 ha
 by_cases h3:K=3
 ·rw [show dW n ⟨K,no,k,nn,⟨mK,mF,mT,mI,mL,mk,mN⟩⟩=_ from(if_neg h0).trans ((if_neg h1).trans ((if_neg h2).trans (if_pos h3)))];by_cases hp:n.par= -1
  ·rw [if_pos hp];exact IV n A K no k nn mK mF mT mI mL mk mN w hz hk hmk hok hop h3 hp ha
  ·rw [if_neg hp];exact IY n A K no k nn mK mF mT mI mL mk mN w hz hk hmk hok hop h3 hp ha
 by_cases h4:K=4
 ·rw [show dW n ⟨K,no,k,nn,⟨mK,mF,mT,mI,mL,mk,mN⟩⟩=_ from(if_neg h0).trans ((if_neg h1).trans ((if_neg h2).trans ((if_neg h3).trans (if_pos h4))))];by_cases hp:n.par= -1
  ·rw [if_pos hp];exact IW n A K no k nn mK mF mT mI mL mk mN w hz hk hmk hok hop h4 hp ha
  ·rw [if_neg hp];exact IJ n A K no k nn mK mF mT mI mL mk mN w hz hk hmk hok hop h4 hp ha
 have h5:K=5:=by omega
 rw [show dW n ⟨K,no,k,nn,⟨mK,mF,mT,mI,mL,mk,mN⟩⟩=_ from(if_neg h0).trans ((if_neg h1).trans ((if_neg h2).trans ((if_neg h3).trans ((if_neg h4).trans (if_pos h5)))))];exact IX n A K no k nn mK mF mT mI mL mk mN w hz hk hmk hok hop h5 ha
theorem zR {s:ByteArray} (hs:keyOk s.data.toList=true):s.size≤1048576:=by
 rcases Classical.em (1≤s.data.toList.length∧s.data.toList.length≤10) with h|h
 ·have e:s.size=s.data.toList.length:=by rw [Array.length_toList];rfl
  omega
 ·rw [keyOk_len _ h] at hs;cases hs
theorem VP {n:Nd} (hok:dG n=true):eH n 1048576:=by
 obtain⟨h1,h2,h3,h4,h5,h6⟩:=bq hok;have hq:=gQ h6;have ho:=og h5;have hn:=qQ h1;have hpl:=h1;unfold bQ at hpl;simp only[Bool.and_eq_true,decide_eq_true_eq] at hpl;have htl:=h3;unfold lC at htl;rw [Bool.and_eq_true,decide_eq_true_eq] at htl;have hps:=(iU n.pu).1 h2;refine⟨by omega,by omega,by omega,by split at htl<;>omega,by omega,fun x hx=>?_,fun x hx=>?_,fun x hx=>?_,fun x hx=>?_⟩
 ·have:=hps.1 x hx;unfold fH at this;simp only[Bool.and_eq_true] at this;exact zR (by first|exact this.1|exact this.1.1|exact this.1.1.1|exact this.1.1.1.1)
 ·have:=ho.2.2 x hx;unfold qy at this;simp only[Bool.and_eq_true] at this;exact zR this.1.2
 ·have:=vW hok x hx;unfold qz at this;simp only[Bool.and_eq_true,decide_eq_true_eq] at this;omega
 ·exact zR (iV (hq.2.2.1 x hx)).2.2.1
theorem ark {n:Nd} {o:jE} (hz:eH n 1048576):eH (Pn n o).1 1048576:=by
 cases hok:dG n
 ·rw [Ed hok];exact hz
 ·exact VP (VO hok)
theorem GK (n:Nd) (dst:Int) (key:ByteArray) (most:Int):(dV n dst key most).2.1.length≤1:=by
 unfold dV;split<;>simp
theorem ap8 {n:Nd} {o:jE} (hz:eH n 1048576):(Pn n o).2.1.length≤1048576:=by
 have ho:=hz.o;unfold Pn;split
 ·unfold kR;split
  ·unfold dW;split
   ·split<;>simp
   split
   ·simp
   split
   ·simp
   split
   ·split<;>simp
   split
   ·split
    ·simp
    ·exact Nat.le_trans (GK _ _ _ _) (by omega)
   split
   ·simpa using ho
   ·unfold eF;split
    ·dsimp only;split<;>simp
    split
    ·simp
    split
    ·exact Nat.le_trans (GK _ _ _ _) (by omega)
    ·simp
  ·simp
 ·simp
end Go.Proofs.YtacgbldlonoaaaaGreatDoor
