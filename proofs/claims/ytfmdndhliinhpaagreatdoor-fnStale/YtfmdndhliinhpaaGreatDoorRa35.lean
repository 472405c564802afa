/- Parts. -/
import Derived.Test.YtfmdndhliinhpaaGreatDoorRa34
namespace Go.Proofs.YtfmdndhliinhpaaGreatDoor
open Go.RowKit
open Mth
theorem Wj (n:Nd) (A:bQ) (G:aX) (c:Nat→Nat) (mK mF mT mI mL:Int) (mk:ByteArray) (mN:Int) (w:World) (B:Nat) (hB:B≤w.heap.size) (h9:∀x,6 < c x→c x=9)
 (hz:eF n 1048576) (hmk:mk.size≤1048576) (hP:∃g,A.p=some ⟨g,0,none⟩) (qZ:n.pu.length≤A.cp) (hok:dJ n=true) (hF:dH n mF=true) (h:NQ w B n A G c):
 Calls Tryz.prog 97 #[fU n A,.agg #[.int .i64 mK,.int .i64 mF,.int .i64 mT,.int .i64 mI,.int .i64 mL,.string mk,.int .i64 mN]] w
  (eT w B c ((takeN n ⟨mK,mF,mT,mI,mL,mk,mN⟩).1,if (takeN n ⟨mK,mF,mT,mI,mL,mk,mN⟩).2=true then[LZ n ⟨mK,mF,mT,mI,mL,mk,mN⟩] else[],if (takeN n ⟨mK,mF,mT,mI,mL,mk,mN⟩).2=true then 0 else 1)):=by
 obtain⟨hi,hif⟩:=xA hok hF;have hsn:=xB hok _ (List.getElem_mem hi)
 have hsl:n.seen.length≤1000:=by
  exact aqN
 have hil:n.seen[dU n.seen mF].ids.length≤1000:=by
  unfold rM at hsn;simp only[Bool.and_eq_true,decide_eq_true_eq] at hsn;omega
 have hbef:∀x (hx:x < n.seen.length),x < dU n.seen mF→n.seen[x].f≠mF:=fun x hx hlt=>by
  have:=List.not_of_lt_findIdx (p:=fun s:Sn=>decide (s.f=mF)) (xs:=n.seen) hlt
  simpa using this
 obtain⟨ak,ap,ao,as',ar,ck,cp,co,cs,cr⟩:=A;cases hh:lT n.seen[dU n.seen mF] mL mI
 ·cases hu:cK n.pu mk 0 1 0 mN with
  |mk RL ok=>
   by_cases hg:ok=true∧(aQ n.seen[dU n.seen mF] mL).length < 40
   ·have hgb:jE n n.seen[dU n.seen mF] ⟨mK,mF,mT,mI,mL,mk,mN⟩=true:=by
     unfold jE;dsimp only;rw [hu,hg.1,decide_eq_true hg.2];rfl
    rw [Ci (m:=⟨mK,mF,mT,mI,mL,mk,mN⟩) hi rfl rfl hh hgb];obtain⟨rfl,hg2⟩:=hg;have hres:=DX n ak ap ao as' ar ck cp co cs cr G c mK mF mT mI mL mk mN w B hB h9 _ hi _ rfl hif hbef hsl hil hz hmk hP qZ RL hu hh hg2 h;dsimp only;rw [hu];exact hres
   ·have hgb:jE n n.seen[dU n.seen mF] ⟨mK,mF,mT,mI,mL,mk,mN⟩=false:=by
     unfold jE;dsimp only;rw [hu];cases ok
     ·rfl
     ·rw [decide_eq_false (fun h=>hg ⟨rfl,h⟩)];rfl
    rw [KI (m:=⟨mK,mF,mT,mI,mL,mk,mN⟩) hi rfl rfl hh hgb]
    exact KG n ak ap ao as' ar ck cp co cs cr G c mK mF mT mI mL mk mN w B hB h9 _ hi _ rfl hif hbef hsl hil hz hmk hP qZ RL ok hu hh (by
     cases ok
     ·exact .inl rfl
     ·exact .inr (by have:¬(aQ n.seen[dU n.seen mF] mL).length < 40:=fun h=>hg ⟨rfl,h⟩;omega)) h
 ·rw [EL (m:=⟨mK,mF,mT,mI,mL,mk,mN⟩) hi rfl rfl hh];exact GU n ak ap ao as' ar ck cp co cs cr G c mK mF mT mI mL mk mN w B hB h9 _ hi _ rfl hif hbef hsl hil hh h
set_option maxHeartbeats 8000000
set_option maxRecDepth 100000
theorem Dw (n:Nd) (A:bQ) (G:aX) (c:Nat→Nat) (mK mF mT mI mL:Int) (mk:ByteArray) (mN:Int) (w:World) (B:Nat) (hB:B≤w.heap.size) (h9:∀x,6 < c x→c x=9) (hkl:n.kids.length≤1048600) (hmk:mk.size≤1048576) (hmo:dw ⟨mK,mF,mT,mI,mL,mk,mN⟩=true) (hol:n.out.length≤1048576) (h1:mT=n.id) (h2:dH n mF=true) (h3:mK=2) (h:NQ w B n A G c):Calls Tryz.prog 63 #[fU n A,.agg #[.int .i64 mK,.int .i64 mF,.int .i64 mT,.int .i64 mI,.int .i64 mL,.string mk,.int .i64 mN]] w (eT w B c (setOut n (n.out.filter (fun s=> !gK ⟨2,mF,mT,mI,mL,mk,mN⟩ s)),[],0)):=by
 open ao3 in exact IW
set_option maxHeartbeats 8000000
theorem GK (n:Nd) (A:bQ) (G:aX) (c:Nat→Nat) (mK mF mT mI mL:Int) (mk:ByteArray) (mN:Int) (w:World) (B:Nat) (hB:B≤w.heap.size) (h9:∀x,6 < c x→c x=9) (hkl:n.kids.length≤1048600) (hmk:mk.size≤1048576) (hmo:dw ⟨mK,mF,mT,mI,mL,mk,mN⟩=true) (hz:eF n 1048576) (hP:∃g,A.p=some ⟨g,0,none⟩) (qZ:n.pu.length≤A.cp) (hok:dJ n=true) (h1:mT=n.id) (h2:dH n mF=true) (h3:mK=1) (h:NQ w B n A G c):Calls Tryz.prog 63 #[fU n A,.agg #[.int .i64 mK,.int .i64 mF,.int .i64 mT,.int .i64 mI,.int .i64 mL,.string mk,.int .i64 mN]] w (eT w B c ((takeN n ⟨mK,mF,mT,mI,mL,mk,mN⟩).1,if (takeN n ⟨mK,mF,mT,mI,mL,mk,mN⟩).2=true then[LZ n ⟨mK,mF,mT,mI,mL,mk,mN⟩] else[],if (takeN n ⟨mK,mF,mT,mI,mL,mk,mN⟩).2=true then 0 else 1)):=by
 open ao4 in exact IW
def zk (n:Nd) (m:Mg):Nd×List Mg×Int:=if m.T=n.id∧dH n m.F=true then eD n m else(n,[],3)
theorem Vt {n:Nd} (hok:dJ n=true):hasB n.kids n.par=false:=by
 have h1:=(bf hok).1;unfold dx at h1;simp only[Bool.and_eq_true] at h1;have h2:=vX h1.2;cases hh:hasB n.kids n.par
 ·rfl
 ·rw [wC] at hh;have:=h2 _ hh;unfold iP at this;simp at this
theorem Wh (n:Nd) (A:bQ) (G:aX) (c:Nat→Nat) (mK mF mT mI mL:Int) (mk:ByteArray) (mN:Int) (w:World) (B:Nat) (hB:B≤w.heap.size) (h9:∀x,6 < c x→c x=9)
 (hz:eF n 1048576) (hmk:mk.size≤1048576) (hok:dJ n=true) (hmo:dw ⟨mK,mF,mT,mI,mL,mk,mN⟩=true) (hP:∃g,A.p=some ⟨g,0,none⟩) (qZ:n.pu.length≤A.cp) (h:NQ w B n A G c):
 Calls Tryz.prog 63 #[fU n A,.agg #[.int .i64 mK,.int .i64 mF,.int .i64 mT,.int .i64 mI,.int .i64 mL,.string mk,.int .i64 mN]] w (eT w B c (zk n ⟨mK,mF,mT,mI,mL,mk,mN⟩)):=by
 have hkl:n.kids.length≤1048600:=Nat.le_trans hz.k (by omega);have h0:0≤n.next:=by have h:=(bf hok).2.2.2.1;unfold eU at h;simp at h;omega
 by_cases h1:mT=n.id
 ·cases h2:dH n mF
  ·rw [show zk n ⟨mK,mF,mT,mI,mL,mk,mN⟩=(n,[],3) from if_neg (fun h=>by have:=h.2;dsimp only at this;rw [h2] at this;exact absurd this (by simp))];exact Dt n A G c mK mF mT mI mL mk mN w B hB h9 hkl hmk hmo h1 h2 h
  ·rw [show zk n ⟨mK,mF,mT,mI,mL,mk,mN⟩=eD n ⟨mK,mF,mT,mI,mL,mk,mN⟩ from if_pos ⟨h1,h2⟩];by_cases k1:mK=1
   ·rw [show eD n ⟨mK,mF,mT,mI,mL,mk,mN⟩=_ from if_pos k1];exact GK n A G c mK mF mT mI mL mk mN w B hB h9 hkl hmk hmo hz hP qZ hok h1 h2 k1 h
   by_cases k2:mK=2
   ·rw [show eD n ⟨mK,mF,mT,mI,mL,mk,mN⟩=_ from(if_neg k1).trans (if_pos k2)];have:=Dw n A G c mK mF mT mI mL mk mN w B hB h9 hkl hmk hmo hz.o h1 h2 k2 h;rw [k2] at this ⊢;exact this
   have k0:mK=0:=by
    unfold dw at hmo;rw [Bool.and_eq_true] at hmo;have q:=hmo.2;dsimp only at q;by_cases k0:mK=0
    ·exact k0
    ·rw [if_neg k0,if_neg k1,if_neg k2] at q;exact absurd q (by simp)
   by_cases h4:mF=n.par
   ·rw [show eD n ⟨mK,mF,mT,mI,mL,mk,mN⟩=(n,[],1) from(if_neg k1).trans ((if_neg k2).trans (if_neg (by dsimp only;rw [h4,Vt hok];simp)))];exact Kw n A G c mK mF mT mI mL mk mN w B hB h9 hkl hmk hmo h1 h2 k0 h4 h
   ·have hk:hasB n.kids mF=true:=by
     unfold dH at h2;rw [decide_eq_false h4,Bool.and_false,Bool.false_or] at h2;exact h2
    rw [show eD n ⟨mK,mF,mT,mI,mL,mk,mN⟩=_ from(if_neg k1).trans ((if_neg k2).trans (if_pos hk))];exact Dv n A G c mK mF mT mI mL mk mN w B hB h9 hkl hmk hmo hz hP qZ h0 h1 h2 k0 h4 h
 ·rw [show zk n ⟨mK,mF,mT,mI,mL,mk,mN⟩=(n,[],3) from if_neg (fun h=>h1 h.1)];exact Du n A G c mK mF mT mI mL mk mN w B hB h9 hkl hmk hmo h1 h
set_option maxHeartbeats 8000000
theorem Kk (n:Nd) (A:bQ) (K no:Int) (k:ByteArray) (nn mK mF mT mI mL:Int) (mk:ByteArray) (mN:Int) (w:World) (hz:eF n 1048576) (hk:k.size≤1048576) (hmk:mk.size≤1048576) (hok:dJ n=true) (hop:cZ ⟨K,no,k,nn,⟨mK,mF,mT,mI,mL,mk,mN⟩⟩=true) (hK:K=6) (ha:dQ w A n):Calls Tryz.prog 30 #[fU n A,.agg #[.int .i64 K,.int .i64 no,.string k,.int .i64 nn,.int .i64 mK,.int .i64 mF,.int .i64 mT,.int .i64 mI,.int .i64 mL,.string mk,.int .i64 mN]] w (jU w (zk n ⟨mK,mF,mT,mI,mL,mk,mN⟩)):=by
 subst hK;open ahw in exact yt
set_option maxHeartbeats 8000000
theorem Kl (n:Nd) (A:bQ) (K no:Int) (k:ByteArray) (nn mK mF mT mI mL:Int) (mk:ByteArray) (mN:Int) (w:World) (hz:eF n 1048576) (hk:k.size≤1048576) (hmk:mk.size≤1048576) (hok:dJ n=true) (hop:cZ ⟨K,no,k,nn,⟨mK,mF,mT,mI,mL,mk,mN⟩⟩=true) (hK:K=3) (hpar:n.par= -1) (ha:dQ w A n):Calls Tryz.prog 30 #[fU n A,.agg #[.int .i64 K,.int .i64 no,.string k,.int .i64 nn,.int .i64 mK,.int .i64 mF,.int .i64 mT,.int .i64 mI,.int .i64 mL,.string mk,.int .i64 mN]] w (jU w (n,[],1)):=by
 subst hK;open ahy in exact yt
theorem Kn (n:Nd) (A:bQ) (K no:Int) (k:ByteArray) (nn mK mF mT mI mL:Int) (mk:ByteArray) (mN:Int) (w:World) (hz:eF n 1048576) (hk:k.size≤1048576) (hmk:mk.size≤1048576) (hok:dJ n=true) (hop:cZ ⟨K,no,k,nn,⟨mK,mF,mT,mI,mL,mk,mN⟩⟩=true) (hK:K=4) (hpar:n.par= -1) (ha:dQ w A n):Calls Tryz.prog 30 #[fU n A,.agg #[.int .i64 K,.int .i64 no,.string k,.int .i64 nn,.int .i64 mK,.int .i64 mF,.int .i64 mT,.int .i64 mI,.int .i64 mL,.string mk,.int .i64 mN]] w (jU w (n,[],1)):=by
 subst hK;open ahx in exact yt
set_option maxHeartbeats 8000000
theorem Dr (n:Nd) (A:bQ) (K no:Int) (k:ByteArray) (nn mK mF mT mI mL:Int) (mk:ByteArray) (mN:Int) (w:World) (hz:eF n 1048576) (hk:k.size≤1048576) (hmk:mk.size≤1048576) (hok:dJ n=true) (hop:cZ ⟨K,no,k,nn,⟨mK,mF,mT,mI,mL,mk,mN⟩⟩=true) (hK:K=0) (RL:List Pu) (ok:Bool) (hu:cK n.pu k 1 1 0 nn=(RL,ok)) (hpar:n.par≠ -1) (ha:dQ w A n):Calls Tryz.prog 30 #[fU n A,.agg #[.int .i64 K,.int .i64 no,.string k,.int .i64 nn,.int .i64 mK,.int .i64 mF,.int .i64 mT,.int .i64 mI,.int .i64 mL,.string mk,.int .i64 mN]] w (jU w (n,[],1)):=by
 subst hK;open ahB in exact yt
theorem Dq (n:Nd) (A:bQ) (K no:Int) (k:ByteArray) (nn mK mF mT mI mL:Int) (mk:ByteArray) (mN:Int) (w:World) (hz:eF n 1048576) (hk:k.size≤1048576) (hmk:mk.size≤1048576) (hok:dJ n=true) (hop:cZ ⟨K,no,k,nn,⟨mK,mF,mT,mI,mL,mk,mN⟩⟩=true) (hK:K=0) (RL:List Pu) (hu:cK n.pu k 1 1 0 nn=(RL,false)) (hpar:n.par= -1) (ha:dQ w A n):Calls Tryz.prog 30 #[fU n A,.agg #[.int .i64 K,.int .i64 no,.string k,.int .i64 nn,.int .i64 mK,.int .i64 mF,.int .i64 mT,.int .i64 mI,.int .i64 mL,.string mk,.int .i64 mN]] w (jU w (n,[],1)):=by
 subst hK;open ahA in exact yt
theorem BZ (n:Nd) (A:bQ) (K no:Int) (k:ByteArray) (nn mK mF mT mI mL:Int) (mk:ByteArray) (mN:Int) (w:World) (hz:eF n 1048576) (hk:k.size≤1048576) (hmk:mk.size≤1048576) (hok:dJ n=true) (hop:cZ ⟨K,no,k,nn,⟨mK,mF,mT,mI,mL,mk,mN⟩⟩=true) (hK:K=0) (RL:List Pu) (hu:cK n.pu k 1 1 0 nn=(RL,true)) (hpar:n.par= -1) (ha:dQ w A n):Calls Tryz.prog 30 #[fU n A,.agg #[.int .i64 K,.int .i64 no,.string k,.int .i64 nn,.int .i64 mK,.int .i64 mF,.int .i64 mT,.int .i64 mI,.int .i64 mL,.string mk,.int .i64 mN]] w (jU w (setPu n RL,[],0)):=by
 subst hK;open ahz in exact yt
set_option maxHeartbeats 8000000
theorem Kq (n:Nd) (A:bQ) (K no:Int) (k:ByteArray) (nn mK mF mT mI mL:Int) (mk:ByteArray) (mN:Int) (w:World) (hz:eF n 1048576) (hk:k.size≤1048576) (hmk:mk.size≤1048576) (hok:dJ n=true) (hop:cZ ⟨K,no,k,nn,⟨mK,mF,mT,mI,mL,mk,mN⟩⟩=true) (hK:K=5) (ha:dQ w A n):Calls Tryz.prog 30 #[fU n A,.agg #[.int .i64 K,.int .i64 no,.string k,.int .i64 nn,.int .i64 mK,.int .i64 mF,.int .i64 mT,.int .i64 mI,.int .i64 mL,.string mk,.int .i64 mN]] w (jU w (n,n.out.map (mP n),0)):=by
 subst hK;open ahC in exact yt
set_option maxHeartbeats 8000000
theorem Kr (n:Nd) (A:bQ) (K no:Int) (k:ByteArray) (nn mK mF mT mI mL:Int) (mk:ByteArray) (mN:Int) (w:World) (hz:eF n 1048576) (hk:k.size≤1048576) (hmk:mk.size≤1048576) (hok:dJ n=true) (hop:cZ ⟨K,no,k,nn,⟨mK,mF,mT,mI,mL,mk,mN⟩⟩=true) (hK:K=3) (hpar:n.par≠ -1) (ha:dQ w A n):Calls Tryz.prog 30 #[fU n A,.agg #[.int .i64 K,.int .i64 no,.string k,.int .i64 nn,.int .i64 mK,.int .i64 mF,.int .i64 mT,.int .i64 mI,.int .i64 mL,.string mk,.int .i64 mN]] w (jU w (n,[⟨0,n.id,n.par,0,0,k,nn⟩],0)):=by
 subst hK;open ahD in exact yt
theorem aeo {o:iK} (h:cZ o=true):o.K=0∨o.K=1∨o.K=2∨o.K=3∨o.K=4∨o.K=5∨o.K=6:=by
 unfold cZ at h;by_cases h0:o.K=0∨o.K=3∨o.K=4
 ·omega
 rw [if_neg h0] at h;by_cases h1:o.K=1
 ·omega
 rw [if_neg h1] at h;by_cases h2:o.K=2
 ·omega
 rw [if_neg h2] at h;by_cases h5:o.K=5
 ·omega
 rw [if_neg h5] at h;by_cases h6:o.K=6
 ·omega
 rw [if_neg h6] at h;exact absurd h (by simp)
theorem Nk (n:Nd) (A:bQ) (K no:Int) (k:ByteArray) (nn mK mF mT mI mL:Int) (mk:ByteArray) (mN:Int) (w:World) (hz:eF n 1048576) (hk:k.size≤1048576) (hmk:mk.size≤1048576) (ha:dQ w A n):
 Calls Tryz.prog 30 #[fU n A,.agg #[.int .i64 K,.int .i64 no,.string k,.int .i64 nn,.int .i64 mK,.int .i64 mF,.int .i64 mT,.int .i64 mI,.int .i64 mL,.string mk,.int .i64 mN]] w (jU w (lK n ⟨K,no,k,nn,⟨mK,mF,mT,mI,mL,mk,mN⟩⟩)):=by
 cases hok:dJ n
 ·rw [Ak hok];exact Ki n A K no k nn mK mF mT mI mL mk mN w hz hok ha
 rw [rW hok];cases hop:cZ ⟨K,no,k,nn,⟨mK,mF,mT,mI,mL,mk,mN⟩⟩
 ·rw [show jJ n ⟨K,no,k,nn,⟨mK,mF,mT,mI,mL,mk,mN⟩⟩=(n,[],3) from if_neg (by rw [hop];simp)];exact Kj n A K no k nn mK mF mT mI mL mk mN w hz hk hmk hok hop ha
 by_cases h6:K=6
 ·have e:jJ n ⟨K,no,k,nn,⟨mK,mF,mT,mI,mL,mk,mN⟩⟩=zk n ⟨mK,mF,mT,mI,mL,mk,mN⟩:=by
   unfold jJ zk mQ dX;rw [hop,h6];dsimp only;by_cases hc:mT=n.id∧dH n mF=true
   ·rw [if_pos hc,if_pos (by rw [hc.2,decide_eq_true hc.1];rfl),if_neg (by omega),if_neg (by omega),if_neg (by omega),if_neg (by omega),if_neg (by omega),if_neg (by omega)]
   ·rw [if_neg hc,if_neg (by simp only[decide_true,Bool.not_true,Bool.false_or,Bool.true_and,Bool.and_eq_true,decide_eq_true_eq];exact hc)]
  rw [e];exact Kk n A K no k nn mK mF mT mI mL mk mN w hz hk hmk hok hop h6 ha
 rw [show jJ n ⟨K,no,k,nn,⟨mK,mF,mT,mI,mL,mk,mN⟩⟩=dX n ⟨K,no,k,nn,⟨mK,mF,mT,mI,mL,mk,mN⟩⟩ from if_pos (by rw [hop];unfold mQ;rw [decide_eq_false h6];rfl)];have hK:=aeo hop;dsimp only at hK;by_cases h0:K=0
 ·rw [show dX n ⟨K,no,k,nn,⟨mK,mF,mT,mI,mL,mk,mN⟩⟩=_ from if_pos h0];dsimp only;cases hu:cK n.pu k 1 1 0 nn with
  |mk RL ok=>
   by_cases hp:n.par= -1
   ·cases ok
    ·rw [if_neg (fun h=>absurd h.2 (by simp))];exact Dq n A K no k nn mK mF mT mI mL mk mN w hz hk hmk hok hop h0 RL hu hp ha
    ·rw [if_pos ⟨hp,rfl⟩];exact BZ n A K no k nn mK mF mT mI mL mk mN w hz hk hmk hok hop h0 RL hu hp ha
   ·rw [if_neg (fun h=>hp h.1)];exact Dr n A K no k nn mK mF mT mI mL mk mN w hz hk hmk hok hop h0 RL ok hu hp ha
 by_cases h1:K=1
 ·rw [show dX n ⟨K,no,k,nn,⟨mK,mF,mT,mI,mL,mk,mN⟩⟩=_ from(if_neg h0).trans (if_pos h1)];exact Gt n A K no k nn mK mF mT mI mL mk mN w hz hk hmk hok hop h1 ha
 by_cases h2:K=2
 ·rw [show dX n ⟨K,no,k,nn,⟨mK,mF,mT,mI,mL,mk,mN⟩⟩=_ from(if_neg h0).trans ((if_neg h1).trans (if_pos h2))];exact Nj n A K no k nn mK mF mT mI mL mk mN w hz hk hmk hok hop h2 ha
 by_cases h3:K=3
 ·rw [show dX n ⟨K,no,k,nn,⟨mK,mF,mT,mI,mL,mk,mN⟩⟩=_ from(if_neg h0).trans ((if_neg h1).trans ((if_neg h2).trans (if_pos h3)))];by_cases hp:n.par= -1
  ·rw [if_pos hp];exact Kl n A K no k nn mK mF mT mI mL mk mN w hz hk hmk hok hop h3 hp ha
  ·rw [if_neg hp];exact Kr n A K no k nn mK mF mT mI mL mk mN w hz hk hmk hok hop h3 hp ha
 by_cases h4:K=4
 ·rw [show dX n ⟨K,no,k,nn,⟨mK,mF,mT,mI,mL,mk,mN⟩⟩=_ from(if_neg h0).trans ((if_neg h1).trans ((if_neg h2).trans ((if_neg h3).trans (if_pos h4))))];by_cases hp:n.par= -1
  ·rw [if_pos hp];exact Kn n A K no k nn mK mF mT mI mL mk mN w hz hk hmk hok hop h4 hp ha
  ·rw [if_neg hp];exact Kh n A K no k nn mK mF mT mI mL mk mN w hz hk hmk hok hop h4 hp ha
 have h5:K=5:=by omega
 rw [show dX n ⟨K,no,k,nn,⟨mK,mF,mT,mI,mL,mk,mN⟩⟩=_ from(if_neg h0).trans ((if_neg h1).trans ((if_neg h2).trans ((if_neg h3).trans ((if_neg h4).trans (if_pos h5)))))];exact Kq n A K no k nn mK mF mT mI mL mk mN w hz hk hmk hok hop h5 ha
theorem BI {s:ByteArray} (hs:keyOk s.data.toList=true):s.size≤1048576:=by
 rcases Classical.em (1≤s.data.toList.length∧s.data.toList.length≤10) with h|h
 ·have e:s.size=s.data.toList.length:=by rw [Array.length_toList];rfl
  omega
 ·rw [keyOk_len _ h] at hs;cases hs
theorem YC {n:Nd} (hok:dJ n=true):eF n 1048576:=by
 obtain⟨h1,h2,h3,h4,h5,h6⟩:=bf hok;have hq:=fF h6;have ho:=pO h5;have hn:=sG h1;have hpl:=h1;unfold dx at hpl;simp only[Bool.and_eq_true,decide_eq_true_eq] at hpl;have htl:=h3;unfold mJ at htl;rw [Bool.and_eq_true,decide_eq_true_eq] at htl;have hps:=(jl n.pu).1 h2;refine⟨by omega,by omega,by omega,by split at htl<;>omega,by omega,fun x hx=>?_,fun x hx=>?_,fun x hx=>?_,fun x hx=>?_⟩
 ·have:=hps.1 x hx;unfold fT at this;simp only[Bool.and_eq_true] at this;exact BI (by first|exact this.1|exact this.1.1|exact this.1.1.1|exact this.1.1.1.1)
 ·have:=ho.2.2 x hx;unfold rJ at this;simp only[Bool.and_eq_true] at this;exact BI this.1.2
 ·have:=xB hok x hx;unfold rM at this;simp only[Bool.and_eq_true,decide_eq_true_eq] at this;omega
 ·exact BI (jm (hq.2.2.1 x hx)).2.2.1
theorem aru {n:Nd} {o:iK} (hz:eF n 1048576):eF (lK n o).1 1048576:=by
 cases hok:dJ n
 ·rw [Ak hok];exact hz
 ·exact YC (Gb hok)
theorem Jl (n:Nd) (dst:Int) (key:ByteArray) (most:Int):(eu n dst key most).2.1.length≤1:=by
 unfold eu;split<;>simp
theorem auw {n:Nd} {o:iK} (hz:eF n 1048576):(lK n o).2.1.length≤1048576:=by
 have ho:=hz.o;unfold lK;split
 ·unfold jJ;split
  ·unfold dX;split
   ·split<;>simp
   split
   ·simp
   split
   ·simp
   split
   ·split<;>simp
   split
   ·split
    ·simp
    ·exact Nat.le_trans (Jl _ _ _ _) (by omega)
   split
   ·simpa using ho
   ·unfold eD;split
    ·dsimp only;split<;>simp
    split
    ·simp
    split
    ·exact Nat.le_trans (Jl _ _ _ _) (by omega)
    ·simp
  ·simp
 ·simp

/-- A list of few purses in rows of one's own, and whether. -/
def xV (w : World) (e : Ending) (w' : World) : Prop := ∃ v RL b, e = .returned (.tuple #[v, .bool b]) ∧ RL.length ≤ 1 ∧ (∀ p ∈ RL, p.k.size ≤ 20) ∧ w'.ownsRow w.heap.size 84 4 v RL.length (GR.flat eG RL) ∧ Below w.heap.size w w'
theorem yV {P : Program} (w : World) {ops : Array Oper} {o : Oper} {a : Act} {K : Act → World → Prop} {Q : Exit → Act → World → Prop} {E : Prop} (hgd : o.guard = none) (s x : Operand) (t : TypeId)
    (ho : o.op = .call { callee := .builtin .append, args := #[s, x], argTypes := #[t, t] })
    (base : Nat) (e : TypeId) (i : TypeInfo) (size : Nat) (ht : P.underlying t = some (.slice e)) (hi : P.info? e = some i)
    (v : Value) (n : Nat) (xs : List Value) (hs : a.eval s = v) (hown : w.ownsRow base e size v n xs)
    (ad : Option Addr) (c : Nat) (hx : a.eval x = .slice ad 0 c) (h : K (a.put o.dst v) w) :
    if Region.wanted o (yielded ops a.tmps) = true then Oper.wp P o a w K Q else E := by
  have hw : Region.wanted o (yielded ops a.tmps) = true := by simp [Region.wanted, hgd]
  rw [if_pos hw]
  exact Lib.wp_append_run w s x t t ho v _ hs hx v w (jT w base t o.type e i size ht hi v n xs hown ad c) h

set_option maxRecDepth 100000 in
set_option maxHeartbeats 4000000 in
theorem JM (p : Pu) (n : Int) (w : World) (hpk : p.k.size ≤ 20) (hn : 1 ≤ n ∧ n ≤ 1000000000) :
    Calls Tryz.prog 90 #[.slice none 0 0, wY p, .int .i64 n] w (xV w) := by
  unfold xV
  have mg := hide (fun w1 => jC none 0 [] w1 (by simp) (fun _ h => by cases h) (GR.at_nil _ _))
  have hn2 : decide (tC n 1 1000000000) = true := decide_eq_true hn
  have hok : iB [] = true := rfl
  clear hn
  obtain ⟨pk, pm, pf, ps⟩ := p
  dsimp only at hpk
  go_enter Tryz.func90, Tryz.ntmps90
  go_wp2_with fail
  refine (ah mg _).mono ?_
  rintro e w1 ⟨rfl, hb1⟩
  have rG := hide (show w1.heap[w.heap.size]? = some (.cells #[.string pk, .int .i64 pm, .int .i64 pf, .int .i64 ps] 84 (0, 0)) by rw [hb1.block w.heap.size (by simp)]; exact heap_alloc_new w _)
  have HB1 := hide ((dA w _).trans (hb1.mono (dA w _).size))
  clear hb1
  rw [hok]
  clear hok
  go_wp2_with fail
  refine (F9 _ _ _ _).mono ?_
  rintro e w3 ⟨rfl, rfl⟩
  rw [hn2]
  have hp0 : w1.cell? ⟨w.heap.size, 0, none⟩ = some (.string pk) := by rw [cell_of_row w1 _ _ _ _ (0, 0) (ah rG)]; rfl
  go_upto_block 0 with fail
  go_cut [8] (fun i wx => i = .int .i64 0 ∧ ∃ q, wx = w1.drewN q)
  case first =>
    go_wp2_with fail
    go_loopw [8] (fun i wr => ∃ q : Nat, i = .int .i64 0 ∧ wr = w1.drewN q) (fun _ _ => 0)
    case atStart => exact ⟨0, rfl, rfl⟩
    case round =>
      obtain ⟨q, rfl, rfl⟩ := hrel
      go_wp2_with fail
      exact abV
  case rest =>
    obtain ⟨rfl, q, rfl⟩ := hcut
    go_upto_region 7 with fail
    go_cut [51] (fun r wx => r = .bool false ∧ ∃ q, wx = w1.drewN q)
    case first =>
      exact abV
    case rest =>
      obtain ⟨rfl, q2, rfl⟩ := hcut
      obtain ⟨i0, hi, hz0, hz1, hz2⟩ := info_parts yK
      go_upto_region 9 with fail
      refine Fo.wp_at (fun V hV => ?_)
      have wB : w.heap.size < V.heap.size := by rw [hV]; exact Fo.lt_of_blk (ah rG)
      have D7 := hide (show Below w.heap.size w V by rw [hV]; exact (ah HB1).trans ⟨rfl, rfl, rfl, Nat.le_refl _, fun _ _ => rfl⟩)
      have hblk : V.heap[w.heap.size]? = some (.cells #[.string pk, .int .i64 pm, .int .i64 pf, .int .i64 ps] 84 (0, 0)) := by rw [hV]; exact ah rG
      obtain ⟨⟨c0, c1, c2, c3⟩, _⟩ := eZ hblk
      have yZ := hide (fun X (hb : Below V.heap.size V X) => wK none 0 [] X (by simp) (fun _ => ⟨rfl, rfl⟩) (GR.at_nil _ _))
      have Pe := hide (fun X => wK none 0 [] X (by simp) (fun _ => ⟨rfl, rfl⟩) (GR.at_nil _ _))
      have hnw : w.heap.size ≠ V.heap.size := by omega
      have hmw : V.heap.size ≠ w.heap.size := by omega
      clear hV hblk hp0 mg rG
      go_region_held_law (fun w' => w'.cell? ⟨w.heap.size, 0, none⟩ = some (.string pk) ∧ w'.cell? ⟨w.heap.size, 1, none⟩ = some (.int .i64 pm) ∧ w'.cell? ⟨w.heap.size, 2, none⟩ = some (.int .i64 pf) ∧ w'.cell? ⟨w.heap.size, 3, none⟩ = some (.int .i64 ps)) (go_keep)
          (first
            | ((go_at_call 92); (refine (ah yZ _ (by exact ⟨rfl, rfl, rfl, by simp, fun k hk => by first | rfl | exact Below.heap_alloc _ _ _ hk⟩)).mono ?_); (rintro e w4 ⟨vc, rfl, hv4, ru, hb4⟩); (have hs4 := hb4.size); (try simp at hs4); (have kC := hide (show Below V.heap.size V w4 from Below.trans (b := _) (by exact ⟨rfl, rfl, rfl, by simp, fun k hk => by first | rfl | exact Below.heap_alloc _ _ _ hk⟩) (hb4.mono (by simp)))); (have Hr := hide (own_lower (b' := V.heap.size) ru (by simp))); (first | (guard_hyp hs4 : V.heap.size + 1 ≤ w4.heap.size; have Pk := hide (Fo.one_block (show Below (V.alloc (.cells #[.string pk, .int .i64 pm, .int .i64 pf, .int .i64 ps] 84)).heap.size (V.alloc (.cells #[.string pk, .int .i64 pm, .int .i64 pf, .int .i64 ps] 84)) w4 from ⟨hb4.os, hb4.tape, hb4.output, hb4.size, hb4.block⟩)).1) | skip); (have d0 := ((ah kC).cell (p := ⟨w.heap.size, 0, none⟩) wB).trans c0); (have d1 := ((ah kC).cell (p := ⟨w.heap.size, 1, none⟩) wB).trans c1); (have d2 := ((ah kC).cell (p := ⟨w.heap.size, 2, none⟩) wB).trans c2); (have d3 := ((ah kC).cell (p := ⟨w.heap.size, 3, none⟩) wB).trans c3); (have hn4 : w.heap.size ≠ w4.heap.size := by omega); (have hm4 : w4.heap.size ≠ w.heap.size := by omega); (clear hb4 ru hv4))
            | ((guard_hyp hs4 : V.heap.size + 1 ≤ w4.heap.size); (refine iR _ rfl (.tmp 57) (.tmp 59) 25 rfl V.heap.size 84 i0 (.agg #[.string ByteArray.empty, .int .i64 0, .int .i64 0, .int .i64 0]) 4 40 Tryz.underlying25 hi hz0 hz1 hz2 rfl (by decide) vc 0 [] (by simp [Act.eval]) (ah Hr) ⟨V.heap.size, 0, none⟩ 1 1 (eG ⟨pk, pm, pf, ps⟩) (by simp [Act.eval]) rfl (World.news_of_block (ah Pk)) (tH ⟨pk, pm, pf, ps⟩) (by unfold maxLen; omega) (by omega) (ah kC).size ?_); (intro v5 w5 hown5 hgr5 nK); (have xQ := hide hown5); (have HV5 := hide (show v5 ≠ .slice none 0 0 by first | exact nK | exact fun h => absurd (nK.1 h).2 (by decide))); (have jd := hide (show Below V.heap.size V w5 from (ah kC).trans (kW hgr5 (fun k e => ((ah Hr).lt k e).1) (ah kC).size))); (have e0 := ((ah jd).cell (p := ⟨w.heap.size, 0, none⟩) wB).trans c0); (have e1 := ((ah jd).cell (p := ⟨w.heap.size, 1, none⟩) wB).trans c1); (have e2 := ((ah jd).cell (p := ⟨w.heap.size, 2, none⟩) wB).trans c2); (have e3 := ((ah jd).cell (p := ⟨w.heap.size, 3, none⟩) wB).trans c3); (clear hown5 hgr5 nK))
            | ((guard_hyp hs4 : V.heap.size ≤ w4.heap.size); (refine iR _ rfl (.tmp 57) (.tmp 59) 25 rfl V.heap.size 84 i0 (.agg #[.string ByteArray.empty, .int .i64 0, .int .i64 0, .int .i64 0]) 4 40 Tryz.underlying25 hi hz0 hz1 hz2 rfl (by decide) vc 0 [] (by simp [Act.eval]) ((ah Hr).alloc _) ⟨w4.heap.size, 0, none⟩ 1 1 (eG ⟨pk, pm, pf, ps⟩) (by simp [Act.eval]) rfl (World.news_of_block (heap_alloc_new w4 _)) (tH ⟨pk, pm, pf, ps⟩) (by unfold maxLen; omega) (by omega) (Nat.le_trans (ah kC).size (by simp)) ?_); (intro v5 w5 hown5 hgr5 nK); (have xQ := hide hown5); (have HV5 := hide (show v5 ≠ .slice none 0 0 by first | exact nK | exact fun h => absurd (nK.1 h).2 (by decide))); (have jd := hide (show Below V.heap.size V w5 from ((ah kC).alloc (ah kC).size _).trans (kW hgr5 (fun k e => ((ah Hr).lt k e).1) (Nat.le_trans (ah kC).size (by simp))))); (have e0 := ((ah jd).cell (p := ⟨w.heap.size, 0, none⟩) wB).trans c0); (have e1 := ((ah jd).cell (p := ⟨w.heap.size, 1, none⟩) wB).trans c1); (have e2 := ((ah jd).cell (p := ⟨w.heap.size, 2, none⟩) wB).trans c2); (have e3 := ((ah jd).cell (p := ⟨w.heap.size, 3, none⟩) wB).trans c3); (clear hown5 hgr5 nK))
            | ((refine yV _ rfl (.tmp 60) (.tmp 61) 25 rfl V.heap.size 84 i0 4 Tryz.underlying25 hi v5 (0 + 1) ([] ++ eG ⟨pk, pm, pf, ps⟩) (by simp [Act.eval, Act.put]) (ah xQ) none 0 (by simp [Act.eval, Act.put]) ?_); (have hown6 : w5.ownsRow V.heap.size 84 4 v5 [(⟨pk, pm, pf, ps⟩ : Pu)].length (GR.flat eG [(⟨pk, pm, pf, ps⟩ : Pu)]) := (by rw [GR.flat_one]; exact ah xQ)); (obtain ⟨a6, cap6, rfl, UA⟩ := GR.own_at aV hown6); (have HO6 := hide hown6); (have HT6 := hide UA); (clear hown6 UA))
            | fail)
      all_goals
        have Rs := hide ((ah D7).trans ((ah jd).mono (by omega)))
        have AQ := hide (jC a6 cap6 [(⟨pk, pm, pf, ps⟩ : Pu)] w5 (by simp) (fun q hq => by rw [List.mem_singleton] at hq; subst hq; show pk.size ≤ maxLen; unfold maxLen; omega) (ah HT6))
        clear d0 d1 d2 d3 e0 e1 e2 e3 c0 c1 c2 c3 yZ
        go_wp2_with fail
        refine (ah AQ).mono ?_
        rintro e w7 ⟨rfl, qx⟩
        have zF := hide ((ah Rs).trans (qx.mono (ah Rs).size))
        have HO7 := hide (own_lower (b' := w.heap.size) ((ah HO6).kept (row := none) ⟨qx.os, qx.tape, qx.output, qx.size, fun k hk _ => qx.block k hk⟩ (J2 _)) (by omega))
        clear qx AQ
        cases hps : iB [(⟨pk, pm, pf, ps⟩ : Pu)]
        · have HCX := hide (ah Pe w7)
          clear hps Pe
          go_wp2_with fail
          refine (ah HCX).mono ?_
          rintro e w8 ⟨v8, rfl, hv8, zl, Ap⟩
          have HO8 := hide (own_lower (b' := w.heap.size) zl (ah zF).size)
          have Cw := hide ((ah zF).trans (Ap.mono (ah zF).size))
          clear zl Ap hv8
          go_wp2_with fail
          exact bodyPost_ret (v := .tuple #[v8, .bool false]) (by simp [results, Tryz.results90, go_sem]) rfl ⟨v8, [], false, rfl, by simp, (fun _ h => by cases h), ah HO8, ah Cw⟩
        · clear hps Pe
          go_wp2_with fail
          exact bodyPost_ret (v := .tuple #[.slice a6 1 cap6, .bool true]) (by simp [results, Tryz.results90, go_sem]) rfl ⟨_, [(⟨pk, pm, pf, ps⟩ : Pu)], true, rfl, by simp, (fun q hq => by rw [List.mem_singleton] at hq; subst hq; exact hpk), ah HO7, ah zF⟩

set_option maxRecDepth 100000 in
set_option maxHeartbeats 4000000 in
theorem MV (key : ByteArray) (df n : Int) (w : World) (hkey : key.size ≤ 20) (hd2 : df = 1) (hn : 1 ≤ n ∧ n ≤ 30) :
    Calls Tryz.prog 55 #[.slice none 0 0, .string key, .int .i64 0, .int .i64 df, .int .i64 0, .int .i64 n] w (xV w) := by
  subst hd2
  obtain ⟨hn1, hn2⟩ := hn
  have Ai := hide (ou none 0 [] key w (by simp) (GR.at_nil _ _))
  have Sq := hide (fun w1 => JM ⟨key, 0, n, 0⟩ n w1 hkey ⟨hn1, by omega⟩)
  have hAm : decide (tC n 0 1000000000) = true := decide_eq_true ⟨by omega, by omega⟩
  rw [show aG [] key = ⟨key, 0, 0, 0⟩ from rfl] at Ai
  unfold xV at *
  go_enter Tryz.func55, Tryz.ntmps55
  go_wp2_with fail
  refine (ah Ai).mono ?_
  rintro e w1 ⟨rfl, hb1⟩
  have HB1 := hide hb1
  clear hb1 Ai
  have z1 : (0 : Int) * n = 0 := Int.zero_mul n
  have z2 : (1 : Int) * n = n := Int.one_mul n
  have z3 : (0 : Int) + n = n := Int.zero_add n
  go_wp2_with (go_at_call 22; refine (oZ _ _).mono ?_; rintro e w2 ⟨rfl, rfl⟩; rw [hAm])
  first
    | refine (ah Sq _).mono ?_
    | (simp only [z1, z2, z3, Int.add_zero]; refine (ah Sq _).mono ?_)
  rintro e w3 ⟨v, RL, b, rfl, hl, hks, hown, hb3⟩
  have HB3 := hide (((ah HB1).alloc (ah HB1).size _).trans (hb3.mono (by have := (ah HB1).size; simp; omega)))
  have Ah := hide (own_lower (b' := w.heap.size) hown (by have := (ah HB1).size; simp; omega))
  have HV := hide hks
  clear hb3 hown hks
  go_wp2_with fail
  exact bodyPost_ret (v := .tuple #[v, .bool b]) (by simp [results, Tryz.results55, go_sem]) rfl ⟨v, RL, b, rfl, hl, ah HV, ah Ah, ah HB3⟩

set_option maxRecDepth 100000 in
theorem Gu (key : ByteArray) (n : Int) (w : World) (hkey : key.size ≤ 20) (hn : 1 ≤ n ∧ n ≤ 30) :
    Calls Tryz.prog 28 #[.slice none 0 0, .string key, .int .i64 n] w (xV w) := by
  have H := hide (MV key 1 n w hkey rfl hn)
  unfold xV at *
  go_enter Tryz.func28, Tryz.ntmps28
  go_wp2_with fail
  refine (ah H).mono ?_
  rintro e w1 ⟨v, RL, b, rfl, hl, hks, hown, hb⟩
  have HV := hide hks
  have HO := hide hown
  have HB := hide hb
  clear hown hb hks
  go_wp2_with fail
  exact bodyPost_ret (v := .tuple #[v, .bool b]) (by simp [results, Tryz.results28, go_sem]) rfl ⟨v, RL, b, rfl, hl, ah HV, ah HO, ah HB⟩
end Go.Proofs.YtfmdndhliinhpaaGreatDoor
