/- Parts. -/
import Derived.Test.YtppmcficiphgdaaGreatDoorQb9
import Derived.Test.YtppmcficiphgdaaGreatDoorQb6
import Derived.Test.YtppmcficiphgdaaGreatDoorQbZ3
import Derived.Test.YtppmcficiphgdaaGreatDoorQa20
import Derived.Test.YtppmcficiphgdaaGreatDoorQb3
import Derived.Test.YtppmcficiphgdaaGreatDoorQa1
import Derived.Test.YtppmcficiphgdaaGreatDoorQa8
import Derived.Test.YtppmcficiphgdaaGreatDoorQb8
import Derived.Test.YtppmcficiphgdaaGreatDoorQa27
import Derived.BigQuiet
namespace Go.Proofs.YtppmcficiphgdaaGreatDoor
open Go.RowKit
open Mth
theorem specTake (n:Nd) (A:Ads) (G:Blks) (c:Nat→Nat) (mK mF mT mI mL:Int) (mk:ByteArray) (mN:Int) (w:World) (B:Nat) (hB:B≤w.heap.size) (h9:∀x,6 < c x→c x=9)
 (hz:NdSz n 1048576) (hmk:mk.size≤1048576) (hP:∃g,A.p=some ⟨g,0,none⟩) (hPc:n.pu.length≤A.cp) (hok:ndOk n=true) (hF:nearB n mF=true) (h:NO w B n A G c):
 Calls Tryz.prog 135 #[ndv n A,.agg #[.int .i64 mK,.int .i64 mF,.int .i64 mT,.int .i64 mI,.int .i64 mL,.string mk,.int .i64 mN]] w
  (GivesT w B c ((takeN n ⟨mK,mF,mT,mI,mL,mk,mN⟩).1,if (takeN n ⟨mK,mF,mT,mI,mL,mk,mN⟩).2=true then[ackM n ⟨mK,mF,mT,mI,mL,mk,mN⟩] else[],if (takeN n ⟨mK,mF,mT,mI,mL,mk,mN⟩).2=true then 0 else 1)):=by
 obtain⟨hi,hif⟩:=seenI_lt hok hF;have hsn:=seen_mem hok _ (List.getElem_mem hi)
 have hsl:n.seen.length≤1000:=by
  have h1:=(ndOk_parts hok).1;have h2:=(ndOk_parts hok).2.2.1;have h3:=nbrs_length h1;rw [told_eq h1,Bool.and_eq_true,decide_eq_true_eq] at h2;have h4:=congrArg List.length h2.1;rw [List.length_map,srt_length] at h4;unfold placeB at h1;simp only[Bool.and_eq_true,decide_eq_true_eq] at h1;split at h3<;>omega
 have hil:n.seen[seenI n.seen mF].ids.length≤1000:=by
  unfold snB at hsn;simp only[Bool.and_eq_true,decide_eq_true_eq] at hsn;omega
 have hbef:∀x (hx:x < n.seen.length),x < seenI n.seen mF→n.seen[x].f≠mF:=fun x hx hlt=>by
  have:=List.not_of_lt_findIdx (p:=fun s:Sn=>decide (s.f=mF)) (xs:=n.seen) hlt
  simpa using this
 obtain⟨ak,ap,ao,as',ar,ck,cp,co,cs,cr⟩:=A;cases hh:hasS n.seen[seenI n.seen mF] mL mI
 ·cases hu:addP n.pu mk 0 1 0 mN with
  |mk RL ok=>
   by_cases hg:ok=true∧(idsS n.seen[seenI n.seen mF] mL).length < 40
   ·have hgb:gainB n n.seen[seenI n.seen mF] ⟨mK,mF,mT,mI,mL,mk,mN⟩=true:=by
     unfold gainB;dsimp only;rw [hu,hg.1,decide_eq_true hg.2];rfl
    rw [takeN_gain (m:=⟨mK,mF,mT,mI,mL,mk,mN⟩) hi rfl rfl hh hgb];obtain⟨rfl,hg2⟩:=hg;have hres:=specTake_gain n ak ap ao as' ar ck cp co cs cr G c mK mF mT mI mL mk mN w B hB h9 _ hi _ rfl hif hbef hsl hil hz hmk hP hPc RL hu hh hg2 h;dsimp only;rw [hu];exact hres
   ·have hgb:gainB n n.seen[seenI n.seen mF] ⟨mK,mF,mT,mI,mL,mk,mN⟩=false:=by
     unfold gainB;dsimp only;rw [hu];cases ok
     ·rfl
     ·rw [decide_eq_false (fun h=>hg ⟨rfl,h⟩)];rfl
    rw [takeN_no (m:=⟨mK,mF,mT,mI,mL,mk,mN⟩) hi rfl rfl hh hgb]
    exact specTake_no n ak ap ao as' ar ck cp co cs cr G c mK mF mT mI mL mk mN w B hB h9 _ hi _ rfl hif hbef hsl hil hz hmk hP hPc RL ok hu hh (by
     cases ok
     ·exact .inl rfl
     ·exact .inr (by have:¬(idsS n.seen[seenI n.seen mF] mL).length < 40:=fun h=>hg ⟨rfl,h⟩;omega)) h
 ·rw [takeN_has (m:=⟨mK,mF,mT,mI,mL,mk,mN⟩) hi rfl rfl hh];exact specTake_has n ak ap ao as' ar ck cp co cs cr G c mK mF mT mI mL mk mN w B hB h9 _ hi _ rfl hif hbef hsl hil hh h
set_option maxHeartbeats 8000000
set_option maxRecDepth 100000
theorem specHear_rcpt (n:Nd) (A:Ads) (G:Blks) (c:Nat→Nat) (mK mF mT mI mL:Int) (mk:ByteArray) (mN:Int) (w:World) (B:Nat) (hB:B≤w.heap.size) (h9:∀x,6 < c x→c x=9) (hkl:n.kids.length≤1048600) (hmk:mk.size≤1048576) (hmo:mgOk ⟨mK,mF,mT,mI,mL,mk,mN⟩=true) (hol:n.out.length≤1048576) (h1:mT=n.id) (h2:nearB n mF=true) (h3:mK=2) (h:NO w B n A G c):Calls Tryz.prog 62 #[ndv n A,.agg #[.int .i64 mK,.int .i64 mF,.int .i64 mT,.int .i64 mI,.int .i64 mL,.string mk,.int .i64 mN]] w (GivesT w B c (setOut n (n.out.filter (fun s=> !outB2 ⟨2,mF,mT,mI,mL,mk,mN⟩ s)),[],0)):=by
 open Sb361 in exact Yb123
set_option maxHeartbeats 8000000
theorem specHear_pay (n:Nd) (A:Ads) (G:Blks) (c:Nat→Nat) (mK mF mT mI mL:Int) (mk:ByteArray) (mN:Int) (w:World) (B:Nat) (hB:B≤w.heap.size) (h9:∀x,6 < c x→c x=9) (hkl:n.kids.length≤1048600) (hmk:mk.size≤1048576) (hmo:mgOk ⟨mK,mF,mT,mI,mL,mk,mN⟩=true) (hz:NdSz n 1048576) (hP:∃g,A.p=some ⟨g,0,none⟩) (hPc:n.pu.length≤A.cp) (hok:ndOk n=true) (h1:mT=n.id) (h2:nearB n mF=true) (h3:mK=1) (h:NO w B n A G c):Calls Tryz.prog 62 #[ndv n A,.agg #[.int .i64 mK,.int .i64 mF,.int .i64 mT,.int .i64 mI,.int .i64 mL,.string mk,.int .i64 mN]] w (GivesT w B c ((takeN n ⟨mK,mF,mT,mI,mL,mk,mN⟩).1,if (takeN n ⟨mK,mF,mT,mI,mL,mk,mN⟩).2=true then[ackM n ⟨mK,mF,mT,mI,mL,mk,mN⟩] else[],if (takeN n ⟨mK,mF,mT,mI,mL,mk,mN⟩).2=true then 0 else 1)):=by
 open Sb362 in exact Yb123
def hearG (n:Nd) (m:Mg):Nd×List Mg×Int:=if m.T=n.id∧nearB n m.F=true then hearN n m else(n,[],3)
theorem kids_par {n:Nd} (hok:ndOk n=true):hasB n.kids n.par=false:=by
 have h1:=(ndOk_parts hok).1;unfold placeB at h1;simp only[Bool.and_eq_true] at h1;have h2:=chk_mem h1.2;cases hh:hasB n.kids n.par
 ·rfl
 ·rw [has_iff] at hh;have:=h2 _ hh;unfold kidB at this;simp at this
theorem specHear (n:Nd) (A:Ads) (G:Blks) (c:Nat→Nat) (mK mF mT mI mL:Int) (mk:ByteArray) (mN:Int) (w:World) (B:Nat) (hB:B≤w.heap.size) (h9:∀x,6 < c x→c x=9)
 (hz:NdSz n 1048576) (hmk:mk.size≤1048576) (hok:ndOk n=true) (hmo:mgOk ⟨mK,mF,mT,mI,mL,mk,mN⟩=true) (hP:∃g,A.p=some ⟨g,0,none⟩) (hPc:n.pu.length≤A.cp) (h:NO w B n A G c):
 Calls Tryz.prog 62 #[ndv n A,.agg #[.int .i64 mK,.int .i64 mF,.int .i64 mT,.int .i64 mI,.int .i64 mL,.string mk,.int .i64 mN]] w (GivesT w B c (hearG n ⟨mK,mF,mT,mI,mL,mk,mN⟩)):=by
 have hkl:n.kids.length≤1048600:=Nat.le_trans hz.k (by omega);have h0:0≤n.next:=by have h:=(ndOk_parts hok).2.2.2.1;unfold smB at h;simp at h;omega
 by_cases h1:mT=n.id
 ·cases h2:nearB n mF
  ·rw [show hearG n ⟨mK,mF,mT,mI,mL,mk,mN⟩=(n,[],3) from if_neg (fun h=>by have:=h.2;dsimp only at this;rw [h2] at this;exact absurd this (by simp))];exact specHear_badN n A G c mK mF mT mI mL mk mN w B hB h9 hkl hmk hmo h1 h2 h
  ·rw [show hearG n ⟨mK,mF,mT,mI,mL,mk,mN⟩=hearN n ⟨mK,mF,mT,mI,mL,mk,mN⟩ from if_pos ⟨h1,h2⟩];by_cases k1:mK=1
   ·rw [show hearN n ⟨mK,mF,mT,mI,mL,mk,mN⟩=_ from if_pos k1];exact specHear_pay n A G c mK mF mT mI mL mk mN w B hB h9 hkl hmk hmo hz hP hPc hok h1 h2 k1 h
   by_cases k2:mK=2
   ·rw [show hearN n ⟨mK,mF,mT,mI,mL,mk,mN⟩=_ from(if_neg k1).trans (if_pos k2)];have:=specHear_rcpt n A G c mK mF mT mI mL mk mN w B hB h9 hkl hmk hmo hz.o h1 h2 k2 h;rw [k2] at this ⊢;exact this
   have k0:mK=0:=by
    unfold mgOk at hmo;rw [Bool.and_eq_true] at hmo;have q:=hmo.2;dsimp only at q;by_cases k0:mK=0
    ·exact k0
    ·rw [if_neg k0,if_neg k1,if_neg k2] at q;exact absurd q (by simp)
   by_cases h4:mF=n.par
   ·rw [show hearN n ⟨mK,mF,mT,mI,mL,mk,mN⟩=(n,[],1) from(if_neg k1).trans ((if_neg k2).trans (if_neg (by dsimp only;rw [h4,kids_par hok];simp)))];exact specHear_up n A G c mK mF mT mI mL mk mN w B hB h9 hkl hmk hmo h1 h2 k0 h4 h
   ·have hk:hasB n.kids mF=true:=by
     unfold nearB at h2;rw [decide_eq_false h4,Bool.and_false,Bool.false_or] at h2;exact h2
    rw [show hearN n ⟨mK,mF,mT,mI,mL,mk,mN⟩=_ from(if_neg k1).trans ((if_neg k2).trans (if_pos hk))];exact specHear_give n A G c mK mF mT mI mL mk mN w B hB h9 hkl hmk hmo hz hP hPc h0 h1 h2 k0 h4 h
 ·rw [show hearG n ⟨mK,mF,mT,mI,mL,mk,mN⟩=(n,[],3) from if_neg (fun h=>h1 h.1)];exact specHear_badT n A G c mK mF mT mI mL mk mN w B hB h9 hkl hmk hmo h1 h
set_option maxHeartbeats 8000000
theorem specDo_hear (n:Nd) (A:Ads) (K no:Int) (k:ByteArray) (nn mK mF mT mI mL:Int) (mk:ByteArray) (mN:Int) (w:World) (hz:NdSz n 1048576) (hk:k.size≤1048576) (hmk:mk.size≤1048576) (hok:ndOk n=true) (hop:opOk ⟨K,no,k,nn,⟨mK,mF,mT,mI,mL,mk,mN⟩⟩=true) (hK:K=6) (ha:NodeAt w A n):Calls Tryz.prog 19 #[ndv n A,.agg #[.int .i64 K,.int .i64 no,.string k,.int .i64 nn,.int .i64 mK,.int .i64 mF,.int .i64 mT,.int .i64 mI,.int .i64 mL,.string mk,.int .i64 mN]] w (GivesE w (hearG n ⟨mK,mF,mT,mI,mL,mk,mN⟩)):=by
 subst hK;open Sb160 in exact Yb40
set_option maxHeartbeats 8000000
theorem specDo_ref3 (n:Nd) (A:Ads) (K no:Int) (k:ByteArray) (nn mK mF mT mI mL:Int) (mk:ByteArray) (mN:Int) (w:World) (hz:NdSz n 1048576) (hk:k.size≤1048576) (hmk:mk.size≤1048576) (hok:ndOk n=true) (hop:opOk ⟨K,no,k,nn,⟨mK,mF,mT,mI,mL,mk,mN⟩⟩=true) (hK:K=3) (hpar:n.par= -1) (ha:NodeAt w A n):Calls Tryz.prog 19 #[ndv n A,.agg #[.int .i64 K,.int .i64 no,.string k,.int .i64 nn,.int .i64 mK,.int .i64 mF,.int .i64 mT,.int .i64 mI,.int .i64 mL,.string mk,.int .i64 mN]] w (GivesE w (n,[],1)):=by
 subst hK;open Sb162 in exact Yb40
theorem specDo_ref4 (n:Nd) (A:Ads) (K no:Int) (k:ByteArray) (nn mK mF mT mI mL:Int) (mk:ByteArray) (mN:Int) (w:World) (hz:NdSz n 1048576) (hk:k.size≤1048576) (hmk:mk.size≤1048576) (hok:ndOk n=true) (hop:opOk ⟨K,no,k,nn,⟨mK,mF,mT,mI,mL,mk,mN⟩⟩=true) (hK:K=4) (hpar:n.par= -1) (ha:NodeAt w A n):Calls Tryz.prog 19 #[ndv n A,.agg #[.int .i64 K,.int .i64 no,.string k,.int .i64 nn,.int .i64 mK,.int .i64 mF,.int .i64 mT,.int .i64 mI,.int .i64 mL,.string mk,.int .i64 mN]] w (GivesE w (n,[],1)):=by
 subst hK;open Sb161 in exact Yb40
set_option maxHeartbeats 8000000
theorem specDo_mintup (n:Nd) (A:Ads) (K no:Int) (k:ByteArray) (nn mK mF mT mI mL:Int) (mk:ByteArray) (mN:Int) (w:World) (hz:NdSz n 1048576) (hk:k.size≤1048576) (hmk:mk.size≤1048576) (hok:ndOk n=true) (hop:opOk ⟨K,no,k,nn,⟨mK,mF,mT,mI,mL,mk,mN⟩⟩=true) (hK:K=0) (RL:List Pu) (ok:Bool) (hu:addP n.pu k 1 1 0 nn=(RL,ok)) (hpar:n.par≠ -1) (ha:NodeAt w A n):Calls Tryz.prog 19 #[ndv n A,.agg #[.int .i64 K,.int .i64 no,.string k,.int .i64 nn,.int .i64 mK,.int .i64 mF,.int .i64 mT,.int .i64 mI,.int .i64 mL,.string mk,.int .i64 mN]] w (GivesE w (n,[],1)):=by
 subst hK;open Sb165 in exact Yb40
theorem specDo_mintno (n:Nd) (A:Ads) (K no:Int) (k:ByteArray) (nn mK mF mT mI mL:Int) (mk:ByteArray) (mN:Int) (w:World) (hz:NdSz n 1048576) (hk:k.size≤1048576) (hmk:mk.size≤1048576) (hok:ndOk n=true) (hop:opOk ⟨K,no,k,nn,⟨mK,mF,mT,mI,mL,mk,mN⟩⟩=true) (hK:K=0) (RL:List Pu) (hu:addP n.pu k 1 1 0 nn=(RL,false)) (hpar:n.par= -1) (ha:NodeAt w A n):Calls Tryz.prog 19 #[ndv n A,.agg #[.int .i64 K,.int .i64 no,.string k,.int .i64 nn,.int .i64 mK,.int .i64 mF,.int .i64 mT,.int .i64 mI,.int .i64 mL,.string mk,.int .i64 mN]] w (GivesE w (n,[],1)):=by
 subst hK;open Sb164 in exact Yb40
theorem specDo_mintyes (n:Nd) (A:Ads) (K no:Int) (k:ByteArray) (nn mK mF mT mI mL:Int) (mk:ByteArray) (mN:Int) (w:World) (hz:NdSz n 1048576) (hk:k.size≤1048576) (hmk:mk.size≤1048576) (hok:ndOk n=true) (hop:opOk ⟨K,no,k,nn,⟨mK,mF,mT,mI,mL,mk,mN⟩⟩=true) (hK:K=0) (RL:List Pu) (hu:addP n.pu k 1 1 0 nn=(RL,true)) (hpar:n.par= -1) (ha:NodeAt w A n):Calls Tryz.prog 19 #[ndv n A,.agg #[.int .i64 K,.int .i64 no,.string k,.int .i64 nn,.int .i64 mK,.int .i64 mF,.int .i64 mT,.int .i64 mI,.int .i64 mL,.string mk,.int .i64 mN]] w (GivesE w (setPu n RL,[],0)):=by
 subst hK;open Sb163 in exact Yb40
set_option maxHeartbeats 8000000
theorem specDo_tick (n:Nd) (A:Ads) (K no:Int) (k:ByteArray) (nn mK mF mT mI mL:Int) (mk:ByteArray) (mN:Int) (w:World) (hz:NdSz n 1048576) (hk:k.size≤1048576) (hmk:mk.size≤1048576) (hok:ndOk n=true) (hop:opOk ⟨K,no,k,nn,⟨mK,mF,mT,mI,mL,mk,mN⟩⟩=true) (hK:K=5) (ha:NodeAt w A n):Calls Tryz.prog 19 #[ndv n A,.agg #[.int .i64 K,.int .i64 no,.string k,.int .i64 nn,.int .i64 mK,.int .i64 mF,.int .i64 mT,.int .i64 mI,.int .i64 mL,.string mk,.int .i64 mN]] w (GivesE w (n,n.out.map (payM n),0)):=by
 subst hK;open Sb166 in exact Yb40
set_option maxHeartbeats 8000000
theorem specDo_want (n:Nd) (A:Ads) (K no:Int) (k:ByteArray) (nn mK mF mT mI mL:Int) (mk:ByteArray) (mN:Int) (w:World) (hz:NdSz n 1048576) (hk:k.size≤1048576) (hmk:mk.size≤1048576) (hok:ndOk n=true) (hop:opOk ⟨K,no,k,nn,⟨mK,mF,mT,mI,mL,mk,mN⟩⟩=true) (hK:K=3) (hpar:n.par≠ -1) (ha:NodeAt w A n):Calls Tryz.prog 19 #[ndv n A,.agg #[.int .i64 K,.int .i64 no,.string k,.int .i64 nn,.int .i64 mK,.int .i64 mF,.int .i64 mT,.int .i64 mI,.int .i64 mL,.string mk,.int .i64 mN]] w (GivesE w (n,[⟨0,n.id,n.par,0,0,k,nn⟩],0)):=by
 subst hK;open Sb167 in exact Yb40
theorem opOk_K {o:Op5} (h:opOk o=true):o.K=0∨o.K=1∨o.K=2∨o.K=3∨o.K=4∨o.K=5∨o.K=6:=by
 unfold opOk at h;by_cases h0:o.K=0∨o.K=3∨o.K=4
 ·omega
 rw [if_neg h0] at h;by_cases h1:o.K=1
 ·omega
 rw [if_neg h1] at h;by_cases h2:o.K=2
 ·omega
 rw [if_neg h2] at h;by_cases h5:o.K=5
 ·omega
 rw [if_neg h5] at h;by_cases h6:o.K=6
 ·omega
 rw [if_neg h6] at h;exact absurd h (by simp)
theorem specNodeDo (n:Nd) (A:Ads) (K no:Int) (k:ByteArray) (nn mK mF mT mI mL:Int) (mk:ByteArray) (mN:Int) (w:World) (hz:NdSz n 1048576) (hk:k.size≤1048576) (hmk:mk.size≤1048576) (ha:NodeAt w A n):
 Calls Tryz.prog 19 #[ndv n A,.agg #[.int .i64 K,.int .i64 no,.string k,.int .i64 nn,.int .i64 mK,.int .i64 mF,.int .i64 mT,.int .i64 mI,.int .i64 mL,.string mk,.int .i64 mN]] w (GivesE w (doN n ⟨K,no,k,nn,⟨mK,mF,mT,mI,mL,mk,mN⟩⟩)):=by
 cases hok:ndOk n
 ·rw [doN_bad hok];exact specDo_badn n A K no k nn mK mF mT mI mL mk mN w hz hok ha
 rw [doN_ok hok];cases hop:opOk ⟨K,no,k,nn,⟨mK,mF,mT,mI,mL,mk,mN⟩⟩
 ·rw [show wdoN n ⟨K,no,k,nn,⟨mK,mF,mT,mI,mL,mk,mN⟩⟩=(n,[],3) from if_neg (by rw [hop];simp)];exact specDo_bado n A K no k nn mK mF mT mI mL mk mN w hz hk hmk hok hop ha
 by_cases h6:K=6
 ·have e:wdoN n ⟨K,no,k,nn,⟨mK,mF,mT,mI,mL,mk,mN⟩⟩=hearG n ⟨mK,mF,mT,mI,mL,mk,mN⟩:=by
   unfold wdoN hearG addrB actN;rw [hop,h6];dsimp only;by_cases hc:mT=n.id∧nearB n mF=true
   ·rw [if_pos hc,if_pos (by rw [hc.2,decide_eq_true hc.1];rfl),if_neg (by omega),if_neg (by omega),if_neg (by omega),if_neg (by omega),if_neg (by omega),if_neg (by omega)]
   ·rw [if_neg hc,if_neg (by simp only[decide_true,Bool.not_true,Bool.false_or,Bool.true_and,Bool.and_eq_true,decide_eq_true_eq];exact hc)]
  rw [e];exact specDo_hear n A K no k nn mK mF mT mI mL mk mN w hz hk hmk hok hop h6 ha
 rw [show wdoN n ⟨K,no,k,nn,⟨mK,mF,mT,mI,mL,mk,mN⟩⟩=actN n ⟨K,no,k,nn,⟨mK,mF,mT,mI,mL,mk,mN⟩⟩ from if_pos (by rw [hop];unfold addrB;rw [decide_eq_false h6];rfl)];have hK:=opOk_K hop;dsimp only at hK;by_cases h0:K=0
 ·rw [show actN n ⟨K,no,k,nn,⟨mK,mF,mT,mI,mL,mk,mN⟩⟩=_ from if_pos h0];dsimp only;cases hu:addP n.pu k 1 1 0 nn with
  |mk RL ok=>
   by_cases hp:n.par= -1
   ·cases ok
    ·rw [if_neg (fun h=>absurd h.2 (by simp))];exact specDo_mintno n A K no k nn mK mF mT mI mL mk mN w hz hk hmk hok hop h0 RL hu hp ha
    ·rw [if_pos ⟨hp,rfl⟩];exact specDo_mintyes n A K no k nn mK mF mT mI mL mk mN w hz hk hmk hok hop h0 RL hu hp ha
   ·rw [if_neg (fun h=>hp h.1)];exact specDo_mintup n A K no k nn mK mF mT mI mL mk mN w hz hk hmk hok hop h0 RL ok hu hp ha
 by_cases h1:K=1
 ·rw [show actN n ⟨K,no,k,nn,⟨mK,mF,mT,mI,mL,mk,mN⟩⟩=_ from(if_neg h0).trans (if_pos h1)];exact specDo_admit n A K no k nn mK mF mT mI mL mk mN w hz hk hmk hok hop h1 ha
 by_cases h2:K=2
 ·rw [show actN n ⟨K,no,k,nn,⟨mK,mF,mT,mI,mL,mk,mN⟩⟩=_ from(if_neg h0).trans ((if_neg h1).trans (if_pos h2))];exact specDo_rel n A K no k nn mK mF mT mI mL mk mN w hz hk hmk hok hop h2 ha
 by_cases h3:K=3
 ·rw [show actN n ⟨K,no,k,nn,⟨mK,mF,mT,mI,mL,mk,mN⟩⟩=_ from(if_neg h0).trans ((if_neg h1).trans ((if_neg h2).trans (if_pos h3)))];by_cases hp:n.par= -1
  ·rw [if_pos hp];exact specDo_ref3 n A K no k nn mK mF mT mI mL mk mN w hz hk hmk hok hop h3 hp ha
  ·rw [if_neg hp];exact specDo_want n A K no k nn mK mF mT mI mL mk mN w hz hk hmk hok hop h3 hp ha
 by_cases h4:K=4
 ·rw [show actN n ⟨K,no,k,nn,⟨mK,mF,mT,mI,mL,mk,mN⟩⟩=_ from(if_neg h0).trans ((if_neg h1).trans ((if_neg h2).trans ((if_neg h3).trans (if_pos h4))))];by_cases hp:n.par= -1
  ·rw [if_pos hp];exact specDo_ref4 n A K no k nn mK mF mT mI mL mk mN w hz hk hmk hok hop h4 hp ha
  ·rw [if_neg hp];exact specDo_back n A K no k nn mK mF mT mI mL mk mN w hz hk hmk hok hop h4 hp ha
 have h5:K=5:=by omega
 rw [show actN n ⟨K,no,k,nn,⟨mK,mF,mT,mI,mL,mk,mN⟩⟩=_ from(if_neg h0).trans ((if_neg h1).trans ((if_neg h2).trans ((if_neg h3).trans ((if_neg h4).trans (if_pos h5)))))];exact specDo_tick n A K no k nn mK mF mT mI mL mk mN w hz hk hmk hok hop h5 ha
theorem keyOk_sz {s:ByteArray} (hs:keyOk s.data.toList=true):s.size≤1048576:=Nat.le_trans (keyOk_le hs) (by omega)
theorem nodup_col {c:Nat→Nat} {a:Nat} {l m:List Nat} (hl:l.Nodup) (hm:m.Nodup) (h1:∀x∈l,c x=a) (h2:∀x∈m,c x≠a):(l++m).Nodup:=by
 rw [List.nodup_append];exact⟨hl,hm,fun x hx y hy e=>h2 y hy (by rw [←e];exact h1 x hx)⟩
theorem NO.full {w:World} {B:Nat} {n:Nd} {A:Ads} {G:Blks} {c:Nat→Nat} (h:NO w B n A G c):
 ∃G2,NodeW w A G2 n∧G2.Sep n B w.heap.size∧∀x∈G2.all n,c x≠0∧c x≤6:=by
 obtain⟨_,_,go,eo,hWo,hro,hoo⟩:=GR.W.of_own (enc:=encSnt) encSnt_length h.o;cases eo
 obtain⟨_,_,gr,er,hWr,hrr,hor⟩:=GR.W.of_own (enc:=encRq) encRq_length h.r;cases er
 have c1:=h.ck;have c2:=h.cp;have c3:∀x∈fp go n.out,c x=3:=fun x hx=>h.co x (hoo x hx)
 have c4:=h.c4;have c5:=h.ci;have c6:∀x∈fp gr n.reqs,c x=6:=fun x hx=>h.cr x (hor x hx)
 have hcol:∀x∈Blks.all ⟨G.k,G.p,go,G.s,gr,G.i⟩ n,c x≠0∧c x≤6:=fun x hx=>by
  rcases Blks.mem_all.1 hx with h1|h1|h1|h1|h1|h1
  ·have:=c1 x h1;omega
  ·have:=c2 x h1;omega
  ·have:=c3 x h1;omega
  ·have:=c4 x h1;omega
  ·have:=c5 x h1;omega
  ·have:=c6 x h1;omega
 refine⟨⟨G.k,G.p,go,G.s,gr,G.i⟩,⟨h.k,h.p,hWo,h.s,hWr⟩,⟨?_,fun x hx=>⟨?_,?_⟩⟩,hcol⟩
 ·unfold Blks.all;refine nodup_col (c:=c) (a:=1) (fp_nodup _ _) ?_ c1 (fun x hx=>?_)
  ·refine nodup_col (c:=c) (a:=2) (fp_nodup _ _) ?_ c2 (fun x hx=>?_)
   ·refine nodup_col (c:=c) (a:=3) (fp_nodup _ _) ?_ c3 (fun x hx=>?_)
    ·refine nodup_col (c:=c) (a:=4) (fp_nodup _ _) ?_ c4 (fun x hx=>?_)
     ·refine nodup_col (c:=c) (a:=5) h.ni (fp_nodup _ _) c5 (fun x hx=>?_);have:=c6 x hx;omega
     ·rcases List.mem_append.1 hx with h1|h1
      ·have:=c5 x h1;omega
      ·have:=c6 x h1;omega
    ·rcases List.mem_append.1 hx with h1|h1
     ·have:=c4 x h1;omega
     ·exact Zb37
   ·rcases List.mem_append.1 hx with h1|h1
    ·have:=c3 x h1;omega
    ·exact Zb53
  ·rcases List.mem_append.1 hx with h1|h1
   ·have:=c2 x h1;omega
   ·rcases List.mem_append.1 h1 with h1|h1
    ·have:=c3 x h1;omega
    ·exact Zb53
 ·by_cases hlt:x < B
  ·have:=h.lo x hlt;have:=hcol x hx;omega
  ·omega
 ·rcases Blks.mem_all.1 hx with h1|h1|h1|h1|h1|h1
  ·exact fpW_lt h.k x h1
  ·exact fpW_lt h.p x h1
  ·exact fpW_lt hWo x h1
  ·exact(seen_lt h.s).1 x h1
  ·exact(seen_lt h.s).2 x h1
  ·exact fpW_lt hWr x h1
theorem ndOk_sz {n:Nd} (hok:ndOk n=true):NdSz n 1048576:=by
 obtain⟨h1,h2,h3,h4,h5,h6⟩:=ndOk_parts hok;have hq:=reqs_asc h6;have ho:=outs_asc h5;have hn:=nbrs_length h1;have hpl:=h1;unfold placeB at hpl;simp only[Bool.and_eq_true,decide_eq_true_eq] at hpl;have htl:=h3;unfold toldB at htl;rw [Bool.and_eq_true,decide_eq_true_eq] at htl;have hps:=(psOk_iff n.pu).1 h2;refine⟨by omega,by omega,by omega,by split at htl<;>omega,by omega,fun x hx=>?_,fun x hx=>?_,fun x hx=>?_,fun x hx=>?_⟩
 ·have:=hps.1 x hx;unfold puOk at this;simp only[Bool.and_eq_true] at this;exact keyOk_sz (by first|exact this.1|exact this.1.1|exact this.1.1.1|exact this.1.1.1.1)
 ·have:=ho.2.2 x hx;unfold outB at this;simp only[Bool.and_eq_true] at this;exact keyOk_sz this.1.2
 ·have:=seen_mem hok x hx;unfold snB at this;simp only[Bool.and_eq_true,decide_eq_true_eq] at this;omega
 ·exact keyOk_sz (reqB_parts (hq.2.2.1 x hx)).2.2.1
theorem do_sz {n:Nd} {o:Op5} (hz:NdSz n 1048576):NdSz (doN n o).1 1048576:=by
 cases hok:ndOk n
 ·rw [doN_bad hok];exact hz
 ·exact ndOk_sz (ndOk_do hok)
theorem give_len (n:Nd) (dst:Int) (key:ByteArray) (most:Int):(giveN n dst key most).2.1.length≤1:=by
 unfold giveN;split<;>simp
theorem do_len {n:Nd} {o:Op5} (hz:NdSz n 1048576):(doN n o).2.1.length≤1048576:=by
 have ho:=hz.o;unfold doN;split
 ·unfold wdoN;split
  ·unfold actN;split
   ·split<;>simp
   split
   ·simp
   split
   ·simp
   split
   ·split<;>simp
   split
   ·split
    ·simp
    ·exact Nat.le_trans (give_len _ _ _ _) (by omega)
   split
   ·simpa using ho
   ·unfold hearN;split
    ·dsimp only;split<;>simp
    split
    ·simp
    split
    ·exact Nat.le_trans (give_len _ _ _ _) (by omega)
    ·simp
  ·simp
 ·simp
end Go.Proofs.YtppmcficiphgdaaGreatDoor
