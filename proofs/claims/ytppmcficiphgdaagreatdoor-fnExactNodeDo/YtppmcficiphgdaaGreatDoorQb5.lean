/- Parts. -/
import Derived.Test.YtppmcficiphgdaaGreatDoorQa1
import Derived.Test.YtppmcficiphgdaaGreatDoorQb4
import Derived.Test.YtppmcficiphgdaaGreatDoorQa2
import Derived.Test.YtppmcficiphgdaaGreatDoorQa8
import Derived.Test.YtppmcficiphgdaaGreatDoorQa14
import Derived.Test.YtppmcficiphgdaaGreatDoorQbZ3
namespace Go.Proofs.YtppmcficiphgdaaGreatDoor
set_option maxHeartbeats 16000000
set_option maxRecDepth 100000
open Go.RowKit
open Mth
theorem own_lo {w:World} {B sz k x:Nat} {e:TypeId} {v:Value} {xs:List Value} (h:w.ownsRow B e sz v k xs) (hx:v.ownBlock=some x):B≤x:=by
 rcases h.2 with⟨rfl,_⟩|⟨g,cap,cur,rfl,hb,_⟩
 ·simp[Value.ownBlock] at hx
 ·have:g=x:=by simpa [Value.ownBlock] using hx
  omega
theorem own_lt {w:World} {B sz k x:Nat} {e:TypeId} {v:Value} {xs:List Value} (h:w.ownsRow B e sz v k xs) (hx:v.ownBlock=some x):x < w.heap.size:=by
 rcases h.2 with⟨rfl,_⟩|⟨g,cap,cur,rfl,hb,hg,_⟩
 ·simp[Value.ownBlock] at hx
 ·have:g=x:=by simpa [Value.ownBlock] using hx
  rw [←this];exact obj_lt hg
def GivesT (w:World) (B:Nat) (c:Nat→Nat) (R:Nd×List Mg×Int) (e:Ending) (w':World):Prop:=∃A' a cp,e= .returned (.tuple #[ndv R.1 A',.slice a R.2.1.length cp,.int .i64 R.2.2])∧(∀W'',Out c w w' W''→NodeAt W'' A' R.1)∧(∀W'',Out c w w' W''→GR.At encM 7 W'' a R.2.1)∧Below B w w'∧Apart c w w'
theorem specGive_n00 (n:Nd) (A:Ads) (G:Blks) (c:Nat→Nat) (dst:Int) (key:ByteArray) (most:Int) (w:World) (B:Nat) (hB:B≤w.heap.size) (h9:∀x,6 < c x→c x=9) (pk:ByteArray) (pm pf ps:Int) (hpp:purseOf n.pu key=⟨pk,pm,pf,ps⟩) (hl:n.pu.length≤1048600) (hc:¬pf < most) (h1:most < 1) (h:NO w B n A G c):Calls Tryz.prog 63 #[ndv n A,.int .i64 dst,.string key,.int .i64 most] w (GivesT w B c (n,[],1)):=by
 have q0:decide (pf < most)=false:=by simpa using hc
 have q1:decide (most < 1)=true:=by simpa using h1
 exact Zb0
theorem specGive_n01 (n:Nd) (A:Ads) (G:Blks) (c:Nat→Nat) (dst:Int) (key:ByteArray) (most:Int) (w:World) (B:Nat) (hB:B≤w.heap.size) (h9:∀x,6 < c x→c x=9) (pk:ByteArray) (pm pf ps:Int) (hpp:purseOf n.pu key=⟨pk,pm,pf,ps⟩) (hl:n.pu.length≤1048600) (hc:¬pf < most) (h1:¬most < 1) (h2:40≤n.out.length) (h:NO w B n A G c):Calls Tryz.prog 63 #[ndv n A,.int .i64 dst,.string key,.int .i64 most] w (GivesT w B c (n,[],1)):=by
 have q0:decide (pf < most)=false:=by simpa using hc
 have q1:decide (most < 1)=false:=by simpa using h1
 exact Zb49
theorem specGive_n02 (n:Nd) (A:Ads) (G:Blks) (c:Nat→Nat) (dst:Int) (key:ByteArray) (most:Int) (w:World) (B:Nat) (hB:B≤w.heap.size) (h9:∀x,6 < c x→c x=9) (pk:ByteArray) (pm pf ps:Int) (hpp:purseOf n.pu key=⟨pk,pm,pf,ps⟩) (hl:n.pu.length≤1048600) (hc:¬pf < most) (h1:¬most < 1) (h2:¬40≤n.out.length) (h3:1000000000≤n.next) (h:NO w B n A G c):Calls Tryz.prog 63 #[ndv n A,.int .i64 dst,.string key,.int .i64 most] w (GivesT w B c (n,[],1)):=by
 have q0:decide (pf < most)=false:=by simpa using hc
 have q1:decide (most < 1)=false:=by simpa using h1
 exact Zb43
theorem specGive_n10 (n:Nd) (A:Ads) (G:Blks) (c:Nat→Nat) (dst:Int) (key:ByteArray) (most:Int) (w:World) (B:Nat) (hB:B≤w.heap.size) (h9:∀x,6 < c x→c x=9) (pk:ByteArray) (pm pf ps:Int) (hpp:purseOf n.pu key=⟨pk,pm,pf,ps⟩) (hl:n.pu.length≤1048600) (hc:pf < most) (h1:pf < 1) (h:NO w B n A G c):Calls Tryz.prog 63 #[ndv n A,.int .i64 dst,.string key,.int .i64 most] w (GivesT w B c (n,[],1)):=by
 have q0:decide (pf < most)=true:=by simpa using hc
 have q1:decide (pf < 1)=true:=by simpa using h1
 exact Zb0
theorem specGive_n11 (n:Nd) (A:Ads) (G:Blks) (c:Nat→Nat) (dst:Int) (key:ByteArray) (most:Int) (w:World) (B:Nat) (hB:B≤w.heap.size) (h9:∀x,6 < c x→c x=9) (pk:ByteArray) (pm pf ps:Int) (hpp:purseOf n.pu key=⟨pk,pm,pf,ps⟩) (hl:n.pu.length≤1048600) (hc:pf < most) (h1:¬pf < 1) (h2:40≤n.out.length) (h:NO w B n A G c):Calls Tryz.prog 63 #[ndv n A,.int .i64 dst,.string key,.int .i64 most] w (GivesT w B c (n,[],1)):=by
 have q0:decide (pf < most)=true:=by simpa using hc
 have q1:decide (pf < 1)=false:=by simpa using h1
 exact Zb49
theorem specGive_n12 (n:Nd) (A:Ads) (G:Blks) (c:Nat→Nat) (dst:Int) (key:ByteArray) (most:Int) (w:World) (B:Nat) (hB:B≤w.heap.size) (h9:∀x,6 < c x→c x=9) (pk:ByteArray) (pm pf ps:Int) (hpp:purseOf n.pu key=⟨pk,pm,pf,ps⟩) (hl:n.pu.length≤1048600) (hc:pf < most) (h1:¬pf < 1) (h2:¬40≤n.out.length) (h3:1000000000≤n.next) (h:NO w B n A G c):Calls Tryz.prog 63 #[ndv n A,.int .i64 dst,.string key,.int .i64 most] w (GivesT w B c (n,[],1)):=by
 have q0:decide (pf < most)=true:=by simpa using hc
 have q1:decide (pf < 1)=false:=by simpa using h1
 exact Zb43
theorem specGive_s0 (n:Nd) (a_k a_p a_o a_s a_r:Option Addr) (a_ck a_cp a_co a_cs a_cr:Nat) (G:Blks) (c:Nat→Nat) (dst:Int) (key:ByteArray) (most:Int) (w:World) (B:Nat) (hB:B≤w.heap.size) (h9:∀x,6 < c x→c x=9) (pk:ByteArray) (pm pf ps:Int) (hpp:purseOf n.pu key=⟨pk,pm,pf,ps⟩) (hl:n.pu.length≤1048600) (hz:NdSz n 1048576) (hkey:key.size≤1048576) (hP:∃g,a_p=some ⟨g,0,none⟩) (hPc:n.pu.length≤a_cp) (RL:List Pu) (bu:Bool) (hu:addP n.pu key 0 (-1) 0 most=(RL,bu)) (hc:¬pf < most) (h1:¬most < 1) (h2:¬40≤n.out.length) (h3:¬1000000000≤n.next) (h0:0≤n.next) (h:NO w B n (⟨a_k,a_p,a_o,a_s,a_r,a_ck,a_cp,a_co,a_cs,a_cr⟩:Ads) G c):Calls Tryz.prog 63 #[ndv n (⟨a_k,a_p,a_o,a_s,a_r,a_ck,a_cp,a_co,a_cs,a_cr⟩:Ads),.int .i64 dst,.string key,.int .i64 most] w (GivesT w B c (⟨n.id,n.par,n.kids,n.next+1,RL,n.out++[⟨n.next,dst,key,most⟩],n.seen,n.old,n.reqs⟩,[payM ⟨n.id,n.par,n.kids,n.next+1,RL,n.out++[⟨n.next,dst,key,most⟩],n.seen,n.old,n.reqs⟩ ⟨n.next,dst,key,most⟩],0)):=by
 have q0:decide (pf < most)=false:=by simpa using hc
 have q1:decide (most < 1)=false:=by simpa using h1
 open Sb295 in exact Yb95
theorem specGive_s1 (n:Nd) (a_k a_p a_o a_s a_r:Option Addr) (a_ck a_cp a_co a_cs a_cr:Nat) (G:Blks) (c:Nat→Nat) (dst:Int) (key:ByteArray) (most:Int) (w:World) (B:Nat) (hB:B≤w.heap.size) (h9:∀x,6 < c x→c x=9) (pk:ByteArray) (pm pf ps:Int) (hpp:purseOf n.pu key=⟨pk,pm,pf,ps⟩) (hl:n.pu.length≤1048600) (hz:NdSz n 1048576) (hkey:key.size≤1048576) (hP:∃g,a_p=some ⟨g,0,none⟩) (hPc:n.pu.length≤a_cp) (RL:List Pu) (bu:Bool) (hu:addP n.pu key 0 (-1) 0 pf=(RL,bu)) (hc:pf < most) (h1:¬pf < 1) (h2:¬40≤n.out.length) (h3:¬1000000000≤n.next) (h0:0≤n.next) (h:NO w B n (⟨a_k,a_p,a_o,a_s,a_r,a_ck,a_cp,a_co,a_cs,a_cr⟩:Ads) G c):Calls Tryz.prog 63 #[ndv n (⟨a_k,a_p,a_o,a_s,a_r,a_ck,a_cp,a_co,a_cs,a_cr⟩:Ads),.int .i64 dst,.string key,.int .i64 most] w (GivesT w B c (⟨n.id,n.par,n.kids,n.next+1,RL,n.out++[⟨n.next,dst,key,pf⟩],n.seen,n.old,n.reqs⟩,[payM ⟨n.id,n.par,n.kids,n.next+1,RL,n.out++[⟨n.next,dst,key,pf⟩],n.seen,n.old,n.reqs⟩ ⟨n.next,dst,key,pf⟩],0)):=by
 have q0:decide (pf < most)=true:=by simpa using hc
 have q1:decide (pf < 1)=false:=by simpa using h1
 open Sb294 in exact Yb95
theorem specGive (n:Nd) (A:Ads) (G:Blks) (c:Nat→Nat) (dst:Int) (key:ByteArray) (most:Int) (w:World) (B:Nat) (hB:B≤w.heap.size) (h9:∀x,6 < c x→c x=9) (hz:NdSz n 1048576) (hkey:key.size≤1048576) (hP:∃g,A.p=some ⟨g,0,none⟩) (hPc:n.pu.length≤A.cp) (h0:0≤n.next) (h:NO w B n A G c):Calls Tryz.prog 63 #[ndv n A,.int .i64 dst,.string key,.int .i64 most] w (GivesT w B c ((giveN n dst key most).1,(giveN n dst key most).2.1,if (giveN n dst key most).2.2=true then 0 else 1)):=by
 obtain⟨pp,hpp⟩:∃pp,purseOf n.pu key=pp:=⟨_,rfl⟩;obtain⟨pk,pm,pf,ps⟩:=pp;have hl:n.pu.length≤1048600:=Nat.le_trans hz.p (by omega)
 have key2:∀amt,amtP n key most=amt→(¬(1≤amt∧n.out.length < 40∧n.next < 1000000000)→((giveN n dst key most).1,(giveN n dst key most).2.1,if (giveN n dst key most).2.2=true then(0:Int) else 1)=(n,[],1))∧((1≤amt∧n.out.length < 40∧n.next < 1000000000)→((giveN n dst key most).1,(giveN n dst key most).2.1,if (giveN n dst key most).2.2=true then(0:Int) else 1)=(paidN n dst key amt,[payM (paidN n dst key amt) ⟨n.next,dst,key,amt⟩],0)):=fun amt e=>by
  subst e
  constructor
  ·intro hn;have e:payB n (amtP n key most)=false:=by unfold payB;exact decide_eq_false hn
   unfold giveN;rw [e];rfl
  ·intro hy;have e:payB n (amtP n key most)=true:=by unfold payB;exact decide_eq_true hy
   unfold giveN;rw [e];rfl
 obtain⟨ak,ap,ao,az,ar,ck,cp,co,cs,cr⟩:=A;by_cases hc:pf < most
 ·obtain⟨k1,k2⟩:=key2 pf (by unfold amtP;rw [hpp];exact if_pos hc);obtain⟨R,hR⟩:∃R,addP n.pu key 0 (-1) 0 pf=R:=⟨_,rfl⟩;by_cases h1:pf < 1
  ·rw [k1 (by omega)];exact specGive_n10 n _ G c dst key most w B hB h9 pk pm pf ps hpp hl hc h1 h
  by_cases h2:40≤n.out.length
  ·rw [k1 (by omega)];exact specGive_n11 n _ G c dst key most w B hB h9 pk pm pf ps hpp hl hc h1 h2 h
  by_cases h3:1000000000≤n.next
  ·rw [k1 (by omega)];exact specGive_n12 n _ G c dst key most w B hB h9 pk pm pf ps hpp hl hc h1 h2 h3 h
  rw [k2 (by omega)];unfold paidN;rw [hR];exact specGive_s1 n ak ap ao az ar ck cp co cs cr G c dst key most w B hB h9 pk pm pf ps hpp hl hz hkey hP hPc R.1 R.2 hR hc h1 h2 h3 h0 h
 ·obtain⟨k1,k2⟩:=key2 most (by unfold amtP;rw [hpp];exact if_neg hc);obtain⟨R,hR⟩:∃R,addP n.pu key 0 (-1) 0 most=R:=⟨_,rfl⟩;by_cases h1:most < 1
  ·rw [k1 (by omega)];exact specGive_n00 n _ G c dst key most w B hB h9 pk pm pf ps hpp hl hc h1 h
  by_cases h2:40≤n.out.length
  ·rw [k1 (by omega)];exact specGive_n01 n _ G c dst key most w B hB h9 pk pm pf ps hpp hl hc h1 h2 h
  by_cases h3:1000000000≤n.next
  ·rw [k1 (by omega)];exact specGive_n02 n _ G c dst key most w B hB h9 pk pm pf ps hpp hl hc h1 h2 h3 h
  rw [k2 (by omega)];unfold paidN;rw [hR];exact specGive_s0 n ak ap ao az ar ck cp co cs cr G c dst key most w B hB h9 pk pm pf ps hpp hl hz hkey hP hPc R.1 R.2 hR hc h1 h2 h3 h0 h
end Go.Proofs.YtppmcficiphgdaaGreatDoor
