/- Parts. -/
import Derived.Test.YtppmcficiphgdaaGreatDoorQa2
import Derived.Test.YtppmcficiphgdaaGreatDoorQbZ3
import Derived.Test.YtppmcficiphgdaaGreatDoorQb5
import Derived.Test.YtppmcficiphgdaaGreatDoorQa4
import Derived.Test.YtppmcficiphgdaaGreatDoorQa27
import Derived.Test.YtppmcficiphgdaaGreatDoorQa12
import Derived.Test.YtppmcficiphgdaaGreatDoorQa5
import Derived.Test.YtppmcficiphgdaaGreatDoorQb4
import Derived.BigQuiet
namespace Go.Proofs.YtppmcficiphgdaaGreatDoor
set_option maxHeartbeats 2000000
set_option maxRecDepth 100000
open Go.RowKit
open Mth
theorem specMsgOk_route (K F T I L:Int) (k:ByteArray) (N:Int) (w:World) (_hs:k.size≤maxLen) (hr:rtB F T=false):Calls Tryz.prog 129 #[mgv ⟨K,F,T,I,L,k,N⟩] w fun e w'=>e= .returned (.bool (mgOk ⟨K,F,T,I,L,k,N⟩))∧Below w.heap.size w w':=by
 cases h1:ndB F
 case' false=>
  have HP:=hide (show mgOk ⟨K,F,T,I,L,k,N⟩=false by simp[mgOk,rtB,h1])
  have H1:=hide (fun w1=>l04Node F false w1 h1)
  clear h1 hr
  go_enter Tryz.func129,Tryz.ntmps129
  go_wp2_with (first|(go_at_call_of 123 F;refine(H1 _).mono ?_;rintro e w1 ⟨rfl,rfl⟩))
  go_ret
  exact⟨ret_bool HP.symm,below_one w _⟩
 have H1:=hide (fun w1=>l04Node F true w1 h1);cases h2:ndB T
 case' false=>
  have HP:=hide (show mgOk ⟨K,F,T,I,L,k,N⟩=false by simp[mgOk,rtB,h2])
  have H2:=hide (fun w1=>l04Node T false w1 h2)
  clear h1 h2 hr
  go_enter Tryz.func129,Tryz.ntmps129
  go_wp2_with (first|(go_at_call_of 123 F;refine(H1 _).mono ?_;rintro e w1 ⟨rfl,rfl⟩)|(go_at_call_of 123 T;refine(H2 _).mono ?_;rintro e w1 ⟨rfl,rfl⟩))
  go_ret
  exact⟨ret_bool HP.symm,below_one w _⟩
 have H2:=hide (fun w1=>l04Node T true w1 h2)
 have hft:F=T:=by
  rcases Decidable.em (F=T) with h|h
  ·exact h
  ·simp[rtB,h1,h2,h] at hr
 have HP:=hide (show mgOk ⟨K,F,T,I,L,k,N⟩=false by simp[mgOk,rtB,hft]);clear h1 h2 hr;subst hft;go_enter Tryz.func129,Tryz.ntmps129
 go_wp2_with (first|(go_at_call_of 123 F;refine(H1 _).mono ?_;rintro e w1 ⟨rfl,rfl⟩))
 exact Zb35
theorem specMsgOk_want (_K F T I L:Int) (k:ByteArray) (N:Int) (w:World) (hs:k.size≤maxLen) (hr:rtB F T=true):Calls Tryz.prog 129 #[mgv ⟨0,F,T,I,L,k,N⟩] w fun e w'=>e= .returned (.bool (mgOk ⟨0,F,T,I,L,k,N⟩))∧Below w.heap.size w w':=by
 open Sb120 in exact Yb29
theorem specMsgOk_pay (_K F T I L:Int) (k:ByteArray) (N:Int) (w:World) (hs:k.size≤maxLen) (hr:rtB F T=true):Calls Tryz.prog 129 #[mgv ⟨1,F,T,I,L,k,N⟩] w fun e w'=>e= .returned (.bool (mgOk ⟨1,F,T,I,L,k,N⟩))∧Below w.heap.size w w':=by
 open Sb119 in exact Yb29
theorem specMsgOk_ack (_K F T I L:Int) (k:ByteArray) (N:Int) (w:World) (hs:k.size≤maxLen) (hr:rtB F T=true):Calls Tryz.prog 129 #[mgv ⟨2,F,T,I,L,k,N⟩] w fun e w'=>e= .returned (.bool (mgOk ⟨2,F,T,I,L,k,N⟩))∧Below w.heap.size w w':=by
 open Sb118 in exact Yb29
theorem specMsgOk_else (K F T I L:Int) (k:ByteArray) (N:Int) (w:World) (_hs:k.size≤maxLen) (hr:rtB F T=true) (k0:¬K=0) (k1:¬K=1) (k2:¬K=2):Calls Tryz.prog 129 #[mgv ⟨K,F,T,I,L,k,N⟩] w fun e w'=>e= .returned (.bool (mgOk ⟨K,F,T,I,L,k,N⟩))∧Below w.heap.size w w':=by
 open Sb117 in exact Yb29
theorem specMsgOk (m:Mg) (w:World) (hs:m.k.size≤maxLen):Calls Tryz.prog 129 #[mgv m] w fun e w'=>e= .returned (.bool (mgOk m))∧Below w.heap.size w w':=by
 obtain⟨K,F,T,I,L,k,N⟩:=m;cases hr:rtB F T
 ·exact specMsgOk_route K F T I L k N w hs hr
 by_cases k0:K=0
 ·subst k0;exact specMsgOk_want 0 F T I L k N w hs hr
 by_cases k1:K=1
 ·subst k1;exact specMsgOk_pay 0 F T I L k N w hs hr
 by_cases k2:K=2
 ·subst k2;exact specMsgOk_ack 0 F T I L k N w hs hr
 exact specMsgOk_else K F T I L k N w hs hr k0 k1 k2
set_option maxHeartbeats 8000000
theorem specHear_badT (n:Nd) (A:Ads) (G:Blks) (c:Nat→Nat) (mK mF mT mI mL:Int) (mk:ByteArray) (mN:Int) (w:World) (B:Nat) (hB:B≤w.heap.size) (h9:∀x,6 < c x→c x=9) (hkl:n.kids.length≤1048600) (hmk:mk.size≤1048576) (hmo:mgOk ⟨mK,mF,mT,mI,mL,mk,mN⟩=true) (h1:mT≠n.id) (h:NO w B n A G c):Calls Tryz.prog 62 #[ndv n A,.agg #[.int .i64 mK,.int .i64 mF,.int .i64 mT,.int .i64 mI,.int .i64 mL,.string mk,.int .i64 mN]] w (GivesT w B c (n,[],3)):=by
 have q0:(mT != n.id)=true:=by simpa using h1
 have q0':(mT == n.id)=false:=by simpa using h1
 unfold GivesT;have H9:=hide h9;clear h9;have HMO:=hide (fun W=>specMsgOk ⟨mK,mF,mT,mI,mL,mk,mN⟩ W (by unfold maxLen;dsimp only;omega));rw [hmo] at HMO;unfold mgv at HMO;have HNR:=hide (fun W (ha:IntsAt W A.k n.kids)=>specNear n A mF W hkl ha);clear hmo;have HNO:=hide (h.nine hB);clear h;go_enter Tryz.func62,Tryz.ntmps62
 go_upto_region 1 with fail;refine wp_at (fun W0 hW=>?_);obtain⟨e1,e2,e3,e4⟩:=allocs3E w (.cells (ndc n A) 30) (.cells #[.int .i64 mK,.int .i64 mF,.int .i64 mT,.int .i64 mI,.int .i64 mL,.string mk,.int .i64 mN] 32) (.cells zc9 30);open Sb179 in exact Yb46
theorem specHear_badN (n:Nd) (A:Ads) (G:Blks) (c:Nat→Nat) (mK mF mT mI mL:Int) (mk:ByteArray) (mN:Int) (w:World) (B:Nat) (hB:B≤w.heap.size) (h9:∀x,6 < c x→c x=9) (hkl:n.kids.length≤1048600) (hmk:mk.size≤1048576) (hmo:mgOk ⟨mK,mF,mT,mI,mL,mk,mN⟩=true) (h1:mT=n.id) (h2:nearB n mF=false) (h:NO w B n A G c):Calls Tryz.prog 62 #[ndv n A,.agg #[.int .i64 mK,.int .i64 mF,.int .i64 mT,.int .i64 mI,.int .i64 mL,.string mk,.int .i64 mN]] w (GivesT w B c (n,[],3)):=by
 open Sb360 in exact Yb123
theorem specHear_up (n:Nd) (A:Ads) (G:Blks) (c:Nat→Nat) (mK mF mT mI mL:Int) (mk:ByteArray) (mN:Int) (w:World) (B:Nat) (hB:B≤w.heap.size) (h9:∀x,6 < c x→c x=9) (hkl:n.kids.length≤1048600) (hmk:mk.size≤1048576) (hmo:mgOk ⟨mK,mF,mT,mI,mL,mk,mN⟩=true) (h1:mT=n.id) (h2:nearB n mF=true) (h3:mK=0) (h4:mF=n.par) (h:NO w B n A G c):Calls Tryz.prog 62 #[ndv n A,.agg #[.int .i64 mK,.int .i64 mF,.int .i64 mT,.int .i64 mI,.int .i64 mL,.string mk,.int .i64 mN]] w (GivesT w B c (n,[],1)):=by
 open Sb359 in exact Yb123
theorem specHear_give (n:Nd) (A:Ads) (G:Blks) (c:Nat→Nat) (mK mF mT mI mL:Int) (mk:ByteArray) (mN:Int) (w:World) (B:Nat) (hB:B≤w.heap.size) (h9:∀x,6 < c x→c x=9) (hkl:n.kids.length≤1048600) (hmk:mk.size≤1048576) (hmo:mgOk ⟨mK,mF,mT,mI,mL,mk,mN⟩=true) (hz:NdSz n 1048576) (hP:∃g,A.p=some ⟨g,0,none⟩) (hPc:n.pu.length≤A.cp) (h0:0≤n.next) (h1:mT=n.id) (h2:nearB n mF=true) (h3:mK=0) (h4:mF≠n.par) (h:NO w B n A G c):Calls Tryz.prog 62 #[ndv n A,.agg #[.int .i64 mK,.int .i64 mF,.int .i64 mT,.int .i64 mI,.int .i64 mL,.string mk,.int .i64 mN]] w (GivesT w B c ((giveN n mF mk mN).1,(giveN n mF mk mN).2.1,0)):=by
 open Sb358 in exact Yb123
set_option maxHeartbeats 4000000
theorem specOpOk_mint (no:Int) (k:ByteArray) (n:Int) (m:Mg) (w:World) (hs:k.size≤maxLen):Calls Tryz.prog 57 #[opw ⟨0,no,k,n,m⟩] w fun e w'=>e= .returned (.bool (opOk ⟨0,no,k,n,m⟩))∧Below w.heap.size w w':=by
 obtain⟨mK,mF,mT,mI,mL,mk,mN⟩:=m;obtain⟨R,hR⟩:∃R,opOk ⟨0,no,k,n,⟨mK,mF,mT,mI,mL,mk,mN⟩⟩=R:=⟨_,rfl⟩;exact Zb14
theorem specOpOk_want (no:Int) (k:ByteArray) (n:Int) (m:Mg) (w:World) (hs:k.size≤maxLen):Calls Tryz.prog 57 #[opw ⟨3,no,k,n,m⟩] w fun e w'=>e= .returned (.bool (opOk ⟨3,no,k,n,m⟩))∧Below w.heap.size w w':=by
 obtain⟨mK,mF,mT,mI,mL,mk,mN⟩:=m;obtain⟨R,hR⟩:∃R,opOk ⟨3,no,k,n,⟨mK,mF,mT,mI,mL,mk,mN⟩⟩=R:=⟨_,rfl⟩;exact Zb14
theorem specOpOk_back (no:Int) (k:ByteArray) (n:Int) (m:Mg) (w:World) (hs:k.size≤maxLen):Calls Tryz.prog 57 #[opw ⟨4,no,k,n,m⟩] w fun e w'=>e= .returned (.bool (opOk ⟨4,no,k,n,m⟩))∧Below w.heap.size w w':=by
 obtain⟨mK,mF,mT,mI,mL,mk,mN⟩:=m;obtain⟨R,hR⟩:∃R,opOk ⟨4,no,k,n,⟨mK,mF,mT,mI,mL,mk,mN⟩⟩=R:=⟨_,rfl⟩;exact Zb14
theorem specOpOk_admit (no:Int) (k:ByteArray) (n:Int) (m:Mg) (w:World) (hs:k.size≤maxLen):Calls Tryz.prog 57 #[opw ⟨1,no,k,n,m⟩] w fun e w'=>e= .returned (.bool (opOk ⟨1,no,k,n,m⟩))∧Below w.heap.size w w':=by
 obtain⟨mK,mF,mT,mI,mL,mk,mN⟩:=m;obtain⟨R,hR⟩:∃R,opOk ⟨1,no,k,n,⟨mK,mF,mT,mI,mL,mk,mN⟩⟩=R:=⟨_,rfl⟩;rw [hR];have HR:=hide hR;clear hR;cases hk:keyOk k.data.toList
 ·have HK:=hide (fun w1=>specKeyB k false w1 hs hk);cases hn:smB n
  ·have HN:=hide (fun w1=>l04Some n false w1 hn);cases ho:smB no
   ·have HO:=hide (fun w1=>l04Some no false w1 ho);have HP:=hide (show R=(false&&false&&false&&zmB ⟨mK,mF,mT,mI,mL,mk,mN⟩) by rw [←unhide HR];simp[opOk,hk,hn,ho]);exact Zb17
   ·have HO:=hide (fun w1=>l04Some no true w1 ho);have HP:=hide (show R=(false&&false&&true&&zmB ⟨mK,mF,mT,mI,mL,mk,mN⟩) by rw [←unhide HR];simp[opOk,hk,hn,ho]);exact Zb17
  ·have HN:=hide (fun w1=>l04Some n true w1 hn);cases ho:smB no
   ·have HO:=hide (fun w1=>l04Some no false w1 ho);have HP:=hide (show R=(false&&true&&false&&zmB ⟨mK,mF,mT,mI,mL,mk,mN⟩) by rw [←unhide HR];simp[opOk,hk,hn,ho]);exact Zb17
   ·have HO:=hide (fun w1=>l04Some no true w1 ho);have HP:=hide (show R=(false&&true&&true&&zmB ⟨mK,mF,mT,mI,mL,mk,mN⟩) by rw [←unhide HR];simp[opOk,hk,hn,ho]);exact Zb17
 ·have HK:=hide (fun w1=>specKeyB k true w1 hs hk);cases hn:smB n
  ·have HN:=hide (fun w1=>l04Some n false w1 hn);cases ho:smB no
   ·have HO:=hide (fun w1=>l04Some no false w1 ho);have HP:=hide (show R=(true&&false&&false&&zmB ⟨mK,mF,mT,mI,mL,mk,mN⟩) by rw [←unhide HR];simp[opOk,hk,hn,ho]);exact Zb17
   ·have HO:=hide (fun w1=>l04Some no true w1 ho);have HP:=hide (show R=(true&&false&&true&&zmB ⟨mK,mF,mT,mI,mL,mk,mN⟩) by rw [←unhide HR];simp[opOk,hk,hn,ho]);exact Zb17
  ·have HN:=hide (fun w1=>l04Some n true w1 hn);cases ho:smB no
   ·have HO:=hide (fun w1=>l04Some no false w1 ho);have HP:=hide (show R=(true&&true&&false&&zmB ⟨mK,mF,mT,mI,mL,mk,mN⟩) by rw [←unhide HR];simp[opOk,hk,hn,ho]);exact Zb17
   ·have HO:=hide (fun w1=>l04Some no true w1 ho);have HP:=hide (show R=(true&&true&&true&&zmB ⟨mK,mF,mT,mI,mL,mk,mN⟩) by rw [←unhide HR];simp[opOk,hk,hn,ho]);exact Zb17
theorem specOpOk_release (no:Int) (k:ByteArray) (n:Int) (m:Mg) (w:World) (_hs:k.size≤maxLen):Calls Tryz.prog 57 #[opw ⟨2,no,k,n,m⟩] w fun e w'=>e= .returned (.bool (opOk ⟨2,no,k,n,m⟩))∧Below w.heap.size w w':=by
 obtain⟨mK,mF,mT,mI,mL,mk,mN⟩:=m;obtain⟨R,hR⟩:∃R,opOk ⟨2,no,k,n,⟨mK,mF,mT,mI,mL,mk,mN⟩⟩=R:=⟨_,rfl⟩;rw [hR];have HR:=hide hR;clear hR;cases ho:smB no
 ·have HO:=hide (fun w1=>l04Some no false w1 ho);have HP:=hide (show R=(decide (k.toList=[])&&decide (n=0)&&false&&zmB ⟨mK,mF,mT,mI,mL,mk,mN⟩) by rw [←unhide HR];simp[opOk,ho]);exact Zb31
 ·have HO:=hide (fun w1=>l04Some no true w1 ho);have HP:=hide (show R=(decide (k.toList=[])&&decide (n=0)&&true&&zmB ⟨mK,mF,mT,mI,mL,mk,mN⟩) by rw [←unhide HR];simp[opOk,ho]);exact Zb31
theorem specOpOk_tick (no:Int) (k:ByteArray) (n:Int) (m:Mg) (w:World) (_hs:k.size≤maxLen):Calls Tryz.prog 57 #[opw ⟨5,no,k,n,m⟩] w fun e w'=>e= .returned (.bool (opOk ⟨5,no,k,n,m⟩))∧Below w.heap.size w w':=by
 obtain⟨mK,mF,mT,mI,mL,mk,mN⟩:=m;obtain⟨R,hR⟩:∃R,opOk ⟨5,no,k,n,⟨mK,mF,mT,mI,mL,mk,mN⟩⟩=R:=⟨_,rfl⟩;rw [hR];have HR:=hide hR;clear hR;have HP:=hide (show R=(decide (k.toList=[])&&decide (n=0)&&decide (no=0)&&zmB ⟨mK,mF,mT,mI,mL,mk,mN⟩) by rw [←unhide HR];simp[opOk]);clear HR;go_enter Tryz.func57,Tryz.ntmps57
 go_wp2_with fail
 all_goals
  go_ret
  refine⟨ret_bool ?_,below_one w _⟩
  rw [unhide HP]
  simp[zmB, *]
theorem specOpOk_hear (no:Int) (k:ByteArray) (n:Int) (m:Mg) (w:World) (hm:m.k.size≤maxLen):Calls Tryz.prog 57 #[opw ⟨6,no,k,n,m⟩] w fun e w'=>e= .returned (.bool (opOk ⟨6,no,k,n,m⟩))∧Below w.heap.size w w':=by
 have HM:=hide (fun w1=>specMsgOk m w1 hm);obtain⟨R,hR⟩:∃R,opOk ⟨6,no,k,n,m⟩=R:=⟨_,rfl⟩;rw [hR];have HP:=hide (show R=(decide (k.toList=[])&&decide (n=0)&&decide (no=0)&&mgOk m) by rw [←hR];simp[opOk]);clear hR;generalize mgOk m=OK at *;obtain⟨mK,mF,mT,mI,mL,mk,mN⟩:=m;go_enter Tryz.func57,Tryz.ntmps57
 go_wp2_with (go_at_call 129;refine(HM _).mono ?_;rintro e w1 ⟨rfl,hb1⟩;have HB1:=hide hb1;clear hb1)
 all_goals
  go_ret
  refine⟨ret_bool ?_,by first|exact below_one w _|exact(below_one w _).trans (HB1.mono (by simp))⟩
  rw [unhide HP]
  simp[*]
theorem specOpOk_else (K no:Int) (k:ByteArray) (n:Int) (m:Mg) (w:World) (h0:¬K=0) (h1:¬K=1) (h2:¬K=2) (h3:¬K=3) (h4:¬K=4) (h5:¬K=5) (h6:¬K=6):Calls Tryz.prog 57 #[opw ⟨K,no,k,n,m⟩] w fun e w'=>e= .returned (.bool (opOk ⟨K,no,k,n,m⟩))∧Below w.heap.size w w':=by
 have HP:=hide (show opOk ⟨K,no,k,n,m⟩=false by simp[opOk,h0,h1,h2,h3,h4,h5,h6]);obtain⟨mK,mF,mT,mI,mL,mk,mN⟩:=m;go_enter Tryz.func57,Tryz.ntmps57
 go_wp2_with fail;exact Zb35
theorem specOpOk (o:Op5) (w:World) (hs:o.k.size≤maxLen) (hm:o.m.k.size≤maxLen):Calls Tryz.prog 57 #[opw o] w fun e w'=>e= .returned (.bool (opOk o))∧Below w.heap.size w w':=by
 obtain⟨K,no,k,n,m⟩:=o;by_cases h0:K=0
 ·subst h0;exact specOpOk_mint no k n m w hs
 by_cases h1:K=1
 ·subst h1;exact specOpOk_admit no k n m w hs
 by_cases h2:K=2
 ·subst h2;exact specOpOk_release no k n m w hs
 by_cases h3:K=3
 ·subst h3;exact specOpOk_want no k n m w hs
 by_cases h4:K=4
 ·subst h4;exact specOpOk_back no k n m w hs
 by_cases h5:K=5
 ·subst h5;exact specOpOk_tick no k n m w hs
 by_cases h6:K=6
 ·subst h6;exact specOpOk_hear no k n m w hm
 exact specOpOk_else K no k n m w h0 h1 h2 h3 h4 h5 h6
set_option maxHeartbeats 8000000
def Aft (w W' W'':World):Prop:=∃F,KeepsL F W' W''∧∀x∈F,x < w.heap.size
theorem Aft.refl {w W':World}:Aft w W' W':=⟨[],KeepsL.refl _ _,fun x hx=>by simp at hx⟩
theorem Aft.kc {c:Nat→Nat} {k:Nat} {w W' W'':World} (h:Aft w W' W'') (hc:∀x,x < w.heap.size→c x=k):KC c k W' W'':=by
 obtain⟨F,hk,hF⟩:=h;exact KC.keeps hk (fun x hx=>hc x (hF x hx))
def GivesE (w:World) (R:Nd×List Mg×Int) (e:Ending) (w':World):Prop:=∃A' a cp,e= .returned (.tuple #[ndv R.1 A',.slice a R.2.1.length cp,.int .i64 R.2.2])∧(∀W'',Aft w w' W''→NodeAt W'' A' R.1)∧(∀W'',Aft w w' W''→GR.At encM 7 W'' a R.2.1)∧Below w.heap.size w w'
theorem specDo_badn (n:Nd) (A:Ads) (K no:Int) (k:ByteArray) (nn mK mF mT mI mL:Int) (mk:ByteArray) (mN:Int) (w:World) (hz:NdSz n 1048576) (hok:ndOk n=false) (ha:NodeAt w A n):Calls Tryz.prog 19 #[ndv n A,.agg #[.int .i64 K,.int .i64 no,.string k,.int .i64 nn,.int .i64 mK,.int .i64 mF,.int .i64 mT,.int .i64 mI,.int .i64 mL,.string mk,.int .i64 mN]] w (GivesE w (n,[],3)):=by
 open Sb156 in exact Yb40
theorem specDo_bado (n:Nd) (A:Ads) (K no:Int) (k:ByteArray) (nn mK mF mT mI mL:Int) (mk:ByteArray) (mN:Int) (w:World) (hz:NdSz n 1048576) (hk:k.size≤1048576) (hmk:mk.size≤1048576) (hok:ndOk n=true) (hop:opOk ⟨K,no,k,nn,⟨mK,mF,mT,mI,mL,mk,mN⟩⟩=false) (ha:NodeAt w A n):Calls Tryz.prog 19 #[ndv n A,.agg #[.int .i64 K,.int .i64 no,.string k,.int .i64 nn,.int .i64 mK,.int .i64 mF,.int .i64 mT,.int .i64 mI,.int .i64 mL,.string mk,.int .i64 mN]] w (GivesE w (n,[],3)):=by
 open Sb155 in exact Yb40
def flatC (b:Nat) (c:Nat→Nat):Nat→Nat:=fun x=>if x < b then 0 else if c x=0 then 9 else if 6 < c x then 9 else c x
theorem flatC_h9 (b:Nat) (c:Nat→Nat):∀x,6 < flatC b c x→flatC b c x=9:=fun x hx=>by
 unfold flatC at *;by_cases h1:x < b
 ·rw [if_pos h1] at hx;omega
 ·rw [if_neg h1] at hx ⊢;by_cases h2:c x=0
  ·rw [if_pos h2]
  ·rw [if_neg h2] at hx ⊢;by_cases h3:6 < c x
   ·rw [if_pos h3]
   ·rw [if_neg h3] at hx;omega
theorem flatC_own {b x:Nat} {c:Nat→Nat} (h:b≤x) (h0:c x=0):flatC b c x=9:=by
 unfold flatC;rw [if_neg (by omega),if_pos h0]
theorem flatC_part {b B x k:Nat} {c:Nat→Nat} (hlo:∀x,x < B→c x=0) (hb:b≤B) (h:c x=k) (h1:0 < k) (h6:k≤6):flatC b c x=k:=by
 unfold flatC;rw [if_neg (fun hx=>by have:=hlo x (by omega);omega),if_neg (by omega),if_neg (by omega)];exact h
theorem NO.flat {w:World} {B b:Nat} {n:Nd} {A:Ads} {G:Blks} {c:Nat→Nat} (h:NO w B n A G c) (hb:b≤B):NO w b n A G (flatC b c):=
 ⟨h.k,h.p,own_base h.o hb,h.s,own_base h.r hb,fun x hx=>if_pos hx,fun x hx=>flatC_part h.lo hb (h.ck x hx) (by omega) (by omega),fun x hx=>flatC_part h.lo hb (h.cp x hx) (by omega) (by omega),fun x hx=>flatC_part h.lo hb (h.co x hx) (by omega) (by omega),fun x hx=>flatC_part h.lo hb (h.c4 x hx) (by omega) (by omega),fun x hx=>flatC_part h.lo hb (h.ci x hx) (by omega) (by omega),fun x hx=>flatC_part h.lo hb (h.cr x hx) (by omega) (by omega),h.ni⟩
theorem below_apart {c:Nat→Nat} {w X Y:World} (hX:Below w.heap.size w X) (hb:Below 0 X Y) (hap:Apart c X Y) (hc:∀x,x < w.heap.size+3→c x=9):Below w.heap.size w Y:=
 ⟨hb.os.trans hX.os,hb.tape.trans hX.tape,hb.output.trans hX.output,Nat.le_trans hX.size hb.size,fun x hx=>(hap x (by have:=hX.size;omega) (by rw [hc x (by omega)];omega)).trans (hX.block x hx)⟩
theorem Aft.out {c:Nat→Nat} {w X Y W' W'':World} (h:Aft w W' W'') (hk:KeepsL [w.heap.size+2] Y W') (hX:w.heap.size+2 < X.heap.size) (hc:∀x,x < w.heap.size+3→c x=9):Out c X Y W'':=by
 obtain⟨F,hk2,hF⟩:=h;refine⟨(w.heap.size+2)::F,(hk.mono (fun x hx=>by simp at hx;simp[hx])).trans (hk2.mono (fun x hx=>by simp[hx])),fun y hy=>?_⟩;rcases List.mem_cons.1 hy with h1|h1
 ·rw [h1];exact⟨hX,by rw [hc _ (by omega)];omega⟩
 ·have:=hF y h1;exact⟨by omega,by rw [hc _ (by omega)];omega⟩
theorem Aft.out0 {c:Nat→Nat} {w W' W'':World} (h:Aft w W' W'') (hc:∀x,x < w.heap.size+3→c x=9):Out c w W' W'':=by
 obtain⟨F,hk2,hF⟩:=h;exact⟨F,hk2,fun y hy=>⟨hF y hy,by rw [hc _ (by have:=hF y hy;omega)];omega⟩⟩
set_option maxHeartbeats 8000000
theorem specAdm_stale (n:Nd) (A:Ads) (G:Blks) (c:Nat→Nat) (K no:Int) (k:ByteArray) (nn mK mF mT mI mL:Int) (mk:ByteArray) (mN:Int) (w:World) (B:Nat) (hB:B≤w.heap.size) (h9:∀x,6 < c x→c x=9) (hs:no≤n.old) (h:NO w B n A G c):Calls Tryz.prog 59 #[ndv n A,.agg #[.int .i64 K,.int .i64 no,.string k,.int .i64 nn,.int .i64 mK,.int .i64 mF,.int .i64 mT,.int .i64 mI,.int .i64 mL,.string mk,.int .i64 mN]] w (GivesR w B c (n,2)):=by
 unfold GivesR;have H9:=hide h9;clear h9;have HNO:=hide (h.nine hB);clear h;go_enter Tryz.func59,Tryz.ntmps59
 go_upto_region 1 with fail;refine wp_at (fun W0 hW=>?_);open Sb343 in exact Yb116
theorem specAdm_f0 (n:Nd) (a_k a_p a_o a_s a_r:Option Addr) (a_ck a_cp a_co a_cs a_cr:Nat) (G:Blks) (c:Nat→Nat) (K no:Int) (k:ByteArray) (nn mK mF mT mI mL:Int) (mk:ByteArray) (mN:Int) (w:World) (B:Nat) (hB:B≤w.heap.size) (h9:∀x,6 < c x→c x=9) (i:Nat) (hi:i < n.reqs.length) (hok:reqsB n=true) (hs:¬no≤n.old) (hJ:reqJ n.reqs no=i) (rq:Rq) (hrq:n.reqs[i]=rq) (h1:(rq.s == 0)=false) (h:NO w B n (⟨a_k,a_p,a_o,a_s,a_r,a_ck,a_cp,a_co,a_cs,a_cr⟩:Ads) G c):Calls Tryz.prog 59 #[ndv n (⟨a_k,a_p,a_o,a_s,a_r,a_ck,a_cp,a_co,a_cs,a_cr⟩:Ads),.agg #[.int .i64 K,.int .i64 no,.string k,.int .i64 nn,.int .i64 mK,.int .i64 mF,.int .i64 mT,.int .i64 mI,.int .i64 mL,.string mk,.int .i64 mN]] w (GivesR w B c (n,1)):=by
 open Sb13 in exact Yb2
theorem specAdm_f1 (n:Nd) (a_k a_p a_o a_s a_r:Option Addr) (a_ck a_cp a_co a_cs a_cr:Nat) (G:Blks) (c:Nat→Nat) (K no:Int) (k:ByteArray) (nn mK mF mT mI mL:Int) (mk:ByteArray) (mN:Int) (w:World) (B:Nat) (hB:B≤w.heap.size) (h9:∀x,6 < c x→c x=9) (i:Nat) (hi:i < n.reqs.length) (hok:reqsB n=true) (hs:¬no≤n.old) (hJ:reqJ n.reqs no=i) (rq:Rq) (hrq:n.reqs[i]=rq) (h1:(rq.s == 0)=true) (h2:(rq.k.toList == k.toList)=false) (h:NO w B n (⟨a_k,a_p,a_o,a_s,a_r,a_ck,a_cp,a_co,a_cs,a_cr⟩:Ads) G c):Calls Tryz.prog 59 #[ndv n (⟨a_k,a_p,a_o,a_s,a_r,a_ck,a_cp,a_co,a_cs,a_cr⟩:Ads),.agg #[.int .i64 K,.int .i64 no,.string k,.int .i64 nn,.int .i64 mK,.int .i64 mF,.int .i64 mT,.int .i64 mI,.int .i64 mL,.string mk,.int .i64 mN]] w (GivesR w B c (n,1)):=by
 open Sb12 in exact Yb2
theorem specAdm_f2 (n:Nd) (a_k a_p a_o a_s a_r:Option Addr) (a_ck a_cp a_co a_cs a_cr:Nat) (G:Blks) (c:Nat→Nat) (K no:Int) (k:ByteArray) (nn mK mF mT mI mL:Int) (mk:ByteArray) (mN:Int) (w:World) (B:Nat) (hB:B≤w.heap.size) (h9:∀x,6 < c x→c x=9) (i:Nat) (hi:i < n.reqs.length) (hok:reqsB n=true) (hs:¬no≤n.old) (hJ:reqJ n.reqs no=i) (rq:Rq) (hrq:n.reqs[i]=rq) (h1:(rq.s == 0)=true) (h2:(rq.k.toList == k.toList)=true) (h3:(rq.n == nn)=false) (h:NO w B n (⟨a_k,a_p,a_o,a_s,a_r,a_ck,a_cp,a_co,a_cs,a_cr⟩:Ads) G c):Calls Tryz.prog 59 #[ndv n (⟨a_k,a_p,a_o,a_s,a_r,a_ck,a_cp,a_co,a_cs,a_cr⟩:Ads),.agg #[.int .i64 K,.int .i64 no,.string k,.int .i64 nn,.int .i64 mK,.int .i64 mF,.int .i64 mT,.int .i64 mI,.int .i64 mL,.string mk,.int .i64 mN]] w (GivesR w B c (n,1)):=by
 open Sb11 in exact Yb2
theorem specAdm_f3 (n:Nd) (a_k a_p a_o a_s a_r:Option Addr) (a_ck a_cp a_co a_cs a_cr:Nat) (G:Blks) (c:Nat→Nat) (K no:Int) (k:ByteArray) (nn mK mF mT mI mL:Int) (mk:ByteArray) (mN:Int) (w:World) (B:Nat) (hB:B≤w.heap.size) (h9:∀x,6 < c x→c x=9) (i:Nat) (hi:i < n.reqs.length) (hok:reqsB n=true) (hs:¬no≤n.old) (hJ:reqJ n.reqs no=i) (rq:Rq) (hrq:n.reqs[i]=rq) (h1:(rq.s == 0)=true) (h2:(rq.k.toList == k.toList)=true) (h3:(rq.n == nn)=true) (h:NO w B n (⟨a_k,a_p,a_o,a_s,a_r,a_ck,a_cp,a_co,a_cs,a_cr⟩:Ads) G c):Calls Tryz.prog 59 #[ndv n (⟨a_k,a_p,a_o,a_s,a_r,a_ck,a_cp,a_co,a_cs,a_cr⟩:Ads),.agg #[.int .i64 K,.int .i64 no,.string k,.int .i64 nn,.int .i64 mK,.int .i64 mF,.int .i64 mT,.int .i64 mI,.int .i64 mL,.string mk,.int .i64 mN]] w (GivesR w B c (n,0)):=by
 open Sb10 in exact Yb2
end Go.Proofs.YtppmcficiphgdaaGreatDoor
