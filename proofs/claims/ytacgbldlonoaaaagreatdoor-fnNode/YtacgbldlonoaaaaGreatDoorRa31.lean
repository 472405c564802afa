/- Parts. -/
import Derived.Test.YtacgbldlonoaaaaGreatDoorRa30
namespace Go.Proofs.YtacgbldlonoaaaaGreatDoor
set_option maxHeartbeats 2000000
set_option maxRecDepth 100000
open Go.RowKit
open Mth
theorem yI (K F T I L:Int) (k:ByteArray) (N:Int) (w:World) (_hs:k.size≤maxLen) (hr:jZ F T=false):Calls Tryz.prog 113 #[nX ⟨K,F,T,I,L,k,N⟩] w fun e w'=>e= .returned (.bool (bJ ⟨K,F,T,I,L,k,N⟩))∧Below w.heap.size w w':=by
 cases h1:nY F
 case' false=>
  have HP:=hide (show bJ ⟨K,F,T,I,L,k,N⟩=false by simp[bJ,jZ,h1])
  have H1:=hide (fun w1=>jv F false w1 h1)
  clear h1 hr
  go_enter Tryz.func113,Tryz.ntmps113
  go_wp2_with (first|(go_at_call_of 134 F;refine(H1 _).mono ?_;rintro e w1 ⟨rfl,rfl⟩))
  go_ret
  exact⟨aD HP.symm,au w _⟩
 have H1:=hide (fun w1=>jv F true w1 h1);cases h2:nY T
 case' false=>
  have HP:=hide (show bJ ⟨K,F,T,I,L,k,N⟩=false by simp[bJ,jZ,h2])
  have H2:=hide (fun w1=>jv T false w1 h2)
  clear h1 h2 hr
  go_enter Tryz.func113,Tryz.ntmps113
  go_wp2_with (first|(go_at_call_of 134 F;refine(H1 _).mono ?_;rintro e w1 ⟨rfl,rfl⟩)|(go_at_call_of 134 T;refine(H2 _).mono ?_;rintro e w1 ⟨rfl,rfl⟩))
  go_ret
  exact⟨aD HP.symm,au w _⟩
 have H2:=hide (fun w1=>jv T true w1 h2)
 have hft:F=T:=by
  rcases Decidable.em (F=T) with h|h
  ·exact h
  ·simp[jZ,h1,h2,h] at hr
 have HP:=hide (show bJ ⟨K,F,T,I,L,k,N⟩=false by simp[bJ,jZ,hft]);clear h1 h2 hr;subst hft;go_enter Tryz.func113,Tryz.ntmps113
 go_wp2_with (first|(go_at_call_of 134 F;refine(H1 _).mono ?_;rintro e w1 ⟨rfl,rfl⟩))
 exact Nn
theorem Ap (_K F T I L:Int) (k:ByteArray) (N:Int) (w:World) (hs:k.size≤maxLen) (hr:jZ F T=true):Calls Tryz.prog 113 #[nX ⟨0,F,T,I,L,k,N⟩] w fun e w'=>e= .returned (.bool (bJ ⟨0,F,T,I,L,k,N⟩))∧Below w.heap.size w w':=by
 open aei in exact Ve
theorem BX (_K F T I L:Int) (k:ByteArray) (N:Int) (w:World) (hs:k.size≤maxLen) (hr:jZ F T=true):Calls Tryz.prog 113 #[nX ⟨1,F,T,I,L,k,N⟩] w fun e w'=>e= .returned (.bool (bJ ⟨1,F,T,I,L,k,N⟩))∧Below w.heap.size w w':=by
 open aeh in exact Ve
theorem BU (_K F T I L:Int) (k:ByteArray) (N:Int) (w:World) (hs:k.size≤maxLen) (hr:jZ F T=true):Calls Tryz.prog 113 #[nX ⟨2,F,T,I,L,k,N⟩] w fun e w'=>e= .returned (.bool (bJ ⟨2,F,T,I,L,k,N⟩))∧Below w.heap.size w w':=by
 open aeg in exact Ve
theorem Ao (K F T I L:Int) (k:ByteArray) (N:Int) (w:World) (_hs:k.size≤maxLen) (hr:jZ F T=true) (k0:¬K=0) (k1:¬K=1) (k2:¬K=2):Calls Tryz.prog 113 #[nX ⟨K,F,T,I,L,k,N⟩] w fun e w'=>e= .returned (.bool (bJ ⟨K,F,T,I,L,k,N⟩))∧Below w.heap.size w w':=by
 open aef in exact Ve
theorem kN (m:Mg) (w:World) (hs:m.k.size≤maxLen):Calls Tryz.prog 113 #[nX m] w fun e w'=>e= .returned (.bool (bJ m))∧Below w.heap.size w w':=by
 obtain⟨K,F,T,I,L,k,N⟩:=m;cases hr:jZ F T
 ·exact yI K F T I L k N w hs hr
 by_cases k0:K=0
 ·subst k0;exact Ap 0 F T I L k N w hs hr
 by_cases k1:K=1
 ·subst k1;exact BX 0 F T I L k N w hs hr
 by_cases k2:K=2
 ·subst k2;exact BU 0 F T I L k N w hs hr
 exact Ao K F T I L k N w hs hr k0 k1 k2
set_option maxHeartbeats 8000000
theorem BP (n:Nd) (A:bE) (G:aU) (c:Nat→Nat) (mK mF mT mI mL:Int) (mk:ByteArray) (mN:Int) (w:World) (B:Nat) (hB:B≤w.heap.size) (h9:∀x,6 < c x→c x=9) (hkl:n.kids.length≤1048600) (hmk:mk.size≤1048576) (hmo:bJ ⟨mK,mF,mT,mI,mL,mk,mN⟩=true) (h1:mT≠n.id) (h:NQ w B n A G c):Calls Tryz.prog 41 #[gu n A,.agg #[.int .i64 mK,.int .i64 mF,.int .i64 mT,.int .i64 mI,.int .i64 mL,.string mk,.int .i64 mN]] w (dZ w B c (n,[],3)):=by
 have q0:(mT != n.id)=true:=by simpa using h1
 have q0':(mT == n.id)=false:=by simpa using h1
 unfold dZ;have H9:=hide h9;clear h9;have PY:=hide (fun W=>kN ⟨mK,mF,mT,mI,mL,mk,mN⟩ W (by unfold maxLen;dsimp only;omega));rw [hmo] at PY;unfold nX at PY;have Js:=hide (fun W (ha:dK W A.k n.kids)=>Aq n A mF W hkl ha);clear hmo;have jY:=hide (h.nine hB);clear h;go_enter Tryz.func41,Tryz.ntmps41
 go_upto_region 1 with fail;refine wp_at (fun W0 hW=>?_);obtain⟨e1,e2,e3,e4⟩:=eT w (.cells (fZ n A) 30) (.cells #[.int .i64 mK,.int .i64 mF,.int .i64 mT,.int .i64 mI,.int .i64 mL,.string mk,.int .i64 mN] 32) (.cells iO 30);open afD in exact amj
theorem BN (n:Nd) (A:bE) (G:aU) (c:Nat→Nat) (mK mF mT mI mL:Int) (mk:ByteArray) (mN:Int) (w:World) (B:Nat) (hB:B≤w.heap.size) (h9:∀x,6 < c x→c x=9) (hkl:n.kids.length≤1048600) (hmk:mk.size≤1048576) (hmo:bJ ⟨mK,mF,mT,mI,mL,mk,mN⟩=true) (h1:mT=n.id) (h2:dB n mF=false) (h:NQ w B n A G c):Calls Tryz.prog 41 #[gu n A,.agg #[.int .i64 mK,.int .i64 mF,.int .i64 mT,.int .i64 mI,.int .i64 mL,.string mk,.int .i64 mN]] w (dZ w B c (n,[],3)):=by
 open alm in exact Gh
theorem I9 (n:Nd) (A:bE) (G:aU) (c:Nat→Nat) (mK mF mT mI mL:Int) (mk:ByteArray) (mN:Int) (w:World) (B:Nat) (hB:B≤w.heap.size) (h9:∀x,6 < c x→c x=9) (hkl:n.kids.length≤1048600) (hmk:mk.size≤1048576) (hmo:bJ ⟨mK,mF,mT,mI,mL,mk,mN⟩=true) (h1:mT=n.id) (h2:dB n mF=true) (h3:mK=0) (h4:mF=n.par) (h:NQ w B n A G c):Calls Tryz.prog 41 #[gu n A,.agg #[.int .i64 mK,.int .i64 mF,.int .i64 mT,.int .i64 mI,.int .i64 mL,.string mk,.int .i64 mN]] w (dZ w B c (n,[],1)):=by
 open alk in exact Gh
theorem BQ (n:Nd) (A:bE) (G:aU) (c:Nat→Nat) (mK mF mT mI mL:Int) (mk:ByteArray) (mN:Int) (w:World) (B:Nat) (hB:B≤w.heap.size) (h9:∀x,6 < c x→c x=9) (hkl:n.kids.length≤1048600) (hmk:mk.size≤1048576) (hmo:bJ ⟨mK,mF,mT,mI,mL,mk,mN⟩=true) (hz:eH n 1048576) (hP:∃g,A.p=some ⟨g,0,none⟩) (qd:n.pu.length≤A.cp) (h0:0≤n.next) (h1:mT=n.id) (h2:dB n mF=true) (h3:mK=0) (h4:mF≠n.par) (h:NQ w B n A G c):Calls Tryz.prog 41 #[gu n A,.agg #[.int .i64 mK,.int .i64 mF,.int .i64 mT,.int .i64 mI,.int .i64 mL,.string mk,.int .i64 mN]] w (dZ w B c ((dV n mF mk mN).1,(dV n mF mk mN).2.1,0)):=by
 open alj in exact Gh
set_option maxHeartbeats 4000000
theorem Ce (no:Int) (k:ByteArray) (n:Int) (m:Mg) (w:World) (hs:k.size≤maxLen):Calls Tryz.prog 36 #[jH ⟨0,no,k,n,m⟩] w fun e w'=>e= .returned (.bool (bX ⟨0,no,k,n,m⟩))∧Below w.heap.size w w':=by
 obtain⟨mK,mF,mT,mI,mL,mk,mN⟩:=m;obtain⟨R,hR⟩:∃R,bX ⟨0,no,k,n,⟨mK,mF,mT,mI,mL,mk,mN⟩⟩=R:=⟨_,rfl⟩;exact aaU
theorem Ch (no:Int) (k:ByteArray) (n:Int) (m:Mg) (w:World) (hs:k.size≤maxLen):Calls Tryz.prog 36 #[jH ⟨3,no,k,n,m⟩] w fun e w'=>e= .returned (.bool (bX ⟨3,no,k,n,m⟩))∧Below w.heap.size w w':=by
 obtain⟨mK,mF,mT,mI,mL,mk,mN⟩:=m;obtain⟨R,hR⟩:∃R,bX ⟨3,no,k,n,⟨mK,mF,mT,mI,mL,mk,mN⟩⟩=R:=⟨_,rfl⟩;exact aaU
theorem BZ (no:Int) (k:ByteArray) (n:Int) (m:Mg) (w:World) (hs:k.size≤maxLen):Calls Tryz.prog 36 #[jH ⟨4,no,k,n,m⟩] w fun e w'=>e= .returned (.bool (bX ⟨4,no,k,n,m⟩))∧Below w.heap.size w w':=by
 obtain⟨mK,mF,mT,mI,mL,mk,mN⟩:=m;obtain⟨R,hR⟩:∃R,bX ⟨4,no,k,n,⟨mK,mF,mT,mI,mL,mk,mN⟩⟩=R:=⟨_,rfl⟩;exact aaU
theorem Au (no:Int) (k:ByteArray) (n:Int) (m:Mg) (w:World) (hs:k.size≤maxLen):Calls Tryz.prog 36 #[jH ⟨1,no,k,n,m⟩] w fun e w'=>e= .returned (.bool (bX ⟨1,no,k,n,m⟩))∧Below w.heap.size w w':=by
 obtain⟨mK,mF,mT,mI,mL,mk,mN⟩:=m;obtain⟨R,hR⟩:∃R,bX ⟨1,no,k,n,⟨mK,mF,mT,mI,mL,mk,mN⟩⟩=R:=⟨_,rfl⟩;rw [hR];have HR:=hide hR;clear hR;cases hk:keyOk k.data.toList
 ·have HK:=hide (fun w1=>jS k false w1 hs hk);cases hn:eD n
  ·have HN:=hide (fun w1=>dM n false w1 hn);cases ho:eD no
   ·have HO:=hide (fun w1=>dM no false w1 ho);have HP:=hide (show R=(false&&false&&false&&jV ⟨mK,mF,mT,mI,mL,mk,mN⟩) by rw [←ah HR];simp[bX,hk,hn,ho]);exact Gj
   ·have HO:=hide (fun w1=>dM no true w1 ho);have HP:=hide (show R=(false&&false&&true&&jV ⟨mK,mF,mT,mI,mL,mk,mN⟩) by rw [←ah HR];simp[bX,hk,hn,ho]);exact Gj
  ·have HN:=hide (fun w1=>dM n true w1 hn);cases ho:eD no
   ·have HO:=hide (fun w1=>dM no false w1 ho);have HP:=hide (show R=(false&&true&&false&&jV ⟨mK,mF,mT,mI,mL,mk,mN⟩) by rw [←ah HR];simp[bX,hk,hn,ho]);exact Gj
   ·have HO:=hide (fun w1=>dM no true w1 ho);have HP:=hide (show R=(false&&true&&true&&jV ⟨mK,mF,mT,mI,mL,mk,mN⟩) by rw [←ah HR];simp[bX,hk,hn,ho]);exact Gj
 ·have HK:=hide (fun w1=>jS k true w1 hs hk);cases hn:eD n
  ·have HN:=hide (fun w1=>dM n false w1 hn);cases ho:eD no
   ·have HO:=hide (fun w1=>dM no false w1 ho);have HP:=hide (show R=(true&&false&&false&&jV ⟨mK,mF,mT,mI,mL,mk,mN⟩) by rw [←ah HR];simp[bX,hk,hn,ho]);exact Gj
   ·have HO:=hide (fun w1=>dM no true w1 ho);have HP:=hide (show R=(true&&false&&true&&jV ⟨mK,mF,mT,mI,mL,mk,mN⟩) by rw [←ah HR];simp[bX,hk,hn,ho]);exact Gj
  ·have HN:=hide (fun w1=>dM n true w1 hn);cases ho:eD no
   ·have HO:=hide (fun w1=>dM no false w1 ho);have HP:=hide (show R=(true&&true&&false&&jV ⟨mK,mF,mT,mI,mL,mk,mN⟩) by rw [←ah HR];simp[bX,hk,hn,ho]);exact Gj
   ·have HO:=hide (fun w1=>dM no true w1 ho);have HP:=hide (show R=(true&&true&&true&&jV ⟨mK,mF,mT,mI,mL,mk,mN⟩) by rw [←ah HR];simp[bX,hk,hn,ho]);exact Gj
theorem xG (no:Int) (k:ByteArray) (n:Int) (m:Mg) (w:World) (_hs:k.size≤maxLen):Calls Tryz.prog 36 #[jH ⟨2,no,k,n,m⟩] w fun e w'=>e= .returned (.bool (bX ⟨2,no,k,n,m⟩))∧Below w.heap.size w w':=by
 obtain⟨mK,mF,mT,mI,mL,mk,mN⟩:=m;obtain⟨R,hR⟩:∃R,bX ⟨2,no,k,n,⟨mK,mF,mT,mI,mL,mk,mN⟩⟩=R:=⟨_,rfl⟩;rw [hR];have HR:=hide hR;clear hR;cases ho:eD no
 ·have HO:=hide (fun w1=>dM no false w1 ho);have HP:=hide (show R=(decide (k.toList=[])&&decide (n=0)&&false&&jV ⟨mK,mF,mT,mI,mL,mk,mN⟩) by rw [←ah HR];simp[bX,ho]);exact am3
 ·have HO:=hide (fun w1=>dM no true w1 ho);have HP:=hide (show R=(decide (k.toList=[])&&decide (n=0)&&true&&jV ⟨mK,mF,mT,mI,mL,mk,mN⟩) by rw [←ah HR];simp[bX,ho]);exact am3
theorem Cg (no:Int) (k:ByteArray) (n:Int) (m:Mg) (w:World) (_hs:k.size≤maxLen):Calls Tryz.prog 36 #[jH ⟨5,no,k,n,m⟩] w fun e w'=>e= .returned (.bool (bX ⟨5,no,k,n,m⟩))∧Below w.heap.size w w':=by
 open ajd in exact XQ
theorem Cc (no:Int) (k:ByteArray) (n:Int) (m:Mg) (w:World) (hm:m.k.size≤maxLen):Calls Tryz.prog 36 #[jH ⟨6,no,k,n,m⟩] w fun e w'=>e= .returned (.bool (bX ⟨6,no,k,n,m⟩))∧Below w.heap.size w w':=by
 have HM:=hide (fun w1=>kN m w1 hm);open ajQ in exact Yc
theorem Cb (K no:Int) (k:ByteArray) (n:Int) (m:Mg) (w:World) (h0:¬K=0) (h1:¬K=1) (h2:¬K=2) (h3:¬K=3) (h4:¬K=4) (h5:¬K=5) (h6:¬K=6):Calls Tryz.prog 36 #[jH ⟨K,no,k,n,m⟩] w fun e w'=>e= .returned (.bool (bX ⟨K,no,k,n,m⟩))∧Below w.heap.size w w':=by
 have HP:=hide (show bX ⟨K,no,k,n,m⟩=false by simp[bX,h0,h1,h2,h3,h4,h5,h6]);obtain⟨mK,mF,mT,mI,mL,mk,mN⟩:=m;go_enter Tryz.func36,Tryz.ntmps36
 go_wp2_with fail;exact Nn
theorem iW (o:jE) (w:World) (hs:o.k.size≤maxLen) (hm:o.m.k.size≤maxLen):Calls Tryz.prog 36 #[jH o] w fun e w'=>e= .returned (.bool (bX o))∧Below w.heap.size w w':=by
 obtain⟨K,no,k,n,m⟩:=o;by_cases h0:K=0
 ·subst h0;exact Ce no k n m w hs
 by_cases h1:K=1
 ·subst h1;exact Au no k n m w hs
 by_cases h2:K=2
 ·subst h2;exact xG no k n m w hs
 by_cases h3:K=3
 ·subst h3;exact Ch no k n m w hs
 by_cases h4:K=4
 ·subst h4;exact BZ no k n m w hs
 by_cases h5:K=5
 ·subst h5;exact Cg no k n m w hs
 by_cases h6:K=6
 ·subst h6;exact Cc no k n m w hm
 exact Cb K no k n m w h0 h1 h2 h3 h4 h5 h6
set_option maxHeartbeats 8000000
def Dx (w W' W'':World):Prop:=∃F,aC F W' W''∧∀x∈F,x < w.heap.size
theorem Dx.refl {w W':World}:Dx w W' W':=⟨[],aC.refl _ _,fun x hx=>by simp at hx⟩
theorem Dx.kc {c:Nat→Nat} {k:Nat} {w W' W'':World} (h:Dx w W' W'') (hc:∀x,x < w.heap.size→c x=k):KC c k W' W'':=by
 obtain⟨F,hk,hF⟩:=h;exact KC.keeps hk (fun x hx=>hc x (hF x hx))
theorem NQ.kc0 {w w':World} {B:Nat} {n:Nd} {A:bE} {G:aU} {c:Nat→Nat} (h:NQ w B n A G c) (hk:KC c 0 w w'):NQ w' B n A G c:=⟨h.toNO.kc0 hk,hk.seenQ h.sq h.c4 h.ci (by omega) (by omega)⟩
def jw (w:World) (R:Nd×List Mg×Int) (e:Ending) (w':World):Prop:=∃A' a cp,e= .returned (.tuple #[gu R.1 A',.slice a R.2.1.length cp,.int .i64 R.2.2])∧(∀W'',Dx w w' W''→RM W'' A' R.1)∧(∀W'',Dx w w' W''→GR.At gX 7 W'' a R.2.1)∧Below w.heap.size w w'
theorem IK (n:Nd) (A:bE) (K no:Int) (k:ByteArray) (nn mK mF mT mI mL:Int) (mk:ByteArray) (mN:Int) (w:World) (hz:eH n 1048576) (hok:dG n=false) (ha:dQ w A n):Calls Tryz.prog 9 #[gu n A,.agg #[.int .i64 K,.int .i64 no,.string k,.int .i64 nn,.int .i64 mK,.int .i64 mF,.int .i64 mT,.int .i64 mI,.int .i64 mL,.string mk,.int .i64 mN]] w (jw w (n,[],3)):=by
 open aew in exact wR
theorem IL (n:Nd) (A:bE) (K no:Int) (k:ByteArray) (nn mK mF mT mI mL:Int) (mk:ByteArray) (mN:Int) (w:World) (hz:eH n 1048576) (hk:k.size≤1048576) (hmk:mk.size≤1048576) (hok:dG n=true) (hop:bX ⟨K,no,k,nn,⟨mK,mF,mT,mI,mL,mk,mN⟩⟩=false) (ha:dQ w A n):Calls Tryz.prog 9 #[gu n A,.agg #[.int .i64 K,.int .i64 no,.string k,.int .i64 nn,.int .i64 mK,.int .i64 mF,.int .i64 mT,.int .i64 mI,.int .i64 mL,.string mk,.int .i64 mN]] w (jw w (n,[],3)):=by
 open aev in exact wR
def sJ (b:Nat) (c:Nat→Nat):Nat→Nat:=fun x=>if x < b then 0 else if c x=0 then 9 else if 6 < c x then 9 else c x
theorem Rh (b:Nat) (c:Nat→Nat):∀x,6 < sJ b c x→sJ b c x=9:=fun x hx=>by
 unfold sJ at *;by_cases h1:x < b
 ·rw [if_pos h1] at hx;omega
 ·rw [if_neg h1] at hx ⊢;by_cases h2:c x=0
  ·rw [if_pos h2]
  ·rw [if_neg h2] at hx ⊢;by_cases h3:6 < c x
   ·rw [if_pos h3]
   ·rw [if_neg h3] at hx;omega
theorem Ns {b x:Nat} {c:Nat→Nat} (h:b≤x) (h0:c x=0):sJ b c x=9:=by
 unfold sJ;rw [if_neg (by omega),if_pos h0]
theorem kD {b B x k:Nat} {c:Nat→Nat} (hlo:∀x,x < B→c x=0) (hb:b≤B) (h:c x=k) (h1:0 < k) (h6:k≤6):sJ b c x=k:=by
 unfold sJ;rw [if_neg (fun hx=>by have:=hlo x (by omega);omega),if_neg (by omega),if_neg (by omega)];exact h
theorem NO.flat {w:World} {B b:Nat} {n:Nd} {A:bE} {G:aU} {c:Nat→Nat} (h:NO w B n A G c) (hb:b≤B):NO w b n A G (sJ b c):=
 ⟨h.k,h.p,iF h.o hb,h.s,iF h.r hb,fun x hx=>if_pos hx,fun x hx=>kD h.lo hb (h.ck x hx) (by omega) (by omega),fun x hx=>kD h.lo hb (h.cp x hx) (by omega) (by omega),fun x hx=>kD h.lo hb (h.co x hx) (by omega) (by omega),fun x hx=>kD h.lo hb (h.c4 x hx) (by omega) (by omega),fun x hx=>kD h.lo hb (h.ci x hx) (by omega) (by omega),fun x hx=>kD h.lo hb (h.cr x hx) (by omega) (by omega),h.ni⟩
theorem NQ.flat {w:World} {B b:Nat} {n:Nd} {A:bE} {G:aU} {c:Nat→Nat} (h:NQ w B n A G c) (hb:b≤B):NQ w b n A G (sJ b c):=⟨h.toNO.flat hb,h.sq⟩
theorem Gq {c:Nat→Nat} {w X Y:World} (hX:Below w.heap.size w X) (hb:Below 0 X Y) (hap:Apart c X Y) (hc:∀x,x < w.heap.size+3→c x=9):Below w.heap.size w Y:=
 ⟨hb.os.trans hX.os,hb.tape.trans hX.tape,hb.output.trans hX.output,Nat.le_trans hX.size hb.size,fun x hx=>(hap x (by have:=hX.size;omega) (by rw [hc x (by omega)];omega)).trans (hX.block x hx)⟩
theorem Dx.out {c:Nat→Nat} {w X Y W' W'':World} (h:Dx w W' W'') (hk:aC [w.heap.size+2] Y W') (hX:w.heap.size+2 < X.heap.size) (hc:∀x,x < w.heap.size+3→c x=9):Out c X Y W'':=by
 obtain⟨F,hk2,hF⟩:=h;refine⟨(w.heap.size+2)::F,(hk.mono (fun x hx=>by simp at hx;simp[hx])).trans (hk2.mono (fun x hx=>by simp[hx])),fun y hy=>?_⟩;rcases List.mem_cons.1 hy with h1|h1
 ·rw [h1];exact⟨hX,by rw [hc _ (by omega)];omega⟩
 ·have:=hF y h1;exact⟨by omega,by rw [hc _ (by omega)];omega⟩
theorem Dx.out0 {c:Nat→Nat} {w W' W'':World} (h:Dx w W' W'') (hc:∀x,x < w.heap.size+3→c x=9):Out c w W' W'':=by
 obtain⟨F,hk2,hF⟩:=h;exact⟨F,hk2,fun y hy=>⟨hF y hy,by rw [hc _ (by have:=hF y hy;omega)];omega⟩⟩
set_option maxHeartbeats 8000000
theorem BK (n:Nd) (A:bE) (G:aU) (c:Nat→Nat) (K no:Int) (k:ByteArray) (nn mK mF mT mI mL:Int) (mk:ByteArray) (mN:Int) (w:World) (B:Nat) (hB:B≤w.heap.size) (h9:∀x,6 < c x→c x=9) (hs:no≤n.old) (h:NQ w B n A G c):Calls Tryz.prog 39 #[gu n A,.agg #[.int .i64 K,.int .i64 no,.string k,.int .i64 nn,.int .i64 mK,.int .i64 mF,.int .i64 mT,.int .i64 mI,.int .i64 mL,.string mk,.int .i64 mN]] w (gG w B c (n,2)):=by
 unfold gG;have H9:=hide h9;clear h9;have jY:=hide (h.nine hB);clear h;go_enter Tryz.func39,Tryz.ntmps39
 go_upto_region 1 with fail;refine wp_at (fun W0 hW=>?_);open akJ in exact Yt
theorem KD (n:Nd) (a_k iy dA dJ fq:Option Addr) (aI bf aM aJ aQ:Nat) (G:aU) (c:Nat→Nat) (K no:Int) (k:ByteArray) (nn mK mF mT mI mL:Int) (mk:ByteArray) (mN:Int) (w:World) (B:Nat) (hB:B≤w.heap.size) (h9:∀x,6 < c x→c x=9) (i:Nat) (hi:i < n.reqs.length) (hok:fQ n=true) (hs:¬no≤n.old) (hJ:oq n.reqs no=i) (rq:Rq) (hrq:n.reqs[i]=rq) (h1:(rq.s == 0)=false) (h:NQ w B n (⟨a_k,iy,dA,dJ,fq,aI,bf,aM,aJ,aQ⟩:bE) G c):Calls Tryz.prog 39 #[gu n (⟨a_k,iy,dA,dJ,fq,aI,bf,aM,aJ,aQ⟩:bE),.agg #[.int .i64 K,.int .i64 no,.string k,.int .i64 nn,.int .i64 mK,.int .i64 mF,.int .i64 mT,.int .i64 mI,.int .i64 mL,.string mk,.int .i64 mN]] w (gG w B c (n,1)):=by
 open aoz in exact Ya3
theorem KF (n:Nd) (a_k iy dA dJ fq:Option Addr) (aI bf aM aJ aQ:Nat) (G:aU) (c:Nat→Nat) (K no:Int) (k:ByteArray) (nn mK mF mT mI mL:Int) (mk:ByteArray) (mN:Int) (w:World) (B:Nat) (hB:B≤w.heap.size) (h9:∀x,6 < c x→c x=9) (i:Nat) (hi:i < n.reqs.length) (hok:fQ n=true) (hs:¬no≤n.old) (hJ:oq n.reqs no=i) (rq:Rq) (hrq:n.reqs[i]=rq) (h1:(rq.s == 0)=true) (h2:(rq.k.toList == k.toList)=false) (h:NQ w B n (⟨a_k,iy,dA,dJ,fq,aI,bf,aM,aJ,aQ⟩:bE) G c):Calls Tryz.prog 39 #[gu n (⟨a_k,iy,dA,dJ,fq,aI,bf,aM,aJ,aQ⟩:bE),.agg #[.int .i64 K,.int .i64 no,.string k,.int .i64 nn,.int .i64 mK,.int .i64 mF,.int .i64 mT,.int .i64 mI,.int .i64 mL,.string mk,.int .i64 mN]] w (gG w B c (n,1)):=by
 open aoy in exact Ya3
theorem KG (n:Nd) (a_k iy dA dJ fq:Option Addr) (aI bf aM aJ aQ:Nat) (G:aU) (c:Nat→Nat) (K no:Int) (k:ByteArray) (nn mK mF mT mI mL:Int) (mk:ByteArray) (mN:Int) (w:World) (B:Nat) (hB:B≤w.heap.size) (h9:∀x,6 < c x→c x=9) (i:Nat) (hi:i < n.reqs.length) (hok:fQ n=true) (hs:¬no≤n.old) (hJ:oq n.reqs no=i) (rq:Rq) (hrq:n.reqs[i]=rq) (h1:(rq.s == 0)=true) (h2:(rq.k.toList == k.toList)=true) (h3:(rq.n == nn)=false) (h:NQ w B n (⟨a_k,iy,dA,dJ,fq,aI,bf,aM,aJ,aQ⟩:bE) G c):Calls Tryz.prog 39 #[gu n (⟨a_k,iy,dA,dJ,fq,aI,bf,aM,aJ,aQ⟩:bE),.agg #[.int .i64 K,.int .i64 no,.string k,.int .i64 nn,.int .i64 mK,.int .i64 mF,.int .i64 mT,.int .i64 mI,.int .i64 mL,.string mk,.int .i64 mN]] w (gG w B c (n,1)):=by
 open aox in exact Ya3
theorem KH (n:Nd) (a_k iy dA dJ fq:Option Addr) (aI bf aM aJ aQ:Nat) (G:aU) (c:Nat→Nat) (K no:Int) (k:ByteArray) (nn mK mF mT mI mL:Int) (mk:ByteArray) (mN:Int) (w:World) (B:Nat) (hB:B≤w.heap.size) (h9:∀x,6 < c x→c x=9) (i:Nat) (hi:i < n.reqs.length) (hok:fQ n=true) (hs:¬no≤n.old) (hJ:oq n.reqs no=i) (rq:Rq) (hrq:n.reqs[i]=rq) (h1:(rq.s == 0)=true) (h2:(rq.k.toList == k.toList)=true) (h3:(rq.n == nn)=true) (h:NQ w B n (⟨a_k,iy,dA,dJ,fq,aI,bf,aM,aJ,aQ⟩:bE) G c):Calls Tryz.prog 39 #[gu n (⟨a_k,iy,dA,dJ,fq,aI,bf,aM,aJ,aQ⟩:bE),.agg #[.int .i64 K,.int .i64 no,.string k,.int .i64 nn,.int .i64 mK,.int .i64 mF,.int .i64 mT,.int .i64 mI,.int .i64 mL,.string mk,.int .i64 mN]] w (gG w B c (n,0)):=by
 open aow in exact Ya3
end Go.Proofs.YtacgbldlonoaaaaGreatDoor
