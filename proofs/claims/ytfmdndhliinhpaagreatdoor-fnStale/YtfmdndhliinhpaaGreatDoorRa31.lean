/- Parts. -/
import Derived.Test.YtfmdndhliinhpaaGreatDoorRa30
namespace Go.Proofs.YtfmdndhliinhpaaGreatDoor
set_option maxHeartbeats 2000000
set_option maxRecDepth 100000
open Go.RowKit
open Mth
theorem zY (K F T I L:Int) (k:ByteArray) (N:Int) (w:World) (_hs:k.size≤maxLen) (hr:lI F T=false):Calls Tryz.prog 91 #[qd ⟨K,F,T,I,L,k,N⟩] w fun e w'=>e= .returned (.bool (dw ⟨K,F,T,I,L,k,N⟩))∧Below w.heap.size w w':=by
 cases h1:pE F
 case' false=>
  have HP:=hide (show dw ⟨K,F,T,I,L,k,N⟩=false by simp[dw,lI,h1])
  have H1:=hide (fun w1=>jS F false w1 h1)
  clear h1 hr
  go_enter Tryz.func91,Tryz.ntmps91
  go_wp2_with (first|(go_at_call_of 53 F;refine(H1 _).mono ?_;rintro e w1 ⟨rfl,rfl⟩))
  go_ret
  exact⟨aD HP.symm,ay w _⟩
 have H1:=hide (fun w1=>jS F true w1 h1);cases h2:pE T
 case' false=>
  have HP:=hide (show dw ⟨K,F,T,I,L,k,N⟩=false by simp[dw,lI,h2])
  have H2:=hide (fun w1=>jS T false w1 h2)
  clear h1 h2 hr
  go_enter Tryz.func91,Tryz.ntmps91
  go_wp2_with (first|(go_at_call_of 53 F;refine(H1 _).mono ?_;rintro e w1 ⟨rfl,rfl⟩)|(go_at_call_of 53 T;refine(H2 _).mono ?_;rintro e w1 ⟨rfl,rfl⟩))
  go_ret
  exact⟨aD HP.symm,ay w _⟩
 have H2:=hide (fun w1=>jS T true w1 h2)
 have hft:F=T:=by
  rcases Decidable.em (F=T) with h|h
  ·exact h
  ·simp[lI,h1,h2,h] at hr
 have HP:=hide (show dw ⟨K,F,T,I,L,k,N⟩=false by simp[dw,lI,hft]);clear h1 h2 hr;subst hft;go_enter Tryz.func91,Tryz.ntmps91
 go_wp2_with (first|(go_at_call_of 53 F;refine(H1 _).mono ?_;rintro e w1 ⟨rfl,rfl⟩))
 exact PK
theorem Ce (_K F T I L:Int) (k:ByteArray) (N:Int) (w:World) (hs:k.size≤maxLen) (hr:lI F T=true):Calls Tryz.prog 91 #[qd ⟨0,F,T,I,L,k,N⟩] w fun e w'=>e= .returned (.bool (dw ⟨0,F,T,I,L,k,N⟩))∧Below w.heap.size w w':=by
 open ahg in exact XK
theorem Dy (_K F T I L:Int) (k:ByteArray) (N:Int) (w:World) (hs:k.size≤maxLen) (hr:lI F T=true):Calls Tryz.prog 91 #[qd ⟨1,F,T,I,L,k,N⟩] w fun e w'=>e= .returned (.bool (dw ⟨1,F,T,I,L,k,N⟩))∧Below w.heap.size w w':=by
 open ahf in exact XK
theorem Dx (_K F T I L:Int) (k:ByteArray) (N:Int) (w:World) (hs:k.size≤maxLen) (hr:lI F T=true):Calls Tryz.prog 91 #[qd ⟨2,F,T,I,L,k,N⟩] w fun e w'=>e= .returned (.bool (dw ⟨2,F,T,I,L,k,N⟩))∧Below w.heap.size w w':=by
 open ahe in exact XK
theorem Cc (K F T I L:Int) (k:ByteArray) (N:Int) (w:World) (_hs:k.size≤maxLen) (hr:lI F T=true) (k0:¬K=0) (k1:¬K=1) (k2:¬K=2):Calls Tryz.prog 91 #[qd ⟨K,F,T,I,L,k,N⟩] w fun e w'=>e= .returned (.bool (dw ⟨K,F,T,I,L,k,N⟩))∧Below w.heap.size w w':=by
 open ahd in exact XK
theorem lX (m:Mg) (w:World) (hs:m.k.size≤maxLen):Calls Tryz.prog 91 #[qd m] w fun e w'=>e= .returned (.bool (dw m))∧Below w.heap.size w w':=by
 obtain⟨K,F,T,I,L,k,N⟩:=m;cases hr:lI F T
 ·exact zY K F T I L k N w hs hr
 by_cases k0:K=0
 ·subst k0;exact Ce 0 F T I L k N w hs hr
 by_cases k1:K=1
 ·subst k1;exact Dy 0 F T I L k N w hs hr
 by_cases k2:K=2
 ·subst k2;exact Dx 0 F T I L k N w hs hr
 exact Cc K F T I L k N w hs hr k0 k1 k2
set_option maxHeartbeats 8000000
theorem Du (n:Nd) (A:bQ) (G:aX) (c:Nat→Nat) (mK mF mT mI mL:Int) (mk:ByteArray) (mN:Int) (w:World) (B:Nat) (hB:B≤w.heap.size) (h9:∀x,6 < c x→c x=9) (hkl:n.kids.length≤1048600) (hmk:mk.size≤1048576) (hmo:dw ⟨mK,mF,mT,mI,mL,mk,mN⟩=true) (h1:mT≠n.id) (h:NQ w B n A G c):Calls Tryz.prog 63 #[fU n A,.agg #[.int .i64 mK,.int .i64 mF,.int .i64 mT,.int .i64 mI,.int .i64 mL,.string mk,.int .i64 mN]] w (eT w B c (n,[],3)):=by
 have q0:(mT != n.id)=true:=by simpa using h1
 have q0':(mT == n.id)=false:=by simpa using h1
 unfold eT;have H9:=hide h9;clear h9;have RJ:=hide (fun W=>lX ⟨mK,mF,mT,mI,mL,mk,mN⟩ W (by unfold maxLen;dsimp only;omega));rw [hmo] at RJ;unfold qd at RJ;have Hq:=hide (fun W (ha:dM W A.k n.kids)=>xE n A mF W hkl ha);clear hmo;have l7:=hide (h.nine hB);clear h;go_enter Tryz.func63,Tryz.ntmps63
 go_upto_region 1 with fail;refine wp_at (fun W0 hW=>?_);obtain⟨e1,e2,e3,e4⟩:=fJ w (.cells (fO n A) 30) (.cells #[.int .i64 mK,.int .i64 mF,.int .i64 mT,.int .i64 mI,.int .i64 mL,.string mk,.int .i64 mN] 32) (.cells iV 30);open aiK in exact ap6
theorem Dt (n:Nd) (A:bQ) (G:aX) (c:Nat→Nat) (mK mF mT mI mL:Int) (mk:ByteArray) (mN:Int) (w:World) (B:Nat) (hB:B≤w.heap.size) (h9:∀x,6 < c x→c x=9) (hkl:n.kids.length≤1048600) (hmk:mk.size≤1048576) (hmo:dw ⟨mK,mF,mT,mI,mL,mk,mN⟩=true) (h1:mT=n.id) (h2:dH n mF=false) (h:NQ w B n A G c):Calls Tryz.prog 63 #[fU n A,.agg #[.int .i64 mK,.int .i64 mF,.int .i64 mT,.int .i64 mI,.int .i64 mL,.string mk,.int .i64 mN]] w (eT w B c (n,[],3)):=by
 open ao2 in exact IW
theorem Kw (n:Nd) (A:bQ) (G:aX) (c:Nat→Nat) (mK mF mT mI mL:Int) (mk:ByteArray) (mN:Int) (w:World) (B:Nat) (hB:B≤w.heap.size) (h9:∀x,6 < c x→c x=9) (hkl:n.kids.length≤1048600) (hmk:mk.size≤1048576) (hmo:dw ⟨mK,mF,mT,mI,mL,mk,mN⟩=true) (h1:mT=n.id) (h2:dH n mF=true) (h3:mK=0) (h4:mF=n.par) (h:NQ w B n A G c):Calls Tryz.prog 63 #[fU n A,.agg #[.int .i64 mK,.int .i64 mF,.int .i64 mT,.int .i64 mI,.int .i64 mL,.string mk,.int .i64 mN]] w (eT w B c (n,[],1)):=by
 open ao1 in exact IW
theorem Dv (n:Nd) (A:bQ) (G:aX) (c:Nat→Nat) (mK mF mT mI mL:Int) (mk:ByteArray) (mN:Int) (w:World) (B:Nat) (hB:B≤w.heap.size) (h9:∀x,6 < c x→c x=9) (hkl:n.kids.length≤1048600) (hmk:mk.size≤1048576) (hmo:dw ⟨mK,mF,mT,mI,mL,mk,mN⟩=true) (hz:eF n 1048576) (hP:∃g,A.p=some ⟨g,0,none⟩) (qZ:n.pu.length≤A.cp) (h0:0≤n.next) (h1:mT=n.id) (h2:dH n mF=true) (h3:mK=0) (h4:mF≠n.par) (h:NQ w B n A G c):Calls Tryz.prog 63 #[fU n A,.agg #[.int .i64 mK,.int .i64 mF,.int .i64 mT,.int .i64 mI,.int .i64 mL,.string mk,.int .i64 mN]] w (eT w B c ((eu n mF mk mN).1,(eu n mF mk mN).2.1,0)):=by
 open ao0 in exact IW
set_option maxHeartbeats 4000000
theorem DK (no:Int) (k:ByteArray) (n:Int) (m:Mg) (w:World) (hs:k.size≤maxLen):Calls Tryz.prog 57 #[jY ⟨0,no,k,n,m⟩] w fun e w'=>e= .returned (.bool (cZ ⟨0,no,k,n,m⟩))∧Below w.heap.size w w':=by
 obtain⟨mK,mF,mT,mI,mL,mk,mN⟩:=m;obtain⟨R,hR⟩:∃R,cZ ⟨0,no,k,n,⟨mK,mF,mT,mI,mL,mk,mN⟩⟩=R:=⟨_,rfl⟩;exact adq
theorem DU (no:Int) (k:ByteArray) (n:Int) (m:Mg) (w:World) (hs:k.size≤maxLen):Calls Tryz.prog 57 #[jY ⟨3,no,k,n,m⟩] w fun e w'=>e= .returned (.bool (cZ ⟨3,no,k,n,m⟩))∧Below w.heap.size w w':=by
 obtain⟨mK,mF,mT,mI,mL,mk,mN⟩:=m;obtain⟨R,hR⟩:∃R,cZ ⟨3,no,k,n,⟨mK,mF,mT,mI,mL,mk,mN⟩⟩=R:=⟨_,rfl⟩;exact adq
theorem Dz (no:Int) (k:ByteArray) (n:Int) (m:Mg) (w:World) (hs:k.size≤maxLen):Calls Tryz.prog 57 #[jY ⟨4,no,k,n,m⟩] w fun e w'=>e= .returned (.bool (cZ ⟨4,no,k,n,m⟩))∧Below w.heap.size w w':=by
 obtain⟨mK,mF,mT,mI,mL,mk,mN⟩:=m;obtain⟨R,hR⟩:∃R,cZ ⟨4,no,k,n,⟨mK,mF,mT,mI,mL,mk,mN⟩⟩=R:=⟨_,rfl⟩;exact adq
theorem Cg (no:Int) (k:ByteArray) (n:Int) (m:Mg) (w:World) (hs:k.size≤maxLen):Calls Tryz.prog 57 #[jY ⟨1,no,k,n,m⟩] w fun e w'=>e= .returned (.bool (cZ ⟨1,no,k,n,m⟩))∧Below w.heap.size w w':=by
 obtain⟨mK,mF,mT,mI,mL,mk,mN⟩:=m;obtain⟨R,hR⟩:∃R,cZ ⟨1,no,k,n,⟨mK,mF,mT,mI,mL,mk,mN⟩⟩=R:=⟨_,rfl⟩;rw [hR];have HR:=hide hR;clear hR;cases hk:keyOk k.data.toList
 ·have HK:=hide (fun w1=>lD k false w1 hs hk);cases hn:eU n
  ·have HN:=hide (fun w1=>dW n false w1 hn);cases ho:eU no
   ·have HO:=hide (fun w1=>dW no false w1 ho);have HP:=hide (show R=(false&&false&&false&&kN ⟨mK,mF,mT,mI,mL,mk,mN⟩) by rw [←ah HR];simp[cZ,hk,hn,ho]);exact IY
   ·have HO:=hide (fun w1=>dW no true w1 ho);have HP:=hide (show R=(false&&false&&true&&kN ⟨mK,mF,mT,mI,mL,mk,mN⟩) by rw [←ah HR];simp[cZ,hk,hn,ho]);exact IY
  ·have HN:=hide (fun w1=>dW n true w1 hn);cases ho:eU no
   ·have HO:=hide (fun w1=>dW no false w1 ho);have HP:=hide (show R=(false&&true&&false&&kN ⟨mK,mF,mT,mI,mL,mk,mN⟩) by rw [←ah HR];simp[cZ,hk,hn,ho]);exact IY
   ·have HO:=hide (fun w1=>dW no true w1 ho);have HP:=hide (show R=(false&&true&&true&&kN ⟨mK,mF,mT,mI,mL,mk,mN⟩) by rw [←ah HR];simp[cZ,hk,hn,ho]);exact IY
 ·have HK:=hide (fun w1=>lD k true w1 hs hk);cases hn:eU n
  ·have HN:=hide (fun w1=>dW n false w1 hn);cases ho:eU no
   ·have HO:=hide (fun w1=>dW no false w1 ho);have HP:=hide (show R=(true&&false&&false&&kN ⟨mK,mF,mT,mI,mL,mk,mN⟩) by rw [←ah HR];simp[cZ,hk,hn,ho]);exact IY
   ·have HO:=hide (fun w1=>dW no true w1 ho);have HP:=hide (show R=(true&&false&&true&&kN ⟨mK,mF,mT,mI,mL,mk,mN⟩) by rw [←ah HR];simp[cZ,hk,hn,ho]);exact IY
  ·have HN:=hide (fun w1=>dW n true w1 hn);cases ho:eU no
   ·have HO:=hide (fun w1=>dW no false w1 ho);have HP:=hide (show R=(true&&true&&false&&kN ⟨mK,mF,mT,mI,mL,mk,mN⟩) by rw [←ah HR];simp[cZ,hk,hn,ho]);exact IY
   ·have HO:=hide (fun w1=>dW no true w1 ho);have HP:=hide (show R=(true&&true&&true&&kN ⟨mK,mF,mT,mI,mL,mk,mN⟩) by rw [←ah HR];simp[cZ,hk,hn,ho]);exact IY
theorem yS (no:Int) (k:ByteArray) (n:Int) (m:Mg) (w:World) (_hs:k.size≤maxLen):Calls Tryz.prog 57 #[jY ⟨2,no,k,n,m⟩] w fun e w'=>e= .returned (.bool (cZ ⟨2,no,k,n,m⟩))∧Below w.heap.size w w':=by
 obtain⟨mK,mF,mT,mI,mL,mk,mN⟩:=m;obtain⟨R,hR⟩:∃R,cZ ⟨2,no,k,n,⟨mK,mF,mT,mI,mL,mk,mN⟩⟩=R:=⟨_,rfl⟩;rw [hR];have HR:=hide hR;clear hR;cases ho:eU no
 ·have HO:=hide (fun w1=>dW no false w1 ho);have HP:=hide (show R=(decide (k.toList=[])&&decide (n=0)&&false&&kN ⟨mK,mF,mT,mI,mL,mk,mN⟩) by rw [←ah HR];simp[cZ,ho]);exact aqS
 ·have HO:=hide (fun w1=>dW no true w1 ho);have HP:=hide (show R=(decide (k.toList=[])&&decide (n=0)&&true&&kN ⟨mK,mF,mT,mI,mL,mk,mN⟩) by rw [←ah HR];simp[cZ,ho]);exact aqS
theorem DR (no:Int) (k:ByteArray) (n:Int) (m:Mg) (w:World) (_hs:k.size≤maxLen):Calls Tryz.prog 57 #[jY ⟨5,no,k,n,m⟩] w fun e w'=>e= .returned (.bool (cZ ⟨5,no,k,n,m⟩))∧Below w.heap.size w w':=by
 open amu in exact aav
theorem DJ (no:Int) (k:ByteArray) (n:Int) (m:Mg) (w:World) (hm:m.k.size≤maxLen):Calls Tryz.prog 57 #[jY ⟨6,no,k,n,m⟩] w fun e w'=>e= .returned (.bool (cZ ⟨6,no,k,n,m⟩))∧Below w.heap.size w w':=by
 have HM:=hide (fun w1=>lX m w1 hm);open ano in exact aaL
theorem DC (K no:Int) (k:ByteArray) (n:Int) (m:Mg) (w:World) (h0:¬K=0) (h1:¬K=1) (h2:¬K=2) (h3:¬K=3) (h4:¬K=4) (h5:¬K=5) (h6:¬K=6):Calls Tryz.prog 57 #[jY ⟨K,no,k,n,m⟩] w fun e w'=>e= .returned (.bool (cZ ⟨K,no,k,n,m⟩))∧Below w.heap.size w w':=by
 have HP:=hide (show cZ ⟨K,no,k,n,m⟩=false by simp[cZ,h0,h1,h2,h3,h4,h5,h6]);obtain⟨mK,mF,mT,mI,mL,mk,mN⟩:=m;go_enter Tryz.func57,Tryz.ntmps57
 go_wp2_with fail;exact PK
theorem jo (o:iK) (w:World) (hs:o.k.size≤maxLen) (hm:o.m.k.size≤maxLen):Calls Tryz.prog 57 #[jY o] w fun e w'=>e= .returned (.bool (cZ o))∧Below w.heap.size w w':=by
 obtain⟨K,no,k,n,m⟩:=o;by_cases h0:K=0
 ·subst h0;exact DK no k n m w hs
 by_cases h1:K=1
 ·subst h1;exact Cg no k n m w hs
 by_cases h2:K=2
 ·subst h2;exact yS no k n m w hs
 by_cases h3:K=3
 ·subst h3;exact DU no k n m w hs
 by_cases h4:K=4
 ·subst h4;exact Dz no k n m w hs
 by_cases h5:K=5
 ·subst h5;exact DR no k n m w hs
 by_cases h6:K=6
 ·subst h6;exact DJ no k n m w hm
 exact DC K no k n m w h0 h1 h2 h3 h4 h5 h6
set_option maxHeartbeats 8000000
def zD (w W' W'':World):Prop:=∃F,aC F W' W''∧∀x∈F,x < w.heap.size
theorem zD.refl {w W':World}:zD w W' W':=⟨[],aC.refl _ _,fun x hx=>by simp at hx⟩
theorem zD.kc {c:Nat→Nat} {k:Nat} {w W' W'':World} (h:zD w W' W'') (hc:∀x,x < w.heap.size→c x=k):KC c k W' W'':=by
 obtain⟨F,hk,hF⟩:=h;exact KC.keeps hk (fun x hx=>hc x (hF x hx))
theorem NQ.kc0 {w w':World} {B:Nat} {n:Nd} {A:bQ} {G:aX} {c:Nat→Nat} (h:NQ w B n A G c) (hk:KC c 0 w w'):NQ w' B n A G c:=⟨h.toNO.kc0 hk,hk.seenQ h.sq h.c4 h.ci (by omega) (by omega)⟩
def jU (w:World) (R:Nd×List Mg×Int) (e:Ending) (w':World):Prop:=∃A' a cp,e= .returned (.tuple #[fU R.1 A',.slice a R.2.1.length cp,.int .i64 R.2.2])∧(∀W'',zD w w' W''→RM W'' A' R.1)∧(∀W'',zD w w' W''→GR.At je 7 W'' a R.2.1)∧Below w.heap.size w w'
theorem Ki (n:Nd) (A:bQ) (K no:Int) (k:ByteArray) (nn mK mF mT mI mL:Int) (mk:ByteArray) (mN:Int) (w:World) (hz:eF n 1048576) (hok:dJ n=false) (ha:dQ w A n):Calls Tryz.prog 30 #[fU n A,.agg #[.int .i64 K,.int .i64 no,.string k,.int .i64 nn,.int .i64 mK,.int .i64 mF,.int .i64 mT,.int .i64 mI,.int .i64 mL,.string mk,.int .i64 mN]] w (jU w (n,[],3)):=by
 open ahs in exact yt
theorem Kj (n:Nd) (A:bQ) (K no:Int) (k:ByteArray) (nn mK mF mT mI mL:Int) (mk:ByteArray) (mN:Int) (w:World) (hz:eF n 1048576) (hk:k.size≤1048576) (hmk:mk.size≤1048576) (hok:dJ n=true) (hop:cZ ⟨K,no,k,nn,⟨mK,mF,mT,mI,mL,mk,mN⟩⟩=false) (ha:dQ w A n):Calls Tryz.prog 30 #[fU n A,.agg #[.int .i64 K,.int .i64 no,.string k,.int .i64 nn,.int .i64 mK,.int .i64 mF,.int .i64 mT,.int .i64 mI,.int .i64 mL,.string mk,.int .i64 mN]] w (jU w (n,[],3)):=by
 open ahr in exact yt

theorem AX {α : Type} {enc : α → List Value} {sz : Nat} {c : Nat → Nat} {k j : Nat} {w w' : World} {a : Option Addr} {l : List α} (h : KC c k w w') (ha : GR.At enc sz w a l) (hc : ∀ g, a.map (fun y => y.block) = some g → 0 < l.length → c g = j) (hj : j ≠ k) : GR.At enc sz w' a l := fun i hi => by
  obtain ⟨g, off, e, hg, hcell⟩ := ha i hi
  have hb := h.block g hg (by rw [hc g (by rw [e]; rfl) (by omega)]; exact hj)
  exact ⟨g, off, e, Nat.lt_of_lt_of_le hg h.size, fun q hq => (World.cell?_of_block (w := w) hb).trans (hcell q hq)⟩
theorem Lf.kc {w w' : World} {A : bQ} {n : Nd} {gk gs k : Nat} {I : Nat → Nat} {c : Nat → Nat} (h : Lf w A n gk gs I c) (hk : KC c k w w') (h0 : k = 0 ∨ 6 < k) : Lf w' A n gk gs I c :=
  ⟨hk.w h.k h.ck (by omega), AX hk h.p h.cp (by omega), hk.own h.o h.co (by omega), hk.seenQ h.s h.c4 h.ci (by omega) (by omega), hk.own h.r h.cr (by omega), h.ck, h.cp, h.co, h.c4, h.ci, h.cr, h.ni⟩
/-- A world in which all blocks below a place are empty. -/
def rD (L : Nat) (w : World) : World := { w with heap := w.heap.mapIdx (fun i o => if i < L then .cells #[] 0 (0, 0) else o) }
theorem EM {L x : Nat} {w : World} (hx : x < L) (hw : x < w.heap.size) : (rD L w).heap[x]? = some (.cells #[] 0 (0, 0)) := by
  unfold rD
  simp [hx, hw]
theorem Cn {L x : Nat} {w : World} (hx : L ≤ x) : (rD L w).heap[x]? = w.heap[x]? := by
  unfold rD
  simp only [Array.getElem?_mapIdx]
  cases h : w.heap[x]? with
  | none => rfl
  | some o => simp [Nat.not_lt.2 hx]
theorem nQ (L : Nat) (w : World) : (rD L w).heap.size = w.heap.size := by simp [rD]
theorem Cm {L x o : Nat} {w : World} (hx : x < L) (hw : x < w.heap.size) : (rD L w).cell? ⟨x, o, none⟩ = none := by
  rw [cell_of_row _ x o _ _ _ (EM hx hw)]
  simp
theorem J3 {L sz n B x : Nat} {e : TypeId} {v : Value} {xs : List Value} {w : World} (h : (rD L w).ownsRow B e sz v n xs) (hx : v.ownBlock = some x) (he : e ≠ 0) : L ≤ x := by
  rcases h.2 with ⟨hv, _⟩ | ⟨g, cap, cur, hv, _, hgg, _⟩
  · rw [hv] at hx; simp [Value.ownBlock] at hx
  · rw [hv] at hx
    have e1 : g = x := by simpa [Value.ownBlock] using hx
    subst e1
    rcases Nat.lt_or_ge g L with hl | hl
    · have hs := aA hgg
      rw [nQ] at hs
      rw [EM hl hs] at hgg
      simp only [Option.some.injEq, Obj.cells.injEq] at hgg
      exact absurd hgg.2.1.symm he
    · exact hl
theorem LV {α : Type} {enc : α → List Value} {sz L g : Nat} {w : World} {a : Option Addr} {l : List α} (hs : ∀ x, (enc x).length = sz) (hz : 0 < sz) (h : GR.W enc sz (rD L w) a g l) (hp : 0 < l.length) : L ≤ g := by
  obtain ⟨_, hg, hc⟩ := h 0 hp
  rw [nQ] at hg
  rcases Nat.lt_or_ge g L with hl | hl
  · have h1 := (hc 0 hz).1
    rw [Cm hl hg, List.getElem?_eq_getElem (by rw [hs]; exact hz)] at h1
    cases h1
  · exact hl
/-- What a call made lies in memory that it made. -/
theorem zD.rm {w w' : World} {A : bQ} {n : Nd} (h : ∀ W'', zD w w' W'' → RM W'' A n) : ∃ gk gs I c, Lf w' A n gk gs I c ∧ ∀ x, x < w.heap.size → c x = 0 := by
  have hk : aC (List.range w.heap.size) w' (rD w.heap.size w') := ⟨rfl, rfl, rfl, by rw [nQ]; exact Nat.le_refl _, fun x _ hx => Cn (by have : ¬ x < w.heap.size := fun h => hx (List.mem_range.2 h); omega)⟩
  obtain ⟨gk, gs, I, c, hr⟩ := h (rD w.heap.size w') ⟨List.range w.heap.size, hk, fun x hx => List.mem_range.1 hx⟩
  have b1 : ∀ x ∈ fp gk n.kids, w.heap.size ≤ x := fun x hx => by rw [(fD hx).1]; exact LV aN (by omega) hr.k (fD hx).2
  have b2 : ∀ g, A.p.map (fun y => y.block) = some g → 0 < n.pu.length → w.heap.size ≤ g := fun g hg hp => by
    obtain ⟨g', off, e, hg', hc⟩ := hr.p 0 hp
    rw [e] at hg
    cases hg
    rw [nQ] at hg'
    rcases Nat.lt_or_ge g' w.heap.size with hl | hl
    · have h1 := hc 0 (by omega)
      rw [Cm hl hg', List.getElem?_eq_getElem (by rw [aV]; omega)] at h1
      cases h1
    · exact hl
  have b3 : ∀ x, (Value.slice A.o n.out.length A.co).ownBlock = some x → w.heap.size ≤ x := fun x hx => J3 hr.o hx (by decide)
  have b6 : ∀ x, (Value.slice A.r n.reqs.length A.cr).ownBlock = some x → w.heap.size ≤ x := fun x hx => J3 hr.r hx (by decide)
  have b4 : ∀ x ∈ fp gs n.seen, w.heap.size ≤ x := fun x hx => by
    rw [(fD hx).1]
    obtain ⟨⟨T, hT, hl, _⟩, _⟩ := hr.s
    exact LV bC (by omega) hT (by rw [hl]; exact (fD hx).2)
  have b5 : ∀ x ∈ nT I n.seen, w.heap.size ≤ x := fun x hx => by
    obtain ⟨i, hi, rfl, hp⟩ := qJ hx
    obtain ⟨⟨T, hT, hl, hq⟩, _⟩ := hr.s
    obtain ⟨b, cc, _, ho⟩ := hq i hi
    exact LV aN (by omega) ho.W hp
  have same : ∀ x, w.heap.size ≤ x → (if x < w.heap.size then 0 else c x) = c x := fun x hx => if_neg (by omega)
  have hr2 : Lf (rD w.heap.size w') A n gk gs I (fun x => if x < w.heap.size then 0 else c x) :=
    ⟨hr.k, hr.p, hr.o, hr.s, hr.r, fun x hx => (same x (b1 x hx)).trans (hr.ck x hx), fun g hg hp => (same g (b2 g hg hp)).trans (hr.cp g hg hp), fun x hx => (same x (b3 x hx)).trans (hr.co x hx), fun x hx => (same x (b4 x hx)).trans (hr.c4 x hx), fun x hx => (same x (b5 x hx)).trans (hr.ci x hx), fun x hx => (same x (b6 x hx)).trans (hr.cr x hx), hr.ni⟩
  refine ⟨gk, gs, I, fun x => if x < w.heap.size then 0 else c x, hr2.kc (k := 0) ⟨rfl, rfl, rfl, by rw [nQ]; exact Nat.le_refl _, fun x _ hx => ?_⟩ (.inl rfl), fun x hx => if_pos hx⟩
  exact (Cn (by
    rcases Nat.lt_or_ge x w.heap.size with hl | hl
    · exact absurd (if_pos hl) hx
    · exact hl)).symm
/-- A node whose rows are another's. -/
theorem Lf.node {w : World} {A : bQ} {n n' : Nd} {gk gs : Nat} {I : Nat → Nat} {c : Nat → Nat} (h : Lf w A n gk gs I c) (e1 : n'.kids = n.kids) (e2 : n'.pu = n.pu) (e3 : n'.out = n.out) (e4 : n'.seen = n.seen) (e5 : n'.reqs = n.reqs) : Lf w A n' gk gs I c := by
  obtain ⟨_, _, _, _, _, _, _, _, _⟩ := n
  obtain ⟨_, _, _, _, _, _, _, _, _⟩ := n'
  dsimp only at e1 e2 e3 e4 e5
  subst e1 e2 e3 e4 e5
  exact ⟨h.k, h.p, h.o, h.s, h.r, h.ck, h.cp, h.co, h.c4, h.ci, h.cr, h.ni⟩
set_option maxHeartbeats 8000000
theorem Dp (n:Nd) (A:bQ) (G:aX) (c:Nat→Nat) (K no:Int) (k:ByteArray) (nn mK mF mT mI mL:Int) (mk:ByteArray) (mN:Int) (w:World) (B:Nat) (hB:B≤w.heap.size) (h9:∀x,6 < c x→c x=9) (hs:no≤n.old) (h:NQ w B n A G c):Calls Tryz.prog 60 #[fU n A,.agg #[.int .i64 K,.int .i64 no,.string k,.int .i64 nn,.int .i64 mK,.int .i64 mF,.int .i64 mT,.int .i64 mI,.int .i64 mL,.string mk,.int .i64 mN]] w (gL w B c (n,2)):=by
 unfold gL;have H9:=hide h9;clear h9;have l7:=hide (h.nine hB);clear h;go_enter Tryz.func60,Tryz.ntmps60
 go_upto_region 1 with fail;refine wp_at (fun W0 hW=>?_);open ak6 in exact SK
theorem Nf (n:Nd) (a_k iH dP dS fA:Option Addr) (aK bq aO aL aT:Nat) (G:aX) (c:Nat→Nat) (K no:Int) (k:ByteArray) (nn mK mF mT mI mL:Int) (mk:ByteArray) (mN:Int) (w:World) (B:Nat) (hB:B≤w.heap.size) (h9:∀x,6 < c x→c x=9) (i:Nat) (hi:i < n.reqs.length) (hok:gF n=true) (hs:¬no≤n.old) (hJ:pU n.reqs no=i) (rq:Rq) (hrq:n.reqs[i]=rq) (h1:(rq.s == 0)=false) (h:NQ w B n (⟨a_k,iH,dP,dS,fA,aK,bq,aO,aL,aT⟩:bQ) G c):Calls Tryz.prog 60 #[fU n (⟨a_k,iH,dP,dS,fA,aK,bq,aO,aL,aT⟩:bQ),.agg #[.int .i64 K,.int .i64 no,.string k,.int .i64 nn,.int .i64 mK,.int .i64 mF,.int .i64 mT,.int .i64 mI,.int .i64 mL,.string mk,.int .i64 mN]] w (gL w B c (n,1)):=by
 open asQ in exact Ya4
theorem Ng (n:Nd) (a_k iH dP dS fA:Option Addr) (aK bq aO aL aT:Nat) (G:aX) (c:Nat→Nat) (K no:Int) (k:ByteArray) (nn mK mF mT mI mL:Int) (mk:ByteArray) (mN:Int) (w:World) (B:Nat) (hB:B≤w.heap.size) (h9:∀x,6 < c x→c x=9) (i:Nat) (hi:i < n.reqs.length) (hok:gF n=true) (hs:¬no≤n.old) (hJ:pU n.reqs no=i) (rq:Rq) (hrq:n.reqs[i]=rq) (h1:(rq.s == 0)=true) (h2:(rq.k.toList == k.toList)=false) (h:NQ w B n (⟨a_k,iH,dP,dS,fA,aK,bq,aO,aL,aT⟩:bQ) G c):Calls Tryz.prog 60 #[fU n (⟨a_k,iH,dP,dS,fA,aK,bq,aO,aL,aT⟩:bQ),.agg #[.int .i64 K,.int .i64 no,.string k,.int .i64 nn,.int .i64 mK,.int .i64 mF,.int .i64 mT,.int .i64 mI,.int .i64 mL,.string mk,.int .i64 mN]] w (gL w B c (n,1)):=by
 open asP in exact Ya4
theorem Nh (n:Nd) (a_k iH dP dS fA:Option Addr) (aK bq aO aL aT:Nat) (G:aX) (c:Nat→Nat) (K no:Int) (k:ByteArray) (nn mK mF mT mI mL:Int) (mk:ByteArray) (mN:Int) (w:World) (B:Nat) (hB:B≤w.heap.size) (h9:∀x,6 < c x→c x=9) (i:Nat) (hi:i < n.reqs.length) (hok:gF n=true) (hs:¬no≤n.old) (hJ:pU n.reqs no=i) (rq:Rq) (hrq:n.reqs[i]=rq) (h1:(rq.s == 0)=true) (h2:(rq.k.toList == k.toList)=true) (h3:(rq.n == nn)=false) (h:NQ w B n (⟨a_k,iH,dP,dS,fA,aK,bq,aO,aL,aT⟩:bQ) G c):Calls Tryz.prog 60 #[fU n (⟨a_k,iH,dP,dS,fA,aK,bq,aO,aL,aT⟩:bQ),.agg #[.int .i64 K,.int .i64 no,.string k,.int .i64 nn,.int .i64 mK,.int .i64 mF,.int .i64 mT,.int .i64 mI,.int .i64 mL,.string mk,.int .i64 mN]] w (gL w B c (n,1)):=by
 open asO in exact Ya4
theorem Ni (n:Nd) (a_k iH dP dS fA:Option Addr) (aK bq aO aL aT:Nat) (G:aX) (c:Nat→Nat) (K no:Int) (k:ByteArray) (nn mK mF mT mI mL:Int) (mk:ByteArray) (mN:Int) (w:World) (B:Nat) (hB:B≤w.heap.size) (h9:∀x,6 < c x→c x=9) (i:Nat) (hi:i < n.reqs.length) (hok:gF n=true) (hs:¬no≤n.old) (hJ:pU n.reqs no=i) (rq:Rq) (hrq:n.reqs[i]=rq) (h1:(rq.s == 0)=true) (h2:(rq.k.toList == k.toList)=true) (h3:(rq.n == nn)=true) (h:NQ w B n (⟨a_k,iH,dP,dS,fA,aK,bq,aO,aL,aT⟩:bQ) G c):Calls Tryz.prog 60 #[fU n (⟨a_k,iH,dP,dS,fA,aK,bq,aO,aL,aT⟩:bQ),.agg #[.int .i64 K,.int .i64 no,.string k,.int .i64 nn,.int .i64 mK,.int .i64 mF,.int .i64 mT,.int .i64 mI,.int .i64 mL,.string mk,.int .i64 mN]] w (gL w B c (n,0)):=by
 open asN in exact Ya4
set_option maxHeartbeats 8000000
def rT {α:Type} (en:α→List Value) (sz lo:Nat) (W:World) (a:Option Addr) (l:List α):Prop:=GR.At en sz W a l∧∀g off,a=some ⟨g,off,none⟩→lo≤g
theorem rT.keeps {α:Type} {en:α→List Value} {sz lo:Nat} {W W':World} {a:Option Addr} {l:List α} {F:List Nat} (h:rT en sz lo W a l) (hk:aC F W W') (hF:∀x∈F,x < lo):rT en sz lo W' a l:=
 ⟨fun i hi=>by
  obtain⟨g,off,e,hg,hc⟩:=h.1 i hi
  have hlo:=h.2 g off e
  have hb:=hk.block g hg (fun hm=>by have:=hF g hm;omega)
  exact⟨g,off,e,Nat.lt_of_lt_of_le hg hk.size,fun j hj=>(World.cell?_of_block (w:=W) hb).trans (hc j hj)⟩,h.2⟩
theorem rT.below {α:Type} {en:α→List Value} {sz lo:Nat} {W W':World} {a:Option Addr} {l:List α} (h:rT en sz lo W a l) (hb:Below W.heap.size W W'):rT en sz lo W' a l:=⟨GR.At.below h.1 hb,h.2⟩
theorem rT.lower {α:Type} {en:α→List Value} {sz lo lo':Nat} {W:World} {a:Option Addr} {l:List α} (h:rT en sz lo W a l) (hl:lo'≤lo):rT en sz lo' W a l:=⟨h.1,fun g off e=>Nat.le_trans hl (h.2 g off e)⟩
theorem rT.out {α:Type} {en:α→List Value} {sz lo:Nat} {w W' W'':World} {a:Option Addr} {l:List α} {c:Nat→Nat} (h:rT en sz lo W' a l) (hlo:w.heap.size≤lo) (ho:Out c w W' W''):GR.At en sz W'' a l:=by
 obtain⟨F,hk,hF⟩:=ho;exact(h.keeps hk (fun x hx=>by have:=(hF x hx).1;omega)).1
theorem rT.own {α:Type} {en:α→List Value} {sz lo:Nat} {W:World} {e:TypeId} {a:Option Addr} {cp:Nat} {l:List α} (hs:∀x,(en x).length=sz) (h:W.ownsRow lo e sz (.slice a l.length cp) l.length (GR.flat en l)):rT en sz lo W a l:=by
 obtain⟨a',c',hv,hat⟩:=GR.own_at hs h;simp only[Value.slice.injEq] at hv;obtain⟨rfl,_,_⟩:=hv;refine⟨hat,fun g off e'=>?_⟩;subst e';exact(h.lt g rfl).1
def LO {α:Type} (e:TypeId) (en:α→List Value) (sz lo:Nat) (W:World) (a:Option Addr) (cp:Nat) (l:List α):Prop:=W.ownsRow lo e sz (.slice a l.length cp) l.length (GR.flat en l)
theorem LO.own {α:Type} {e:TypeId} {en:α→List Value} {sz lo:Nat} {W:World} {a:Option Addr} {cp:Nat} {l:List α} (h:W.ownsRow lo e sz (.slice a l.length cp) l.length (GR.flat en l)):LO e en sz lo W a cp l:=h
theorem LO.lies {α:Type} {e:TypeId} {en:α→List Value} {sz lo:Nat} {W:World} {a:Option Addr} {cp:Nat} {l:List α} (h:LO e en sz lo W a cp l) (hs:∀x,(en x).length=sz):rT en sz lo W a l:=rT.own hs h
theorem LO.keeps {α:Type} {e:TypeId} {en:α→List Value} {sz lo:Nat} {W W':World} {a:Option Addr} {cp:Nat} {l:List α} {F:List Nat} (h:LO e en sz lo W a cp l) (hk:aC F W W') (hF:∀x∈F,x < lo):LO e en sz lo W' a cp l:=dB h hk hF
theorem LO.below {α:Type} {e:TypeId} {en:α→List Value} {sz lo:Nat} {W W':World} {a:Option Addr} {cp:Nat} {l:List α} (h:LO e en sz lo W a cp l) (hb:Below W.heap.size W W'):LO e en sz lo W' a cp l:=GR.own_below h hb
theorem LO.lower {α:Type} {e:TypeId} {en:α→List Value} {sz lo lo':Nat} {W:World} {a:Option Addr} {cp:Nat} {l:List α} (h:LO e en sz lo W a cp l) (hl:lo'≤lo):LO e en sz lo' W a cp l:=GR.own_lower h hl
theorem LO.out {α:Type} {e:TypeId} {en:α→List Value} {sz lo:Nat} {w W' W'':World} {a:Option Addr} {cp:Nat} {l:List α} {c:Nat→Nat} (h:LO e en sz lo W' a cp l) (hlo:w.heap.size≤lo) (ho:Out c w W' W''):LO e en sz lo W'' a cp l:=by
 obtain⟨F,hk,hF⟩:=ho;exact h.keeps hk (fun x hx=>by have:=(hF x hx).1;omega)
theorem LO.lo {α:Type} {e:TypeId} {en:α→List Value} {sz lo:Nat} {W:World} {a:Option Addr} {cp x:Nat} {l:List α} (h:LO e en sz lo W a cp l) (hx:(Value.slice a l.length cp).ownBlock=some x):lo≤x:=qO h hx
theorem LO.ne {α β:Type} {e e':TypeId} {en:α→List Value} {en':β→List Value} {sz sz' lo lo':Nat} {W:World} {a a':Option Addr} {cp cp' x:Nat} {l:List α} {l':List β} (h:LO e en sz lo W a cp l) (h':LO e' en' sz' lo' W a' cp' l') (hne:e≠e') (hx:(Value.slice a l.length cp).ownBlock=some x):(Value.slice a' l'.length cp').ownBlock≠some x:=fun hx'=>by
 rcases h.2 with⟨hv,_⟩|⟨g,cap,cur,hv,_,hgg,_⟩
 ·rw [hv] at hx;simp[Value.ownBlock] at hx
 ·rcases h'.2 with⟨hv',_⟩|⟨g',cap',cur',hv',_,adT,_⟩
  ·rw [hv'] at hx';simp[Value.ownBlock] at hx'
  ·rw [hv] at hx;rw [hv'] at hx';have e1:g=x:=by simpa [Value.ownBlock] using hx
   have e2:g'=x:=by simpa [Value.ownBlock] using hx'
   rw [e1] at hgg;rw [e2,hgg] at adT;simp only[Option.some.injEq,Obj.cells.injEq] at adT;exact hne adT.2.1
theorem GR.At.take {α:Type} {en:α→List Value} {sz:Nat} {w:World} {a:Option Addr} {l:List α} (h:GR.At en sz w a l) (k:Nat):GR.At en sz w a (l.take k):=fun i hi=>by
 have hi':i < l.length:=by rw [List.length_take] at hi;omega
 obtain⟨g,off,e,hg,hc⟩:=h i hi';exact⟨g,off,e,hg,fun j hj=>by rw [hc j hj,List.getElem_take]⟩
theorem GR.At.drop {α:Type} {en:α→List Value} {sz g0:Nat} {w:World} {l:List α} (h:GR.At en sz w (some ⟨g0,0,none⟩) l) (k:Nat):GR.At en sz w (some ⟨g0,k*sz,none⟩) (l.drop k):=fun i hi=>by
 have hi':k+i < l.length:=by rw [List.length_drop] at hi;omega
 obtain⟨g,off,e,hg,hc⟩:=h (k+i) hi';cases e
 exact⟨g0,k*sz,rfl,hg,fun j hj=>by rw [List.getElem_drop,←hc j hj,Nat.add_mul];congr 2;omega⟩
theorem fV {w:World} {g g' i:Nat} {o:Obj} (v:Value) (hne:g'≠g) (h:w.heap[g']?=some o):(w.setCell ⟨g,i,none⟩ v).heap[g']?=some o:=(Below.heap_setCell _ _ _ _ hne).trans h
theorem xD (n:Nd) (a_k iH dP dS fA:Option Addr) (aK bq aO aL aT:Nat) (G:aX) (c:Nat→Nat) (K no:Int) (k:ByteArray) (nn mK mF mT mI mL:Int) (mk:ByteArray) (mN:Int) (w:World) (B:Nat) (hB:B≤w.heap.size) (h9:∀x,6 < c x→c x=9) (hz:eF n 1048576) (hkz:k.size≤1048576) (hP:∃g,iH=some ⟨g,0,none⟩) (qZ:n.pu.length≤bq) (hR:∃g,fA=some ⟨g,0,none⟩) (hRc:n.reqs.length≤aT) (hok:gF n=true) (hs:¬no≤n.old) (hf:jP n.reqs no=false) (RL:List Pu) (hu:cK n.pu k 0 (-1) 1 nn=(RL,true)) (h:NQ w B n (⟨a_k,iH,dP,dS,fA,aK,bq,aO,aL,aT⟩:bQ) G c):Calls Tryz.prog 60 #[fU n (⟨a_k,iH,dP,dS,fA,aK,bq,aO,aL,aT⟩:bQ),.agg #[.int .i64 K,.int .i64 no,.string k,.int .i64 nn,.int .i64 mK,.int .i64 mF,.int .i64 mT,.int .i64 mI,.int .i64 mL,.string mk,.int .i64 mN]] w (gL w B c (iE (setPu n RL) ⟨no,k,nn,0⟩,0)):=by
 open aix in exact ap2
theorem vG (n:Nd) (a_k iH dP dS fA:Option Addr) (aK bq aO aL aT:Nat) (G:aX) (c:Nat→Nat) (K no:Int) (k:ByteArray) (nn mK mF mT mI mL:Int) (mk:ByteArray) (mN:Int) (w:World) (B:Nat) (hB:B≤w.heap.size) (h9:∀x,6 < c x→c x=9) (hz:eF n 1048576) (hkz:k.size≤1048576) (hP:∃g,iH=some ⟨g,0,none⟩) (qZ:n.pu.length≤bq) (hR:∃g,fA=some ⟨g,0,none⟩) (hRc:n.reqs.length≤aT) (hok:gF n=true) (hs:¬no≤n.old) (hf:jP n.reqs no=false) (RL:List Pu) (hu:cK n.pu k 0 (-1) 1 nn=(RL,false)) (h:NQ w B n (⟨a_k,iH,dP,dS,fA,aK,bq,aO,aL,aT⟩:bQ) G c):Calls Tryz.prog 60 #[fU n (⟨a_k,iH,dP,dS,fA,aK,bq,aO,aL,aT⟩:bQ),.agg #[.int .i64 K,.int .i64 no,.string k,.int .i64 nn,.int .i64 mK,.int .i64 mF,.int .i64 mT,.int .i64 mI,.int .i64 mL,.string mk,.int .i64 mN]] w (gL w B c (iE n ⟨no,k,nn,1⟩,1)):=by
 open aiw in exact ap2
theorem QS (n:Nd) (A:bQ) (G:aX) (c:Nat→Nat) (K no:Int) (k:ByteArray) (nn mK mF mT mI mL:Int) (mk:ByteArray) (mN:Int) (w:World) (B:Nat) (hB:B≤w.heap.size) (h9:∀x,6 < c x→c x=9)
 (hz:eF n 1048576) (hkz:k.size≤1048576) (hP:∃g,A.p=some ⟨g,0,none⟩) (qZ:n.pu.length≤A.cp) (hR:∃g,A.r=some ⟨g,0,none⟩) (hRc:n.reqs.length≤A.cr) (hok:gF n=true) (h:NQ w B n A G c):
 Calls Tryz.prog 60 #[fU n A,.agg #[.int .i64 K,.int .i64 no,.string k,.int .i64 nn,.int .i64 mK,.int .i64 mF,.int .i64 mT,.int .i64 mI,.int .i64 mL,.string mk,.int .i64 mN]] w (gL w B c (bV n no k nn)):=by
 by_cases hs:no≤n.old
 ·rw [show bV n no k nn=(n,2) from if_pos hs];exact Dp n A G c K no k nn mK mF mT mI mL mk mN w B hB h9 hs h
 cases hf:jP n.reqs no
 ·cases hu:cK n.pu k 0 (-1) 1 nn with
  |mk RL ok=>
   obtain⟨ak,ap,ao,as',ar,ck,cp,co,cs,cr⟩:=A
   cases ok
   ·have hk:=Ep (l:=n.pu) (key:=k) (dm:=0) (df:= -1) (ds:=1) (n:=nn) (by rw [hu]);rw [hu] at hk;dsimp only at hk
    rw [show bV n no k nn=(iE n ⟨no,k,nn,1⟩,1) by
     unfold bV
     rw [if_neg hs,hf,hu]
     simp only[hk]
     rfl]
    exact vG n ak ap ao as' ar ck cp co cs cr G c K no k nn mK mF mT mI mL mk mN w B hB h9 hz hkz hP qZ hR hRc hok hs hf RL hu h
   ·rw [show bV n no k nn=(iE (setPu n RL) ⟨no,k,nn,0⟩,0) by
     unfold bV
     rw [if_neg hs,hf,hu]
     rfl]
    exact xD n ak ap ao as' ar ck cp co cs cr G c K no k nn mK mF mT mI mL mk mN w B hB h9 hz hkz hP qZ hR hRc hok hs hf RL hu h
 ·obtain⟨hi,hno⟩:=(lu n.reqs no).1 hf;have hJ:pU n.reqs no=(bH n.reqs no:Nat):=by unfold pU;rw [hf];rfl
  have hA:bV n no k nn=(n,if xw n.reqs[bH n.reqs no] k nn=true then 0 else 1):=by
   unfold bV;rw [if_neg hs,if_pos hf,List.getD_eq_getElem?_getD,List.getElem?_eq_getElem hi,Option.getD_some]
  rw [hA];clear hA;generalize hrq:n.reqs[bH n.reqs no]=rq at *;obtain⟨ak,ap,ao,as',ar,ck,cp,co,cs,cr⟩:=A;unfold xw;by_cases h1:rq.s=0
  ·have b1:(rq.s == 0)=true:=by simpa using h1
   cases h2:(rq.k.toList == k.toList)
   ·rw [show(if (decide (rq.s=0)&&false&&decide (rq.n=nn))=true then(0:Int) else 1)=1 by simp];exact Ng n ak ap ao as' ar ck cp co cs cr G c K no k nn mK mF mT mI mL mk mN w B hB h9 _ hi hok hs hJ rq hrq b1 h2 h
   ·by_cases h3:rq.n=nn
    ·rw [show(if (decide (rq.s=0)&&true&&decide (rq.n=nn))=true then(0:Int) else 1)=0 by simp[h1,h3]];exact Ni n ak ap ao as' ar ck cp co cs cr G c K no k nn mK mF mT mI mL mk mN w B hB h9 _ hi hok hs hJ rq hrq b1 h2 (by simpa using h3) h
    ·rw [show(if (decide (rq.s=0)&&true&&decide (rq.n=nn))=true then(0:Int) else 1)=1 by simp[h3]];exact Nh n ak ap ao as' ar ck cp co cs cr G c K no k nn mK mF mT mI mL mk mN w B hB h9 _ hi hok hs hJ rq hrq b1 h2 (by simpa using h3) h
  ·rw [show(if (decide (rq.s=0)&&(rq.k.toList == k.toList)&&decide (rq.n=nn))=true then(0:Int) else 1)=1 by simp[h1]];exact Nf n ak ap ao as' ar ck cp co cs cr G c K no k nn mK mF mT mI mL mk mN w B hB h9 _ hi hok hs hJ rq hrq (by simpa using h1) h
end Go.Proofs.YtfmdndhliinhpaaGreatDoor
