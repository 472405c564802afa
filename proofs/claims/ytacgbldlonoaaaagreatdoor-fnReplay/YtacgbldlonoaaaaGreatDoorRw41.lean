/- Parts. -/
import Derived.Test.YtacgbldlonoaaaaGreatDoorRw36
import Derived.Test.YtacgbldlonoaaaaGreatDoorRw39
namespace Go.Proofs.YtacgbldlonoaaaaGreatDoor
open Go.Proofs.Tryz
set_option maxHeartbeats 8000000
set_option maxRecDepth 100000
open Go.RowKit
open Mth
variable (w0 w:World) (wb:Nat) (n:Nd) (A:bC) (G:bJ) (c:Nat->Nat) (v:Value) (L:List Mg) (o:fP)
theorem ac4 (ho:bq o=false) (h:WK w0 w wb n A G c v L):Calls prog 35 #[.pointer (some ⟨wb,0,none⟩),jX o] w λe w'=>e= .returned (.int .i64 (nQ n o).2.2)/\∃A' G' c' v',WK w0 w' wb (nQ n o).1 A' G' c' v' (L++(nQ n o).2.1):=by
 have HR:Hid (nQ n o=(n,[],3)):=by
  show nQ n o=_
  unfold nQ;rw [ho];rfl
 rw [ah HR];clear HR;open aAm in exact adH
theorem ac5 (hp:dH n=true) (hz:n.kids.length<=1048600) (ho:bq o=true) (hK:o.K=6) (ha:xO n o=false) (h:WK w0 w wb n A G c v L):Calls prog 35 #[.pointer (some ⟨wb,0,none⟩),jX o] w λe w'=>e= .returned (.int .i64 (nQ n o).2.2)/\∃A' G' c' v',WK w0 w' wb (nQ n o).1 A' G' c' v' (L++(nQ n o).2.1):=by
 have HR:Hid (nQ n o=(n,[],3)):=by
  show nQ n o=_
  unfold nQ;rw [ha,Bool.and_false];rfl
 rw [ah HR]
 have hd:(decide (o.m.T=n.id)&&dV n o.m.F)=false:=by
  unfold xO at ha;rw [hK] at ha;simpa using ha
 have HAD:=Hq (λW (hW:WK w0 W wb n A G c v L)=>ac3 w0 W wb n A G c v L o.m hp hz hW);rw [hd] at HAD;clear HR hp hz ha hd;have HK6:=Hq hK;clear hK;open aAl in exact adH
theorem akc (ho:bq o=true) (hK:o.K=0) (hx:∀W,WK w0 W wb n A G c v L->Calls prog 107 #[.pointer (some ⟨wb,0,none⟩),jX o] W λe w'=>e= .returned (.int .i64 (fQ n o).2.2)/\∃A' G' c' v',WK w0 w' wb (fQ n o).1 A' G' c' v' (L++(fQ n o).2.1)) (h:WK w0 w wb n A G c v L):Calls prog 35 #[.pointer (some ⟨wb,0,none⟩),jX o] w λe w'=>e= .returned (.int .i64 (fQ n o).2.2)/\∃A' G' c' v',WK w0 w' wb (fQ n o).1 A' G' c' v' (L++(fQ n o).2.1):=by
 open azh in exact Yw1
theorem akd (ho:bq o=true) (hK:o.K=1) (hx:∀W,WK w0 W wb n A G c v L->Calls prog 108 #[.pointer (some ⟨wb,0,none⟩),jX o] W λe w'=>e= .returned (.int .i64 (fQ n o).2.2)/\∃A' G' c' v',WK w0 w' wb (fQ n o).1 A' G' c' v' (L++(fQ n o).2.1)) (h:WK w0 w wb n A G c v L):Calls prog 35 #[.pointer (some ⟨wb,0,none⟩),jX o] w λe w'=>e= .returned (.int .i64 (fQ n o).2.2)/\∃A' G' c' v',WK w0 w' wb (fQ n o).1 A' G' c' v' (L++(fQ n o).2.1):=by
 open azg in exact Yw1
theorem ake (ho:bq o=true) (hK:o.K=2) (hx:∀W,WK w0 W wb n A G c v L->Calls prog 109 #[.pointer (some ⟨wb,0,none⟩),jX o] W λe w'=>e= .returned (.int .i64 (fQ n o).2.2)/\∃A' G' c' v',WK w0 w' wb (fQ n o).1 A' G' c' v' (L++(fQ n o).2.1)) (h:WK w0 w wb n A G c v L):Calls prog 35 #[.pointer (some ⟨wb,0,none⟩),jX o] w λe w'=>e= .returned (.int .i64 (fQ n o).2.2)/\∃A' G' c' v',WK w0 w' wb (fQ n o).1 A' G' c' v' (L++(fQ n o).2.1):=by
 open azf in exact Yw1
theorem akf (ho:bq o=true) (hK:o.K=3) (hx:∀W,WK w0 W wb n A G c v L->Calls prog 110 #[.pointer (some ⟨wb,0,none⟩),jX o] W λe w'=>e= .returned (.int .i64 (fQ n o).2.2)/\∃A' G' c' v',WK w0 w' wb (fQ n o).1 A' G' c' v' (L++(fQ n o).2.1)) (h:WK w0 w wb n A G c v L):Calls prog 35 #[.pointer (some ⟨wb,0,none⟩),jX o] w λe w'=>e= .returned (.int .i64 (fQ n o).2.2)/\∃A' G' c' v',WK w0 w' wb (fQ n o).1 A' G' c' v' (L++(fQ n o).2.1):=by
 open Sw9 in exact Yw1
theorem akg (ho:bq o=true) (hK:o.K=4) (hx:∀W,WK w0 W wb n A G c v L->Calls prog 111 #[.pointer (some ⟨wb,0,none⟩),jX o] W λe w'=>e= .returned (.int .i64 (fQ n o).2.2)/\∃A' G' c' v',WK w0 w' wb (fQ n o).1 A' G' c' v' (L++(fQ n o).2.1)) (h:WK w0 w wb n A G c v L):Calls prog 35 #[.pointer (some ⟨wb,0,none⟩),jX o] w λe w'=>e= .returned (.int .i64 (fQ n o).2.2)/\∃A' G' c' v',WK w0 w' wb (fQ n o).1 A' G' c' v' (L++(fQ n o).2.1):=by
 open Sw8 in exact Yw1
theorem akh (ho:bq o=true) (hK:o.K=5) (hx:∀W,WK w0 W wb n A G c v L->Calls prog 50 #[.pointer (some ⟨wb,0,none⟩),jX o] W λe w'=>e= .returned (.int .i64 (fQ n o).2.2)/\∃A' G' c' v',WK w0 w' wb (fQ n o).1 A' G' c' v' (L++(fQ n o).2.1)) (h:WK w0 w wb n A G c v L):Calls prog 35 #[.pointer (some ⟨wb,0,none⟩),jX o] w λe w'=>e= .returned (.int .i64 (fQ n o).2.2)/\∃A' G' c' v',WK w0 w' wb (fQ n o).1 A' G' c' v' (L++(fQ n o).2.1):=by
 open Sw7 in exact Yw1
theorem aki (hp:dH n=true) (hz:n.kids.length<=1048600) (hd:(decide (o.m.T=n.id)&&dV n o.m.F)=true) (ho:bq o=true) (hK:o.K=6) (hx:∀W,WK w0 W wb n A G c v L->Calls prog 112 #[.pointer (some ⟨wb,0,none⟩),jX o] W λe w'=>e= .returned (.int .i64 (fQ n o).2.2)/\∃A' G' c' v',WK w0 w' wb (fQ n o).1 A' G' c' v' (L++(fQ n o).2.1)) (h:WK w0 w wb n A G c v L):Calls prog 35 #[.pointer (some ⟨wb,0,none⟩),jX o] w λe w'=>e= .returned (.int .i64 (fQ n o).2.2)/\∃A' G' c' v',WK w0 w' wb (fQ n o).1 A' G' c' v' (L++(fQ n o).2.1):=by
 have HAD:=Hq (λW (hW:WK w0 W wb n A G c v L)=>ac3 w0 W wb n A G c v L o.m hp hz hW);rw [hd] at HAD;clear hp hz hd;have HX:=Hq hx;have HKQ:=Hq hK;clear hx hK;generalize fQ n o=TT at *;open aAk in exact adH
theorem ayB (E:Nat->Addr) (hz:eY n 1048576) (hok:dY n=true) (hk:o.k.size<=1048576) (hmk:o.m.k.size<=1048576) (hL:L.length<=1048000) (h:WK w0 w wb n A G c v L) (he:iH w0 E):Calls prog 35 #[.pointer (some ⟨wb,0,none⟩),jX o] w λe w'=>e= .returned (.int .i64 (nQ n o).2.2)/\∃A' G' c' v',WK w0 w' wb (nQ n o).1 A' G' c' v' (L++(nQ n o).2.1):=by
 have hp:=(cZ hok).1;have hzk:n.kids.length<=1048600:=Nat.le_trans hz.k Aaa;have hrq:=(cZ hok).2.2.2.2.2;cases ho:bq o with
 |false=>exact ac4 w0 w wb n A G c v L o ho h
 |true=>
  cases ha:xO n o with
  |false=>
   have hK:o.K=6:=by
    unfold xO at ha;by_cases hK:o.K=6
    .exact hK
    .rw [decide_eq_false hK] at ha;simp at ha
   exact ac5 w0 w wb n A G c v L o hp hzk ho hK ha h
  |true=>
   have hw:nQ n o=fQ n o:=by
    unfold nQ;rw [ho,ha];rfl
   rw [hw]
   clear hw
   rcases J7 ho with hK|hK|hK|hK|hK|hK|hK
   .refine akc w0 w wb n A G c v L o ho hK (λW hW=>?_) h
    have e:fQ n o=((vF n o).1,[],(vF n o).2):=by
     unfold fQ vF;rw [if_pos hK];split<;>rfl
    rw [e];refine(akk w0 W wb n A G c v L o E hz hk hW he).mono ?_;exact aaz
   .refine akd w0 w wb n A G c v L o ho hK (λW hW=>?_) h;have hpa:=FX ho hK
    have e:fQ n o=((gJ n o.no o.k o.n).1,[],(gJ n o.no o.k o.n).2):=by
     unfold fQ;rw [if_neg Aaa,if_pos hK]
    rw [e];refine(aeP w0 W wb n A G c v L o E hz hrq hk Aaa hpa.2.2.2.2 hW he).mono ?_;exact aaz
   .refine ake w0 w wb n A G c v L o ho hK (λW hW=>?_) h;have hpr:=Mq ho hK
    have e:fQ n o=((bn n o.no).1,[],(bn n o.no).2):=by
     unfold fQ;rw [if_neg Aaa,if_neg Aaa,if_pos hK]
    rw [e];refine(YI w0 W wb n A G c v L o E hz hrq Aaa hpr.2 hW he).mono ?_;exact aaz
   .refine akf w0 w wb n A G c v L o ho hK (λW hW=>?_) h
    have e:fQ n o=(n,(GI n o).1,(GI n o).2):=by
     unfold fQ GI;rw [if_neg Aaa,if_neg Aaa,if_neg Aaa,if_pos hK];split<;>rfl
    rw [e];refine(akm w0 W wb n A G c v L o hk Aaa hW).mono ?_;rintro e w' ⟨rfl,c',v',hW'⟩;exact⟨rfl,A,G,c',v',hW'⟩
   .refine akg w0 w wb n A G c v L o ho hK (λW hW=>?_) h;have hpk:=Qk ho Aaa
    have e:fQ n o=ET n o:=by
     unfold fQ ET;rw [if_neg Aaa,if_neg Aaa,if_neg Aaa,if_neg Aaa,if_pos hK]
    rw [e];exact akb w0 W wb n A G c v L o E hok hpk.1 hpk.2.1 hpk.2.2 Aaa hW he
   .refine akh w0 w wb n A G c v L o ho hK (λW hW=>?_) h
    have e:fQ n o=(n,n.out.map (pU n),0):=by
     unfold fQ;rw [if_neg Aaa,if_neg Aaa,if_neg Aaa,if_neg Aaa,if_neg Aaa,if_pos hK]
    rw [e];refine(akl w0 W wb n A G c v L o hz hL hW).mono ?_;rintro e w' ⟨rfl,c',v',hW'⟩;exact⟨rfl,A,G,c',v',hW'⟩
   .have had:=EM ha hK;have hd:(decide (o.m.T=n.id)&&dV n o.m.F)=true:=by rw [decide_eq_true had.1,had.2];rfl
    refine aki w0 w wb n A G c v L o hp hzk hd ho hK (λW hW=>?_) h
    have e:fQ n o=gK n o.m:=by
     unfold fQ;rw [if_neg Aaa,if_neg Aaa,if_neg Aaa,if_neg Aaa,if_neg Aaa,if_neg Aaa]
    rw [e];exact akj w0 W wb n A G c v L o E hz hok (J6 ho hK) had.2 hmk Aaa hW he
def za (w:World) (n:Nd) (e:Ending) (w':World):Prop:=∃A' G' c',e= .returned (fT n A')/\NO w' w.heap.size n A' G' c'/\aY w w'
theorem LX (n:Nd) (A:bC) (a:Option Addr) (cap:Nat) (L:List fP) (E:Nat->Addr) (w:World) (hz:eY n 1048576) (hL:L.length<=60000) (hk:∀o∈L,o.k.size<=1048576/\o.m.k.size<=1048576) (ha:bQ w A n) (ho:CR w a L) (he:iH w E):
 Calls prog 68 #[fT n A,.slice a L.length cap] w (za w (fJ n L)):=by
 have Du:=Hq (λW (h:aY w W)=>uD n A W hz (ha.below h));have lD:=Hq (λW (h:aY w W)=>yw n A W (hz.mono Aaa) (ha.below h));have RY:=Hq (fun(hn:dY n=true) (k:Nat) (hk1:k < L.length) W w0 wb A G c v (hW:WK w0 W wb (fJ n (L.take k)) A G c v []) (he:iH w0 E)=>ayB w0 W wb (fJ n (L.take k)) A G c v [] L[k] E (Aj hz _) (VK hn _) (hk _ (List.getElem_mem hk1)).1 (hk _ (List.getElem_mem hk1)).2 Aac hW he);have Zw:=Hq (fun(hn:dY n=true) (k:Nat) (hk1:k < L.length)=>show(nQ (fJ n (L.take k)) L[k]).1=fJ n (L.take (k+1)) by rw [Cr hk1,Lf (VK hn _)]);have KQ:=Hq (λh=>acD (n:=n) h L);have HPE:=Hq (show fJ n (L.take L.length)=fJ n L by rw [List.take_length]);have HE:=Hq he;have HO:=Hq ho;clear hz ha hk ho he;unfold za;go_in
 open avi in exact agJ
theorem yA (n:Nd) (A:bC) (s:ByteArray) (E:Nat->Addr) (w:World) (hs:s.size<=maxLen) (hz:eY n 1048576) (ha:bQ w A n) (he:iH w E) (hH:Handle w):
 Calls prog 23 #[fT n A,.string s] w (za w (fJ n (dW s).1)):=by
 have Ru:=Hq (λW hH=>PG s hs W hH);have HRP:=Hq (λa cap W (hb:aY w W) (ho:CR W a (dW s).1)=>LX n A a cap (dW s).1 E W hz (Cu s) (λo h=>Eu (Ao s o h)) (ha.below hb) ho (he.below hb));have HH:=Hq hH;clear hs hz ha he hH;unfold lT at Ru;unfold za at HRP ⊢;generalize fJ n (dW s).1=m at *;go_in
 open avh in exact agJ
theorem KF {P:Program} {ops:Array Oper} {Q:Exit->Act->World->Prop} {md:Region.Mode} (i j:Nat) {oi oj:Oper} {fuel:Nat} {listed:Array Bool} {a:Act} {w:World} (hi:ops[i]?=some oi) (hj:ops[j]?=some oj) (hr:Region.ready md ops listed=[i,j]) (hwi:Region.wanted oi (yielded ops a.tmps)=true) (hwj:Region.wanted oj (yielded ops a.tmps)=true) (h1:oi.wp P a w (wpAny P md ops Q fuel (listed.setIfInBounds i true)) Q) (h2:oj.wp P a w (wpAny P md ops Q fuel (listed.setIfInBounds j true)) Q):wpAny P md ops Q (fuel+1) listed a w:=by
 refine⟨λh=>(by rw [hr] at h;cases h),λk hk=>?_⟩;rw [hr] at hk;have hk':k=i\/k=j:=Ach
 rcases hk' with rfl|rfl
 .unfold wpOp;simp only[hi];rw [if_pos hwi];exact .inl h1
 .unfold wpOp;simp only[hj];rw [if_pos hwj];exact .inl h2
def Bq (w:World) (R:Nd×List Mg×Int) (e:Ending) (w':World):Prop:=∃A' G' c' v',e= .returned (.tuple #[fT R.1 A',v',.int .i64 R.2.2])/\NO w' w.heap.size R.1 A' G' c'/\w'.ownsRow w.heap.size 32 7 v' R.2.1.length (GR.flat lF R.2.1)/\(∀x,v'.ownBlock=some x->c' x=7)/\aY w w'
theorem FE (n:Nd) (A:bC) (o:fP) (w:World) (hz:eY n 1048576) (hok:dY n=false) (ha:bQ w A n):
 Calls prog 8 #[fT n A,jX o] w (Bq w (O3 n o)):=by
 rw [Em hok];unfold Bq;have Du:=Hq (λW (h:aY w W)=>uD n A W hz (ha.below h));have lD:=Hq (λW (h:aY w W)=>yw n A W (hz.mono Aaa) (ha.below h));rw [hok] at lD;clear hz hok ha;obtain⟨K,no,k,nn,⟨mK,mF,mT,mI,mL,mk,mN⟩⟩:=o;first|dsimp only at * |skip
 go_in
 go_upto_region 1 with fail;refine wp_at (λW0 hW=>?_);obtain⟨e1,e2,e3,e4⟩:=gD w (.cells (dD n A) 30) (.cells (cu K no k nn mK mF mT mI mL mk mN) 34) (.cells fU 30);rw [<-hW] at e1 e2 e3 e4;have HN:=Hq e1;have HO:=Hq e2;have HR:=Hq e3;have HB:=Hq e4;clear hW e1 e2 e3 e4;obtain⟨c0,c1,c2,c3,c4,c5,c6,c7,c8⟩:=nine HN;have hl0:=aA HR;go_wp2_with fail;refine(Du W0 HB).mono ?_;rintro e y ⟨A1,G1,cc1,rfl,Hz,hby⟩;have kS:=Hq Hz;have yX:=Hq hby;clear Hz hby c0 c1 c2 c3 c4 c5 c6 c7 c8 Du;go_upto_region 2 with fail;refine wp_at (λW hW=>?_);have e5:W.heap[y.heap.size]?=some (.cells (RI n A1 (.slice none 0 0)) 74 (0,0)):=Aby
 have e6:aY y W:=by rw [hW];exact au _ _
 have HW:=Hq (WK.start yX kS (Nat.le_refl y.heap.size) e6 e5);have GZ:=Hq (ay HN (yX.trans (e6.mono yX.size)));clear hW e5 e6 kS HN;generalize newC y.heap.size 8 cc1=GX at *;have hyl:=aA HW.blk;generalize y.heap.size=wb at *;obtain⟨c0,c1,c2,c3,c4,c5,c6,c7,c8⟩:=nine GZ;have hnl:=aA GZ;go_wp2_with fail;refine(lD W (HB.trans (HW.keep.mono HB.size))).mono ?_;rintro e W2 ⟨rfl,hb2⟩;have HW2:=Hq (HW.step hb2);clear hb2 c0 c1 c2 c3 c4 c5 c6 c7 c8 lD GZ hyl hnl HW;have HR2:=Hq (ay HR HW2.keep);obtain⟨c0,c1,c2,c3,c4,c5,c6,c7,c8,c9⟩:=jr HW2.blk;obtain⟨d0,d1,d2,d3,d4,d5,d6,d7,d8⟩:=nine HR2;have f0:=aj HR2 0;have f1:=aj HR2 1;have f2:=aj HR2 2;have f3:=aj HR2 3;have f4:=aj HR2 4;have f5:=aj HR2 5;have f6:=aj HR2 6;have f7:=aj HR2 7;have f8:=aj HR2 8;have hwl:=aA HW2.blk;have hrl:=aA HR2;go_wp2_with fail;refine aO (λW' hW'=>?_)
 have e4:W'.heap[w.heap.size+2]?=some (.cells (dD n A1) 30 (0,0)):=by
  rw [hW'];exact GR.setW_blk (dD n A1).toList (o:=0) (xs:=fU.toList) HR2
 have hkc:KC GX 0 W2 W':=by
  rw [hW'];exact KC.setW (o:=0) (dD n A1).toList (HW2.no.lo _ Aaa)
 have Wm:=Hq ((HW2.no.kc0 hkc).base HB.size);have HMF:=Hq (jO (hkc.own HW2.m HW2.cm Aaa) HB.size);have Dt:=Hq HW2.cm
 have nO:Hid (aY w W'):=by
  rw [hW'];exact GR.setW_below Aaa (dD n A1).toList (o:=0) (HB.trans (HW2.keep.mono HB.size))
 obtain⟨d0,d1,d2,d3,d4,d5,d6,d7,d8⟩:=nine e4;clear hW' e4 hkc;exact bodyPost_ret (v:= .tuple #[(fT n A1),(.slice none 0 0),.int .i64 3]) Adh rfl ⟨A1,G1,GX,(.slice none 0 0),rfl,Wm,HMF,Dt,nO⟩
theorem Ii (n:Nd) (A:bC) (o:fP) (E:Nat->Addr) (w:World) (hz:eY n 1048576) (hk:o.k.size<=1048576) (hmk:o.m.k.size<=1048576) (hok:dY n=true) (ha:bQ w A n) (he:iH w E):
 Calls prog 8 #[fT n A,jX o] w (Bq w (O3 n o)):=by
 rw [Lf hok];unfold Bq;have Du:=Hq (λW (h:aY w W)=>uD n A W hz (ha.below h));have lD:=Hq (λW (h:aY w W)=>yw n A W (hz.mono Aaa) (ha.below h));rw [hok] at lD;have HE:=Hq he;have RY:=Hq (λW w0 wb A G c v (hW:WK w0 W wb n A G c v []) (he:iH w0 E)=>ayB w0 W wb n A G c v [] o E hz hok hk hmk Aac hW he);clear hz hok ha hk hmk he;generalize nQ n o=RR at *;obtain⟨K,no,k,nn,⟨mK,mF,mT,mI,mL,mk,mN⟩⟩:=o;first|dsimp only at * |skip
 go_in
 go_upto_region 1 with fail;refine wp_at (λW0 hW=>?_);obtain⟨e1,e2,e3,e4⟩:=gD w (.cells (dD n A) 30) (.cells (cu K no k nn mK mF mT mI mL mk mN) 34) (.cells fU 30);rw [<-hW] at e1 e2 e3 e4;have HN:=Hq e1;have HO:=Hq e2;have HR:=Hq e3;have HB:=Hq e4;clear hW e1 e2 e3 e4;obtain⟨c0,c1,c2,c3,c4,c5,c6,c7,c8⟩:=nine HN;have hl0:=aA HR;go_wp2_with fail;refine(Du W0 HB).mono ?_;rintro e y ⟨A1,G1,cc1,rfl,Hz,hby⟩;have kS:=Hq Hz;have yX:=Hq hby;clear Hz hby c0 c1 c2 c3 c4 c5 c6 c7 c8 Du;go_upto_region 2 with fail;refine wp_at (λW hW=>?_);have e5:W.heap[y.heap.size]?=some (.cells (RI n A1 (.slice none 0 0)) 74 (0,0)):=Aby
 have e6:aY y W:=by rw [hW];exact au _ _
 have HW:=Hq (WK.start yX kS (Nat.le_refl y.heap.size) e6 e5);have GZ:=Hq (ay HN (yX.trans (e6.mono yX.size)));clear hW e5 e6 kS HN;generalize newC y.heap.size 8 cc1=GX at *;have hyl:=aA HW.blk;generalize y.heap.size=wb at *;obtain⟨c0,c1,c2,c3,c4,c5,c6,c7,c8⟩:=nine GZ;have hnl:=aA GZ;go_wp2_with fail;refine(lD W (HB.trans (HW.keep.mono HB.size))).mono ?_;rintro e W2 ⟨rfl,hb2⟩;have HW2:=Hq (HW.step hb2);clear hb2 c0 c1 c2 c3 c4 c5 c6 c7 c8 lD GZ hyl hnl HW;have akB:=Hq (RY W2 W0 wb A1 G1 GX _ HW2 (HE.below HB));have HO2:=Hq (ay HO HW2.keep);obtain⟨⟨p0,p1,p2,p3,p4,p5,p6,p7,p8,p9,oD⟩,_⟩:=aQ HO2;have hol:=aA HO2;go_wp2_with fail;refine akB.mono ?_;rintro e W3 ⟨rfl,A2,G2,cc3,v3,hW3⟩;have HW3:=Hq hW3;clear hW3 RY akB p0 p1 p2 p3 p4 p5 p6 p7 p8 p9 oD hol HW2 HO2
 obtain⟨a3,cp3,hv3⟩:∃a cp,v3= .slice a RR.2.1.length cp:=by
  obtain⟨a,cp,he,_⟩:=GR.own_at (enc:=lF) (sz:=7) oW HW3.m;exact⟨a,cp,he⟩
 subst hv3;rw [List.nil_append] at HW3;obtain⟨n3,L3,aa1⟩:=RR;first|dsimp only at * |skip
 obtain⟨c0,c1,c2,c3,c4,c5,c6,c7,c8,c9⟩:=jr HW3.blk;have hwl:=aA HW3.blk;clear c0 c1 c2 c3 c4 c5 c6 c7 c8 c9;go_upto_region 5 with fail;refine kN Aab ?_;show uX _ _ _ _ 8 (Array.replicate 8 false) _ _
 refine pO 0 rfl Aab Aab Aab (λ_ _ _ _ h=>h) (λK hK=>?_);go_simp
 first
  |(refine hK _ ?_;clear hK K)
  |(apply Exists.intro
    refine⟨λ_=>rfl,hK _ ?_⟩
    clear hK K)
 refine pO 2 rfl Aab Aab Aab (λ_ _ _ _ h=>h) (λK hK=>?_);go_simp
 first
  |(refine hK _ ?_;clear hK K)
  |(apply Exists.intro
    refine⟨λ_=>rfl,hK _ ?_⟩
    clear hK K)
 refine pO 4 rfl Aab Aab Aab (λ_ _ _ _ h=>h) (λK hK=>?_);go_simp
 first
  |(refine hK _ ?_;clear hK K)
  |(apply Exists.intro
    refine⟨λ_=>rfl,hK _ ?_⟩
    clear hK K)
 refine λx hx=>?_
 have xC:=Hq (HW3.step hx);have HR2:=Hq (ay HR xC.keep);have hwr:w.heap.size+2≠wb:=by have:=xC.lo;omega
 clear hx HW3;obtain⟨c0,c1,c2,c3,c4,c5,c6,c7,c8,c9⟩:=jr xC.blk;obtain⟨d0,d1,d2,d3,d4,d5,d6,d7,d8⟩:=nine HR2;have f0:=aj HR2 0;have f1:=aj HR2 1;have f2:=aj HR2 2;have f3:=aj HR2 3;have f4:=aj HR2 4;have f5:=aj HR2 5;have f6:=aj HR2 6;have f7:=aj HR2 7;have f8:=aj HR2 8;have hrl:=aA HR2;have aCT:=aA xC.blk;refine KF 1 3 rfl rfl Aab Aad Aad ?pA ?pB
 case' pB=>
  go_simp
  refine aF 1 rfl Aab Aad ?_
  go_simp
  refine aF 5 rfl Aab Aad ?_
  go_simp
  refine aF 6 rfl Aab Aad ?_
  go_simp
  refine aF 7 rfl Aab Aad ?_
  go_simp
  refine wpAny_done Aab ?_
  go_simp
  clear c0 c1 c2 c3 c4 c5 c6 c7 c8 c9 d0 d1 d2 d3 d4 d5 d6 d7 d8 f0 f1 f2 f3 f4 f5 f6 f7 f8
  go_wp2_with fail
  refine aO (λW' hW'=>?_)
  have e4:W'.heap[w.heap.size+2]?=some (.cells (dD n3 A2) 30 (0,0)):=by
   rw [hW'];exact GR.setW_blk (dD n3 A2).toList (o:=0) (xs:=fU.toList) HR2
  have hkc:KC cc3 0 x W':=by
   rw [hW'];exact KC.setW (o:=0) (dD n3 A2).toList (xC.no.lo _ Aaa)
  have Wm:=Hq ((xC.no.kc0 hkc).base HB.size)
  have HMF:=Hq (jO (hkc.own xC.m xC.cm Aaa) HB.size)
  have Dt:=Hq xC.cm
  have nO:Hid (aY w W'):=by
   rw [hW'];exact GR.setW_below Aaa (dD n3 A2).toList (o:=0) (HB.trans (xC.keep.mono HB.size))
  obtain⟨d0,d1,d2,d3,d4,d5,d6,d7,d8⟩:=nine e4
  clear hW' e4 hkc
  exact bodyPost_ret (v:= .tuple #[(fT n3 A2),(.slice a3 L3.length cp3),.int .i64 aa1]) Adh rfl ⟨A2,G2,cc3,(.slice a3 L3.length cp3),rfl,Wm,HMF,Dt,nO⟩
 case' pA=>
  go_simp
  refine KF 3 5 rfl rfl Aab Aad Aad ?pA1 ?pA2
 case' pA1=>
  go_simp
  refine aF 5 rfl Aab Aad ?_
  go_simp
  refine aF 6 rfl Aab Aad ?_
  go_simp
  refine aF 7 rfl Aab Aad ?_
  go_simp
  refine wpAny_done Aab ?_
  go_simp
  clear c0 c1 c2 c3 c4 c5 c6 c7 c8 c9 d0 d1 d2 d3 d4 d5 d6 d7 d8 f0 f1 f2 f3 f4 f5 f6 f7 f8
  go_wp2_with fail
  refine aO (λW' hW'=>?_)
  have e4:W'.heap[w.heap.size+2]?=some (.cells (dD n3 A2) 30 (0,0)):=by
   rw [hW'];exact GR.setW_blk (dD n3 A2).toList (o:=0) (xs:=fU.toList) HR2
  have hkc:KC cc3 0 x W':=by
   rw [hW'];exact KC.setW (o:=0) (dD n3 A2).toList (xC.no.lo _ Aaa)
  have Wm:=Hq ((xC.no.kc0 hkc).base HB.size)
  have HMF:=Hq (jO (hkc.own xC.m xC.cm Aaa) HB.size)
  have Dt:=Hq xC.cm
  have nO:Hid (aY w W'):=by
   rw [hW'];exact GR.setW_below Aaa (dD n3 A2).toList (o:=0) (HB.trans (xC.keep.mono HB.size))
  obtain⟨d0,d1,d2,d3,d4,d5,d6,d7,d8⟩:=nine e4
  clear hW' e4 hkc
  exact bodyPost_ret (v:= .tuple #[(fT n3 A2),(.slice a3 L3.length cp3),.int .i64 aa1]) Adh rfl ⟨A2,G2,cc3,(.slice a3 L3.length cp3),rfl,Wm,HMF,Dt,nO⟩
 have c9f:=aa9 (b0:= .int .i64 n3.id) (b1:= .int .i64 n3.par) (b2:= .slice A2.k n3.kids.length A2.ck) (b3:= .int .i64 n3.next) (b4:= .slice A2.p n3.pu.length A2.cp) (b5:= .slice A2.o n3.out.length A2.co) (b6:= .slice A2.s n3.seen.length A2.cs) (b7:= .int .i64 n3.old) (b8:= .slice A2.r n3.reqs.length A2.cr) hwr c9;go_simp;refine aF 3 rfl Aab Aad ?_;go_simp;refine aF 6 rfl Aab Aad ?_;go_simp;refine aF 7 rfl Aab Aad ?_;go_simp;refine wpAny_done Aab ?_;go_simp;clear c0 c1 c2 c3 c4 c5 c6 c7 c8 c9 d0 d1 d2 d3 d4 d5 d6 d7 d8 f0 f1 f2 f3 f4 f5 f6 f7 f8 c9f;go_wp2_with fail;refine aO (λW' hW'=>?_)
 have e4:W'.heap[w.heap.size+2]?=some (.cells (dD n3 A2) 30 (0,0)):=by
  rw [hW'];exact GR.setW_blk (dD n3 A2).toList (o:=0) (xs:=fU.toList) HR2
 have hkc:KC cc3 0 x W':=by
  rw [hW'];exact KC.setW (o:=0) (dD n3 A2).toList (xC.no.lo _ Aaa)
 have Wm:=Hq ((xC.no.kc0 hkc).base HB.size);have HMF:=Hq (jO (hkc.own xC.m xC.cm Aaa) HB.size);have Dt:=Hq xC.cm
 have nO:Hid (aY w W'):=by
  rw [hW'];exact GR.setW_below Aaa (dD n3 A2).toList (o:=0) (HB.trans (xC.keep.mono HB.size))
 obtain⟨d0,d1,d2,d3,d4,d5,d6,d7,d8⟩:=nine e4;clear hW' e4 hkc;exact bodyPost_ret (v:= .tuple #[(fT n3 A2),(.slice a3 L3.length cp3),.int .i64 aa1]) Adh rfl ⟨A2,G2,cc3,(.slice a3 L3.length cp3),rfl,Wm,HMF,Dt,nO⟩
theorem TB (n:Nd) (A:bC) (o:fP) (E:Nat->Addr) (w:World) (hz:eY n 1048576) (hk:o.k.size<=1048576) (hmk:o.m.k.size<=1048576) (ha:bQ w A n) (he:iH w E):
 Calls prog 8 #[fT n A,jX o] w (Bq w (O3 n o)):=by
 cases hok:dY n with
 |false=>exact FE n A o w hz hok ha
 |true=>exact Ii n A o E w hz hk hmk hok ha he
end Go.Proofs.YtacgbldlonoaaaaGreatDoor
