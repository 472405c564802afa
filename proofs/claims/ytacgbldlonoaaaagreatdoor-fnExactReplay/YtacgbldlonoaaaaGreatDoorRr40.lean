/- Parts. -/
import Derived.Test.YtacgbldlonoaaaaGreatDoorRr36
import Derived.Test.YtacgbldlonoaaaaGreatDoorRr22
namespace Go.Proofs.YtacgbldlonoaaaaGreatDoor
set_option maxHeartbeats 8000000
set_option maxRecDepth 100000
open Go.RowKit
open Mth
theorem ZT (w0 w:World) (wb:Nat) (n:Nd) (A:bH) (G:aV) (c:Nat->Nat) (v:Value) (L:List Mg) (o:gM) (ho:bV o=false) (h:WK w0 w wb n A G c v L):Calls Tryz.prog 35 #[.pointer (some ⟨wb,0,none⟩),jB o] w λe w'=>e= .returned (.int .i64 (lV n o).2.2)/\∃A' G' c' v',WK w0 w' wb (lV n o).1 A' G' c' v' (L++(lV n o).2.1):=by
 have HR:Hid (lV n o=(n,[],3)):=by
  show lV n o=_
  unfold lV;rw [ho];rfl
 rw [ah HR];clear HR;open avu in exact aaG
theorem ZV (w0 w:World) (wb:Nat) (n:Nd) (A:bH) (G:aV) (c:Nat->Nat) (v:Value) (L:List Mg) (o:gM) (hp:dZ n=true) (hz:n.kids.length<=1048600) (ho:bV o=true) (hK:o.K=6) (ha:vS n o=false) (h:WK w0 w wb n A G c v L):Calls Tryz.prog 35 #[.pointer (some ⟨wb,0,none⟩),jB o] w λe w'=>e= .returned (.int .i64 (lV n o).2.2)/\∃A' G' c' v',WK w0 w' wb (lV n o).1 A' G' c' v' (L++(lV n o).2.1):=by
 have HR:Hid (lV n o=(n,[],3)):=by
  show lV n o=_
  unfold lV;rw [ha,Bool.and_false];rfl
 rw [ah HR]
 have hd:(decide (o.m.T=n.id)&&dV n o.m.F)=false:=by
  unfold vS at ha;rw [hK] at ha;simpa using ha
 have HAD:=Hq (λW (hW:WK w0 W wb n A G c v L)=>ZR w0 W wb n A G c v L o.m hp hz hW);rw [hd] at HAD;clear HR hp hz ha hd;have HK6:=Hq hK;clear hK;open avt in exact aaG
theorem agw (w0 w:World) (wb:Nat) (n:Nd) (A:bH) (G:aV) (c:Nat->Nat) (v:Value) (L:List Mg) (o:gM) (ho:bV o=true) (hK:o.K=0) (hx:∀W,WK w0 W wb n A G c v L->Calls Tryz.prog 107 #[.pointer (some ⟨wb,0,none⟩),jB o] W λe w'=>e= .returned (.int .i64 (eZ n o).2.2)/\∃A' G' c' v',WK w0 w' wb (eZ n o).1 A' G' c' v' (L++(eZ n o).2.1)) (h:WK w0 w wb n A G c v L):Calls Tryz.prog 35 #[.pointer (some ⟨wb,0,none⟩),jB o] w λe w'=>e= .returned (.int .i64 (eZ n o).2.2)/\∃A' G' c' v',WK w0 w' wb (eZ n o).1 A' G' c' v' (L++(eZ n o).2.1):=by
 open auo in exact Yr1
theorem agx (w0 w:World) (wb:Nat) (n:Nd) (A:bH) (G:aV) (c:Nat->Nat) (v:Value) (L:List Mg) (o:gM) (ho:bV o=true) (hK:o.K=1) (hx:∀W,WK w0 W wb n A G c v L->Calls Tryz.prog 108 #[.pointer (some ⟨wb,0,none⟩),jB o] W λe w'=>e= .returned (.int .i64 (eZ n o).2.2)/\∃A' G' c' v',WK w0 w' wb (eZ n o).1 A' G' c' v' (L++(eZ n o).2.1)) (h:WK w0 w wb n A G c v L):Calls Tryz.prog 35 #[.pointer (some ⟨wb,0,none⟩),jB o] w λe w'=>e= .returned (.int .i64 (eZ n o).2.2)/\∃A' G' c' v',WK w0 w' wb (eZ n o).1 A' G' c' v' (L++(eZ n o).2.1):=by
 open aun in exact Yr1
theorem agy (w0 w:World) (wb:Nat) (n:Nd) (A:bH) (G:aV) (c:Nat->Nat) (v:Value) (L:List Mg) (o:gM) (ho:bV o=true) (hK:o.K=2) (hx:∀W,WK w0 W wb n A G c v L->Calls Tryz.prog 109 #[.pointer (some ⟨wb,0,none⟩),jB o] W λe w'=>e= .returned (.int .i64 (eZ n o).2.2)/\∃A' G' c' v',WK w0 w' wb (eZ n o).1 A' G' c' v' (L++(eZ n o).2.1)) (h:WK w0 w wb n A G c v L):Calls Tryz.prog 35 #[.pointer (some ⟨wb,0,none⟩),jB o] w λe w'=>e= .returned (.int .i64 (eZ n o).2.2)/\∃A' G' c' v',WK w0 w' wb (eZ n o).1 A' G' c' v' (L++(eZ n o).2.1):=by
 open aum in exact Yr1
theorem agz (w0 w:World) (wb:Nat) (n:Nd) (A:bH) (G:aV) (c:Nat->Nat) (v:Value) (L:List Mg) (o:gM) (ho:bV o=true) (hK:o.K=3) (hx:∀W,WK w0 W wb n A G c v L->Calls Tryz.prog 110 #[.pointer (some ⟨wb,0,none⟩),jB o] W λe w'=>e= .returned (.int .i64 (eZ n o).2.2)/\∃A' G' c' v',WK w0 w' wb (eZ n o).1 A' G' c' v' (L++(eZ n o).2.1)) (h:WK w0 w wb n A G c v L):Calls Tryz.prog 35 #[.pointer (some ⟨wb,0,none⟩),jB o] w λe w'=>e= .returned (.int .i64 (eZ n o).2.2)/\∃A' G' c' v',WK w0 w' wb (eZ n o).1 A' G' c' v' (L++(eZ n o).2.1):=by
 open Sr9 in exact Yr1
theorem agA (w0 w:World) (wb:Nat) (n:Nd) (A:bH) (G:aV) (c:Nat->Nat) (v:Value) (L:List Mg) (o:gM) (ho:bV o=true) (hK:o.K=4) (hx:∀W,WK w0 W wb n A G c v L->Calls Tryz.prog 111 #[.pointer (some ⟨wb,0,none⟩),jB o] W λe w'=>e= .returned (.int .i64 (eZ n o).2.2)/\∃A' G' c' v',WK w0 w' wb (eZ n o).1 A' G' c' v' (L++(eZ n o).2.1)) (h:WK w0 w wb n A G c v L):Calls Tryz.prog 35 #[.pointer (some ⟨wb,0,none⟩),jB o] w λe w'=>e= .returned (.int .i64 (eZ n o).2.2)/\∃A' G' c' v',WK w0 w' wb (eZ n o).1 A' G' c' v' (L++(eZ n o).2.1):=by
 open Sr8 in exact Yr1
theorem agB (w0 w:World) (wb:Nat) (n:Nd) (A:bH) (G:aV) (c:Nat->Nat) (v:Value) (L:List Mg) (o:gM) (ho:bV o=true) (hK:o.K=5) (hx:∀W,WK w0 W wb n A G c v L->Calls Tryz.prog 50 #[.pointer (some ⟨wb,0,none⟩),jB o] W λe w'=>e= .returned (.int .i64 (eZ n o).2.2)/\∃A' G' c' v',WK w0 w' wb (eZ n o).1 A' G' c' v' (L++(eZ n o).2.1)) (h:WK w0 w wb n A G c v L):Calls Tryz.prog 35 #[.pointer (some ⟨wb,0,none⟩),jB o] w λe w'=>e= .returned (.int .i64 (eZ n o).2.2)/\∃A' G' c' v',WK w0 w' wb (eZ n o).1 A' G' c' v' (L++(eZ n o).2.1):=by
 open Sr7 in exact Yr1
theorem agC (w0 w:World) (wb:Nat) (n:Nd) (A:bH) (G:aV) (c:Nat->Nat) (v:Value) (L:List Mg) (o:gM) (hp:dZ n=true) (hz:n.kids.length<=1048600) (hd:(decide (o.m.T=n.id)&&dV n o.m.F)=true) (ho:bV o=true) (hK:o.K=6) (hx:∀W,WK w0 W wb n A G c v L->Calls Tryz.prog 112 #[.pointer (some ⟨wb,0,none⟩),jB o] W λe w'=>e= .returned (.int .i64 (eZ n o).2.2)/\∃A' G' c' v',WK w0 w' wb (eZ n o).1 A' G' c' v' (L++(eZ n o).2.1)) (h:WK w0 w wb n A G c v L):Calls Tryz.prog 35 #[.pointer (some ⟨wb,0,none⟩),jB o] w λe w'=>e= .returned (.int .i64 (eZ n o).2.2)/\∃A' G' c' v',WK w0 w' wb (eZ n o).1 A' G' c' v' (L++(eZ n o).2.1):=by
 have HAD:=Hq (λW (hW:WK w0 W wb n A G c v L)=>ZR w0 W wb n A G c v L o.m hp hz hW);rw [hd] at HAD;clear hp hz hd;have HX:=Hq hx;have HKQ:=Hq hK;clear hx hK;generalize eZ n o=TT at *;open avs in exact aaG
theorem atP (w0 w:World) (wb:Nat) (n:Nd) (A:bH) (G:aV) (c:Nat->Nat) (v:Value) (L:List Mg) (o:gM) (E:Nat->Addr) (hz:fu n 1048576) (hok:dU n=true) (hk:o.k.size<=1048576) (hmk:o.m.k.size<=1048576) (hL:L.length<=1048000) (h:WK w0 w wb n A G c v L) (he:iG w0 E):Calls Tryz.prog 35 #[.pointer (some ⟨wb,0,none⟩),jB o] w λe w'=>e= .returned (.int .i64 (lV n o).2.2)/\∃A' G' c' v',WK w0 w' wb (lV n o).1 A' G' c' v' (L++(lV n o).2.1):=by
 have hp:=(bQ hok).1;have hzk:n.kids.length<=1048600:=Nat.le_trans hz.k Aaa;have hrq:=(bQ hok).2.2.2.2.2;cases ho:bV o with
 |false=>exact ZT w0 w wb n A G c v L o ho h
 |true=>
  cases ha:vS n o with
  |false=>
   have hK:o.K=6:=by
    unfold vS at ha;by_cases hK:o.K=6
    .exact hK
    .rw [decide_eq_false hK] at ha;simp at ha
   exact ZV w0 w wb n A G c v L o hp hzk ho hK ha h
  |true=>
   have hw:lV n o=eZ n o:=by
    unfold lV;rw [ho,ha];rfl
   rw [hw]
   clear hw
   rcases Hw ho with hK|hK|hK|hK|hK|hK|hK
   .refine agw w0 w wb n A G c v L o ho hK (λW hW=>?_) h
    have e:eZ n o=((tC n o).1,[],(tC n o).2):=by
     unfold eZ tC;rw [if_pos hK];split<;>rfl
    rw [e];refine(agE w0 W wb n A G c v L o E hz hk hW he).mono ?_;exact afJ
   .refine agx w0 w wb n A G c v L o ho hK (λW hW=>?_) h;have hpa:=DK ho hK
    have e:eZ n o=((fF n o.no o.k o.n).1,[],(fF n o.no o.k o.n).2):=by
     unfold eZ;rw [if_neg Aaa,if_pos hK]
    rw [e];refine(abB w0 W wb n A G c v L o E hz hrq hk Aaa hpa.2.2.2.2 hW he).mono ?_;exact afJ
   .refine agy w0 w wb n A G c v L o ho hK (λW hW=>?_) h;have hpr:=JE ho hK
    have e:eZ n o=((bf n o.no).1,[],(bf n o.no).2):=by
     unfold eZ;rw [if_neg Aaa,if_neg Aaa,if_pos hK]
    rw [e];refine(Vg w0 W wb n A G c v L o E hz hrq Aaa hpr.2 hW he).mono ?_;exact afJ
   .refine agz w0 w wb n A G c v L o ho hK (λW hW=>?_) h
    have e:eZ n o=(n,(Et n o).1,(Et n o).2):=by
     unfold eZ Et;rw [if_neg Aaa,if_neg Aaa,if_neg Aaa,if_pos hK];split<;>rfl
    rw [e];refine(agG w0 W wb n A G c v L o hk Aaa hW).mono ?_;rintro e w' ⟨rfl,c',v',hW'⟩;exact⟨rfl,A,G,c',v',hW'⟩
   .refine agA w0 w wb n A G c v L o ho hK (λW hW=>?_) h;have hpk:=Nk ho Aaa
    have e:eZ n o=CS n o:=by
     unfold eZ CS;rw [if_neg Aaa,if_neg Aaa,if_neg Aaa,if_neg Aaa,if_pos hK]
    rw [e];exact agv w0 W wb n A G c v L o E hok hpk.1 hpk.2.1 hpk.2.2 Aaa hW he
   .refine agB w0 w wb n A G c v L o ho hK (λW hW=>?_) h
    have e:eZ n o=(n,n.out.map (nI n),0):=by
     unfold eZ;rw [if_neg Aaa,if_neg Aaa,if_neg Aaa,if_neg Aaa,if_neg Aaa,if_pos hK]
    rw [e];refine(agF w0 W wb n A G c v L o hz hL hW).mono ?_;rintro e w' ⟨rfl,c',v',hW'⟩;exact⟨rfl,A,G,c',v',hW'⟩
   .have had:=CP ha hK;have hd:(decide (o.m.T=n.id)&&dV n o.m.F)=true:=by rw [decide_eq_true had.1,had.2];rfl
    refine agC w0 w wb n A G c v L o hp hzk hd ho hK (λW hW=>?_) h
    have e:eZ n o=fG n o.m:=by
     unfold eZ;rw [if_neg Aaa,if_neg Aaa,if_neg Aaa,if_neg Aaa,if_neg Aaa,if_neg Aaa]
    rw [e];exact agD w0 W wb n A G c v L o E hz hok (Hu ho hK) had.2 hmk Aaa hW he
def BR (w:World) (n:Nd) (e:Ending) (w':World):Prop:=∃A' G' c',e= .returned (fI n A')/\NO w' w.heap.size n A' G' c'/\aX w w'
theorem Jt (n:Nd) (A:bH) (a:Option Addr) (cap:Nat) (L:List gM) (E:Nat->Addr) (w:World) (hz:fu n 1048576) (hL:L.length<=60000) (hk:∀o∈L,o.k.size<=1048576/\o.m.k.size<=1048576) (ha:dK w A n) (ho:GD w a L) (he:iG w E):
 Calls Tryz.prog 68 #[fI n A,.slice a L.length cap] w (BR w (iB n L)):=by
 have Bf:=Hq (λW (h:aX w W)=>rT n A W hz (ha.below h));have lS:=Hq (λW (h:aX w W)=>wG n A W (hz.mono Aaa) (ha.below h));have HDO:=Hq (fun(hn:dU n=true) (k:Nat) (hk1:k < L.length) W w0 wb A G c v (hW:WK w0 W wb (iB n (L.take k)) A G c v []) (he:iG w0 E)=>atP w0 W wb (iB n (L.take k)) A G c v [] L[k] E (Sg hz _) (Sd hn _) (hk _ (List.getElem_mem hk1)).1 (hk _ (List.getElem_mem hk1)).2 Aac hW he);have HPS:=Hq (fun(hn:dU n=true) (k:Nat) (hk1:k < L.length)=>show(lV (iB n (L.take k)) L[k]).1=iB n (L.take (k+1)) by rw [H6 hk1,Jb (Sd hn _)]);have IU:=Hq (λh=>Zj (n:=n) h L);have HPE:=Hq (show iB n (L.take L.length)=iB n L by rw [List.take_length]);have HE:=Hq he;have HO:=Hq ho;clear hz ha hk ho he;unfold BR;go_enter Tryz.func68,Tryz.ntmps68
 open aqj in exact adu
theorem agh (n:Nd) (A:bH) (s:ByteArray) (E:Nat->Addr) (w:World) (hs:s.size<=maxLen) (hz:fu n 1048576) (ha:dK w A n) (he:iG w E) (hH:Handle w):
 Calls Tryz.prog 23 #[fI n A,.string s] w (BR w (iB n (iF s).1)):=by
 have Vr:=Hq (λW hH=>YA s hs W hH);have HRP:=Hq (λa cap W (hb:aX w W) (ho:GD W a (iF s).1)=>Jt n A a cap (iF s).1 E W hz (Ig s) (λo h=>Sb (Nw s o h)) (ha.below hb) ho (he.below hb));have HH:=Hq hH;clear hs hz ha he hH;unfold kZ at Vr;unfold BR at HRP ⊢;generalize iB n (iF s).1=m at *;go_enter Tryz.func23,Tryz.ntmps23
 open aqi in exact adu
theorem IB {P:Program} {ops:Array Oper} {Q:Exit->Act->World->Prop} {md:Region.Mode} (i j:Nat) {oi oj:Oper} {fuel:Nat} {listed:Array Bool} {a:Act} {w:World} (hi:ops[i]?=some oi) (hj:ops[j]?=some oj) (hr:Region.ready md ops listed=[i,j]) (hwi:Region.wanted oi (yielded ops a.tmps)=true) (hwj:Region.wanted oj (yielded ops a.tmps)=true)
 (h1:oi.wp P a w (wpAny P md ops Q fuel (listed.setIfInBounds i true)) Q) (h2:oj.wp P a w (wpAny P md ops Q fuel (listed.setIfInBounds j true)) Q):wpAny P md ops Q (fuel+1) listed a w:=by
 refine⟨λh=>(by rw [hr] at h;cases h),λk hk=>?_⟩;rw [hr] at hk;have hk':k=i\/k=j:=Aca
 rcases hk' with rfl|rfl
 .unfold wpOp;simp only[hi];rw [if_pos hwi];exact .inl h1
 .unfold wpOp;simp only[hj];rw [if_pos hwj];exact .inl h2
def Cq (w:World) (R:Nd×List Mg×Int) (e:Ending) (w':World):Prop:=∃A' G' c' v',e= .returned (.tuple #[fI R.1 A',v',.int .i64 R.2.2])/\NO w' w.heap.size R.1 A' G' c'/\w'.ownsRow w.heap.size 32 7 v' R.2.1.length (GR.flat jF R.2.1)/\(∀x,v'.ownBlock=some x->c' x=7)/\aX w w'
theorem Dq (n:Nd) (A:bH) (o:gM) (w:World) (hz:fu n 1048576) (hok:dU n=false) (ha:dK w A n):
 Calls Tryz.prog 8 #[fI n A,jB o] w (Cq w (PO n o)):=by
 rw [Ce hok];unfold Cq;have Bf:=Hq (λW (h:aX w W)=>rT n A W hz (ha.below h));have lS:=Hq (λW (h:aX w W)=>wG n A W (hz.mono Aaa) (ha.below h));rw [hok] at lS;clear hz hok ha;obtain⟨K,no,k,nn,⟨mK,mF,mT,mI,mL,mk,mN⟩⟩:=o;first|dsimp only at * |skip
 go_enter Tryz.func8,Tryz.ntmps8
 go_upto_region 1 with fail;refine wp_at (λW0 hW=>?_);obtain⟨e1,e2,e3,e4⟩:=fC w (.cells (dH n A) 30) (.cells (bY K no k nn mK mF mT mI mL mk mN) 34) (.cells gu 30);rw [<-hW] at e1 e2 e3 e4;have HN:=Hq e1;have HO:=Hq e2;have HR:=Hq e3;have HB:=Hq e4;clear hW e1 e2 e3 e4;obtain⟨c0,c1,c2,c3,c4,c5,c6,c7,c8⟩:=nine HN;have hl0:=aA HR;go_wp2_with fail;refine(Bf W0 HB).mono ?_;rintro e y ⟨A1,G1,cc1,rfl,ES,hby⟩;have jP:=Hq ES;have yY:=Hq hby;clear ES hby c0 c1 c2 c3 c4 c5 c6 c7 c8 Bf;go_upto_region 2 with fail;refine wp_at (λW hW=>?_);have e5:W.heap[y.heap.size]?=some (.cells (Kz n A1 (.slice none 0 0)) 74 (0,0)):=Abu
 have e6:aX y W:=by rw [hW];exact aj _ _
 have HW:=Hq (WK.start yY jP (Nat.le_refl y.heap.size) e6 e5);have ED:=Hq (ay HN (yY.trans (e6.mono yY.size)));clear hW e5 e6 jP HN;generalize newC y.heap.size 8 cc1=EM at *;have hyl:=aA HW.blk;generalize y.heap.size=wb at *;obtain⟨c0,c1,c2,c3,c4,c5,c6,c7,c8⟩:=nine ED;have hnl:=aA ED;go_wp2_with fail;refine(lS W (HB.trans (HW.keep.mono HB.size))).mono ?_;rintro e W2 ⟨rfl,hb2⟩;have HW2:=Hq (HW.step hb2);clear hb2 c0 c1 c2 c3 c4 c5 c6 c7 c8 lS ED hyl hnl HW;have HR2:=Hq (ay HR HW2.keep);obtain⟨c0,c1,c2,c3,c4,c5,c6,c7,c8,c9⟩:=iQ HW2.blk;obtain⟨d0,d1,d2,d3,d4,d5,d6,d7,d8⟩:=nine HR2;have f0:=au HR2 0;have f1:=au HR2 1;have f2:=au HR2 2;have f3:=au HR2 3;have f4:=au HR2 4;have f5:=au HR2 5;have f6:=au HR2 6;have f7:=au HR2 7;have f8:=au HR2 8;have hwl:=aA HW2.blk;have hrl:=aA HR2;go_wp2_with fail;refine aN (λW' hW'=>?_)
 have e4:W'.heap[w.heap.size+2]?=some (.cells (dH n A1) 30 (0,0)):=by
  rw [hW'];exact GR.setW_blk (dH n A1).toList (o:=0) (xs:=gu.toList) HR2
 have hkc:KC EM 0 W2 W':=by
  rw [hW'];exact KC.setW (o:=0) (dH n A1).toList (HW2.no.lo _ Aaa)
 have SE:=Hq ((HW2.no.kc0 hkc).base HB.size);have HMF:=Hq (je (hkc.own HW2.m HW2.cm Aaa) HB.size);have Bd:=Hq HW2.cm
 have lQ:Hid (aX w W'):=by
  rw [hW'];exact GR.setW_below Aaa (dH n A1).toList (o:=0) (HB.trans (HW2.keep.mono HB.size))
 obtain⟨d0,d1,d2,d3,d4,d5,d6,d7,d8⟩:=nine e4;clear hW' e4 hkc;exact bodyPost_ret (v:= .tuple #[(fI n A1),(.slice none 0 0),.int .i64 3]) Acz rfl ⟨A1,G1,EM,(.slice none 0 0),rfl,SE,HMF,Bd,lQ⟩
theorem E8 (n:Nd) (A:bH) (o:gM) (E:Nat->Addr) (w:World) (hz:fu n 1048576) (hk:o.k.size<=1048576) (hmk:o.m.k.size<=1048576) (hok:dU n=true) (ha:dK w A n) (he:iG w E):
 Calls Tryz.prog 8 #[fI n A,jB o] w (Cq w (PO n o)):=by
 rw [Jb hok];unfold Cq;have Bf:=Hq (λW (h:aX w W)=>rT n A W hz (ha.below h));have lS:=Hq (λW (h:aX w W)=>wG n A W (hz.mono Aaa) (ha.below h));rw [hok] at lS;have HE:=Hq he;have HDO:=Hq (λW w0 wb A G c v (hW:WK w0 W wb n A G c v []) (he:iG w0 E)=>atP w0 W wb n A G c v [] o E hz hok hk hmk Aac hW he);clear hz hok ha hk hmk he;generalize lV n o=RR at *;obtain⟨K,no,k,nn,⟨mK,mF,mT,mI,mL,mk,mN⟩⟩:=o;first|dsimp only at * |skip
 go_enter Tryz.func8,Tryz.ntmps8
 go_upto_region 1 with fail;refine wp_at (λW0 hW=>?_);obtain⟨e1,e2,e3,e4⟩:=fC w (.cells (dH n A) 30) (.cells (bY K no k nn mK mF mT mI mL mk mN) 34) (.cells gu 30);rw [<-hW] at e1 e2 e3 e4;have HN:=Hq e1;have HO:=Hq e2;have HR:=Hq e3;have HB:=Hq e4;clear hW e1 e2 e3 e4;obtain⟨c0,c1,c2,c3,c4,c5,c6,c7,c8⟩:=nine HN;have hl0:=aA HR;go_wp2_with fail;refine(Bf W0 HB).mono ?_;rintro e y ⟨A1,G1,cc1,rfl,ES,hby⟩;have jP:=Hq ES;have yY:=Hq hby;clear ES hby c0 c1 c2 c3 c4 c5 c6 c7 c8 Bf;go_upto_region 2 with fail;refine wp_at (λW hW=>?_);have e5:W.heap[y.heap.size]?=some (.cells (Kz n A1 (.slice none 0 0)) 74 (0,0)):=Abu
 have e6:aX y W:=by rw [hW];exact aj _ _
 have HW:=Hq (WK.start yY jP (Nat.le_refl y.heap.size) e6 e5);have ED:=Hq (ay HN (yY.trans (e6.mono yY.size)));clear hW e5 e6 jP HN;generalize newC y.heap.size 8 cc1=EM at *;have hyl:=aA HW.blk;generalize y.heap.size=wb at *;obtain⟨c0,c1,c2,c3,c4,c5,c6,c7,c8⟩:=nine ED;have hnl:=aA ED;go_wp2_with fail;refine(lS W (HB.trans (HW.keep.mono HB.size))).mono ?_;rintro e W2 ⟨rfl,hb2⟩;have HW2:=Hq (HW.step hb2);clear hb2 c0 c1 c2 c3 c4 c5 c6 c7 c8 lS ED hyl hnl HW;have agV:=Hq (HDO W2 W0 wb A1 G1 EM _ HW2 (HE.below HB));have HO2:=Hq (ay HO HW2.keep);obtain⟨⟨p0,p1,p2,p3,p4,p5,p6,p7,p8,p9,mP⟩,_⟩:=aU HO2;have hol:=aA HO2;go_wp2_with fail;refine agV.mono ?_;rintro e W3 ⟨rfl,A2,G2,cc3,v3,hW3⟩;have HW3:=Hq hW3;clear hW3 HDO agV p0 p1 p2 p3 p4 p5 p6 p7 p8 p9 mP hol HW2 HO2
 obtain⟨a3,cp3,hv3⟩:∃a cp,v3= .slice a RR.2.1.length cp:=by
  obtain⟨a,cp,he,_⟩:=GR.own_at (enc:=jF) (sz:=7) mX HW3.m;exact⟨a,cp,he⟩
 subst hv3;rw [List.nil_append] at HW3;obtain⟨n3,L3,XG⟩:=RR;first|dsimp only at * |skip
 obtain⟨c0,c1,c2,c3,c4,c5,c6,c7,c8,c9⟩:=iQ HW3.blk;have hwl:=aA HW3.blk;clear c0 c1 c2 c3 c4 c5 c6 c7 c8 c9;go_upto_region 5 with fail;refine jN Aab ?_;show sU _ _ _ _ 8 (Array.replicate 8 false) _ _
 refine nD 0 rfl Aab Aab Aab (λ_ _ _ _ h=>h) (λK hK=>?_);go_simp
 first
  |(refine hK _ ?_;clear hK K)
  |(apply Exists.intro
    refine⟨λ_=>rfl,hK _ ?_⟩
    clear hK K)
 refine nD 2 rfl Aab Aab Aab (λ_ _ _ _ h=>h) (λK hK=>?_);go_simp
 first
  |(refine hK _ ?_;clear hK K)
  |(apply Exists.intro
    refine⟨λ_=>rfl,hK _ ?_⟩
    clear hK K)
 refine nD 4 rfl Aab Aab Aab (λ_ _ _ _ h=>h) (λK hK=>?_);go_simp
 first
  |(refine hK _ ?_;clear hK K)
  |(apply Exists.intro
    refine⟨λ_=>rfl,hK _ ?_⟩
    clear hK K)
 refine λx hx=>?_
 have vJ:=Hq (HW3.step hx);have HR2:=Hq (ay HR vJ.keep);have hwr:w.heap.size+2≠wb:=by have:=vJ.lo;omega
 clear hx HW3;obtain⟨c0,c1,c2,c3,c4,c5,c6,c7,c8,c9⟩:=iQ vJ.blk;obtain⟨d0,d1,d2,d3,d4,d5,d6,d7,d8⟩:=nine HR2;have f0:=au HR2 0;have f1:=au HR2 1;have f2:=au HR2 2;have f3:=au HR2 3;have f4:=au HR2 4;have f5:=au HR2 5;have f6:=au HR2 6;have f7:=au HR2 7;have f8:=au HR2 8;have hrl:=aA HR2;have axS:=aA vJ.blk;refine IB 1 3 rfl rfl Aab Aad Aad ?pA ?pB
 case' pB=>
  go_simp
  refine aF 1 rfl Aab Aad ?_
  go_simp
  refine aF 5 rfl Aab Aad ?_
  go_simp
  refine aF 6 rfl Aab Aad ?_
  go_simp
  refine aF 7 rfl Aab Aad ?_
  go_simp
  refine wpAny_done Aab ?_
  go_simp
  clear c0 c1 c2 c3 c4 c5 c6 c7 c8 c9 d0 d1 d2 d3 d4 d5 d6 d7 d8 f0 f1 f2 f3 f4 f5 f6 f7 f8
  go_wp2_with fail
  refine aN (λW' hW'=>?_)
  have e4:W'.heap[w.heap.size+2]?=some (.cells (dH n3 A2) 30 (0,0)):=by
   rw [hW'];exact GR.setW_blk (dH n3 A2).toList (o:=0) (xs:=gu.toList) HR2
  have hkc:KC cc3 0 x W':=by
   rw [hW'];exact KC.setW (o:=0) (dH n3 A2).toList (vJ.no.lo _ Aaa)
  have SE:=Hq ((vJ.no.kc0 hkc).base HB.size)
  have HMF:=Hq (je (hkc.own vJ.m vJ.cm Aaa) HB.size)
  have Bd:=Hq vJ.cm
  have lQ:Hid (aX w W'):=by
   rw [hW'];exact GR.setW_below Aaa (dH n3 A2).toList (o:=0) (HB.trans (vJ.keep.mono HB.size))
  obtain⟨d0,d1,d2,d3,d4,d5,d6,d7,d8⟩:=nine e4
  clear hW' e4 hkc
  exact bodyPost_ret (v:= .tuple #[(fI n3 A2),(.slice a3 L3.length cp3),.int .i64 XG]) Acz rfl ⟨A2,G2,cc3,(.slice a3 L3.length cp3),rfl,SE,HMF,Bd,lQ⟩
 case' pA=>
  go_simp
  refine IB 3 5 rfl rfl Aab Aad Aad ?pA1 ?pA2
 case' pA1=>
  go_simp
  refine aF 5 rfl Aab Aad ?_
  go_simp
  refine aF 6 rfl Aab Aad ?_
  go_simp
  refine aF 7 rfl Aab Aad ?_
  go_simp
  refine wpAny_done Aab ?_
  go_simp
  clear c0 c1 c2 c3 c4 c5 c6 c7 c8 c9 d0 d1 d2 d3 d4 d5 d6 d7 d8 f0 f1 f2 f3 f4 f5 f6 f7 f8
  go_wp2_with fail
  refine aN (λW' hW'=>?_)
  have e4:W'.heap[w.heap.size+2]?=some (.cells (dH n3 A2) 30 (0,0)):=by
   rw [hW'];exact GR.setW_blk (dH n3 A2).toList (o:=0) (xs:=gu.toList) HR2
  have hkc:KC cc3 0 x W':=by
   rw [hW'];exact KC.setW (o:=0) (dH n3 A2).toList (vJ.no.lo _ Aaa)
  have SE:=Hq ((vJ.no.kc0 hkc).base HB.size)
  have HMF:=Hq (je (hkc.own vJ.m vJ.cm Aaa) HB.size)
  have Bd:=Hq vJ.cm
  have lQ:Hid (aX w W'):=by
   rw [hW'];exact GR.setW_below Aaa (dH n3 A2).toList (o:=0) (HB.trans (vJ.keep.mono HB.size))
  obtain⟨d0,d1,d2,d3,d4,d5,d6,d7,d8⟩:=nine e4
  clear hW' e4 hkc
  exact bodyPost_ret (v:= .tuple #[(fI n3 A2),(.slice a3 L3.length cp3),.int .i64 XG]) Acz rfl ⟨A2,G2,cc3,(.slice a3 L3.length cp3),rfl,SE,HMF,Bd,lQ⟩
 have c9f:=XJ (b0:= .int .i64 n3.id) (b1:= .int .i64 n3.par) (b2:= .slice A2.k n3.kids.length A2.ck) (b3:= .int .i64 n3.next) (b4:= .slice A2.p n3.pu.length A2.cp) (b5:= .slice A2.o n3.out.length A2.co) (b6:= .slice A2.s n3.seen.length A2.cs) (b7:= .int .i64 n3.old) (b8:= .slice A2.r n3.reqs.length A2.cr) hwr c9;go_simp;refine aF 3 rfl Aab Aad ?_;go_simp;refine aF 6 rfl Aab Aad ?_;go_simp;refine aF 7 rfl Aab Aad ?_;go_simp;refine wpAny_done Aab ?_;go_simp;clear c0 c1 c2 c3 c4 c5 c6 c7 c8 c9 d0 d1 d2 d3 d4 d5 d6 d7 d8 f0 f1 f2 f3 f4 f5 f6 f7 f8 c9f;go_wp2_with fail;refine aN (λW' hW'=>?_)
 have e4:W'.heap[w.heap.size+2]?=some (.cells (dH n3 A2) 30 (0,0)):=by
  rw [hW'];exact GR.setW_blk (dH n3 A2).toList (o:=0) (xs:=gu.toList) HR2
 have hkc:KC cc3 0 x W':=by
  rw [hW'];exact KC.setW (o:=0) (dH n3 A2).toList (vJ.no.lo _ Aaa)
 have SE:=Hq ((vJ.no.kc0 hkc).base HB.size);have HMF:=Hq (je (hkc.own vJ.m vJ.cm Aaa) HB.size);have Bd:=Hq vJ.cm
 have lQ:Hid (aX w W'):=by
  rw [hW'];exact GR.setW_below Aaa (dH n3 A2).toList (o:=0) (HB.trans (vJ.keep.mono HB.size))
 obtain⟨d0,d1,d2,d3,d4,d5,d6,d7,d8⟩:=nine e4;clear hW' e4 hkc;exact bodyPost_ret (v:= .tuple #[(fI n3 A2),(.slice a3 L3.length cp3),.int .i64 XG]) Acz rfl ⟨A2,G2,cc3,(.slice a3 L3.length cp3),rfl,SE,HMF,Bd,lQ⟩
theorem agf (n:Nd) (A:bH) (o:gM) (E:Nat->Addr) (w:World) (hz:fu n 1048576) (hk:o.k.size<=1048576) (hmk:o.m.k.size<=1048576) (ha:dK w A n) (he:iG w E):
 Calls Tryz.prog 8 #[fI n A,jB o] w (Cq w (PO n o)):=by
 cases hok:dU n with
 |false=>exact Dq n A o w hz hok ha
 |true=>exact E8 n A o E w hz hk hmk hok ha he
end Go.Proofs.YtacgbldlonoaaaaGreatDoor
