/- Parts. -/
import Derived.Test.YtbolgdleijjgfaaGreatDoorRs40
import Derived.Test.YtbolgdleijjgfaaGreatDoorRs34
namespace Go.Proofs.YtbolgdleijjgfaaGreatDoor
open Go.Proofs.Tryz
set_option maxHeartbeats 8000000
set_option maxRecDepth 100000
open Go.RowKit
open Mth
variable {k c:Kp} {l1:List Mg} {l2:List An} {A C:KA} {x1 x2:Option Addr} {lo hi gw ga g g1 g2:Nat} {G1 G2:aK} {st:Int} {lk rt:Bool}
theorem adS (w0 w:World) (wb:Nat) (n:Nd) (A:bq) (G:aK) (c:Nat->Nat) (v:Value) (L:List Mg) (o:gJ) (ho:bH o=false) (h:WK w0 w wb n A G c v L):Calls prog 183 #[.pointer (some ⟨wb,0,none⟩),jP o] w λe w'=>e= .returned (.int .i64 (nN n o).2.2)/\∃A' G' c' v',WK w0 w' wb (nN n o).1 A' G' c' v' (L++(nN n o).2.1):=by
 have HR:Hid (nN n o=(n,[],3)):=by
  show nN n o=_
  unfold nN;rw [ho];rfl
 rw [ah HR];clear HR;open aBb in exact aeD
theorem adT (w0 w:World) (wb:Nat) (n:Nd) (A:bq) (G:aK) (c:Nat->Nat) (v:Value) (L:List Mg) (o:gJ) (hp:eu n=true) (hz:n.kids.length<=1048600) (ho:bH o=true) (hK:o.K=6) (ha:yB n o=false) (h:WK w0 w wb n A G c v L):Calls prog 183 #[.pointer (some ⟨wb,0,none⟩),jP o] w λe w'=>e= .returned (.int .i64 (nN n o).2.2)/\∃A' G' c' v',WK w0 w' wb (nN n o).1 A' G' c' v' (L++(nN n o).2.1):=by
 have HR:Hid (nN n o=(n,[],3)):=by
  show nN n o=_
  unfold nN;rw [ha,Bool.and_false];rfl
 rw [ah HR]
 have hd:(decide (o.m.T=n.id)&&dV n o.m.F)=false:=by
  unfold yB at ha;rw [hK] at ha;simpa using ha
 have HAD:=Hq (λW (hW:WK w0 W wb n A G c v L)=>adR w0 W wb n A G c v L o.m hp hz hW);rw [hd] at HAD;clear HR hp hz ha hd;have HK6:=Hq hK;clear hK;open aBa in exact aeD
theorem alE (w0 w:World) (wb:Nat) (n:Nd) (A:bq) (G:aK) (c:Nat->Nat) (v:Value) (L:List Mg) (o:gJ) (ho:bH o=true) (hK:o.K=0) (hx:∀W,WK w0 W wb n A G c v L->Calls prog 199 #[.pointer (some ⟨wb,0,none⟩),jP o] W λe w'=>e= .returned (.int .i64 (fD n o).2.2)/\∃A' G' c' v',WK w0 w' wb (fD n o).1 A' G' c' v' (L++(fD n o).2.1)) (h:WK w0 w wb n A G c v L):Calls prog 183 #[.pointer (some ⟨wb,0,none⟩),jP o] w λe w'=>e= .returned (.int .i64 (fD n o).2.2)/\∃A' G' c' v',WK w0 w' wb (fD n o).1 A' G' c' v' (L++(fD n o).2.1):=by
 open aAs in exact Yk1
theorem alF (w0 w:World) (wb:Nat) (n:Nd) (A:bq) (G:aK) (c:Nat->Nat) (v:Value) (L:List Mg) (o:gJ) (ho:bH o=true) (hK:o.K=1) (hx:∀W,WK w0 W wb n A G c v L->Calls prog 200 #[.pointer (some ⟨wb,0,none⟩),jP o] W λe w'=>e= .returned (.int .i64 (fD n o).2.2)/\∃A' G' c' v',WK w0 w' wb (fD n o).1 A' G' c' v' (L++(fD n o).2.1)) (h:WK w0 w wb n A G c v L):Calls prog 183 #[.pointer (some ⟨wb,0,none⟩),jP o] w λe w'=>e= .returned (.int .i64 (fD n o).2.2)/\∃A' G' c' v',WK w0 w' wb (fD n o).1 A' G' c' v' (L++(fD n o).2.1):=by
 open aAr in exact Yk1
theorem alG (w0 w:World) (wb:Nat) (n:Nd) (A:bq) (G:aK) (c:Nat->Nat) (v:Value) (L:List Mg) (o:gJ) (ho:bH o=true) (hK:o.K=2) (hx:∀W,WK w0 W wb n A G c v L->Calls prog 201 #[.pointer (some ⟨wb,0,none⟩),jP o] W λe w'=>e= .returned (.int .i64 (fD n o).2.2)/\∃A' G' c' v',WK w0 w' wb (fD n o).1 A' G' c' v' (L++(fD n o).2.1)) (h:WK w0 w wb n A G c v L):Calls prog 183 #[.pointer (some ⟨wb,0,none⟩),jP o] w λe w'=>e= .returned (.int .i64 (fD n o).2.2)/\∃A' G' c' v',WK w0 w' wb (fD n o).1 A' G' c' v' (L++(fD n o).2.1):=by
 open aAq in exact Yk1
theorem alH (w0 w:World) (wb:Nat) (n:Nd) (A:bq) (G:aK) (c:Nat->Nat) (v:Value) (L:List Mg) (o:gJ) (ho:bH o=true) (hK:o.K=3) (hx:∀W,WK w0 W wb n A G c v L->Calls prog 202 #[.pointer (some ⟨wb,0,none⟩),jP o] W λe w'=>e= .returned (.int .i64 (fD n o).2.2)/\∃A' G' c' v',WK w0 w' wb (fD n o).1 A' G' c' v' (L++(fD n o).2.1)) (h:WK w0 w wb n A G c v L):Calls prog 183 #[.pointer (some ⟨wb,0,none⟩),jP o] w λe w'=>e= .returned (.int .i64 (fD n o).2.2)/\∃A' G' c' v',WK w0 w' wb (fD n o).1 A' G' c' v' (L++(fD n o).2.1):=by
 open Sk9 in exact Yk1
theorem alI (w0 w:World) (wb:Nat) (n:Nd) (A:bq) (G:aK) (c:Nat->Nat) (v:Value) (L:List Mg) (o:gJ) (ho:bH o=true) (hK:o.K=4) (hx:∀W,WK w0 W wb n A G c v L->Calls prog 203 #[.pointer (some ⟨wb,0,none⟩),jP o] W λe w'=>e= .returned (.int .i64 (fD n o).2.2)/\∃A' G' c' v',WK w0 w' wb (fD n o).1 A' G' c' v' (L++(fD n o).2.1)) (h:WK w0 w wb n A G c v L):Calls prog 183 #[.pointer (some ⟨wb,0,none⟩),jP o] w λe w'=>e= .returned (.int .i64 (fD n o).2.2)/\∃A' G' c' v',WK w0 w' wb (fD n o).1 A' G' c' v' (L++(fD n o).2.1):=by
 open Sk8 in exact Yk1
theorem alJ (w0 w:World) (wb:Nat) (n:Nd) (A:bq) (G:aK) (c:Nat->Nat) (v:Value) (L:List Mg) (o:gJ) (ho:bH o=true) (hK:o.K=5) (hx:∀W,WK w0 W wb n A G c v L->Calls prog 204 #[.pointer (some ⟨wb,0,none⟩),jP o] W λe w'=>e= .returned (.int .i64 (fD n o).2.2)/\∃A' G' c' v',WK w0 w' wb (fD n o).1 A' G' c' v' (L++(fD n o).2.1)) (h:WK w0 w wb n A G c v L):Calls prog 183 #[.pointer (some ⟨wb,0,none⟩),jP o] w λe w'=>e= .returned (.int .i64 (fD n o).2.2)/\∃A' G' c' v',WK w0 w' wb (fD n o).1 A' G' c' v' (L++(fD n o).2.1):=by
 open Sk7 in exact Yk1
theorem alK (w0 w:World) (wb:Nat) (n:Nd) (A:bq) (G:aK) (c:Nat->Nat) (v:Value) (L:List Mg) (o:gJ) (hp:eu n=true) (hz:n.kids.length<=1048600) (hd:(decide (o.m.T=n.id)&&dV n o.m.F)=true) (ho:bH o=true) (hK:o.K=6) (hx:∀W,WK w0 W wb n A G c v L->Calls prog 205 #[.pointer (some ⟨wb,0,none⟩),jP o] W λe w'=>e= .returned (.int .i64 (fD n o).2.2)/\∃A' G' c' v',WK w0 w' wb (fD n o).1 A' G' c' v' (L++(fD n o).2.1)) (h:WK w0 w wb n A G c v L):Calls prog 183 #[.pointer (some ⟨wb,0,none⟩),jP o] w λe w'=>e= .returned (.int .i64 (fD n o).2.2)/\∃A' G' c' v',WK w0 w' wb (fD n o).1 A' G' c' v' (L++(fD n o).2.1):=by
 have HAD:=Hq (λW (hW:WK w0 W wb n A G c v L)=>adR w0 W wb n A G c v L o.m hp hz hW);rw [hd] at HAD;clear hp hz hd;have HX:=Hq hx;have HKQ:=Hq hK;clear hx hK;generalize fD n o=TT at *;open aA9 in exact aeD
theorem aDn (w0 w:World) (wb:Nat) (n:Nd) (A:bq) (G:aK) (c:Nat->Nat) (v:Value) (L:List Mg) (o:gJ) (E:Nat->Addr) (hz:eF n 1048576) (hok:dR n=true) (hk:o.k.size<=1048576) (hmk:o.m.k.size<=1048576) (hL:L.length<=1048000) (h:WK w0 w wb n A G c v L) (he:gY w0 E):Calls prog 183 #[.pointer (some ⟨wb,0,none⟩),jP o] w λe w'=>e= .returned (.int .i64 (nN n o).2.2)/\∃A' G' c' v',WK w0 w' wb (nN n o).1 A' G' c' v' (L++(nN n o).2.1):=by
 have hp:=(bE hok).1;have hzk:n.kids.length<=1048600:=aEP hz.k Aaa;have hrq:=(bE hok).2.2.2.2.2;cases ho:bH o with
 |false=>exact adS w0 w wb n A G c v L o ho h
 |true=>
  cases ha:yB n o with
  |false=>
   have hK:o.K=6:=by
    unfold yB at ha;by_cases hK:o.K=6
    .exact hK
    .rw [aEN hK] at ha;simp at ha
   exact adT w0 w wb n A G c v L o hp hzk ho hK ha h
  |true=>
   have hw:nN n o=fD n o:=by
    unfold nN;rw [ho,ha];rfl
   rw [hw];clear hw;rcases Kn ho with hK|hK|hK|hK|hK|hK|hK
   .refine alE w0 w wb n A G c v L o ho hK (λW hW=>?_) h
    have e:fD n o=((vL n o).1,[],(vL n o).2):=by
     unfold fD vL;rw [aE7 hK];split<;>rfl
    rw [e];refine(alM w0 W wb n A G c v L o E hz hk hW he).mono ?_;exact aa8
   .refine alF w0 w wb n A G c v L o ho hK (λW hW=>?_) h;have hpa:=Ga ho hK
    have e:fD n o=((fK n o.no o.k o.n).1,[],(fK n o.no o.k o.n).2):=by
     unfold fD;rw [aEX Aaa,aE7 hK]
    rw [e];refine(af5 w0 W wb n A G c v L o E hz hrq hk Aaa hpa.2.2.2.2 hW he).mono ?_;exact aa8
   .refine alG w0 w wb n A G c v L o ho hK (λW hW=>?_) h;have hpr:=MR ho hK
    have e:fD n o=((aT n o.no).1,[],(aT n o.no).2):=by
     unfold fD;rw [aEX Aaa,aEX Aaa,aE7 hK]
    rw [e];refine(ZW w0 W wb n A G c v L o E hz hrq Aaa hpr.2 hW he).mono ?_;exact aa8
   .refine alH w0 w wb n A G c v L o ho hK (λW hW=>?_) h
    have e:fD n o=(n,(Ho n o).1,(Ho n o).2):=by
     unfold fD Ho;rw [aEX Aaa,aEX Aaa,aEX Aaa,aE7 hK];split<;>rfl
    rw [e];refine(alO w0 W wb n A G c v L o hk Aaa hW).mono ?_;rintro e w' ⟨rfl,c',v',hW'⟩;exact⟨rfl,A,G,c',v',hW'⟩
   .refine alI w0 w wb n A G c v L o ho hK (λW hW=>?_) h;have hpk:=Qy ho Aaa
    have e:fD n o=EY n o:=by
     unfold fD EY;rw [aEX Aaa,aEX Aaa,aEX Aaa,aEX Aaa,aE7 hK]
    rw [e];exact alD w0 W wb n A G c v L o E hok hpk.1 hpk.2.1 hpk.2.2 Aaa hW he
   .refine alJ w0 w wb n A G c v L o ho hK (λW hW=>?_) h
    have e:fD n o=(n,n.out.map (qE n),0):=by
     unfold fD;rw [aEX Aaa,aEX Aaa,aEX Aaa,aEX Aaa,aEX Aaa,aE7 hK]
    rw [e];refine(alN w0 W wb n A G c v L o hz hL hW).mono ?_;rintro e w' ⟨rfl,c',v',hW'⟩;exact⟨rfl,A,G,c',v',hW'⟩
   .have had:=EU ha hK;have hd:(decide (o.m.T=n.id)&&dV n o.m.F)=true:=by rw [aEO had.1,had.2];rfl
    refine alK w0 w wb n A G c v L o hp hzk hd ho hK (λW hW=>?_) h
    have e:fD n o=fO n o.m:=by
     unfold fD;rw [aEX Aaa,aEX Aaa,aEX Aaa,aEX Aaa,aEX Aaa,aEX Aaa]
    rw [e];exact alL w0 W wb n A G c v L o E hz hok (Kl ho hK) had.2 hmk Aaa hW he
def K9 (w:World) (n:Nd) (e:Ending) (w':World):Prop:=∃A' G' c',e= .returned (gM n A')/\NO w' w.heap.size n A' G' c'/\aH w w'
theorem Mt (n:Nd) (A:bq) (a:Option Addr) (cap:Nat) (L:List gJ) (E:Nat->Addr) (w:World) (hz:eF n 1048576) (hL:L.length<=60000) (hk:∀o∈L,o.k.size<=1048576/\o.m.k.size<=1048576) (ha:bY w A n) (ho:JO w a L) (he:gY w E):
 Calls prog 146 #[gM n A,.slice a L.length cap] w (K9 w (gN n L)):=by
 have NY:=Hq (λW (h:aH w W)=>uO n A W hz (ha.below h));have mW:=Hq (λW (h:aH w W)=>yQ n A W (hz.mono Aaa) (ha.below h));have HDO:=Hq (fun(hn:dR n=true) (k:Nat) (hk1:k < L.length) W w0 wb A G c v (hW:WK w0 W wb (gN n (L.take k)) A G c v []) (he:gY w0 E)=>aDn w0 W wb (gN n (L.take k)) A G c v [] L[k] E (M0 hz _) (Xc hn _) (hk _ (aE2 hk1)).1 (hk _ (aE2 hk1)).2 Aac hW he);have HPS:=Hq (fun(hn:dR n=true) (k:Nat) (hk1:k < L.length)=>show(nN (gN n (L.take k)) L[k]).1=gN n (L.take (k+1)) by rw [Kt hk1,TG (Xc hn _)]);have Lh:=Hq (λh=>adf (n:=n) h L);have HPE:=Hq (show gN n (L.take L.length)=gN n L by rw [aFd]);have HE:=Hq he;have HO:=Hq ho;clear hz ha hk ho he;unfold K9;go_in
 go_upto_region 1 with fail;refine wp_at (λW0 hW=>?_);obtain⟨e1,e3,e4⟩:=fU w (.cells (dH n A) 39) (.cells kR 39);rw [<-hW] at e1 e3 e4;have HN:=Hq e1;have HR:=Hq e3;have HB:=Hq e4;have HO0:=Hq (GR.At.below HO e4);have HE0:=Hq (HE.below e4);clear hW e1 e3 e4 HO HE;have hl0:=ay HR;obtain⟨c0,c1,c2,c3,c4,c5,c6,c7,c8⟩:=nine HN;go_wp2_with fail;refine(NY W0 HB).mono ?_;rintro e y ⟨A1,G1,cc1,rfl,hNO,hby⟩;have mP:=Hq hNO;have JF:=Hq hby;clear hNO hby c0 c1 c2 c3 c4 c5 c6 c7 c8 NY;go_upto_region 2 with fail;refine wp_at (λW hW=>?_);have e5:W.heap[y.heap.size]?=some (.cells (Xq n A1 (.slice none 0 0)) 215 (0,0)):=Acl
 have e6:aH y W:=by rw [hW];exact au _ _
 have HK:=Hq (WK.start JF mP (aEM y.heap.size) e6 e5);have HNW:=Hq (aj HN HK.keep);have hys:W0.heap.size<=y.heap.size:=JF.size;clear hW e5 e6 mP HN JF;generalize newC y.heap.size 8 cc1=Pd at *;generalize y.heap.size=wb at *;obtain⟨c0,c1,c2,c3,c4,c5,c6,c7,c8⟩:=nine HNW;have hnl:=ay HNW;go_wp2_with fail;refine(mW W (HB.trans (HK.keep.mono HB.size))).mono ?_;rintro e W2 ⟨rfl,hb2⟩;have oH:=Hq (HK.step hb2);clear hb2 c0 c1 c2 c3 c4 c5 c6 c7 c8 mW HNW hnl HK;cases hok:dR n with
 |false=>
  have hpb:=ah Lh hok;clear HDO HPS Lh HPE;obtain⟨c0,c1,c2,c3,c4,c5,c6,c7,c8,c9⟩:=jN oH.blk;have hres:=aj HR oH.keep;have sD:=Hq hres;have hrl:=ay hres;have hwl:=ay oH.blk;obtain⟨d0,d1,d2,d3,d4,d5,d6,d7,d8⟩:=nine hres;obtain⟨f0,f1,f2,f3,f4,f5,f6,f7,f8⟩:=oJ hres;clear hres;go_wp2_with fail;refine pU results146 rfl rfl sD (λW' _ fq _ _=>?_);have qj:NO W' w.heap.size n A1 G1 Pd:=(oH.no.keepsN Aaa fq).base HB.size;have hBB:=(HB.trans (oH.keep.mono HB.size)).trans (fq.below (λx hx=>Aak) (HB.trans (oH.keep.mono HB.size)).size);exact⟨A1,G1,Pd,by rw [hpb],by rw [hpb];exact qj,hBB⟩
 |true=>
  have HD:=Hq (HDO hok);have HP:=Hq (HPS hok);have hK0:∃A G c,WK W0 W2 wb (gN n (L.take 0)) A G c (.slice none 0 0) []:=⟨A1,G1,Pd,oH⟩;have R6:=Hq hK0;clear HDO HPS Lh hok oH hK0;go_wp2_with fail;go_loopw [18] (λi wr=>∃k:Nat,k<=L.length/\i= .int .i64 k/\∃A G c,WK W0 wr wb (gN n (L.take k)) A G c (.slice none 0 0) []) (λi _=>L.length - (intOf i).toNat)
  case atStart=>exact⟨0,aE1 _,rfl,R6⟩
  case round=>
   clear R6;obtain⟨k,hkl,rfl,A2,G2,cc3,hK⟩:=hrel;have HK:=Hq hK;clear hK;by_cases hlt:k < L.length
   .obtain⟨g1,o1,rfl,hg1,s0,s1,s2,s3,s4,s5,s6,s7,s8,s9,s10⟩:=JO.eleven (GR.At.below HO0 HK.keep) k hlt;have HDk:=Hq (HD k hlt);have HPk:=Hq (HP k hlt);generalize nN (gN n (L.take k)) L[k]=RR at *;generalize gN n (L.take k)=m at *;generalize L[k]=oo at *;obtain⟨K,no,kk,nn,⟨mK,mF,mT,mI,mL,mk,mN⟩⟩:=oo;dsimp only at s0 s1 s2 s3 s4 s5 s6 s7 s8 s9 s10;go_upto_region 7 with fail;refine wp_at (λV hV=>?_);have hbv:aH wr V:=by rw [hV];exact au _ _
    have HV:=Hq (show V.heap[wr.heap.size]?=some (.cells (bJ K no kk nn mK mF mT mI mL mk mN) 73 (0,0)) by rw [hV];exact aEK _ _);have oH:=Hq (HK.step hbv);have agf:=Hq (HDk V W0 wb A2 G2 cc3 _ oH HE0);clear hV hbv HK HDk s0 s1 s2 s3 s4 s5 s6 s7 s8 s9 s10;obtain⟨⟨p0,p1,p2,p3,p4,p5,p6,p7,p8,p9,oD⟩,_⟩:=aJ HV;go_wp2_with fail;refine agf.mono ?_;rintro e W3 ⟨rfl,A3,G3,cc4,v3,hK3⟩;have Sq:=Hq hK3;obtain⟨q0,q1,q2,q3,q4,q5,q6,q7,q8,q9⟩:=jN hK3.blk;have f9:=aC hK3.blk 9;clear hK3 agf oH HV p0 p1 p2 p3 p4 p5 p6 p7 p8 p9 oD q0 q1 q2 q3 q4 q5 q6 q7 q8;go_wp2_with fail;go_roundw
    case rel=>exact⟨k+1,Aaa,Aaf,A3,G3,cc4,by have h:=Sq.mute;rw [ah HPk] at h;exact h⟩
    case measure=>simp[intOf];omega
   .have hke:k=L.length:=Aaa
    subst hke;have hnlt:decide ((L.length:Int) < (L.length:Int))=false:=Aac
    rw [ah HPE] at HK;obtain⟨m,hm⟩:∃m,gN n L=m:=⟨_,rfl⟩;rw [hm] at HK;have HM:=Hq hm;clear HD HP HPE hlt hm;obtain⟨c0,c1,c2,c3,c4,c5,c6,c7,c8,c9⟩:=jN HK.blk;have hres:=aj HR HK.keep;have sD:=Hq hres;have hrl:=ay hres;have hwl:=ay HK.blk;obtain⟨d0,d1,d2,d3,d4,d5,d6,d7,d8⟩:=nine hres;obtain⟨f0,f1,f2,f3,f4,f5,f6,f7,f8⟩:=oJ hres;clear hres;go_wp2_with fail;refine pU results146 rfl rfl sD (λW' _ fq _ _=>?_);have qj:NO W' w.heap.size m A2 G2 cc3:=(HK.no.keepsN Aaa fq).base HB.size;have hBB:=(HB.trans (HK.keep.mono HB.size)).trans (fq.below (λx hx=>Aak) (HB.trans (HK.keep.mono HB.size)).size);exact⟨A2,G2,cc3,Abf,by rw [ah HM];exact qj,hBB⟩
namespace Mth
def uR (k:Kp):Prop:=dR k.base=true/\dR k.node=true/\(0<=k.safe/\k.safe<=k.log.size)/\(gF k.log).2=k.log.size/\k.node=gN k.base (gF k.log).1
end Mth
theorem aco (k:Kp) (A:KA) (g:Nat) (st:Int) (lk rt:Bool) (E:Nat->Addr) (w:World) (hz:oI k 1048576) (ha:jo w A k) (hg:w.heap[g]?=some (.cells (hkG k A st lk rt) 115 (0,0))) (he:gY w E) (hH:Handle w):
 Calls Tryz.prog 116 #[.pointer (some ⟨g,0,none⟩)] w (lX w (uR k)):=by
 have Hz:=Hq (λW (h:aH w W)=>yQ k.base A.b W (hz.b.mono Aaa) (ha.below h).kb);have yI:=Hq (λW (h:aH w W)=>yQ k.node A.n W (hz.n.mono Aaa) (ha.below h).kn);have El:=Hq (λW (h:aH w W)=>acu k.log (by have:=hz.l;unfold maxLen;omega) W (hH.below h));have Ob:=Hq (λa cap W (h:aH w W) (ho:JO W a (gF k.log).1)=>Mt k.base A.b a cap (gF k.log).1 E W hz.b (Kw k.log) (λo h=>Xa (QJ k.log o h)) (ha.below h).kb ho (he.below h));have zN:=Hq (λW (h:aH w W) A' (hb:bY W A' (gN k.base (gF k.log).1))=>Zm k.node (gN k.base (gF k.log).1) A.n A' W hz.n (ha.below h).kn hb);have HK:=Hq hg;have hgl:=ay hg;have hsl:=hz.l;unfold lC at El;unfold K9 at Ob;clear hz ha hg he hH;obtain⟨⟨bk,bp,bo,bs,br,bck,bcp,bco,bcs,bcr⟩,⟨nk,np,no,ns,nr,nck,ncp,nco,ncs,ncr⟩,wa,wc,aa,ac⟩:=A;dsimp only at Hz yI Ob zN;have y0:=aEL (show w.cell? ⟨g,0,none⟩=some (.int .i64 k.node.id) from aS HK 0);have y1:=aEL (show w.cell? ⟨g,1,none⟩=some (.int .i64 k.node.par) from aS HK 1);have y2:=aEL (show w.cell? ⟨g,2,none⟩=some (.slice nk k.node.kids.length nck) from aS HK 2);have y3:=aEL (show w.cell? ⟨g,3,none⟩=some (.int .i64 k.node.next) from aS HK 3);have y4:=aEL (show w.cell? ⟨g,4,none⟩=some (.slice np k.node.pu.length ncp) from aS HK 4);have y5:=aEL (show w.cell? ⟨g,5,none⟩=some (.slice no k.node.out.length nco) from aS HK 5);have y6:=aEL (show w.cell? ⟨g,6,none⟩=some (.slice ns k.node.seen.length ncs) from aS HK 6);have y7:=aEL (show w.cell? ⟨g,7,none⟩=some (.int .i64 k.node.old) from aS HK 7);have y8:=aEL (show w.cell? ⟨g,8,none⟩=some (.slice nr k.node.reqs.length ncr) from aS HK 8);have y11:=aEL (show w.cell? ⟨g,11,none⟩=some (.int .i64 k.base.id) from aS HK 11);have y12:=aEL (show w.cell? ⟨g,12,none⟩=some (.int .i64 k.base.par) from aS HK 12);have y13:=aEL (show w.cell? ⟨g,13,none⟩=some (.slice bk k.base.kids.length bck) from aS HK 13);have y14:=aEL (show w.cell? ⟨g,14,none⟩=some (.int .i64 k.base.next) from aS HK 14);have y15:=aEL (show w.cell? ⟨g,15,none⟩=some (.slice bp k.base.pu.length bcp) from aS HK 15);have y16:=aEL (show w.cell? ⟨g,16,none⟩=some (.slice bo k.base.out.length bco) from aS HK 16);have y17:=aEL (show w.cell? ⟨g,17,none⟩=some (.slice bs k.base.seen.length bcs) from aS HK 17);have y18:=aEL (show w.cell? ⟨g,18,none⟩=some (.int .i64 k.base.old) from aS HK 18);have y19:=aEL (show w.cell? ⟨g,19,none⟩=some (.slice br k.base.reqs.length bcr) from aS HK 19);have y20:=aEL (show w.cell? ⟨g,20,none⟩=some (.string k.log) from aS HK 20);have y21:=aEL (show w.cell? ⟨g,21,none⟩=some (.int .i64 k.safe) from aS HK 21);cases h1:dR k.base
 case' false=>
  have HP:=Hq (show¬uR k from λh=>by have h:=h.1;rw [h1] at h;cases h);have k1:∀d os,Calls Tryz.prog 143 #[gM k.base (⟨bk,bp,bo,bs,br,bck,bcp,bco,bcs,bcr⟩:bq)] (Sort.grow (redrawn w d) os) λe w''=>e= .returned (.bool false)/\∃p:Regrown,w''=Sort.grow (redrawn w p.d) p.os:=λd os=>aFk (h1▸ah Hz _ (aFe w d os))
  clear h1 Hz yI El Ob zN HK;go_in
  go_upto_region 1 with fail;refine aE0 Aab Aab ?_;repeat (first|go_big_quiet_step ((go_at_call_of 143 bk;exact k1 _ _))|quiet_step ((go_at_call_of 143 bk;exact k1 _ _)))
  refine aFs ?_;intro _ hw';obtain⟨⟨dq,osq⟩,hw''⟩:=hw';subst hw'';clear k1 y0 y1 y2 y3 y4 y5 y6 y7 y8 y11 y12 y13 y14 y15 y16 y17 y18 y19 y20 y21;go_wp2_with fail;go_ret;exact .no HP (aFe _ dq osq)
 have k1:∀d os,Calls Tryz.prog 143 #[gM k.base (⟨bk,bp,bo,bs,br,bck,bcp,bco,bcs,bcr⟩:bq)] (Sort.grow (redrawn w d) os) λe w''=>e= .returned (.bool true)/\∃p:Regrown,w''=Sort.grow (redrawn w p.d) p.os:=λd os=>aFk (h1▸ah Hz _ (aFe w d os))
 cases h2:dR k.node
 case' false=>
  have HP:=Hq (show¬uR k from λh=>by have h:=h.2.1;rw [h2] at h;cases h);have k2:∀d os,Calls Tryz.prog 143 #[gM k.node (⟨nk,np,no,ns,nr,nck,ncp,nco,ncs,ncr⟩:bq)] (Sort.grow (redrawn w d) os) λe w''=>e= .returned (.bool false)/\∃p:Regrown,w''=Sort.grow (redrawn w p.d) p.os:=λd os=>aFk (h2▸ah yI _ (aFe w d os))
  clear h1 h2 Hz yI El Ob zN HK;go_in
  go_upto_region 1 with fail;refine aE0 Aab Aab ?_;repeat (first|go_big_quiet_step (first|(go_at_call_of 143 nk;exact k2 _ _)|(go_at_call_of 143 bk;exact k1 _ _))|quiet_step (first|(go_at_call_of 143 nk;exact k2 _ _)|(go_at_call_of 143 bk;exact k1 _ _)))
  refine aFs ?_;intro _ hw';obtain⟨⟨dq,osq⟩,hw''⟩:=hw';subst hw'';clear k1 k2 y0 y1 y2 y3 y4 y5 y6 y7 y8 y11 y12 y13 y14 y15 y16 y17 y18 y19 y20 y21;go_wp2_with fail;go_ret;exact .no HP (aFe _ dq osq)
 have k2:∀d os,Calls Tryz.prog 143 #[gM k.node (⟨nk,np,no,ns,nr,nck,ncp,nco,ncs,ncr⟩:bq)] (Sort.grow (redrawn w d) os) λe w''=>e= .returned (.bool true)/\∃p:Regrown,w''=Sort.grow (redrawn w p.d) p.os:=λd os=>aFk (h2▸ah yI _ (aFe w d os))
 have Xt:=Hq (And.intro h1 h2);clear h1 h2 Hz yI;by_cases h3:k.safe < 0
 case' pos=>
  have HP:=Hq (show¬uR k from λh=>by have:=h.2.2.1.1;omega);have hd:decide (k.safe < 0)=true:=aEO h3;clear h3 Xt El Ob zN HK;go_in
  go_upto_region 1 with fail;refine aE0 Aab Aab ?_;repeat (first|go_big_quiet_step (first|(go_at_call_of 143 nk;exact k2 _ _)|(go_at_call_of 143 bk;exact k1 _ _))|quiet_step (first|(go_at_call_of 143 nk;exact k2 _ _)|(go_at_call_of 143 bk;exact k1 _ _)))
  refine aFs ?_;intro _ hw';obtain⟨⟨dq,osq⟩,hw''⟩:=hw';subst hw'';clear hd k1 k2 y0 y1 y2 y3 y4 y5 y6 y7 y8 y11 y12 y13 y14 y15 y16 y17 y18 y19 y20 y21;go_wp2_with fail;go_ret;exact .no HP (aFe _ dq osq)
 have hd3:decide (k.safe < 0)=false:=aEN h3;by_cases h4:(k.log.size:Int) < k.safe
 case' pos=>
  have HP:=Hq (show¬uR k from λh=>by have:=h.2.2.1.2;omega);have hd:decide (k.safe > (k.log.size:Int))=true:=aEO h4;have hd':decide ((k.log.size:Int) < k.safe)=true:=aEO h4;clear h3 h4 Xt El Ob zN HK;go_in
  go_upto_region 1 with fail;refine aE0 Aab Aab ?_;repeat (first|go_big_quiet_step (first|(go_at_call_of 143 nk;exact k2 _ _)|(go_at_call_of 143 bk;exact k1 _ _))|quiet_step (first|(go_at_call_of 143 nk;exact k2 _ _)|(go_at_call_of 143 bk;exact k1 _ _)))
  refine aFs ?_;intro _ hw';obtain⟨⟨dq,osq⟩,hw''⟩:=hw';subst hw'';clear hd hd' hd3 k1 k2 y0 y1 y2 y3 y4 y5 y6 y7 y8 y11 y12 y13 y14 y15 y16 y17 y18 y19 y20 y21;go_wp2_with fail;go_ret;exact .no HP (aFe _ dq osq)
 have hd4:decide (k.safe > (k.log.size:Int))=false:=aEN h4;have aCc:decide ((k.log.size:Int) < k.safe)=false:=aEN h4;have HSF:=Hq (show 0<=k.safe/\k.safe<=k.log.size by omega);clear h3 h4;go_in
 go_upto_region 1 with fail;refine aE0 Aab Aab ?_;repeat (first|go_big_quiet_step (first|(go_at_call_of 143 nk;exact k2 _ _)|(go_at_call_of 143 bk;exact k1 _ _))|quiet_step (first|(go_at_call_of 143 nk;exact k2 _ _)|(go_at_call_of 143 bk;exact k1 _ _)))
 refine aFs ?_;intro _ hw';obtain⟨⟨dq,osq⟩,hw''⟩:=hw';subst hw'';clear hd3 hd4 aCc k1 k2 y0 y1 y2 y3 y4 y5 y6 y7 y8 y11 y12 y13 y14 y15 y16 y17 y18 y19 y20 y21;have HB1:=Hq (aFe w dq osq);generalize Sort.grow (redrawn w dq) osq=V at *;have HKV:=Hq (aj HK HB1);have v20:V.cell? ⟨g,20,none⟩=some (.string k.log):=aS HKV 20;clear HK;go_wp2_with fail;refine(El V HB1).mono ?_;rintro e V2 ⟨v,rfl,hown,hb2⟩;obtain⟨la,lc,rfl,hops⟩:=GR.own_at (enc:=nW) (sz:=11) jU hown;have EG:=Hq hops;have HB2:=Hq (Below.trans HB1 (hb2.mono HB1.size));have oH:=Hq (aj HKV hb2);clear hb2 HB1 HKV v20 hgl hown hops El;have hgl:=ay oH;have y20:=aEL (show V2.cell? ⟨g,20,none⟩=some (.string k.log) from aS oH 20);by_cases h5:(gF k.log).2=k.log.size
 case' neg=>
  have HP:=Hq (show¬uR k from λh=>h5 h.2.2.2.1);have hq:(((gF k.log).2:Int) == (k.log.size:Int))=false:=Aah
  clear h5 Xt HSF Ob zN EG oH;go_upto_region 4 with fail;refine aE0 Aab Aab ?_;repeat (first|go_big_quiet_step (fail)|quiet_step (fail))
  refine aFs ?_;intro _ hw';obtain⟨⟨dq,osq⟩,hw''⟩:=hw';subst hw'';clear y20;go_wp2_with fail;go_ret;exact .no HP (HB2.trans ((aFe _ dq osq).mono HB2.size))
 have hq:(((gF k.log).2:Int) == (k.log.size:Int))=true:=by simp[h5]
 have HE5:=Hq h5;clear h5;obtain⟨hr0,hr1⟩:=J4 oH;go_upto_region 4 with fail;refine I9 21 ?_;refine tk [0,1,2,3,4,5,6,7,8,9,10] ?_;iterate 11 (refine iO (λK hK=>?_);go_simp;(first|refine hK _ ?_|(apply Exists.intro;refine⟨λ_=>?_,hK _ ?_⟩;rfl));clear hK K)
 refine jf ?_;refine lS 11 rfl Aab Aab Aab (λ_ _ _ _ h=>h) Aad 39 _ rfl g 0 rfl (dH k.node (⟨nk,np,no,ns,nr,nck,ncp,nco,ncs,ncr⟩:bq)).toList _ hr0 hgl Tryz.underlying39 rfl Aab ?_;refine tk [12,13,14] ?_;iterate 3 (refine iO (λK hK=>?_);go_simp;(first|refine hK _ ?_|(apply Exists.intro;refine⟨λ_=>?_,hK _ ?_⟩;rfl));clear hK K)
 refine jf ?_;refine lS 15 rfl Aab Aab Aab (λ_ _ _ _ h=>h) Aad 39 _ rfl g 11 rfl (dH k.base (⟨bk,bp,bo,bs,br,bck,bcp,bco,bcs,bcr⟩:bq)).toList _ hr1 hgl Tryz.underlying39 rfl Aab ?_;refine tk [16] ?_;(refine iO (λK hK=>?_);go_simp;(first|refine hK _ ?_|(apply Exists.intro;refine⟨λ_=>?_,hK _ ?_⟩;rfl));clear hK K)
 refine jf ?_;clear y20 hr0 hr1 hq;refine eZ 17 rfl Aab Aad (λx17 ak4=>?_);go_simp;have g17:aH w x17:=Ge.trans (show Ge w V2 from HB2) ak4;refine(Ob la lc x17 g17 (GR.At.below EG ak4)).mono ?_;rintro e z17 ⟨A',G',c',rfl,hN',ak7⟩;refine⟨ak7,?_⟩;have HA':=Hq hN'.at;have HG:=Hq (show aH w z17 from Ge.trans (show Ge w x17 from g17) ak7);clear hN' ak4 ak7 g17 HB2 Ob oH EG;refine eZ 18 rfl Aab Aad (λx18 Yv=>?_);go_simp;have g18:aH w x18:=Ge.trans (show Ge w z17 from HG) Yv;refine(zN x18 g18 A' (HA'.below Yv)).mono ?_;rintro e z18 ⟨⟨r,rfl,hr⟩,ak8⟩;refine⟨ak8,?_⟩;have HR:=Hq (show r=true↔uR k from⟨λh=>⟨Xt.1,Xt.2,HSF,HE5,hr.1 h⟩,λh=>hr.2 h.2.2.2.2⟩);have HG2:=Hq (show aH w z18 from Ge.trans (show Ge w x18 from g18) ak8);clear Yv ak8 g18 zN HG HA' hr Xt HSF HE5;refine tk [19] ?_;(refine iO (λK hK=>?_);go_simp;(first|refine hK _ ?_|(apply Exists.intro;refine⟨λ_=>?_,hK _ ?_⟩;rfl));clear hK K)
 refine jf ?_;refine eZ 20 rfl Aab Aad (λx20 aza=>?_);go_simp;refine⟨aEY _ _,?_⟩;refine dS Aab (λz hz=>?_);have Ii:=Hq (show aH w z from Ge.trans (show Ge w z18 from HG2) (Ge.trans aza hz));clear aza hz HG2;go_wp2_with fail;go_ret;exact⟨⟨r,rfl,HR⟩,Ii⟩
open Go.RowKit Go.MuLone
theorem hkB.look {w:World} (h:hkB w g k A st lk rt) (b:Bool):hkB ((w.setCell ⟨g,24,none⟩ (.bool true)).setCell ⟨g,25,none⟩ (.bool b)) g k A st true b:=by
 have h1:hkB (w.setCell ⟨g,24,none⟩ (.bool true)) g k A st true rt:=aN h 24 _;exact aN h1 25 _
def Right (w:World) (g:Nat) (k:Kp) (A:KA) (st:Int) (e:Ending) (w':World):Prop:=∃r,e= .returned (.bool r)/\(r=true↔uR k)/\hkB w' g k A st true r/\aA [g] w w'
theorem YD (k:Kp) (A:KA) (g:Nat) (st:Int) (E:Nat->Addr) (w:World) (hz:oI k 1048576) (ha:jo w A k) (hg:hkB w g k A st false false) (he:gY w E) (hH:Handle w):
 Calls Tryz.prog 64 #[.pointer (some ⟨g,0,none⟩)] w (Right w g k A st):=by
 have HL:=Hq (aco k A g st false false E w hz ha hg he hH);have HG:=Hq hg;have p24:w.cell? ⟨g,24,none⟩=some (.bool false):=aS hg 24;clear hz ha hg he hH;go_in
 go_wp2_with fail;refine HL.mono ?_;rintro e w1 ⟨⟨r,rfl,hr⟩,hb1⟩;have HR:=Hq hr;have zI:=Hq (aj HG hb1);have zx:=Hq (aA.of_below (F:=[g]) hb1);clear hb1 p24 HL HG hr;have q24:w1.cell? ⟨g,24,none⟩=some (.bool false):=aS zI 24;have q25:w1.cell? ⟨g,25,none⟩=some (.bool false):=aS zI 25;have f24:=aC zI 24;have f25:=aC zI 25;go_wp2_with fail;go_ret;exact⟨r,rfl,HR,(show hkB w1 g k A st false false from zI).look r,zx.trans ((aA.set _).trans (aA.set _))⟩
namespace Mth
def pR (k:Kp):Kp:={k with safe:=k.log.size,wait:=[],asked:=[]}
def SyM (k c:Kp) (l1:List Mg) (l2:List An):Prop:=(uR k/\c=pR k/\l1=k.wait/\l2=k.asked)\/(¬uR k/\c=k/\l1=[]/\l2=[])
end Mth
def SyI (k:Kp) (A:KA) (c:Kp) (C:KA) (l1:List Mg) (x1:Option Addr) (l2:List An) (x2:Option Addr):Prop:=
 (uR k/\c=pR k/\C={A with wa:=none,wc:=0,aa:=none,ac:=0}/\l1=k.wait/\x1=A.wa/\l2=k.asked/\x2=A.aa)\/(¬uR k/\c=k/\C=A/\l1=[]/\x1=none/\l2=[]/\x2=none)
theorem hkB.sync {w:World} (h:hkB w g k A st lk rt):hkB (((w.setCell ⟨g,21,none⟩ (.int .i64 k.log.size)).setCell ⟨g,22,none⟩ (.slice none 0 0)).setCell ⟨g,23,none⟩ (.slice none 0 0)) g (pR k) {A with wa:=none,wc:=0,aa:=none,ac:=0} st lk rt:=by
 have h1:hkB (w.setCell ⟨g,21,none⟩ (.int .i64 k.log.size)) g {k with safe:=k.log.size} A st lk rt:=aN h 21 _;exact h1.nils
theorem Ml (k:Kp) (A:KA) (g:Nat) (E:Nat->Addr) (w:World) (hz:oI k 1048576) (h1:∀w',aA [g] w w'->jo w' A k/\gY w' E/\Handle w') (hg:hkB w g k A 0 false false):
 Calls Tryz.prog 29 #[.pointer (some ⟨g,0,none⟩)] w λe w'=>∃c C l1 x1 c1 l2 x2 c2 r,e= .returned (.tuple #[.slice x1 (List.length l1) c1,.slice x2 (List.length l2) c2])/\hkB w' g c C 0 true r/\aA [g] w w'/\SyI k A c C l1 x1 l2 x2:=by
 have c9:w.cell? ⟨g,9,none⟩=some (.int .i32 0):=aS hg 9;have f9:=aC hg 9;have zI:=Hq (hkB.lock hg 1);have zx:=Hq (show aA [g] w (w.setCell ⟨g,9,none⟩ (.int .i32 1)) from aA.set _);have HA:=Hq h1;have HZ:=Hq hz;have hlg:k.log.size<=1048576:=hz.l;clear h1 hz hg;go_enter_defers Tryz.func29,Tryz.ntmps29
 go_wp2_with (go_at_call 62;refine(lock_free Qu ⟨g,9,none⟩ _ c9 f9).mono ?_;rintro e w' ⟨rfl,rfl⟩)
 generalize w.setCell ⟨g,9,none⟩ (.int .i32 1)=W1 at *;obtain⟨ha1,ha2,ha3⟩:=ah HA W1 zx;refine(YD k A g 1 E W1 HZ ha1 zI ha2 ha3).mono ?_;rintro e W2 ⟨r,rfl,hr,hg2,hk2⟩;have HR:=Hq hr;have HG2:=Hq hg2;have oH:=Hq (zx.trans hk2);clear hr hg2 hk2 ha1 ha2 ha3 zI zx HA HZ c9 f9;cases r
 case' false=>
  go_wp2_with fail;refine leaves_cons (f:=63) (args:=#[.pointer (some ⟨g,9,none⟩)]) Aac Ach ?_;refine(unlock_deferred Qu ⟨g,9,none⟩ .returning _ (aS HG2 9) (aC HG2 9)).mono ?_;rintro e u' w'' ⟨rfl,rfl,rfl⟩;exact⟨_,results_tmp2 rfl _ _ _,k,A,[],none,0,[],none,0,false,rfl,(show hkB W2 g k A 1 true false from HG2).lock 0,oH.trans (aA.set _),.inr ⟨λh=>(by cases (HR.2 h)),rfl,rfl,rfl,rfl,rfl,rfl⟩⟩
 go_upto_region 5 with fail;have y22:=aEL (show W2.cell? ⟨g,22,none⟩=some (.slice A.wa k.wait.length A.wc) from aS HG2 22);have y23:=aEL (show W2.cell? ⟨g,23,none⟩=some (.slice A.aa k.asked.length A.ac) from aS HG2 23);refine Xr ?_;refine I9 10 ?_;refine tk [0,1,2,3,4,5,6,7] ?_;iterate 8 (refine iO (λK hK=>?_);go_simp;(first|refine hK _ ?_|(apply Exists.intro;refine⟨λ_=>?_,hK _ ?_⟩;rfl));clear hK K)
 refine jf ?_;clear y22 y23;refine eZ 8 rfl Aab Aad (λx8 hx8=>?_);go_simp;refine⟨aEY _ _,?_⟩;refine eZ 9 rfl Aab Aad (λx9 hx9=>?_);go_simp;refine⟨aEY _ _,?_⟩;refine dS Aab (λz hz=>?_);have hbz:=Ge.trans hx8 (Ge.trans hx9 hz);have HGZ:=Hq (show hkB z g k A 1 true true from aj HG2 hbz);have HKZ:=Hq (oH.trans (aA.of_below (F:=[g]) hbz));clear hz hx8 hx9 hbz HG2 oH;unfold abv;dsimp only;rename_i vU
 refine vU _ _ ?_;clear vU;have c20:z.cell? ⟨g,20,none⟩=some (.string k.log):=aS HGZ 20;have c21:z.cell? ⟨g,21,none⟩=some (.int .i64 k.safe):=aS HGZ 21;have f21:=aC HGZ 21;have c22:z.cell? ⟨g,22,none⟩=some (.slice A.wa k.wait.length A.wc):=aS HGZ 22;have f22:=aC HGZ 22;have c23:z.cell? ⟨g,23,none⟩=some (.slice A.aa k.asked.length A.ac):=aS HGZ 23;have f23:=aC HGZ 23;go_wp2_with fail;have HGU:=Hq (show hkB _ g (pR k) _ 1 true true from(show hkB z g k A 1 true true from HGZ).sync);refine leaves_cons (f:=63) (args:=#[.pointer (some ⟨g,9,none⟩)]) Aac Ach ?_;refine(unlock_deferred Qu ⟨g,9,none⟩ .returning _ (aS HGU 9) (aC HGU 9)).mono ?_;rintro e u' w'' ⟨rfl,rfl,rfl⟩;exact⟨_,results_tmp2 rfl _ _ _,pR k,{A with wa:=none,wc:=0,aa:=none,ac:=0},k.wait,A.wa,A.wc,k.asked,A.aa,A.ac,true,rfl,(show hkB _ g (pR k) _ 1 true true from HGU).lock 0,(((HKZ.trans (aA.set _)).trans (aA.set _)).trans (aA.set _)).trans (aA.set _),.inl ⟨(by simpa using ah HR),rfl,rfl,rfl,rfl,rfl,rfl⟩⟩
theorem qH {P:Program} {fn:Func} {p u v:Tmp} {ty:TypeId} (h:fn.results=#[.cell p ty,.tmp u,.tmp v]) (tmps:Array Value) (w:World) (g:Nat) (cs:List Value) (d:TypeDesc) (hp:tmps.getD p undef= .pointer (some ⟨g,0,none⟩)) (hc:w.rangeAt g 0 cs) (hu:P.underlying ty=some d) (hd:d.isRow=true) (hi:(P.info? ty).map (·.size)=some cs.length) {x y:Value} (hx:tmps.getD u undef=x) (hy:tmps.getD v undef=y):
 (results fn tmps).run P w= .ok (.tuple #[.agg cs.toArray,x,y]) w:=by
 subst hx hy;exact ako
theorem SyM.some (k:Kp):∃c l1 l2,SyM k c l1 l2:=by
 by_cases h:uR k
 .exact⟨_,_,_,.inl ⟨h,rfl,rfl,rfl⟩⟩
 .exact⟨_,_,_,.inr ⟨h,rfl,rfl,rfl⟩⟩
theorem SyM.same {c':Kp} {l1':List Mg} {l2':List An} (h:SyM k c l1 l2) (h':SyM k c' l1' l2'):c'=c/\l1'=l1/\l2'=l2:=by
 rcases h with⟨h1,rfl,rfl,rfl⟩|⟨h1,rfl,rfl,rfl⟩<;>rcases h' with⟨h2,rfl,rfl,rfl⟩|⟨h2,rfl,rfl,rfl⟩
 .exact⟨rfl,rfl,rfl⟩
 .exact absurd h1 h2
 .exact absurd h2 h1
 .exact⟨rfl,rfl,rfl⟩
theorem afW (hz:oI k 1048576) (hc:SyM k c l1 l2):oI c 1048576/\l1.length<=1048576/\l2.length<=1048576:=by
 rcases hc with⟨_,rfl,rfl,rfl⟩|⟨_,rfl,rfl,rfl⟩
 .exact⟨⟨hz.b,hz.n,hz.l,aE1 _,aE1 _,λ_ hp=>(by cases hp),λ_ hp=>(by cases hp)⟩,hz.w,hz.a⟩
 .exact⟨hz,aE1 _,aE1 _⟩
theorem SyI.math (h:SyI k A c C l1 x1 l2 x2):SyM k c l1 l2:=by
 rcases h with⟨h1,h2,_,h3,_,h4,_⟩|⟨h1,h2,_,h3,_,h4,_⟩
 .exact .inl ⟨h1,h2,h3,h4⟩
 .exact .inr ⟨h1,h2,h3,h4⟩
structure XG (lo hi:Nat) (w:World) (C:KA) (c:Kp) (G1 G2:aK) (gw ga:Nat) (x1:Option Addr) (g1:Nat) (l1:List Mg) (x2:Option Addr) (g2:Nat) (l2:List An):Prop where
 k:Iu lo hi w C c G1 G2 gw ga
 w1:GR.W jh 7 w x1 g1 l1
 w2:GR.W dQ 12 w x2 g2 l2
 d1:∀x∈fp g1 l1++fp g2 l2,x∉G1.all c.base++(G2.all c.node++(fp gw c.wait++fp ga c.asked))
 d:∀x∈fp g1 l1,x∉fp g2 l2
 r:∀x∈fp g1 l1++fp g2 l2,lo<=x/\x < hi
theorem XG.keeps {w w':World} {F:List Nat} (h:XG lo hi w C c G1 G2 gw ga x1 g1 l1 x2 g2 l2) (hk:aA F w w') (hF:∀x∈F,x < lo\/hi<=x):XG lo hi w' C c G1 G2 gw ga x1 g1 l1 x2 g2 l2:=by
 have q:∀x∈fp g1 l1++fp g2 l2,x∉F:=λx hx hm=>by have:=h.r x hx;have:=hF x hm;omega
 exact⟨h.k.keeps hk hF,h.w1.keeps hk (λx hx=>q x Aai),h.w2.keeps hk (λx hx=>q x Aai),h.d1,h.d,h.r⟩
theorem XG.below {w w':World} (h:XG lo hi w C c G1 G2 gw ga x1 g1 l1 x2 g2 l2) (hb:aH w w'):XG lo hi w' C c G1 G2 gw ga x1 g1 l1 x2 g2 l2:=h.keeps (F:=[]) (aA.of_below hb) (λ_ hx=>Aaz)
theorem XG.wide {lo' hi':Nat} {w:World} (h:XG lo hi w C c G1 G2 gw ga x1 g1 l1 x2 g2 l2) (h1:lo'<=lo) (h2:hi<=hi'):XG lo' hi' w C c G1 G2 gw ga x1 g1 l1 x2 g2 l2:=
 ⟨h.k.wide h1 h2,h.w1,h.w2,h.d1,h.d,λx hx=>by have:=h.r x hx;omega⟩
theorem SyI.w {w:World} (h:SyI k A c C l1 x1 l2 x2) (hK:Iu lo hi w A k G1 G2 gw ga):∃g1 g2,XG lo hi w C c G1 G2 gw ga x1 g1 l1 x2 g2 l2:=by
 rcases h with⟨_,rfl,rfl,rfl,rfl,rfl,rfl⟩|⟨_,rfl,rfl,rfl,rfl,rfl,rfl⟩
 .have e:∀x∈G1.all (pR k).base++(G2.all (pR k).node++(fp gw (pR k).wait++fp ga (pR k).asked)),x∈G1.all k.base\/x∈G2.all k.node:=λx hx=>by
   rcases aE6.1 hx with hx|hx
   .exact .inl hx
   rcases aE6.1 hx with hx|hx
   .exact .inr hx
   .simp[fp,pR] at hx
  refine⟨gw,ga,⟨hK.b,hK.n,hK.bn,hK.nn,hK.d,GR.W.nil,GR.W.nil,λx hx=>by simp[fp,pR] at hx,λx hx=>by simp[fp,pR] at hx,λx hx=>?_⟩,hK.wt,hK.sk,λx hx h1=>?_,hK.dd,λx hx=>hK.r x (aFh _ (aFh _ hx))⟩
  .rcases e x hx with h|h<;>exact hK.r x (by simp[h])
  .rcases e x h1 with h|h
   .exact(hK.dl x hx).1 h
   .exact(hK.dl x hx).2 h
 .exact⟨0,0,hK,GR.W.nil,GR.W.nil,λx hx=>Acg,λx hx=>Acg,λx hx=>Acg⟩
def Le (w:World) (c:Kp) (l1:List Mg) (l2:List An) (e:Ending) (w':World):Prop:=∃C x1 c1 x2 c2 G1 G2 gw ga g1 g2,e= .returned (.tuple #[I8 c C,.slice x1 l1.length c1,.slice x2 l2.length c2])/\XG w.heap.size w'.heap.size w' C c G1 G2 gw ga x1 g1 l1 x2 g2 l2/\aH w w'
theorem FE (k c:Kp) (l1:List Mg) (l2:List An) (A:KA) (E:Nat->Addr) (w:World) (hM:SyM k c l1 l2) (hz:oI k 1048576) (ha:jo w A k) (he:gY w E) (hH:Handle w):
 Calls Tryz.prog 8 #[I8 k A] w (Le w c l1 l2):=by
 obtain⟨V,hV⟩:∃V,BN V k A:=⟨_,rfl⟩;have HHD:=Hq (λW (h:aH w W)=>hV.agg▸acj k A W hz (ha.below h));have HV:=Hq hV.len;rw [hV.agg];have HE:=Hq (λW (h:aH w W)=>And.intro (he.below h) (hH.below h));have HZ:=Hq hz;have HM:=Hq hM;obtain⟨Wv,hR0,hB0⟩:=fU w (.cells V.toArray 43) (.cells Sl 43);clear hz ha he hH hV hM;go_in
 go_upto_region 1 with fail;refine wp_at (λW0 hW=>?_);have R6:=Hq (show KR W0 w.heap.size V from by rw [hW];exact KR.blk Wv);have Vu:=Hq (show W0.heap[w.heap.size+1]?=some (.cells Sl 43 (0,0)) from by rw [hW];exact hR0);have pJ:=Hq (show aH w W0 from by rw [hW];exact hB0);clear hW Wv hR0 hB0;refine aFv ?_;show wpList _ _ _ [_,_,_] _ _
 refine nY Aad (.tmp 1) rfl w.heap.size rfl V HV R6 ?_;go_wp2_with fail;refine(HHD _ pJ).mono ?_;rintro e w1 ⟨A',m1,m2,m3,g,rfl,hg,hk,hb⟩;obtain⟨q1,q2,q3,q4,q5⟩:=hk.le;have hl0:=ay Vu;have hlg:w.heap.size<=g:=Aaa
 have hrl:w.heap.size+1 < W0.heap.size:=hl0;have hlo:W0.heap.size<=g:=Aaa
 have HB:=Hq (pJ.trans (hb.mono pJ.size));have HR1:=Hq (aj Vu hb);obtain⟨G1,G2,gw,ga,hK⟩:=hk.kpw;have HK:=Hq hK;have HG:=Hq hg;have hgl:=ay hg;clear hb hg hk hK q1 q2 q3 q4 q5 hl0 HHD pJ R6 HV Vu;go_wp2_with fail;refine(Ml k A' g E w1 HZ (λw' hk'=>⟨(HK.keeps hk' (λx hx=> .inr Ada)).at,HE w' (uD HB hk' hlg HB.size)⟩) HG).mono ?_;rintro e w2 ⟨c',C,n1,x1,c1,n2,x2,c2,rt,rfl,hg2,hk2,hsy⟩;obtain⟨rfl,rfl,rfl⟩:=SyM.same HM hsy.math;obtain⟨g1,g2,hSW⟩:=hsy.w (HK.keeps hk2 (λx hx=> .inr Ada));have HB2:=Hq (uD HB hk2 hlg HB.size);have HSW:=Hq hSW;have HG2:=Hq hg2;have HR2:=Hq (hk2.obj HR1 (λhm=>by have:=aE3.1 hm;omega));clear hg2 hk2 hsy hSW HB HG HE HZ HK HR1 HM;go_upto_region 3 with fail;refine aFv ?_;show wpList _ _ _ [_,_,_,_,_,_,_] _ _
 go_wp2_with fail;refine(PZ c' C g true rt w2 HG2).mono ?_;rintro e w3 ⟨rfl,hk3⟩;have HB3:=Hq (uD HB2 hk3 hlg HB2.size);have amy:=Hq (HSW.keeps hk3 (λx hx=> .inr Ada));have HR3:=Hq (hk3.obj HR2 (λhm=>by have:=aE3.1 hm;omega));have hs3:g < w3.heap.size:=aEU (ay HG2) hk3.size;clear hk3 HB2 HSW HG2 HR2;obtain⟨VC,TP⟩:∃V,BN V c' C:=⟨_,rfl⟩;rw [show(AA c' C).toArray=VC.toArray from by rw [show VC=_ from TP]];have Ll:=Hq TP;clear TP;rename_i vU
 refine vU _ _ ?_;clear vU;iterate 2 (refine aFx Aad (λK hK=>?_);go_simp;refine hK _ _ ?_;clear hK K)
 refine uQ Aad (.tmp 2) (.tmp 16) rfl (w.heap.size+1) rfl VC rfl Ll.len Ll.one Aad HR3 (λW5 Wx Ww=>?_);have hk:aA [w.heap.size+1] w3 W5:=by rw [Wx];exact eB _ _ _ _
 have hb:aH w W5:=by rw [Wx];exact eU Aaa _ _ _ _ HB3
 have q:=amy.keeps hk (λx hx=> .inl (by rw [aE3.1 hx];exact hrl));have hs5:=hk.size;have HP:=Hq (show Le w c' n1 n2 (Ending.returned (Value.tuple #[.agg VC.toArray,.slice x1 n1.length c1,.slice x2 n2.length c2])) W5 from⟨C,x1,c1,x2,c2,G1,G2,gw,ga,g1,g2,by rw [<-(ah Ll).agg],q.wide Aaa Aaa,hb⟩);clear Wx hk hb q HB3 amy HR3;go_wp2_with fail;exact aET (v:= .tuple #[.agg VC.toArray,.slice x1 n1.length c1,.slice x2 n2.length c2]) (qH rfl _ _ (w.heap.size+1) VC _ rfl Ww.r Tryz.underlying43 rfl (by rw [(ah Ll).len];kernel_rfl) rfl rfl) rfl HP
namespace Mth
end Mth
theorem hkB.base {w:World} (h:hkB w g k A st lk rt) (n:Nd) (B:bq):hkB (w.setCells g 11 (dH n B).toList) g {k with base:=n} {A with b:=B} st lk rt:=by
 rw [lH];exact GR.setW_blk (o:=11) (xs:=(hkG k A st lk rt).toList) (dH n B).toList h
end Go.Proofs.YtbolgdleijjgfaaGreatDoor
