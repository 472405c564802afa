/- Parts. -/
import Derived.Test.YtbolgdleijjgfaaGreatDoorRf38
import Derived.Test.YtbolgdleijjgfaaGreatDoorRf29
import Derived.Test.YtbolgdleijjgfaaGreatDoorRf34
namespace Go.Proofs.YtbolgdleijjgfaaGreatDoor
open Go.Proofs.Tryz
set_option maxHeartbeats 8000000
set_option maxRecDepth 100000
open Go.RowKit
open Mth
variable (w0 w:World) (wb:Nat) (n:Nd) (A:bq) (G:aN) (c:Nat->Nat) (v:Value) (L:List Mg) (o:gP)
theorem adQ (ho:bQ o=false) (h:WK w0 w wb n A G c v L):Calls prog 183 #[.pointer (some ⟨wb,0,none⟩),jX o] w λe w'=>e= .returned (.int .i64 (nW n o).2.2)/\∃A' G' c' v',WK w0 w' wb (nW n o).1 A' G' c' v' (L++(nW n o).2.1):=by
 have HR:Hid (nW n o=(n,[],3)):=by
  show nW n o=_
  unfold nW;rw [ho];rfl
 rw [ah HR];clear HR;open aBb in exact aep
theorem adR (hp:eD n=true) (hz:n.kids.length<=1048600) (ho:bQ o=true) (hK:o.K=6) (ha:yG n o=false) (h:WK w0 w wb n A G c v L):Calls prog 183 #[.pointer (some ⟨wb,0,none⟩),jX o] w λe w'=>e= .returned (.int .i64 (nW n o).2.2)/\∃A' G' c' v',WK w0 w' wb (nW n o).1 A' G' c' v' (L++(nW n o).2.1):=by
 have HR:Hid (nW n o=(n,[],3)):=by
  show nW n o=_
  unfold nW;rw [ha,Bool.and_false];rfl
 rw [ah HR]
 have hd:(decide (o.m.T=n.id)&&dY n o.m.F)=false:=by
  unfold yG at ha;rw [hK] at ha;simpa using ha
 have HAD:=Hq (λW (hW:WK w0 W wb n A G c v L)=>adP w0 W wb n A G c v L o.m hp hz hW);rw [hd] at HAD;clear HR hp hz ha hd;have Xv:=Hq hK;clear hK;open aBa in exact aep
theorem alv (ho:bQ o=true) (hK:o.K=0) (hx:∀W,WK w0 W wb n A G c v L->Calls prog 199 #[.pointer (some ⟨wb,0,none⟩),jX o] W λe w'=>e= .returned (.int .i64 (fF n o).2.2)/\∃A' G' c' v',WK w0 w' wb (fF n o).1 A' G' c' v' (L++(fF n o).2.1)) (h:WK w0 w wb n A G c v L):Calls prog 183 #[.pointer (some ⟨wb,0,none⟩),jX o] w λe w'=>e= .returned (.int .i64 (fF n o).2.2)/\∃A' G' c' v',WK w0 w' wb (fF n o).1 A' G' c' v' (L++(fF n o).2.1):=by
 open aAx in exact Yk1
theorem alx (ho:bQ o=true) (hK:o.K=1) (hx:∀W,WK w0 W wb n A G c v L->Calls prog 200 #[.pointer (some ⟨wb,0,none⟩),jX o] W λe w'=>e= .returned (.int .i64 (fF n o).2.2)/\∃A' G' c' v',WK w0 w' wb (fF n o).1 A' G' c' v' (L++(fF n o).2.1)) (h:WK w0 w wb n A G c v L):Calls prog 183 #[.pointer (some ⟨wb,0,none⟩),jX o] w λe w'=>e= .returned (.int .i64 (fF n o).2.2)/\∃A' G' c' v',WK w0 w' wb (fF n o).1 A' G' c' v' (L++(fF n o).2.1):=by
 open aAw in exact Yk1
theorem aly (ho:bQ o=true) (hK:o.K=2) (hx:∀W,WK w0 W wb n A G c v L->Calls prog 201 #[.pointer (some ⟨wb,0,none⟩),jX o] W λe w'=>e= .returned (.int .i64 (fF n o).2.2)/\∃A' G' c' v',WK w0 w' wb (fF n o).1 A' G' c' v' (L++(fF n o).2.1)) (h:WK w0 w wb n A G c v L):Calls prog 183 #[.pointer (some ⟨wb,0,none⟩),jX o] w λe w'=>e= .returned (.int .i64 (fF n o).2.2)/\∃A' G' c' v',WK w0 w' wb (fF n o).1 A' G' c' v' (L++(fF n o).2.1):=by
 open aAv in exact Yk1
theorem alz (ho:bQ o=true) (hK:o.K=3) (hx:∀W,WK w0 W wb n A G c v L->Calls prog 202 #[.pointer (some ⟨wb,0,none⟩),jX o] W λe w'=>e= .returned (.int .i64 (fF n o).2.2)/\∃A' G' c' v',WK w0 w' wb (fF n o).1 A' G' c' v' (L++(fF n o).2.1)) (h:WK w0 w wb n A G c v L):Calls prog 183 #[.pointer (some ⟨wb,0,none⟩),jX o] w λe w'=>e= .returned (.int .i64 (fF n o).2.2)/\∃A' G' c' v',WK w0 w' wb (fF n o).1 A' G' c' v' (L++(fF n o).2.1):=by
 open Sk9 in exact Yk1
theorem alA (ho:bQ o=true) (hK:o.K=4) (hx:∀W,WK w0 W wb n A G c v L->Calls prog 203 #[.pointer (some ⟨wb,0,none⟩),jX o] W λe w'=>e= .returned (.int .i64 (fF n o).2.2)/\∃A' G' c' v',WK w0 w' wb (fF n o).1 A' G' c' v' (L++(fF n o).2.1)) (h:WK w0 w wb n A G c v L):Calls prog 183 #[.pointer (some ⟨wb,0,none⟩),jX o] w λe w'=>e= .returned (.int .i64 (fF n o).2.2)/\∃A' G' c' v',WK w0 w' wb (fF n o).1 A' G' c' v' (L++(fF n o).2.1):=by
 open Sk8 in exact Yk1
theorem alB (ho:bQ o=true) (hK:o.K=5) (hx:∀W,WK w0 W wb n A G c v L->Calls prog 204 #[.pointer (some ⟨wb,0,none⟩),jX o] W λe w'=>e= .returned (.int .i64 (fF n o).2.2)/\∃A' G' c' v',WK w0 w' wb (fF n o).1 A' G' c' v' (L++(fF n o).2.1)) (h:WK w0 w wb n A G c v L):Calls prog 183 #[.pointer (some ⟨wb,0,none⟩),jX o] w λe w'=>e= .returned (.int .i64 (fF n o).2.2)/\∃A' G' c' v',WK w0 w' wb (fF n o).1 A' G' c' v' (L++(fF n o).2.1):=by
 open Sk7 in exact Yk1
theorem alC (hp:eD n=true) (hz:n.kids.length<=1048600) (hd:(decide (o.m.T=n.id)&&dY n o.m.F)=true) (ho:bQ o=true) (hK:o.K=6) (hx:∀W,WK w0 W wb n A G c v L->Calls prog 205 #[.pointer (some ⟨wb,0,none⟩),jX o] W λe w'=>e= .returned (.int .i64 (fF n o).2.2)/\∃A' G' c' v',WK w0 w' wb (fF n o).1 A' G' c' v' (L++(fF n o).2.1)) (h:WK w0 w wb n A G c v L):Calls prog 183 #[.pointer (some ⟨wb,0,none⟩),jX o] w λe w'=>e= .returned (.int .i64 (fF n o).2.2)/\∃A' G' c' v',WK w0 w' wb (fF n o).1 A' G' c' v' (L++(fF n o).2.1):=by
 have HAD:=Hq (λW (hW:WK w0 W wb n A G c v L)=>adP w0 W wb n A G c v L o.m hp hz hW);rw [hd] at HAD;clear hp hz hd;have HX:=Hq hx;have HKQ:=Hq hK;clear hx hK;generalize fF n o=TT at *;open aA9 in exact aep
theorem aDs (w0 w:World) (wb:Nat) (n:Nd) (A:bq) (G:aN) (c:Nat->Nat) (v:Value) (L:List Mg) (o:gP) (E:Nat->Addr) (hz:eG n 1048576) (hok:dV n=true) (hk:o.k.size<=1048576) (hmk:o.m.k.size<=1048576) (hL:L.length<=1048000) (h:WK w0 w wb n A G c v L) (he:iy w0 E):Calls prog 183 #[.pointer (some ⟨wb,0,none⟩),jX o] w λe w'=>e= .returned (.int .i64 (nW n o).2.2)/\∃A' G' c' v',WK w0 w' wb (nW n o).1 A' G' c' v' (L++(nW n o).2.1):=by
 have hp:=(bJ hok).1;have hzk:n.kids.length<=1048600:=aEU hz.k Aaa;have hrq:=(bJ hok).2.2.2.2.2;cases ho:bQ o with
 |false=>exact adQ w0 w wb n A G c v L o ho h
 |true=>
  cases ha:yG n o with
  |false=>
   have hK:o.K=6:=by
    unfold yG at ha;by_cases hK:o.K=6
    .exact hK
    .rw [aES hK] at ha;simp at ha
   exact adR w0 w wb n A G c v L o hp hzk ho hK ha h
  |true=>
   have hw:nW n o=fF n o:=by
    unfold nW;rw [ho,ha];rfl
   rw [hw];clear hw;rcases Kz ho with hK|hK|hK|hK|hK|hK|hK
   .refine alv w0 w wb n A G c v L o ho hK (λW hW=>?_) h
    have e:fF n o=((vR n o).1,[],(vR n o).2):=by
     unfold fF vR;rw [aFc hK];split<;>rfl
    rw [e];refine(alE w0 W wb n A G c v L o E hz hk hW he).mono ?_;exact aa4
   .refine alx w0 w wb n A G c v L o ho hK (λW hW=>?_) h;have hpa:=Gj ho hK
    have e:fF n o=((fT n o.no o.k o.n).1,[],(fT n o.no o.k o.n).2):=by
     unfold fF;rw [aE2 Aaa,aFc hK]
    rw [e];refine(afU w0 W wb n A G c v L o E hz hrq hk Aaa hpa.2.2.2.2 hW he).mono ?_;exact aa4
   .refine aly w0 w wb n A G c v L o ho hK (λW hW=>?_) h;have hpr:=MX ho hK
    have e:fF n o=((aU n o.no).1,[],(aU n o.no).2):=by
     unfold fF;rw [aE2 Aaa,aE2 Aaa,aFc hK]
    rw [e];refine(Z0 w0 W wb n A G c v L o E hz hrq Aaa hpr.2 hW he).mono ?_;exact aa4
   .refine alz w0 w wb n A G c v L o ho hK (λW hW=>?_) h
    have e:fF n o=(n,(H6 n o).1,(H6 n o).2):=by
     unfold fF H6;rw [aE2 Aaa,aE2 Aaa,aE2 Aaa,aFc hK];split<;>rfl
    rw [e];refine(alG w0 W wb n A G c v L o hk Aaa hW).mono ?_;rintro e w' ⟨rfl,c',v',hW'⟩;exact⟨rfl,A,G,c',v',hW'⟩
   .refine alA w0 w wb n A G c v L o ho hK (λW hW=>?_) h;have hpk:=Qy ho Aaa
    have e:fF n o=Fj n o:=by
     unfold fF Fj;rw [aE2 Aaa,aE2 Aaa,aE2 Aaa,aE2 Aaa,aFc hK]
    rw [e];exact alu w0 W wb n A G c v L o E hok hpk.1 hpk.2.1 hpk.2.2 Aaa hW he
   .refine alB w0 w wb n A G c v L o ho hK (λW hW=>?_) h
    have e:fF n o=(n,n.out.map (qU n),0):=by
     unfold fF;rw [aE2 Aaa,aE2 Aaa,aE2 Aaa,aE2 Aaa,aE2 Aaa,aFc hK]
    rw [e];refine(alF w0 W wb n A G c v L o hz hL hW).mono ?_;rintro e w' ⟨rfl,c',v',hW'⟩;exact⟨rfl,A,G,c',v',hW'⟩
   .have had:=Fe ha hK;have hd:(decide (o.m.T=n.id)&&dY n o.m.F)=true:=by rw [aET had.1,had.2];rfl
    refine alC w0 w wb n A G c v L o hp hzk hd ho hK (λW hW=>?_) h
    have e:fF n o=fU n o.m:=by
     unfold fF;rw [aE2 Aaa,aE2 Aaa,aE2 Aaa,aE2 Aaa,aE2 Aaa,aE2 Aaa]
    rw [e];exact alD w0 W wb n A G c v L o E hz hok (Kw ho hK) had.2 hmk Aaa hW he
def Li (w:World) (n:Nd) (e:Ending) (w':World):Prop:=∃A' G' c',e= .returned (gU n A')/\NO w' w.heap.size n A' G' c'/\aH w w'
theorem Mx (n:Nd) (A:bq) (a:Option Addr) (cap:Nat) (L:List gP) (E:Nat->Addr) (w:World) (hz:eG n 1048576) (hL:L.length<=60000) (hk:∀o∈L,o.k.size<=1048576/\o.m.k.size<=1048576) (ha:cK w A n) (ho:JW w a L) (he:iy w E):
 Calls prog 146 #[gU n A,.slice a L.length cap] w (Li w (gV n L)):=by
 have EL:=Hq (λW (h:aH w W)=>ql n A W hz (ha.below h));have nH:=Hq (λW (h:aH w W)=>yY n A W (hz.mono Aaa) (ha.below h));have HDO:=Hq (fun(hn:dV n=true) (k:Nat) (hk1:k < L.length) W w0 wb A G c v (hW:WK w0 W wb (gV n (L.take k)) A G c v []) (he:iy w0 E)=>aDs w0 W wb (gV n (L.take k)) A G c v [] L[k] E (M8 hz _) (Xd hn _) (hk _ (aE8 hk1)).1 (hk _ (aE8 hk1)).2 Aac hW he);have HPS:=Hq (fun(hn:dV n=true) (k:Nat) (hk1:k < L.length)=>show(nW (gV n (L.take k)) L[k]).1=gV n (L.take (k+1)) by rw [KG hk1,TP (Xd hn _)]);have Lr:=Hq (λh=>adb (n:=n) h L);have HPE:=Hq (show gV n (L.take L.length)=gV n L by rw [aFh]);have HE:=Hq he;have HO:=Hq ho;clear hz ha hk ho he;unfold Li;go_in
 go_upto_region 1 with fail;refine wp_at (λW0 hW=>?_);obtain⟨e1,e3,e4⟩:=gH w (.cells (dD n A) 39) (.cells lC 39);rw [<-hW] at e1 e3 e4;have HN:=Hq e1;have HR:=Hq e3;have HB:=Hq e4;have HO0:=Hq (GR.At.below HO e4);have HE0:=Hq (HE.below e4);clear hW e1 e3 e4 HO HE;have hl0:=ay HR;obtain⟨c0,c1,c2,c3,c4,c5,c6,c7,c8⟩:=nine HN;go_wp2_with fail;refine(EL W0 HB).mono ?_;rintro e y ⟨A1,G1,cc1,rfl,hNO,hby⟩;have nA:=Hq hNO;have JL:=Hq hby;clear hNO hby c0 c1 c2 c3 c4 c5 c6 c7 c8 EL;go_upto_region 2 with fail;refine wp_at (λW hW=>?_);have e5:W.heap[y.heap.size]?=some (.cells (Xr n A1 (.slice none 0 0)) 215 (0,0)):=Ach
 have e6:aH y W:=by rw [hW];exact au _ _
 have HK:=Hq (WK.start JL nA (aER y.heap.size) e6 e5);have HNW:=Hq (aj HN HK.keep);have hys:W0.heap.size<=y.heap.size:=JL.size;clear hW e5 e6 nA HN JL;generalize newC y.heap.size 8 cc1=Ph at *;generalize y.heap.size=wb at *;obtain⟨c0,c1,c2,c3,c4,c5,c6,c7,c8⟩:=nine HNW;have hnl:=ay HNW;go_wp2_with fail;refine(nH W (HB.trans (HK.keep.mono HB.size))).mono ?_;rintro e W2 ⟨rfl,hb2⟩;have oq:=Hq (HK.step hb2);clear hb2 c0 c1 c2 c3 c4 c5 c6 c7 c8 nH HNW hnl HK;cases hok:dV n with
 |false=>
  have hpb:=ah Lr hok;clear HDO HPS Lr HPE;obtain⟨c0,c1,c2,c3,c4,c5,c6,c7,c8,c9⟩:=jT oq.blk;have hres:=aj HR oq.keep;have wu:=Hq hres;have hrl:=ay hres;have hwl:=ay oq.blk;obtain⟨d0,d1,d2,d3,d4,d5,d6,d7,d8⟩:=nine hres;obtain⟨f0,f1,f2,f3,f4,f5,f6,f7,f8⟩:=pJ hres;clear hres;go_wp2_with fail;refine qg results146 rfl rfl wu (λW' _ fC _ _=>?_);have qD:NO W' w.heap.size n A1 G1 Ph:=(oq.no.keepsN Aaa fC).base HB.size;have hBB:=(HB.trans (oq.keep.mono HB.size)).trans (fC.below (λx hx=>Aak) (HB.trans (oq.keep.mono HB.size)).size);exact⟨A1,G1,Ph,by rw [hpb],by rw [hpb];exact qD,hBB⟩
 |true=>
  have HD:=Hq (HDO hok);have HP:=Hq (HPS hok);have hK0:∃A G c,WK W0 W2 wb (gV n (L.take 0)) A G c (.slice none 0 0) []:=⟨A1,G1,Ph,oq⟩;have Oz:=Hq hK0;clear HDO HPS Lr hok oq hK0;go_wp2_with fail;go_loopw [18] (λi wr=>∃k:Nat,k<=L.length/\i= .int .i64 k/\∃A G c,WK W0 wr wb (gV n (L.take k)) A G c (.slice none 0 0) []) (λi _=>L.length - (intOf i).toNat)
  case atStart=>exact⟨0,aE7 _,rfl,Oz⟩
  case round=>
   clear Oz;obtain⟨k,hkl,rfl,A2,G2,cc3,hK⟩:=hrel;have HK:=Hq hK;clear hK;by_cases hlt:k < L.length
   .obtain⟨g1,o1,rfl,hg1,s0,s1,s2,s3,s4,s5,s6,s7,s8,s9,s10⟩:=JW.eleven (GR.At.below HO0 HK.keep) k hlt;have HDk:=Hq (HD k hlt);have HPk:=Hq (HP k hlt);generalize nW (gV n (L.take k)) L[k]=RR at *;generalize gV n (L.take k)=m at *;generalize L[k]=oo at *;obtain⟨K,no,kk,nn,⟨mK,mF,mT,mI,mL,mk,mN⟩⟩:=oo;dsimp only at s0 s1 s2 s3 s4 s5 s6 s7 s8 s9 s10;go_upto_region 7 with fail;refine wp_at (λV hV=>?_);have hbv:aH wr V:=by rw [hV];exact au _ _
    have HV:=Hq (show V.heap[wr.heap.size]?=some (.cells (bV K no kk nn mK mF mT mI mL mk mN) 73 (0,0)) by rw [hV];exact aEP _ _);have oq:=Hq (HK.step hbv);have af4:=Hq (HDk V W0 wb A2 G2 cc3 _ oq HE0);clear hV hbv HK HDk s0 s1 s2 s3 s4 s5 s6 s7 s8 s9 s10;obtain⟨⟨p0,p1,p2,p3,p4,p5,p6,p7,p8,p9,pz⟩,_⟩:=aK HV;go_wp2_with fail;refine af4.mono ?_;rintro e W3 ⟨rfl,A3,G3,cc4,v3,hK3⟩;have Sw:=Hq hK3;obtain⟨q0,q1,q2,q3,q4,q5,q6,q7,q8,q9⟩:=jT hK3.blk;have f9:=aC hK3.blk 9;clear hK3 af4 oq HV p0 p1 p2 p3 p4 p5 p6 p7 p8 p9 pz q0 q1 q2 q3 q4 q5 q6 q7 q8;go_wp2_with fail;go_roundw
    case rel=>exact⟨k+1,Aaa,Aaf,A3,G3,cc4,by have h:=Sw.mute;rw [ah HPk] at h;exact h⟩
    case measure=>simp[intOf];omega
   .have hke:k=L.length:=Aaa
    subst hke;have hnlt:decide ((L.length:Int) < (L.length:Int))=false:=Aac
    rw [ah HPE] at HK;obtain⟨m,hm⟩:∃m,gV n L=m:=⟨_,rfl⟩;rw [hm] at HK;have HM:=Hq hm;clear HD HP HPE hlt hm;obtain⟨c0,c1,c2,c3,c4,c5,c6,c7,c8,c9⟩:=jT HK.blk;have hres:=aj HR HK.keep;have wu:=Hq hres;have hrl:=ay hres;have hwl:=ay HK.blk;obtain⟨d0,d1,d2,d3,d4,d5,d6,d7,d8⟩:=nine hres;obtain⟨f0,f1,f2,f3,f4,f5,f6,f7,f8⟩:=pJ hres;clear hres;go_wp2_with fail;refine qg results146 rfl rfl wu (λW' _ fC _ _=>?_);have qD:NO W' w.heap.size m A2 G2 cc3:=(HK.no.keepsN Aaa fC).base HB.size;have hBB:=(HB.trans (HK.keep.mono HB.size)).trans (fC.below (λx hx=>Aak) (HB.trans (HK.keep.mono HB.size)).size);exact⟨A2,G2,cc3,Abf,by rw [ah HM];exact qD,hBB⟩
namespace Mth
def uU (k:Kp):Prop:=dV k.base=true/\dV k.node=true/\(0<=k.safe/\k.safe<=k.log.size)/\(gK k.log).2=k.log.size/\k.node=gV k.base (gK k.log).1
end Mth
theorem aci (k:Kp) (A:KA) (g:Nat) (st:Int) (lk rt:Bool) (E:Nat->Addr) (w:World) (hz:qd k 1048576) (ha:jw w A k) (hg:w.heap[g]?=some (.cells (hkG k A st lk rt) 115 (0,0))) (he:iy w E) (hH:Handle w):
 Calls Tryz.prog 116 #[.pointer (some ⟨g,0,none⟩)] w (mG w (uU k)):=by
 have Ij:=Hq (λW (h:aH w W)=>yY k.base A.b W (hz.b.mono Aaa) (ha.below h).kb);have yP:=Hq (λW (h:aH w W)=>yY k.node A.n W (hz.n.mono Aaa) (ha.below h).kn);have Et:=Hq (λW (h:aH w W)=>acp k.log (by have:=hz.l;unfold maxLen;omega) W (hH.below h));have Oe:=Hq (λa cap W (h:aH w W) (ho:JW W a (gK k.log).1)=>Mx k.base A.b a cap (gK k.log).1 E W hz.b (KN k.log) (λo h=>Xb (QJ k.log o h)) (ha.below h).kb ho (he.below h));have zV:=Hq (λW (h:aH w W) A' (hb:cK W A' (gV k.base (gK k.log).1))=>Zp k.node (gV k.base (gK k.log).1) A.n A' W hz.n (ha.below h).kn hb);have HK:=Hq hg;have hgl:=ay hg;have hsl:=hz.l;unfold lN at Et;unfold Li at Oe;clear hz ha hg he hH;obtain⟨⟨bk,bp,bo,bs,br,bck,bcp,bco,bcs,bcr⟩,⟨nk,np,no,ns,nr,nck,ncp,nco,ncs,ncr⟩,wa,wc,aa,ac⟩:=A;dsimp only at Ij yP Oe zV;have y0:=aEQ (show w.cell? ⟨g,0,none⟩=some (.int .i64 k.node.id) from aV HK 0);have y1:=aEQ (show w.cell? ⟨g,1,none⟩=some (.int .i64 k.node.par) from aV HK 1);have y2:=aEQ (show w.cell? ⟨g,2,none⟩=some (.slice nk k.node.kids.length nck) from aV HK 2);have y3:=aEQ (show w.cell? ⟨g,3,none⟩=some (.int .i64 k.node.next) from aV HK 3);have y4:=aEQ (show w.cell? ⟨g,4,none⟩=some (.slice np k.node.pu.length ncp) from aV HK 4);have y5:=aEQ (show w.cell? ⟨g,5,none⟩=some (.slice no k.node.out.length nco) from aV HK 5);have y6:=aEQ (show w.cell? ⟨g,6,none⟩=some (.slice ns k.node.seen.length ncs) from aV HK 6);have y7:=aEQ (show w.cell? ⟨g,7,none⟩=some (.int .i64 k.node.old) from aV HK 7);have y8:=aEQ (show w.cell? ⟨g,8,none⟩=some (.slice nr k.node.reqs.length ncr) from aV HK 8);have y11:=aEQ (show w.cell? ⟨g,11,none⟩=some (.int .i64 k.base.id) from aV HK 11);have y12:=aEQ (show w.cell? ⟨g,12,none⟩=some (.int .i64 k.base.par) from aV HK 12);have y13:=aEQ (show w.cell? ⟨g,13,none⟩=some (.slice bk k.base.kids.length bck) from aV HK 13);have y14:=aEQ (show w.cell? ⟨g,14,none⟩=some (.int .i64 k.base.next) from aV HK 14);have y15:=aEQ (show w.cell? ⟨g,15,none⟩=some (.slice bp k.base.pu.length bcp) from aV HK 15);have y16:=aEQ (show w.cell? ⟨g,16,none⟩=some (.slice bo k.base.out.length bco) from aV HK 16);have y17:=aEQ (show w.cell? ⟨g,17,none⟩=some (.slice bs k.base.seen.length bcs) from aV HK 17);have y18:=aEQ (show w.cell? ⟨g,18,none⟩=some (.int .i64 k.base.old) from aV HK 18);have y19:=aEQ (show w.cell? ⟨g,19,none⟩=some (.slice br k.base.reqs.length bcr) from aV HK 19);have y20:=aEQ (show w.cell? ⟨g,20,none⟩=some (.string k.log) from aV HK 20);have y21:=aEQ (show w.cell? ⟨g,21,none⟩=some (.int .i64 k.safe) from aV HK 21);cases h1:dV k.base
 case' false=>
  have HP:=Hq (show¬uU k from λh=>by have h:=h.1;rw [h1] at h;cases h);have k1:∀d os,Calls Tryz.prog 143 #[gU k.base (⟨bk,bp,bo,bs,br,bck,bcp,bco,bcs,bcr⟩:bq)] (Sort.grow (redrawn w d) os) λe w''=>e= .returned (.bool false)/\∃p:Regrown,w''=Sort.grow (redrawn w p.d) p.os:=λd os=>aFr (h1▸ah Ij _ (aFl w d os))
  clear h1 Ij yP Et Oe zV HK;go_in
  go_upto_region 1 with fail;refine aE5 Aab Aab ?_;repeat (first|go_big_quiet_step ((go_at_call_of 143 bk;exact k1 _ _))|quiet_step ((go_at_call_of 143 bk;exact k1 _ _)))
  refine aFy ?_;intro _ hw';obtain⟨⟨dq,osq⟩,hw''⟩:=hw';subst hw'';clear k1 y0 y1 y2 y3 y4 y5 y6 y7 y8 y11 y12 y13 y14 y15 y16 y17 y18 y19 y20 y21;go_wp2_with fail;go_ret;exact .no HP (aFl _ dq osq)
 have k1:∀d os,Calls Tryz.prog 143 #[gU k.base (⟨bk,bp,bo,bs,br,bck,bcp,bco,bcs,bcr⟩:bq)] (Sort.grow (redrawn w d) os) λe w''=>e= .returned (.bool true)/\∃p:Regrown,w''=Sort.grow (redrawn w p.d) p.os:=λd os=>aFr (h1▸ah Ij _ (aFl w d os))
 cases h2:dV k.node
 case' false=>
  have HP:=Hq (show¬uU k from λh=>by have h:=h.2.1;rw [h2] at h;cases h);have k2:∀d os,Calls Tryz.prog 143 #[gU k.node (⟨nk,np,no,ns,nr,nck,ncp,nco,ncs,ncr⟩:bq)] (Sort.grow (redrawn w d) os) λe w''=>e= .returned (.bool false)/\∃p:Regrown,w''=Sort.grow (redrawn w p.d) p.os:=λd os=>aFr (h2▸ah yP _ (aFl w d os))
  clear h1 h2 Ij yP Et Oe zV HK;go_in
  go_upto_region 1 with fail;refine aE5 Aab Aab ?_;repeat (first|go_big_quiet_step (first|(go_at_call_of 143 nk;exact k2 _ _)|(go_at_call_of 143 bk;exact k1 _ _))|quiet_step (first|(go_at_call_of 143 nk;exact k2 _ _)|(go_at_call_of 143 bk;exact k1 _ _)))
  refine aFy ?_;intro _ hw';obtain⟨⟨dq,osq⟩,hw''⟩:=hw';subst hw'';clear k1 k2 y0 y1 y2 y3 y4 y5 y6 y7 y8 y11 y12 y13 y14 y15 y16 y17 y18 y19 y20 y21;go_wp2_with fail;go_ret;exact .no HP (aFl _ dq osq)
 have k2:∀d os,Calls Tryz.prog 143 #[gU k.node (⟨nk,np,no,ns,nr,nck,ncp,nco,ncs,ncr⟩:bq)] (Sort.grow (redrawn w d) os) λe w''=>e= .returned (.bool true)/\∃p:Regrown,w''=Sort.grow (redrawn w p.d) p.os:=λd os=>aFr (h2▸ah yP _ (aFl w d os))
 have Xu:=Hq (And.intro h1 h2);clear h1 h2 Ij yP;by_cases h3:k.safe < 0
 case' pos=>
  have HP:=Hq (show¬uU k from λh=>by have:=h.2.2.1.1;omega);have hd:decide (k.safe < 0)=true:=aET h3;clear h3 Xu Et Oe zV HK;go_in
  go_upto_region 1 with fail;refine aE5 Aab Aab ?_;repeat (first|go_big_quiet_step (first|(go_at_call_of 143 nk;exact k2 _ _)|(go_at_call_of 143 bk;exact k1 _ _))|quiet_step (first|(go_at_call_of 143 nk;exact k2 _ _)|(go_at_call_of 143 bk;exact k1 _ _)))
  refine aFy ?_;intro _ hw';obtain⟨⟨dq,osq⟩,hw''⟩:=hw';subst hw'';clear hd k1 k2 y0 y1 y2 y3 y4 y5 y6 y7 y8 y11 y12 y13 y14 y15 y16 y17 y18 y19 y20 y21;go_wp2_with fail;go_ret;exact .no HP (aFl _ dq osq)
 have hd3:decide (k.safe < 0)=false:=aES h3;by_cases h4:(k.log.size:Int) < k.safe
 case' pos=>
  have HP:=Hq (show¬uU k from λh=>by have:=h.2.2.1.2;omega);have hd:decide (k.safe > (k.log.size:Int))=true:=aET h4;have hd':decide ((k.log.size:Int) < k.safe)=true:=aET h4;clear h3 h4 Xu Et Oe zV HK;go_in
  go_upto_region 1 with fail;refine aE5 Aab Aab ?_;repeat (first|go_big_quiet_step (first|(go_at_call_of 143 nk;exact k2 _ _)|(go_at_call_of 143 bk;exact k1 _ _))|quiet_step (first|(go_at_call_of 143 nk;exact k2 _ _)|(go_at_call_of 143 bk;exact k1 _ _)))
  refine aFy ?_;intro _ hw';obtain⟨⟨dq,osq⟩,hw''⟩:=hw';subst hw'';clear hd hd' hd3 k1 k2 y0 y1 y2 y3 y4 y5 y6 y7 y8 y11 y12 y13 y14 y15 y16 y17 y18 y19 y20 y21;go_wp2_with fail;go_ret;exact .no HP (aFl _ dq osq)
 have hd4:decide (k.safe > (k.log.size:Int))=false:=aES h4;have aCh:decide ((k.log.size:Int) < k.safe)=false:=aES h4;have HSF:=Hq (show 0<=k.safe/\k.safe<=k.log.size by omega);clear h3 h4;go_in
 go_upto_region 1 with fail;refine aE5 Aab Aab ?_;repeat (first|go_big_quiet_step (first|(go_at_call_of 143 nk;exact k2 _ _)|(go_at_call_of 143 bk;exact k1 _ _))|quiet_step (first|(go_at_call_of 143 nk;exact k2 _ _)|(go_at_call_of 143 bk;exact k1 _ _)))
 refine aFy ?_;intro _ hw';obtain⟨⟨dq,osq⟩,hw''⟩:=hw';subst hw'';clear hd3 hd4 aCh k1 k2 y0 y1 y2 y3 y4 y5 y6 y7 y8 y11 y12 y13 y14 y15 y16 y17 y18 y19 y20 y21;have HB1:=Hq (aFl w dq osq);generalize Sort.grow (redrawn w dq) osq=V at *;have Xw:=Hq (aj HK HB1);have v20:V.cell? ⟨g,20,none⟩=some (.string k.log):=aV Xw 20;clear HK;go_wp2_with fail;refine(Et V HB1).mono ?_;rintro e V2 ⟨v,rfl,hown,hb2⟩;obtain⟨la,lc,rfl,hops⟩:=GR.own_at (enc:=oD) (sz:=11) kC hown;have ES:=Hq hops;have HB2:=Hq (Below.trans HB1 (hb2.mono HB1.size));have oq:=Hq (aj Xw hb2);clear hb2 HB1 Xw v20 hgl hown hops Et;have hgl:=ay oq;have y20:=aEQ (show V2.cell? ⟨g,20,none⟩=some (.string k.log) from aV oq 20);by_cases h5:(gK k.log).2=k.log.size
 case' neg=>
  have HP:=Hq (show¬uU k from λh=>h5 h.2.2.2.1);have hq:(((gK k.log).2:Int) == (k.log.size:Int))=false:=Aah
  clear h5 Xu HSF Oe zV ES oq;go_upto_region 4 with fail;refine aE5 Aab Aab ?_;repeat (first|go_big_quiet_step (fail)|quiet_step (fail))
  refine aFy ?_;intro _ hw';obtain⟨⟨dq,osq⟩,hw''⟩:=hw';subst hw'';clear y20;go_wp2_with fail;go_ret;exact .no HP (HB2.trans ((aFl _ dq osq).mono HB2.size))
 have hq:(((gK k.log).2:Int) == (k.log.size:Int))=true:=by simp[h5]
 have HE5:=Hq h5;clear h5;obtain⟨hr0,hr1⟩:=Co oq;go_upto_region 4 with fail;refine bZ Aab ?_;show iZ _ _ _ _ 21 (Array.replicate 21 false) _ _
 refine tk [0,1,2,3,4,5,6,7,8,9,10] ?_;iterate 11 (refine lW (λK hK=>?_);go_simp;first|refine hK _ ?_|(apply Exists.intro;refine⟨λ_=>?_,hK _ ?_⟩;rfl);clear hK K)
 refine jh ?_;refine l7 11 rfl Aab Aab Aab (λ_ _ _ _ h=>h) Aad 39 _ rfl g 0 rfl (dD k.node (⟨nk,np,no,ns,nr,nck,ncp,nco,ncs,ncr⟩:bq)).toList _ hr0 hgl Tryz.underlying39 rfl Aab ?_;refine tk [12,13,14] ?_;iterate 3 (refine lW (λK hK=>?_);go_simp;first|refine hK _ ?_|(apply Exists.intro;refine⟨λ_=>?_,hK _ ?_⟩;rfl);clear hK K)
 refine jh ?_;refine l7 15 rfl Aab Aab Aab (λ_ _ _ _ h=>h) Aad 39 _ rfl g 11 rfl (dD k.base (⟨bk,bp,bo,bs,br,bck,bcp,bco,bcs,bcr⟩:bq)).toList _ hr1 hgl Tryz.underlying39 rfl Aab ?_;refine tk [16] ?_;(refine lW (λK hK=>?_);go_simp;first|refine hK _ ?_|(apply Exists.intro;refine⟨λ_=>?_,hK _ ?_⟩;rfl);clear hK K)
 refine jh ?_;clear y20 hr0 hr1 hq;refine fP 17 rfl Aab Aad (λx17 akW=>?_);go_simp;have g17:aH w x17:=Ge.trans (show Ge w V2 from HB2) akW;refine(Oe la lc x17 g17 (GR.At.below ES akW)).mono ?_;rintro e z17 ⟨A',G',c',rfl,hN',akZ⟩;refine⟨akZ,?_⟩;have HA':=Hq hN'.at;have HG:=Hq (show aH w z17 from Ge.trans (show Ge w x17 from g17) akZ);clear hN' akW akZ g17 HB2 Oe oq ES;refine fP 18 rfl Aab Aad (λx18 Yy=>?_);go_simp;have g18:aH w x18:=Ge.trans (show Ge w z17 from HG) Yy;refine(zV x18 g18 A' (HA'.below Yy)).mono ?_;rintro e z18 ⟨⟨r,rfl,hr⟩,ak0⟩;refine⟨ak0,?_⟩;have HR:=Hq (show r=true↔uU k from⟨λh=>⟨Xu.1,Xu.2,HSF,HE5,hr.1 h⟩,λh=>hr.2 h.2.2.2.2⟩);have HG2:=Hq (show aH w z18 from Ge.trans (show Ge w x18 from g18) ak0);clear Yy ak0 g18 zV HG HA' hr Xu HSF HE5;refine tk [19] ?_;(refine lW (λK hK=>?_);go_simp;first|refine hK _ ?_|(apply Exists.intro;refine⟨λ_=>?_,hK _ ?_⟩;rfl);clear hK K)
 refine jh ?_;refine fP 20 rfl Aab Aad (λx20 azg=>?_);go_simp;refine⟨aE3 _ _,?_⟩;refine dW Aab (λz hz=>?_);have Ir:=Hq (show aH w z from Ge.trans (show Ge w z18 from HG2) (Ge.trans azg hz));clear azg hz HG2;go_wp2_with fail;go_ret;exact⟨⟨r,rfl,HR⟩,Ir⟩
end Go.Proofs.YtbolgdleijjgfaaGreatDoor
