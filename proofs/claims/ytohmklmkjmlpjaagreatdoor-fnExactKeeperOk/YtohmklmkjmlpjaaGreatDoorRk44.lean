/- Parts. -/
import Derived.Test.YtohmklmkjmlpjaaGreatDoorRk43
import Derived.Test.YtohmklmkjmlpjaaGreatDoorRk25
import Derived.Test.YtohmklmkjmlpjaaGreatDoorRk36
namespace Go.Proofs.YtohmklmkjmlpjaaGreatDoor
open Go.Proofs.Tryz
set_option maxHeartbeats 8000000
set_option maxRecDepth 100000
open Go.RowKit
open Mth
variable (w0 w:World) (wb:Nat) (n:Nd) (A:bQ) (G:aX) (c:Nat->Nat) (v:Value) (L:List Mg) (o:gK)
theorem ada (ho:cu o=false) (h:WK w0 w wb n A G c v L):Calls prog 138 #[.pointer (some ⟨wb,0,none⟩),jG o] w λe w'=>e= .returned (.int .i64 (mV n o).2.2)/\∃A' G' c' v',WK w0 w' wb (mV n o).1 A' G' c' v' (L++(mV n o).2.1):=by
 have HR:Hid (mV n o=(n,[],3)):=by
  show mV n o=_
  unfold mV;rw [ho];rfl
 rw [ah HR];clear HR;open aAW in exact adK
theorem adb (hp:eD n=true) (hz:n.kids.length<=1048600) (ho:cu o=true) (hK:o.K=6) (ha:wY n o=false) (h:WK w0 w wb n A G c v L):Calls prog 138 #[.pointer (some ⟨wb,0,none⟩),jG o] w λe w'=>e= .returned (.int .i64 (mV n o).2.2)/\∃A' G' c' v',WK w0 w' wb (mV n o).1 A' G' c' v' (L++(mV n o).2.1):=by
 have HR:Hid (mV n o=(n,[],3)):=by
  show mV n o=_
  unfold mV;rw [ha,Bool.and_false];rfl
 rw [ah HR]
 have hd:(decide (o.m.T=n.id)&&dZ n o.m.F)=false:=by
  unfold wY at ha;rw [hK] at ha;simpa using ha
 have HAD:=Hq (λW (hW:WK w0 W wb n A G c v L)=>ac9 w0 W wb n A G c v L o.m hp hz hW);rw [hd] at HAD;clear HR hp hz ha hd;have YA:=Hq hK;clear hK;open aAV in exact adK
theorem ak8 (ho:cu o=true) (hK:o.K=0) (hx:∀W,WK w0 W wb n A G c v L->Calls prog 175 #[.pointer (some ⟨wb,0,none⟩),jG o] W λe w'=>e= .returned (.int .i64 (fu n o).2.2)/\∃A' G' c' v',WK w0 w' wb (fu n o).1 A' G' c' v' (L++(fu n o).2.1)) (h:WK w0 w wb n A G c v L):Calls prog 138 #[.pointer (some ⟨wb,0,none⟩),jG o] w λe w'=>e= .returned (.int .i64 (fu n o).2.2)/\∃A' G' c' v',WK w0 w' wb (fu n o).1 A' G' c' v' (L++(fu n o).2.1):=by
 open azZ in exact Yk1
theorem ak9 (ho:cu o=true) (hK:o.K=1) (hx:∀W,WK w0 W wb n A G c v L->Calls prog 176 #[.pointer (some ⟨wb,0,none⟩),jG o] W λe w'=>e= .returned (.int .i64 (fu n o).2.2)/\∃A' G' c' v',WK w0 w' wb (fu n o).1 A' G' c' v' (L++(fu n o).2.1)) (h:WK w0 w wb n A G c v L):Calls prog 138 #[.pointer (some ⟨wb,0,none⟩),jG o] w λe w'=>e= .returned (.int .i64 (fu n o).2.2)/\∃A' G' c' v',WK w0 w' wb (fu n o).1 A' G' c' v' (L++(fu n o).2.1):=by
 open azY in exact Yk1
theorem ala (ho:cu o=true) (hK:o.K=2) (hx:∀W,WK w0 W wb n A G c v L->Calls prog 177 #[.pointer (some ⟨wb,0,none⟩),jG o] W λe w'=>e= .returned (.int .i64 (fu n o).2.2)/\∃A' G' c' v',WK w0 w' wb (fu n o).1 A' G' c' v' (L++(fu n o).2.1)) (h:WK w0 w wb n A G c v L):Calls prog 138 #[.pointer (some ⟨wb,0,none⟩),jG o] w λe w'=>e= .returned (.int .i64 (fu n o).2.2)/\∃A' G' c' v',WK w0 w' wb (fu n o).1 A' G' c' v' (L++(fu n o).2.1):=by
 open azX in exact Yk1
theorem alb (ho:cu o=true) (hK:o.K=3) (hx:∀W,WK w0 W wb n A G c v L->Calls prog 178 #[.pointer (some ⟨wb,0,none⟩),jG o] W λe w'=>e= .returned (.int .i64 (fu n o).2.2)/\∃A' G' c' v',WK w0 w' wb (fu n o).1 A' G' c' v' (L++(fu n o).2.1)) (h:WK w0 w wb n A G c v L):Calls prog 138 #[.pointer (some ⟨wb,0,none⟩),jG o] w λe w'=>e= .returned (.int .i64 (fu n o).2.2)/\∃A' G' c' v',WK w0 w' wb (fu n o).1 A' G' c' v' (L++(fu n o).2.1):=by
 open Sk9 in exact Yk1
theorem alc (ho:cu o=true) (hK:o.K=4) (hx:∀W,WK w0 W wb n A G c v L->Calls prog 179 #[.pointer (some ⟨wb,0,none⟩),jG o] W λe w'=>e= .returned (.int .i64 (fu n o).2.2)/\∃A' G' c' v',WK w0 w' wb (fu n o).1 A' G' c' v' (L++(fu n o).2.1)) (h:WK w0 w wb n A G c v L):Calls prog 138 #[.pointer (some ⟨wb,0,none⟩),jG o] w λe w'=>e= .returned (.int .i64 (fu n o).2.2)/\∃A' G' c' v',WK w0 w' wb (fu n o).1 A' G' c' v' (L++(fu n o).2.1):=by
 open Sk8 in exact Yk1
theorem ald (ho:cu o=true) (hK:o.K=5) (hx:∀W,WK w0 W wb n A G c v L->Calls prog 180 #[.pointer (some ⟨wb,0,none⟩),jG o] W λe w'=>e= .returned (.int .i64 (fu n o).2.2)/\∃A' G' c' v',WK w0 w' wb (fu n o).1 A' G' c' v' (L++(fu n o).2.1)) (h:WK w0 w wb n A G c v L):Calls prog 138 #[.pointer (some ⟨wb,0,none⟩),jG o] w λe w'=>e= .returned (.int .i64 (fu n o).2.2)/\∃A' G' c' v',WK w0 w' wb (fu n o).1 A' G' c' v' (L++(fu n o).2.1):=by
 open Sk7 in exact Yk1
theorem ale (hp:eD n=true) (hz:n.kids.length<=1048600) (hd:(decide (o.m.T=n.id)&&dZ n o.m.F)=true) (ho:cu o=true) (hK:o.K=6) (hx:∀W,WK w0 W wb n A G c v L->Calls prog 181 #[.pointer (some ⟨wb,0,none⟩),jG o] W λe w'=>e= .returned (.int .i64 (fu n o).2.2)/\∃A' G' c' v',WK w0 w' wb (fu n o).1 A' G' c' v' (L++(fu n o).2.1)) (h:WK w0 w wb n A G c v L):Calls prog 138 #[.pointer (some ⟨wb,0,none⟩),jG o] w λe w'=>e= .returned (.int .i64 (fu n o).2.2)/\∃A' G' c' v',WK w0 w' wb (fu n o).1 A' G' c' v' (L++(fu n o).2.1):=by
 have HAD:=Hq (λW (hW:WK w0 W wb n A G c v L)=>ac9 w0 W wb n A G c v L o.m hp hz hW);rw [hd] at HAD;clear hp hz hd;have HX:=Hq hx;have HKQ:=Hq hK;clear hx hK;generalize fu n o=TT at *;open aAU in exact adK
theorem aCO (w0 w:World) (wb:Nat) (n:Nd) (A:bQ) (G:aX) (c:Nat->Nat) (v:Value) (L:List Mg) (o:gK) (E:Nat->Addr) (hz:eU n 1048576) (hok:dW n=true) (hk:o.k.size<=1048576) (hmk:o.m.k.size<=1048576) (hL:L.length<=1048000) (h:WK w0 w wb n A G c v L) (he:iG w0 E):Calls prog 138 #[.pointer (some ⟨wb,0,none⟩),jG o] w λe w'=>e= .returned (.int .i64 (mV n o).2.2)/\∃A' G' c' v',WK w0 w' wb (mV n o).1 A' G' c' v' (L++(mV n o).2.1):=by
 have hp:=(bY hok).1;have hzk:n.kids.length<=1048600:=Nat.le_trans hz.k Aaa;have hrq:=(bY hok).2.2.2.2.2;cases ho:cu o with
 |false=>exact ada w0 w wb n A G c v L o ho h
 |true=>
  cases ha:wY n o with
  |false=>
   have hK:o.K=6:=by
    unfold wY at ha;by_cases hK:o.K=6
    .exact hK
    .rw [decide_eq_false hK] at ha;simp at ha
   exact adb w0 w wb n A G c v L o hp hzk ho hK ha h
  |true=>
   have hw:mV n o=fu n o:=by
    unfold mV;rw [ho,ha];rfl
   rw [hw];clear hw;rcases JH ho with hK|hK|hK|hK|hK|hK|hK
   .refine ak8 w0 w wb n A G c v L o ho hK (λW hW=>?_) h
    have e:fu n o=((uI n o).1,[],(uI n o).2):=by
     unfold fu uI;rw [if_pos hK];split<;>rfl
    rw [e];refine(alg w0 W wb n A G c v L o E hz hk hW he).mono ?_;exact aao
   .refine ak9 w0 w wb n A G c v L o ho hK (λW hW=>?_) h;have hpa:=EZ ho hK
    have e:fu n o=((fJ n o.no o.k o.n).1,[],(fJ n o.no o.k o.n).2):=by
     unfold fu;rw [if_neg Aaa,if_pos hK]
    rw [e];refine(afc w0 W wb n A G c v L o E hz hrq hk Aaa hpa.2.2.2.2 hW he).mono ?_;exact aao
   .refine ala w0 w wb n A G c v L o ho hK (λW hW=>?_) h;have hpr:=LJ ho hK
    have e:fu n o=((bf n o.no).1,[],(bf n o.no).2):=by
     unfold fu;rw [if_neg Aaa,if_neg Aaa,if_pos hK]
    rw [e];refine(Yw w0 W wb n A G c v L o E hz hrq Aaa hpr.2 hW he).mono ?_;exact aao
   .refine alb w0 w wb n A G c v L o ho hK (λW hW=>?_) h
    have e:fu n o=(n,(F5 n o).1,(F5 n o).2):=by
     unfold fu F5;rw [if_neg Aaa,if_neg Aaa,if_neg Aaa,if_pos hK];split<;>rfl
    rw [e];refine(ali w0 W wb n A G c v L o hk Aaa hW).mono ?_;rintro e w' ⟨rfl,c',v',hW'⟩;exact⟨rfl,A,G,c',v',hW'⟩
   .refine alc w0 w wb n A G c v L o ho hK (λW hW=>?_) h;have hpk:=PY ho Aaa
    have e:fu n o=El n o:=by
     unfold fu El;rw [if_neg Aaa,if_neg Aaa,if_neg Aaa,if_neg Aaa,if_pos hK]
    rw [e];exact ak7 w0 W wb n A G c v L o E hok hpk.1 hpk.2.1 hpk.2.2 Aaa hW he
   .refine ald w0 w wb n A G c v L o ho hK (λW hW=>?_) h
    have e:fu n o=(n,n.out.map (pX n),0):=by
     unfold fu;rw [if_neg Aaa,if_neg Aaa,if_neg Aaa,if_neg Aaa,if_neg Aaa,if_pos hK]
    rw [e];refine(alh w0 W wb n A G c v L o hz hL hW).mono ?_;rintro e w' ⟨rfl,c',v',hW'⟩;exact⟨rfl,A,G,c',v',hW'⟩
   .have had:=Eh ha hK;have hd:(decide (o.m.T=n.id)&&dZ n o.m.F)=true:=by rw [decide_eq_true had.1,had.2];rfl
    refine ale w0 w wb n A G c v L o hp hzk hd ho hK (λW hW=>?_) h
    have e:fu n o=fO n o.m:=by
     unfold fu;rw [if_neg Aaa,if_neg Aaa,if_neg Aaa,if_neg Aaa,if_neg Aaa,if_neg Aaa]
    rw [e];exact alf w0 W wb n A G c v L o E hz hok (JG ho hK) had.2 hmk Aaa hW he
def J7 (w:World) (n:Nd) (e:Ending) (w':World):Prop:=∃A' G' c',e= .returned (gB n A')/\NO w' w.heap.size n A' G' c'/\aI w w'
theorem Li (n:Nd) (A:bQ) (a:Option Addr) (cap:Nat) (L:List gK) (E:Nat->Addr) (w:World) (hz:eU n 1048576) (hL:L.length<=60000) (hk:∀o∈L,o.k.size<=1048576/\o.m.k.size<=1048576) (ha:dw w A n) (ho:Jg w a L) (he:iG w E):
 Calls prog 83 #[gB n A,.slice a L.length cap] w (J7 w (gQ n L)):=by
 have M4:=Hq (λW (h:aI w W)=>tO n A W hz (ha.below h));have nS:=Hq (λW (h:aI w W)=>xV n A W (hz.mono Aaa) (ha.below h));have HDO:=Hq (fun(hn:dW n=true) (k:Nat) (hk1:k < L.length) W w0 wb A G c v (hW:WK w0 W wb (gQ n (L.take k)) A G c v []) (he:iG w0 E)=>aCO w0 W wb (gQ n (L.take k)) A G c v [] L[k] E (LY hz _) (VB hn _) (hk _ (List.getElem_mem hk1)).1 (hk _ (List.getElem_mem hk1)).2 Aac hW he);have HPS:=Hq (fun(hn:dW n=true) (k:Nat) (hk1:k < L.length)=>show(mV (gQ n (L.take k)) L[k]).1=gQ n (L.take (k+1)) by rw [JK hk1,Sr (VB hn _)]);have Kj:=Hq (λh=>acw (n:=n) h L);have HPE:=Hq (show gQ n (L.take L.length)=gQ n L by rw [List.take_length]);have HE:=Hq he;have HO:=Hq ho;clear hz ha hk ho he;unfold J7;go_in
 go_upto_region 1 with fail;refine wp_at (λW0 hW=>?_);obtain⟨e1,e3,e4⟩:=ig w (.cells (dG n A) 40) (.cells iF 40);rw [<-hW] at e1 e3 e4;have HN:=Hq e1;have HR:=Hq e3;have HB:=Hq e4;have HO0:=Hq (GR.At.below HO e4);have HE0:=Hq (HE.below e4);clear hW e1 e3 e4 HO HE;have hl0:=aA HR;obtain⟨c0,c1,c2,c3,c4,c5,c6,c7,c8⟩:=nine HN;go_wp2_with fail;refine(M4 W0 HB).mono ?_;rintro e y ⟨A1,G1,cc1,rfl,YK,hby⟩;have l7:=Hq YK;have IU:=Hq hby;clear YK hby c0 c1 c2 c3 c4 c5 c6 c7 c8 M4;go_upto_region 2 with fail;refine wp_at (λW hW=>?_);have e5:W.heap[y.heap.size]?=some (.cells (VR n A1 (.slice none 0 0)) 192 (0,0)):=Acn
 have e6:aI y W:=by rw [hW];exact ay _ _
 have HK:=Hq (WK.start IU l7 (Nat.le_refl y.heap.size) e6 e5);have VZ:=Hq (au HN HK.keep);have hys:W0.heap.size<=y.heap.size:=IU.size;clear hW e5 e6 l7 HN IU;generalize newC y.heap.size 8 cc1=Oz at *;generalize y.heap.size=wb at *;obtain⟨c0,c1,c2,c3,c4,c5,c6,c7,c8⟩:=nine VZ;have hnl:=aA VZ;go_wp2_with fail;refine(nS W (HB.trans (HK.keep.mono HB.size))).mono ?_;rintro e W2 ⟨rfl,hb2⟩;have sU:=Hq (HK.step hb2);clear hb2 c0 c1 c2 c3 c4 c5 c6 c7 c8 nS VZ hnl HK;cases hok:dW n with
 |false=>
  have hpb:=ah Kj hok;clear HDO HPS Kj HPE;obtain⟨c0,c1,c2,c3,c4,c5,c6,c7,c8,c9⟩:=jE sU.blk;have hres:=au HR sU.keep;have qA:=Hq hres;have hrl:=aA hres;have hwl:=aA sU.blk;obtain⟨d0,d1,d2,d3,d4,d5,d6,d7,d8⟩:=nine hres;have f0:=aj hres 0;have f1:=aj hres 1;have f2:=aj hres 2;have f3:=aj hres 3;have f4:=aj hres 4;have f5:=aj hres 5;have f6:=aj hres 6;have f7:=aj hres 7;have f8:=aj hres 8;clear hres;go_wp2_with fail;refine aO (λW' hW'=>?_);have e9:W'.heap[w.heap.size+1]?=some (.cells (dG n A1) 40 (0,0)):=by rw [hW'];exact uW qA
  obtain⟨r0,r1,r2,r3,r4,r5,r6,r7,r8⟩:=nine e9;have oN:NO W' w.heap.size n A1 G1 Oz:=by rw [hW'];exact(sU.no.keepsN Aaa pR).base HB.size
  have hBB:aI w W':=by rw [hW'];exact tu (HB.trans (sU.keep.mono HB.size)) Aaa
  exact bodyPost_ret (v:=gB n A1) Adl rfl ⟨A1,G1,Oz,by rw [hpb],by rw [hpb];exact oN,hBB⟩
 |true=>
  have HD:=Hq (HDO hok);have HP:=Hq (HPS hok);have hK0:∃A G c,WK W0 W2 wb (gQ n (L.take 0)) A G c (.slice none 0 0) []:=⟨A1,G1,Oz,sU⟩;have HK0:=Hq hK0;clear HDO HPS Kj hok sU hK0;go_wp2_with fail;go_loopw [18] (λi wr=>∃k:Nat,k<=L.length/\i= .int .i64 k/\∃A G c,WK W0 wr wb (gQ n (L.take k)) A G c (.slice none 0 0) []) (λi _=>L.length - (intOf i).toNat)
  case atStart=>exact⟨0,Nat.zero_le _,rfl,HK0⟩
  case round=>
   clear HK0;obtain⟨k,hkl,rfl,A2,G2,cc3,hK⟩:=hrel;have HK:=Hq hK;clear hK;by_cases hlt:k < L.length
   .obtain⟨g1,o1,rfl,hg1,s0,s1,s2,s3,s4,s5,s6,s7,s8,s9,s10⟩:=Jg.eleven (GR.At.below HO0 HK.keep) k hlt;have HDk:=Hq (HD k hlt);have HPk:=Hq (HP k hlt);generalize mV (gQ n (L.take k)) L[k]=RR at *;generalize gQ n (L.take k)=m at *;generalize L[k]=oo at *;obtain⟨K,no,kk,nn,⟨mK,mF,mT,mI,mL,mk,mN⟩⟩:=oo;dsimp only at s0 s1 s2 s3 s4 s5 s6 s7 s8 s9 s10;go_upto_region 7 with fail;refine wp_at (λV hV=>?_);have hbv:aI wr V:=by rw [hV];exact ay _ _
    have HV:=Hq (show V.heap[wr.heap.size]?=some (.cells (bZ K no kk nn mK mF mT mI mL mk mN) 100 (0,0)) by rw [hV];exact heap_alloc_new _ _);have sU:=Hq (HK.step hbv);have afj:=Hq (HDk V W0 wb A2 G2 cc3 _ sU HE0);clear hV hbv HK HDk s0 s1 s2 s3 s4 s5 s6 s7 s8 s9 s10;obtain⟨⟨p0,p1,p2,p3,p4,p5,p6,p7,p8,p9,nT⟩,_⟩:=aM HV;go_wp2_with fail;refine afj.mono ?_;rintro e W3 ⟨rfl,A3,G3,cc4,v3,hK3⟩;have HK3:=Hq hK3;obtain⟨q0,q1,q2,q3,q4,q5,q6,q7,q8,q9⟩:=jE hK3.blk;have f9:=aj hK3.blk 9;clear hK3 afj sU HV p0 p1 p2 p3 p4 p5 p6 p7 p8 p9 nT q0 q1 q2 q3 q4 q5 q6 q7 q8;go_wp2_with fail;go_roundw
    case rel=>exact⟨k+1,Aaa,Aah,A3,G3,cc4,by have h:=HK3.mute;rw [ah HPk] at h;exact h⟩
    case measure=>simp[intOf];omega
   .have hke:k=L.length:=Aaa
    subst hke;have hnlt:decide ((L.length:Int) < (L.length:Int))=false:=Aac
    rw [ah HPE] at HK;obtain⟨m,hm⟩:∃m,gQ n L=m:=⟨_,rfl⟩;rw [hm] at HK;have HM:=Hq hm;clear HD HP HPE hlt hm;obtain⟨c0,c1,c2,c3,c4,c5,c6,c7,c8,c9⟩:=jE HK.blk;have hres:=au HR HK.keep;have qA:=Hq hres;have hrl:=aA hres;have hwl:=aA HK.blk;obtain⟨d0,d1,d2,d3,d4,d5,d6,d7,d8⟩:=nine hres;have f0:=aj hres 0;have f1:=aj hres 1;have f2:=aj hres 2;have f3:=aj hres 3;have f4:=aj hres 4;have f5:=aj hres 5;have f6:=aj hres 6;have f7:=aj hres 7;have f8:=aj hres 8;clear hres;go_wp2_with fail;refine aO (λW' hW'=>?_);have e9:W'.heap[w.heap.size+1]?=some (.cells (dG m A2) 40 (0,0)):=by rw [hW'];exact uW qA
    obtain⟨r0,r1,r2,r3,r4,r5,r6,r7,r8⟩:=nine e9;have oN:NO W' w.heap.size m A2 G2 cc3:=by rw [hW'];exact(HK.no.keepsN Aaa pR).base HB.size
    have hBB:aI w W':=by rw [hW'];exact tu (HB.trans (HK.keep.mono HB.size)) Aaa
    exact bodyPost_ret (v:=gB m A2) Adl rfl ⟨A2,G2,cc3,by rw [ah HM],by rw [ah HM];exact oN,hBB⟩
namespace Mth
def xX (k:Kp):Prop:=dW k.base=true/\dW k.node=true/\(0<=k.safe/\k.safe<=k.log.size)/\(gH k.log).2=k.log.size/\k.node=gQ k.base (gH k.log).1
end Mth
theorem abI (k:Kp) (A:KA) (g:Nat) (st:Int) (lk rt:Bool) (E:Nat->Addr) (w:World) (hz:xK k 1048576) (ha:qX w A k) (hg:w.heap[g]?=some (.cells (hkG k A st lk rt) 132 (0,0))) (he:iG w E) (hH:Handle w):
 Calls Tryz.prog 128 #[.pointer (some ⟨g,0,none⟩)] w (kX w (xX k)):=by
 have Kh:=Hq (λW (h:aI w W)=>xV k.base A.b W (hz.b.mono Aaa) (ha.below h).kb);have Ao:=Hq (λW (h:aI w W)=>xV k.node A.n W (hz.n.mono Aaa) (ha.below h).kn);have Dr:=Hq (λW (h:aI w W)=>abM k.log (by have:=hz.l;unfold maxLen;omega) W (hH.below h));have Ng:=Hq (λa cap W (h:aI w W) (ho:Jg W a (gH k.log).1)=>Li k.base A.b a cap (gH k.log).1 E W hz.b (JN k.log) (λo h=>Vy (Qe k.log o h)) (ha.below h).kb ho (he.below h));have yP:=Hq (λW (h:aI w W) A' (hb:dw W A' (gQ k.base (gH k.log).1))=>XR k.node (gQ k.base (gH k.log).1) A.n A' W hz.n (ha.below h).kn hb);have HK:=Hq hg;have hgl:=aA hg;have hsl:=hz.l;unfold kN at Dr;unfold J7 at Ng;clear hz ha hg he hH;obtain⟨⟨bk,bp,bo,bs,br,bck,bcp,bco,bcs,bcr⟩,⟨nk,np,no,ns,nr,nck,ncp,nco,ncs,ncr⟩,wa,wc,aa,ac⟩:=A;dsimp only at Kh Ao Ng yP;have y0:=cell_regrown (show w.cell? ⟨g,0,none⟩=some (.int .i64 k.node.id) from dP HK 0);have y1:=cell_regrown (show w.cell? ⟨g,1,none⟩=some (.int .i64 k.node.par) from dP HK 1);have y2:=cell_regrown (show w.cell? ⟨g,2,none⟩=some (.slice nk k.node.kids.length nck) from dP HK 2);have y3:=cell_regrown (show w.cell? ⟨g,3,none⟩=some (.int .i64 k.node.next) from dP HK 3);have y4:=cell_regrown (show w.cell? ⟨g,4,none⟩=some (.slice np k.node.pu.length ncp) from dP HK 4);have y5:=cell_regrown (show w.cell? ⟨g,5,none⟩=some (.slice no k.node.out.length nco) from dP HK 5);have y6:=cell_regrown (show w.cell? ⟨g,6,none⟩=some (.slice ns k.node.seen.length ncs) from dP HK 6);have y7:=cell_regrown (show w.cell? ⟨g,7,none⟩=some (.int .i64 k.node.old) from dP HK 7);have y8:=cell_regrown (show w.cell? ⟨g,8,none⟩=some (.slice nr k.node.reqs.length ncr) from dP HK 8);have y11:=cell_regrown (show w.cell? ⟨g,11,none⟩=some (.int .i64 k.base.id) from dP HK 11);have y12:=cell_regrown (show w.cell? ⟨g,12,none⟩=some (.int .i64 k.base.par) from dP HK 12);have y13:=cell_regrown (show w.cell? ⟨g,13,none⟩=some (.slice bk k.base.kids.length bck) from dP HK 13);have y14:=cell_regrown (show w.cell? ⟨g,14,none⟩=some (.int .i64 k.base.next) from dP HK 14);have y15:=cell_regrown (show w.cell? ⟨g,15,none⟩=some (.slice bp k.base.pu.length bcp) from dP HK 15);have y16:=cell_regrown (show w.cell? ⟨g,16,none⟩=some (.slice bo k.base.out.length bco) from dP HK 16);have y17:=cell_regrown (show w.cell? ⟨g,17,none⟩=some (.slice bs k.base.seen.length bcs) from dP HK 17);have y18:=cell_regrown (show w.cell? ⟨g,18,none⟩=some (.int .i64 k.base.old) from dP HK 18);have y19:=cell_regrown (show w.cell? ⟨g,19,none⟩=some (.slice br k.base.reqs.length bcr) from dP HK 19);have y20:=cell_regrown (show w.cell? ⟨g,20,none⟩=some (.string k.log) from dP HK 20);have y21:=cell_regrown (show w.cell? ⟨g,21,none⟩=some (.int .i64 k.safe) from dP HK 21);cases h1:dW k.base
 case' false=>
  have HP:=Hq (show¬xX k from λh=>by have h:=h.1;rw [h1] at h;cases h);have k1:∀d os,Calls Tryz.prog 137 #[gB k.base (⟨bk,bp,bo,bs,br,bck,bcp,bco,bcs,bcr⟩:bQ)] (Sort.grow (redrawn w d) os) λe w''=>e= .returned (.bool false)/\∃p:Regrown,w''=Sort.grow (redrawn w p.d) p.os:=λd os=>Calls.regrown_of (h1▸ah Kh _ (below_regrown w d os))
  clear h1 Kh Ao Dr Ng yP HK;go_in
  go_upto_region 1 with fail;refine wp_region_quiet_below Aab Aab ?_;repeat (first|go_big_quiet_step ((go_at_call_of 137 bk;exact k1 _ _))|quiet_step ((go_at_call_of 137 bk;exact k1 _ _)))
  refine wpQuiet_nil ?_;intro _ hw';obtain⟨⟨dq,osq⟩,hw''⟩:=hw';subst hw'';clear k1 y0 y1 y2 y3 y4 y5 y6 y7 y8 y11 y12 y13 y14 y15 y16 y17 y18 y19 y20 y21;go_wp2_with fail;go_ret;exact .no HP (below_regrown _ dq osq)
 have k1:∀d os,Calls Tryz.prog 137 #[gB k.base (⟨bk,bp,bo,bs,br,bck,bcp,bco,bcs,bcr⟩:bQ)] (Sort.grow (redrawn w d) os) λe w''=>e= .returned (.bool true)/\∃p:Regrown,w''=Sort.grow (redrawn w p.d) p.os:=λd os=>Calls.regrown_of (h1▸ah Kh _ (below_regrown w d os))
 cases h2:dW k.node
 case' false=>
  have HP:=Hq (show¬xX k from λh=>by have h:=h.2.1;rw [h2] at h;cases h);have k2:∀d os,Calls Tryz.prog 137 #[gB k.node (⟨nk,np,no,ns,nr,nck,ncp,nco,ncs,ncr⟩:bQ)] (Sort.grow (redrawn w d) os) λe w''=>e= .returned (.bool false)/\∃p:Regrown,w''=Sort.grow (redrawn w p.d) p.os:=λd os=>Calls.regrown_of (h2▸ah Ao _ (below_regrown w d os))
  clear h1 h2 Kh Ao Dr Ng yP HK;go_in
  go_upto_region 1 with fail;refine wp_region_quiet_below Aab Aab ?_;repeat (first|go_big_quiet_step (first|(go_at_call_of 137 nk;exact k2 _ _)|(go_at_call_of 137 bk;exact k1 _ _))|quiet_step (first|(go_at_call_of 137 nk;exact k2 _ _)|(go_at_call_of 137 bk;exact k1 _ _)))
  refine wpQuiet_nil ?_;intro _ hw';obtain⟨⟨dq,osq⟩,hw''⟩:=hw';subst hw'';clear k1 k2 y0 y1 y2 y3 y4 y5 y6 y7 y8 y11 y12 y13 y14 y15 y16 y17 y18 y19 y20 y21;go_wp2_with fail;go_ret;exact .no HP (below_regrown _ dq osq)
 have k2:∀d os,Calls Tryz.prog 137 #[gB k.node (⟨nk,np,no,ns,nr,nck,ncp,nco,ncs,ncr⟩:bQ)] (Sort.grow (redrawn w d) os) λe w''=>e= .returned (.bool true)/\∃p:Regrown,w''=Sort.grow (redrawn w p.d) p.os:=λd os=>Calls.regrown_of (h2▸ah Ao _ (below_regrown w d os))
 have VT:=Hq (And.intro h1 h2);clear h1 h2 Kh Ao;by_cases h3:k.safe < 0
 case' pos=>
  have HP:=Hq (show¬xX k from λh=>by have:=h.2.2.1.1;omega);have hd:decide (k.safe < 0)=true:=decide_eq_true h3;clear h3 VT Dr Ng yP HK;go_in
  go_upto_region 1 with fail;refine wp_region_quiet_below Aab Aab ?_;repeat (first|go_big_quiet_step (first|(go_at_call_of 137 nk;exact k2 _ _)|(go_at_call_of 137 bk;exact k1 _ _))|quiet_step (first|(go_at_call_of 137 nk;exact k2 _ _)|(go_at_call_of 137 bk;exact k1 _ _)))
  refine wpQuiet_nil ?_;intro _ hw';obtain⟨⟨dq,osq⟩,hw''⟩:=hw';subst hw'';clear hd k1 k2 y0 y1 y2 y3 y4 y5 y6 y7 y8 y11 y12 y13 y14 y15 y16 y17 y18 y19 y20 y21;go_wp2_with fail;go_ret;exact .no HP (below_regrown _ dq osq)
 have hd3:decide (k.safe < 0)=false:=decide_eq_false h3;by_cases h4:(k.log.size:Int) < k.safe
 case' pos=>
  have HP:=Hq (show¬xX k from λh=>by have:=h.2.2.1.2;omega);have hd:decide (k.safe > (k.log.size:Int))=true:=decide_eq_true h4;have hd':decide ((k.log.size:Int) < k.safe)=true:=decide_eq_true h4;clear h3 h4 VT Dr Ng yP HK;go_in
  go_upto_region 1 with fail;refine wp_region_quiet_below Aab Aab ?_;repeat (first|go_big_quiet_step (first|(go_at_call_of 137 nk;exact k2 _ _)|(go_at_call_of 137 bk;exact k1 _ _))|quiet_step (first|(go_at_call_of 137 nk;exact k2 _ _)|(go_at_call_of 137 bk;exact k1 _ _)))
  refine wpQuiet_nil ?_;intro _ hw';obtain⟨⟨dq,osq⟩,hw''⟩:=hw';subst hw'';clear hd hd' hd3 k1 k2 y0 y1 y2 y3 y4 y5 y6 y7 y8 y11 y12 y13 y14 y15 y16 y17 y18 y19 y20 y21;go_wp2_with fail;go_ret;exact .no HP (below_regrown _ dq osq)
 have hd4:decide (k.safe > (k.log.size:Int))=false:=decide_eq_false h4;have aBK:decide ((k.log.size:Int) < k.safe)=false:=decide_eq_false h4;have HSF:=Hq (show 0<=k.safe/\k.safe<=k.log.size by omega);clear h3 h4;go_in
 go_upto_region 1 with fail;refine wp_region_quiet_below Aab Aab ?_;repeat (first|go_big_quiet_step (first|(go_at_call_of 137 nk;exact k2 _ _)|(go_at_call_of 137 bk;exact k1 _ _))|quiet_step (first|(go_at_call_of 137 nk;exact k2 _ _)|(go_at_call_of 137 bk;exact k1 _ _)))
 refine wpQuiet_nil ?_;intro _ hw';obtain⟨⟨dq,osq⟩,hw''⟩:=hw';subst hw'';clear hd3 hd4 aBK k1 k2 y0 y1 y2 y3 y4 y5 y6 y7 y8 y11 y12 y13 y14 y15 y16 y17 y18 y19 y20 y21;have HB1:=Hq (below_regrown w dq osq);generalize Sort.grow (redrawn w dq) osq=V at *;have HKV:=Hq (au HK HB1);have v20:V.cell? ⟨g,20,none⟩=some (.string k.log):=dP HKV 20;clear HK;go_wp2_with fail;refine(Dr V HB1).mono ?_;rintro e V2 ⟨v,rfl,hown,hb2⟩;obtain⟨la,lc,rfl,hops⟩:=GR.own_at (enc:=nI) (sz:=11) jP hown;have D7:=Hq hops;have HB2:=Hq (Below.trans HB1 (hb2.mono HB1.size));have sU:=Hq (au HKV hb2);clear hb2 HB1 HKV v20 hgl hown hops Dr;have hgl:=aA sU;have y20:=cell_regrown (show V2.cell? ⟨g,20,none⟩=some (.string k.log) from dP sU 20);by_cases h5:(gH k.log).2=k.log.size
 case' neg=>
  have HP:=Hq (show¬xX k from λh=>h5 h.2.2.2.1);have hq:(((gH k.log).2:Int) == (k.log.size:Int))=false:=Aag
  clear h5 VT HSF Ng yP D7 sU;go_upto_region 4 with fail;refine wp_region_quiet_below Aab Aab ?_;repeat (first|go_big_quiet_step (fail)|quiet_step (fail))
  refine wpQuiet_nil ?_;intro _ hw';obtain⟨⟨dq,osq⟩,hw''⟩:=hw';subst hw'';clear y20;go_wp2_with fail;go_ret;exact .no HP (HB2.trans ((below_regrown _ dq osq).mono HB2.size))
 have hq:(((gH k.log).2:Int) == (k.log.size:Int))=true:=by simp[h5]
 have HE5:=Hq h5;clear h5;obtain⟨hr0,hr1⟩:=Xc sU;go_upto_region 4 with fail;refine dx Aab ?_;show gL _ _ _ _ 21 (Array.replicate 21 false) _ _
 refine aJ 0 rfl Aab Aab Aab (λ_ _ _ _ h=>h) (λK hK=>?_);go_simp
 first
  |(refine hK _ ?_;clear hK K)
  |(apply Exists.intro
    refine⟨λ_=>?_,hK _ ?_⟩
    (rfl)
    clear hK K)
 refine aJ 1 rfl Aab Aab Aab (λ_ _ _ _ h=>h) (λK hK=>?_);go_simp
 first
  |(refine hK _ ?_;clear hK K)
  |(apply Exists.intro
    refine⟨λ_=>?_,hK _ ?_⟩
    (rfl)
    clear hK K)
 refine aJ 2 rfl Aab Aab Aab (λ_ _ _ _ h=>h) (λK hK=>?_);go_simp
 first
  |(refine hK _ ?_;clear hK K)
  |(apply Exists.intro
    refine⟨λ_=>?_,hK _ ?_⟩
    (rfl)
    clear hK K)
 refine aJ 3 rfl Aab Aab Aab (λ_ _ _ _ h=>h) (λK hK=>?_);go_simp
 first
  |(refine hK _ ?_;clear hK K)
  |(apply Exists.intro
    refine⟨λ_=>?_,hK _ ?_⟩
    (rfl)
    clear hK K)
 refine aJ 4 rfl Aab Aab Aab (λ_ _ _ _ h=>h) (λK hK=>?_);go_simp
 first
  |(refine hK _ ?_;clear hK K)
  |(apply Exists.intro
    refine⟨λ_=>?_,hK _ ?_⟩
    (rfl)
    clear hK K)
 refine aJ 5 rfl Aab Aab Aab (λ_ _ _ _ h=>h) (λK hK=>?_);go_simp
 first
  |(refine hK _ ?_;clear hK K)
  |(apply Exists.intro
    refine⟨λ_=>?_,hK _ ?_⟩
    (rfl)
    clear hK K)
 refine aJ 6 rfl Aab Aab Aab (λ_ _ _ _ h=>h) (λK hK=>?_);go_simp
 first
  |(refine hK _ ?_;clear hK K)
  |(apply Exists.intro
    refine⟨λ_=>?_,hK _ ?_⟩
    (rfl)
    clear hK K)
 refine aJ 7 rfl Aab Aab Aab (λ_ _ _ _ h=>h) (λK hK=>?_);go_simp
 first
  |(refine hK _ ?_;clear hK K)
  |(apply Exists.intro
    refine⟨λ_=>?_,hK _ ?_⟩
    (rfl)
    clear hK K)
 refine aJ 8 rfl Aab Aab Aab (λ_ _ _ _ h=>h) (λK hK=>?_);go_simp
 first
  |(refine hK _ ?_;clear hK K)
  |(apply Exists.intro
    refine⟨λ_=>?_,hK _ ?_⟩
    (rfl)
    clear hK K)
 refine aJ 9 rfl Aab Aab Aab (λ_ _ _ _ h=>h) (λK hK=>?_);go_simp
 first
  |(refine hK _ ?_;clear hK K)
  |(apply Exists.intro
    refine⟨λ_=>?_,hK _ ?_⟩
    (rfl)
    clear hK K)
 refine aJ 10 rfl Aab Aab Aab (λ_ _ _ _ h=>h) (λK hK=>?_);go_simp
 first
  |(refine hK _ ?_;clear hK K)
  |(apply Exists.intro
    refine⟨λ_=>?_,hK _ ?_⟩
    (rfl)
    clear hK K)
 refine lq 11 rfl Aab Aab Aab (λ_ _ _ _ h=>h) Aad 40 _ rfl g 0 rfl (dG k.node (⟨nk,np,no,ns,nr,nck,ncp,nco,ncs,ncr⟩:bQ)).toList _ hr0 hgl Tryz.underlying40 rfl Aab ?_;refine aJ 12 rfl Aab Aab Aab (λ_ _ _ _ h=>h) (λK hK=>?_);go_simp
 first
  |(refine hK _ ?_;clear hK K)
  |(apply Exists.intro
    refine⟨λ_=>?_,hK _ ?_⟩
    (rfl)
    clear hK K)
 refine aJ 13 rfl Aab Aab Aab (λ_ _ _ _ h=>h) (λK hK=>?_);go_simp
 first
  |(refine hK _ ?_;clear hK K)
  |(apply Exists.intro
    refine⟨λ_=>?_,hK _ ?_⟩
    (rfl)
    clear hK K)
 refine aJ 14 rfl Aab Aab Aab (λ_ _ _ _ h=>h) (λK hK=>?_);go_simp
 first
  |(refine hK _ ?_;clear hK K)
  |(apply Exists.intro
    refine⟨λ_=>?_,hK _ ?_⟩
    (rfl)
    clear hK K)
 refine lq 15 rfl Aab Aab Aab (λ_ _ _ _ h=>h) Aad 40 _ rfl g 11 rfl (dG k.base (⟨bk,bp,bo,bs,br,bck,bcp,bco,bcs,bcr⟩:bQ)).toList _ hr1 hgl Tryz.underlying40 rfl Aab ?_;refine aJ 16 rfl Aab Aab Aab (λ_ _ _ _ h=>h) (λK hK=>?_);go_simp
 first
  |(refine hK _ ?_;clear hK K)
  |(apply Exists.intro
    refine⟨λ_=>?_,hK _ ?_⟩
    (rfl)
    clear hK K)
 clear y20 hr0 hr1 hq;refine fI 17 rfl Aab Aad (λx17 akB=>?_);go_simp;have g17:aI w x17:=Ge.trans (show Ge w V2 from HB2) akB;refine(Ng la lc x17 g17 (GR.At.below D7 akB)).mono ?_;rintro e z17 ⟨A',G',c',rfl,hN',akE⟩;refine⟨akE,?_⟩;have HA':=Hq hN'.at;have HG:=Hq (show aI w z17 from Ge.trans (show Ge w x17 from g17) akE);clear hN' akB akE g17 HB2 Ng sU D7;refine fI 18 rfl Aab Aad (λx18 Xg=>?_);go_simp;have g18:aI w x18:=Ge.trans (show Ge w z17 from HG) Xg;refine(yP x18 g18 A' (HA'.below Xg)).mono ?_;rintro e z18 ⟨⟨r,rfl,hr⟩,akF⟩;refine⟨akF,?_⟩;have HR:=Hq (show r=true↔xX k from⟨λh=>⟨VT.1,VT.2,HSF,HE5,hr.1 h⟩,λh=>hr.2 h.2.2.2.2⟩);have HG2:=Hq (show aI w z18 from Ge.trans (show Ge w x18 from g18) akF);clear Xg akF g18 yP HG HA' hr VT HSF HE5;refine aJ 19 rfl Aab Aab Aab (λ_ _ _ _ h=>h) (λK hK=>?_);go_simp
 first
  |(refine hK _ ?_;clear hK K)
  |(apply Exists.intro
    refine⟨λ_=>?_,hK _ ?_⟩
    (rfl)
    clear hK K)
 refine fI 20 rfl Aab Aad (λx20 ayG=>?_);go_simp;refine⟨Below.refl _ _,?_⟩;refine eX Aab (λz hz=>?_);have DY:=Hq (show aI w z from Ge.trans (show Ge w z18 from HG2) (Ge.trans ayG hz));clear ayG hz HG2;go_wp2_with fail;go_ret;exact⟨⟨r,rfl,HR⟩,DY⟩
open Go.RowKit Go.MuLone
theorem hkB.look {w:World} {g:Nat} {k:Kp} {A:KA} {st:Int} {lk rt:Bool} (h:hkB w g k A st lk rt) (b:Bool):hkB ((w.setCell ⟨g,24,none⟩ (.bool true)).setCell ⟨g,25,none⟩ (.bool b)) g k A st true b:=by
 have h1:hkB (w.setCell ⟨g,24,none⟩ (.bool true)) g k A st true rt:=aN h 24 _;exact aN h1 25 _
def Right (w:World) (g:Nat) (k:Kp) (A:KA) (st:Int) (e:Ending) (w':World):Prop:=∃r,e= .returned (.bool r)/\(r=true↔xX k)/\hkB w' g k A st true r/\aC [g] w w'
theorem Xn (k:Kp) (A:KA) (g:Nat) (st:Int) (E:Nat->Addr) (w:World) (hz:xK k 1048576) (ha:qX w A k) (hg:hkB w g k A st false false) (he:iG w E) (hH:Handle w):
 Calls Tryz.prog 72 #[.pointer (some ⟨g,0,none⟩)] w (Right w g k A st):=by
 have HL:=Hq (abI k A g st false false E w hz ha hg he hH);have HG:=Hq hg;have p24:w.cell? ⟨g,24,none⟩=some (.bool false):=dP hg 24;clear hz ha hg he hH;go_in
 go_wp2_with fail;refine HL.mono ?_;rintro e w1 ⟨⟨r,rfl,hr⟩,hb1⟩;have HR:=Hq hr;have IW:=Hq (au HG hb1);have Rn:=Hq (aC.of_below (F:=[g]) hb1);clear hb1 p24 HL HG hr;have q24:w1.cell? ⟨g,24,none⟩=some (.bool false):=dP IW 24;have q25:w1.cell? ⟨g,25,none⟩=some (.bool false):=dP IW 25;have f24:=aj IW 24;have f25:=aj IW 25;go_wp2_with fail;go_ret;exact⟨r,rfl,HR,(show hkB w1 g k A st false false from IW).look r,Rn.trans ((aC.set _).trans (aC.set _))⟩
theorem akI (k:Kp) (A:KA) (g:Nat) (E:Nat->Addr) (w:World) (hz:xK k 1048576) (h1:∀w',aC [g] w w'->qX w' A k/\iG w' E/\Handle w') (hg:hkB w g k A 0 false false):
 Calls Tryz.prog 26 #[.pointer (some ⟨g,0,none⟩)] w (Right w g k A 0):=by
 have c9:w.cell? ⟨g,9,none⟩=some (.int .i32 0):=dP hg 9;have f9:=aj hg 9;have IW:=Hq (hkB.lock hg 1);have Rn:=Hq (show aC [g] w (w.setCell ⟨g,9,none⟩ (.int .i32 1)) from aC.set _);have HA:=Hq h1;have HZ:=Hq hz;clear h1 hz hg;go_enter_defers Tryz.func26,Tryz.ntmps26
 go_wp2_with (go_at_call 70;refine(lock_free aiT ⟨g,9,none⟩ _ c9 f9).mono ?_;rintro e w' ⟨rfl,rfl⟩)
 generalize w.setCell ⟨g,9,none⟩ (.int .i32 1)=W1 at *;obtain⟨ha1,ha2,ha3⟩:=ah HA W1 Rn;refine(Xn k A g 1 E W1 HZ ha1 IW ha2 ha3).mono ?_;rintro e W2 ⟨r,rfl,hr,hg2,hk2⟩;have HR:=Hq hr;have HG2:=Hq hg2;have sU:=Hq (Rn.trans hk2);clear hr hg2 hk2 ha1 ha2 ha3 IW Rn HA HZ c9 f9;go_wp2_with fail;refine leaves_cons (f:=71) (args:=#[.pointer (some ⟨g,9,none⟩)]) Aac (by simp[go_sem]) ?_;refine(unlock_deferred aiT ⟨g,9,none⟩ .returning _ (dP HG2 9) (aj HG2 9)).mono ?_;rintro e u' w'' ⟨rfl,rfl,rfl⟩;exact⟨_,results_tmp rfl _ _ _,r,rfl,HR,(show hkB W2 g k A 1 true r from HG2).lock 0,sU.trans (aC.set _)⟩
theorem Lf (k:Kp) (A:KA) (E:Nat->Addr) (w:World) (hz:xK k 1048576) (ha:qX w A k) (he:iG w E) (hH:Handle w):
 Calls Tryz.prog 8 #[YN k A] w (kX w (xX k)):=by
 obtain⟨V,hV⟩:∃V,Ri V k A:=⟨_,rfl⟩;have HHD:=Hq (λW (h:aI w W)=>hV.agg▸abG k A W hz (ha.below h));have nC:=Hq (ay w (.cells V.toArray 44));have HK0:=Hq (KR.blk (heap_alloc_new w (.cells V.toArray 44)));have HE:=Hq (λW (h:aI w W)=>And.intro (he.below h) (hH.below h));have HZ:=Hq hz;have HV:=Hq hV.len;rw [hV.agg];clear hz ha he hH hV;go_in
 go_upto_region 1 with fail;refine wp_region_list ?_;show wpList _ _ _ [_,_,_,_] _ _
 refine abV Aad (.tmp 1) rfl w.heap.size rfl V HV HK0 ?_;go_wp2_with fail;refine(HHD _ nC).mono ?_;rintro e w1 ⟨A',m1,m2,m3,g,rfl,hg,hk,hb⟩;obtain⟨l1,l2,l3,l4,l5⟩:=hk.le;have hlg:w.heap.size<=g:=by have:=nC.size;omega
 have HB:=Hq (nC.trans (hb.mono nC.size));have HK:=Hq hk;have HG:=Hq hg;clear hb hk hg l1 l2 l3 l4 l5 HHD nC HK0 HV;go_wp2_with fail;refine(akI k A' g E w1 HZ (λw' hk'=>⟨(HK.keeps hk' (λx hx=> .inl (by rw [List.mem_singleton.1 hx];exact Nat.le_refl _))).at,HE w' (za HB hk' hlg HB.size)⟩) HG).mono ?_;rintro e w2 ⟨r,rfl,hr,_,hk2⟩;have HR:=Hq hr;have HB2:=Hq (za HB hk2 hlg HB.size);clear hr hk2 HB HK HG HE HZ;go_wp2_with fail;go_ret;exact⟨⟨r,rfl,HR⟩,HB2⟩
end Go.Proofs.YtohmklmkjmlpjaaGreatDoor
