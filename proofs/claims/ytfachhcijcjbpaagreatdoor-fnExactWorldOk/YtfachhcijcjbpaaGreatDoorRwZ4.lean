/-
  Parts of proofs that stand more than once, each said once.
-/
import Derived.Test.YtfachhcijcjbpaaGreatDoorRwZ3
namespace Go.Proofs.YtfachhcijcjbpaaGreatDoor
open Go.Proofs.Tryz
set_option maxRecDepth 100000
variable{P:Prop}
theorem asT.AdS(h:P:=by
 have HH0:=Hq (λW (k:dD g w W)=>HH.keep1 k hg hge);go_in
 go_wp2_with fail;refine(HK _ H).mono ?_;rintro e w1 ⟨rfl,hr1,hk1⟩;have HR1:=Hq (hk1.obj (aEu w _) (show w.heap.size≠g by omega));have LA:=Hq ((dD.of_below (au w _)).trans hk1);have HA1:=Hq hr1;have hz1:w.heap.size < w1.heap.size:=cu HR1;clear hr1 hk1 HK H;go_upto_region 2 with fail;refine wp_at (λV2 hV=>?_)
 have HS:Hid (OS w V2 g w1.heap.size s 1 (bE (s[0].toNat:Int) 0 ⟨#[]⟩ 0 0 0 0 0 0 ⟨#[]⟩ 0)):=by
  rw [hV];exact⟨aI HA1 (au w1 _),aI HR1 (au w1 _),aEu w1 _,LA.trans (dD.of_below (au w1 _)),hz1⟩
 clear hV HR1 LA HA1;generalize w1.heap.size=o at *;clear w1;by_cases hE0:0<=E1
 case' neg=>
  have hno:OK=false:=ah jD (λhx=>hE0 (by have:=ah HX hx.1;omega));have LC:=Hq (azN V2 HS.rd (HH0 _ HS.keep) Aaa);clear hE0;exact ako
 have HNY:=Hq (azO V2 HS.rd (HH0 _ HS.keep) hE0);go_wp2_with fail;refine HNY.mono ?_;rintro e u0 ⟨rfl,hr,hk⟩;have HT:=Hq (HS.step hr hk hg);clear hr hk HNY HS;have hz0:=cu HT.op;obtain⟨⟨c0,c1,c2,c3,c4,c5,c6,c7,c8,c9,c10⟩,f0,f1,f2,f3,f4,f5,f6,f7,f8,f9,f10⟩:=aJ HT.op;go_upto_region 3 with fail;refine wp_at (λV3 hV=>?_);have HS:Hid (OS w V3 g o s E1 (bE (s[0].toNat:Int) N1 ⟨#[]⟩ 0 0 0 0 0 0 ⟨#[]⟩ 0)):=by rw [hV];exact HT.set hg 1 (.int .i64 N1)
 clear hV HT hz0 c0 c1 c2 c3 c4 c5 c6 c7 c8 c9 c10 f0 f1 f2 f3 f4 f5 f6 f7 f8 f9 f10 u0 V2;by_cases hE1:0<=E2
 case' neg=>
  have hno:OK=false:=ah jD (λhx=>hE1 (by have:=ah HX hx.1;omega));have LC:=Hq (azZ V3 HS.rd (HH0 _ HS.keep) Aaa);clear hE1;exact ako
 have HNY:=Hq (az0 V3 HS.rd (HH0 _ HS.keep) hE1);go_wp2_with fail;refine HNY.mono ?_;rintro e u1 ⟨rfl,hr,hk⟩;have HT:=Hq (HS.step hr hk hg);clear hr hk HNY HS;have hz1:=cu HT.op;obtain⟨⟨c0,c1,c2,c3,c4,c5,c6,c7,c8,c9,c10⟩,f0,f1,f2,f3,f4,f5,f6,f7,f8,f9,f10⟩:=aJ HT.op;go_upto_region 4 with fail;refine wp_at (λV4 hV=>?_);have HS:Hid (OS w V4 g o s E2 (bE (s[0].toNat:Int) N1 TX 0 0 0 0 0 0 ⟨#[]⟩ 0)):=by rw [hV];exact HT.set hg 2 (.string TX)
 clear hV HT hz1 c0 c1 c2 c3 c4 c5 c6 c7 c8 c9 c10 f0 f1 f2 f3 f4 f5 f6 f7 f8 f9 f10 u1 V3;by_cases hE2:0<=X
 case' neg=>
  have hno:OK=false:=ah jD (λhx=>hE2 (by have:=ah HX hx.1;omega));have LC:=Hq (azP V4 HS.rd (HH0 _ HS.keep) Aaa);clear hE2;exact ako
 have HNY:=Hq (azQ V4 HS.rd (HH0 _ HS.keep) hE2);go_wp2_with fail;refine HNY.mono ?_;rintro e u2 ⟨rfl,hr,hk⟩;have HT:=Hq (HS.step hr hk hg);clear hr hk HNY HS;have hz2:=cu HT.op;obtain⟨⟨c0,c1,c2,c3,c4,c5,c6,c7,c8,c9,c10⟩,f0,f1,f2,f3,f4,f5,f6,f7,f8,f9,f10⟩:=aJ HT.op;go_upto_region 5 with fail;refine wp_at (λV5 hV=>?_);have HS:Hid (OS w V5 g o s X (bE (s[0].toNat:Int) N1 TX N2 0 0 0 0 0 ⟨#[]⟩ 0)):=by rw [hV];exact HT.set hg 3 (.int .i64 N2)
 clear hV HT hz2 c0 c1 c2 c3 c4 c5 c6 c7 c8 c9 c10 f0 f1 f2 f3 f4 f5 f6 f7 f8 f9 f10 u2 V4;have hgl:g < V5.heap.size:=aEH hg HS.keep.size;have HMM:=Hq (HM V5 hgl HS.rd (HH0 _ HS.keep));go_wp2_with fail;refine HMM.mono ?_;rintro e w6 ⟨hcase,hk⟩;have HK6:=Hq hk;clear hk HMM;rcases hcase with⟨hyes,rfl,hr⟩|⟨hnot,p,rfl⟩
 case' inr=>
  have hno:=ah jD hnot;have HKK:=Hq (HS.keep.trans HK6);clear hnot;go_wp2_with fail;exact⟨rfl,.inr ⟨hno,_,rfl⟩,HKK⟩
 have HT:=Hq (HS.step hr HK6 hg);have HYE:=Hq hyes;clear hr HK6 HS hyes hgl;have hz6:=cu HT.op;obtain⟨⟨c0,c1,c2,c3,c4,c5,c6,c7,c8,c9,c10⟩,f0,f1,f2,f3,f4,f5,f6,f7,f8,f9,f10⟩:=aJ HT.op;go_upto_region 6 with fail;refine wp_at (λV6 hV=>?_);have HS:Hid (OS w V6 g o s E (bE (s[0].toNat:Int) N1 TX N2 mK mF mT mI mL mk mN)):=by rw [hV];exact HT.tail hg
 clear hV HT hz6 c0 c1 c2 c3 c4 c5 c6 c7 c8 c9 c10 f0 f1 f2 f3 f4 f5 f6 f7 f8 f9 f10 w6 V5;obtain⟨e0,e1,_,_⟩:=HS.rd.two;obtain⟨⟨c0,c1,c2,c3,c4,c5,c6,c7,c8,c9,c10⟩,f0,f1,f2,f3,f4,f5,f6,f7,f8,f9,f10⟩:=aJ HS.op;have hoV:=cu HS.op;have hgV:=cu HS.rd;clear f0 f1 f2 f3 f4 f5 f6 f7 f8 f9 f10;by_cases hEs:E=s.size
 case' neg=>
  have hno:OK=false:=by rw [aGp];intro hy;exact hEs (HG.1 hy).1
  have hq:(E == (s.size:Int))=false:=by simpa using hEs
  have hq2:(E != (s.size:Int))=true:=by simpa using hEs
  clear c0 c1 c2 c3 c4 c5 c6 c7 c8 c9 c10;refine wp_region_quiet_lit Aab Aab ?_;repeat (any_goals (first|go_big_quiet_step (fail)|quiet_step (fail)))
  refine aE2 ?_;intro _ hw';obtain⟨nq,hw''⟩:=hw';subst hw'';go_wp2_with fail;refine(HF _ (aI HS.rd (je V6 _))).mono ?_;rintro e w9 ⟨rfl,rfl⟩;go_wp2_with fail;exact⟨rfl,.inr ⟨hno,_,rfl⟩,HS.keep.trans (dD.of_below (je V6 _))⟩
 have hq:(E == (s.size:Int))=true:=by simpa using hEs
 have hq2:(E != (s.size:Int))=false:=by simpa using hEs
 have HES:=Hq hEs;clear hEs;have x0:=aEv e0;have x1:=aEv e1;open anj in exact XQ):P:=h
theorem asU.AdS(h:P:=by
 go_in
 go_wp2_with fail;refine(vL _).mono ?_;rintro e w1 ⟨rfl,hb1⟩;have hR1:=aI (aEu w _) hb1;have hB1:=(au w _).trans (hb1.mono Aac);clear hb1 vL;go_wp2_with fail;refine(HT1 _).mono ?_;rintro e w2 ⟨rfl,hb2⟩;have hR2:=aI hR1 hb2;have hB2:=hB1.trans (hb2.mono hB1.size);clear hb2 hR1 hB1 HT1;go_wp2_with fail;refine(Dw _).mono ?_;rintro e w3 ⟨rfl,hb3⟩;have hR3:=aI hR2 hb3;have hB3:=hB2.trans (hb3.mono hB2.size);clear hb3 hR2 hB2 Dw;go_wp2_with fail;refine(HT2 _).mono ?_;rintro e w4 ⟨rfl,hb4⟩;have hR4:=aI hR3 hb4;have hB4:=hB3.trans (hb4.mono hB3.size);clear hb4 hR3 hB3 HT2;go_wp2_with fail;refine(HG _).mono ?_;rintro e w5 ⟨rfl,hb5⟩;have HR5:=Hq (aI hR4 hb5);have fI:=Hq (hB4.trans (hb5.mono hB4.size));clear hb5 hR4 hB4 HG;open asz in exact Ws):P:=h
theorem agR(h:P:=by
 obtain⟨g,rest,rfl,hBg,hgg⟩:=wS HO Aaa;have HG:=Hq (aj hgg aO);have hkk:=ah Ti l[k] (aEL hlt);exact AdK):P:=h
theorem asV.AdK(h:P:=by
 have HC:=Hq (fun(W:World) (h:W.heap[g]?=some (.cells (GR.flat gM l++rest).toArray 108 (0,0))) j (hj:j < 12)=>wu bY h k hlt j hj);clear hgg hBg;generalize l[k]=x at *;obtain⟨⟨K,no,k',n,mK,mF,mT,mI,mL,mk,mN⟩,c⟩:=x;dsimp only at hkk;have q0:wr.cell? ⟨g,k*12,none⟩=some (.int .i64 K):=ah HC wr HG 0 Aaa;have q1:wr.cell? ⟨g,k*12+1,none⟩=some (.int .i64 no):=ah HC wr HG 1 Aaa;have q2:wr.cell? ⟨g,k*12+2,none⟩=some (.string k'):=ah HC wr HG 2 Aaa;have q3:wr.cell? ⟨g,k*12+3,none⟩=some (.int .i64 n):=ah HC wr HG 3 Aaa;have q4:wr.cell? ⟨g,k*12+4,none⟩=some (.int .i64 mK):=ah HC wr HG 4 Aaa;have q5:wr.cell? ⟨g,k*12+5,none⟩=some (.int .i64 mF):=ah HC wr HG 5 Aaa;have q6:wr.cell? ⟨g,k*12+6,none⟩=some (.int .i64 mT):=ah HC wr HG 6 Aaa;have q7:wr.cell? ⟨g,k*12+7,none⟩=some (.int .i64 mI):=ah HC wr HG 7 Aaa;have q8:wr.cell? ⟨g,k*12+8,none⟩=some (.int .i64 mL):=ah HC wr HG 8 Aaa;have q9:wr.cell? ⟨g,k*12+9,none⟩=some (.string mk):=ah HC wr HG 9 Aaa;have QZ:wr.cell? ⟨g,k*12+10,none⟩=some (.int .i64 mN):=ah HC wr HG 10 Aaa;go_wp2_with fail;refine(Ut ⟨K,no,k',n,mK,mF,mT,mI,mL,mk,mN⟩ _ hkk.1 hkk.2).mono ?_;rintro e w5 ⟨rfl,hb5⟩;have tQ:=Hq (aj HG hb5);have eO:=Hq (aO.trans (hb5.mono aO.size));clear hb5 q0 q1 q2 q3 q4 q5 q6 q7 q8 q9 QZ;have q0:w5.cell? ⟨g,k*12,none⟩=some (.int .i64 K):=ah HC w5 tQ 0 Aaa;have q1:w5.cell? ⟨g,k*12+1,none⟩=some (.int .i64 no):=ah HC w5 tQ 1 Aaa;have q2:w5.cell? ⟨g,k*12+2,none⟩=some (.string k'):=ah HC w5 tQ 2 Aaa;have q3:w5.cell? ⟨g,k*12+3,none⟩=some (.int .i64 n):=ah HC w5 tQ 3 Aaa;have q4:w5.cell? ⟨g,k*12+4,none⟩=some (.int .i64 mK):=ah HC w5 tQ 4 Aaa;have q5:w5.cell? ⟨g,k*12+5,none⟩=some (.int .i64 mF):=ah HC w5 tQ 5 Aaa;have q6:w5.cell? ⟨g,k*12+6,none⟩=some (.int .i64 mT):=ah HC w5 tQ 6 Aaa;have q7:w5.cell? ⟨g,k*12+7,none⟩=some (.int .i64 mI):=ah HC w5 tQ 7 Aaa;have q8:w5.cell? ⟨g,k*12+8,none⟩=some (.int .i64 mL):=ah HC w5 tQ 8 Aaa;have q9:w5.cell? ⟨g,k*12+9,none⟩=some (.string mk):=ah HC w5 tQ 9 Aaa;have QZ:w5.cell? ⟨g,k*12+10,none⟩=some (.int .i64 mN):=ah HC w5 tQ 10 Aaa;have f0:=aA tQ (k*12);have f1:=aA tQ (k*12+1);have f2:=aA tQ (k*12+2);have f3:=aA tQ (k*12+3);have f4:=aA tQ (k*12+4);have f5:=aA tQ (k*12+5);have f6:=aA tQ (k*12+6);have f7:=aA tQ (k*12+7);have f8:=aA tQ (k*12+8);have f9:=aA tQ (k*12+9);have f10:=aA tQ (k*12+10)
 have HS:=Hq (eO.trans ((Px [.int .i64 K,.int .i64 no,.string k',.int .i64 n,.int .i64 mK,.int .i64 mF,.int .i64 mT,.int .i64 mI,.int .i64 mL,.string mk,.int .i64 mN] (k*12) w5 _ tQ (λj u hj=>by
  have h11:j < 11:=(aFh.1 hj).1
  have hc:=ah HC w5 tQ j Aaa
  rw [hc,<-hj]
  exact(aFO (l₁:=([.int .i64 K,.int .i64 no,.string k',.int .i64 n,.int .i64 mK,.int .i64 mF,.int .i64 mT,.int .i64 mI,.int .i64 mL,.string mk,.int .i64 mN]:List Value)) (l₂:=([.int .i64 c]:List Value)) (by simpa using h11)))).mono eO.size))
 exact aiL):P:=h
theorem asW.AdK(h:P:=by
 have HC:=Hq (fun(W:World) (h:W.heap[g]?=some (.cells (GR.flat iE l++rest).toArray 104 (0,0))) j (hj:j < 7)=>wu dM h k hlt j hj);clear hgg hBg;generalize l[k]=x at *;obtain⟨mK,mF,mT,mI,mL,mk,mN⟩:=x;dsimp only at hkk;have q5:wr.cell? ⟨g,k*7+5,none⟩=some (.string mk):=ah HC wr HG 5 Aaa;go_wp2_with fail;refine(clone mk _ Aaa).mono ?_;rintro e w5 ⟨rfl,hb5⟩;have tQ:=Hq (aj HG hb5);have eO:=Hq (aO.trans (hb5.mono aO.size));clear hb5 q5;have q5:w5.cell? ⟨g,k*7+5,none⟩=some (.string mk):=ah HC w5 tQ 5 Aaa;have f5:=aA tQ (k*7+5);have HS:=Hq (eO.trans ((mQ tQ q5).mono eO.size));exact aiL):P:=h
theorem agS(h:P:=by
 have qG:Hid (Below B w W'):=vI.trans (eX.below (λx hx=>by have:x=w.heap.size+2:=Aad;omega) (aEA hB vI.size));have xA:=Hq (Apart.keeps (c:=c) HKA vI.size eX (λx hx=>by have:x=w.heap.size+2:=Aad;omega));clear e4 eX;exact Aeo):P:=h
theorem asX.Aeo(h:P:=by
 exact⟨A1,ma,mc,rfl,HAT,HMT,qG,xA⟩):P:=h
theorem asY.Aeo(h:P:=by
 exact⟨⟨A.k,A.p,a,A.s,A.r,A.ck,A.cp,cp,A.cs,A.cr⟩,some ⟨Z.heap.size,0,none⟩,0,rfl,HAT,λW'' _ i hi=>Aau,qG,xA⟩):P:=h
theorem agT(h:P:=by
 have qH:=Hq ((hap _ (ay tV) (by rw [ah Iq];omega)).trans tV);have aaj:=Hq hat;have xQ:=Hq (Pw jL hb5 hap HC9);have hrx:=ay tV;clear hat hb5 hap c0 c1 c2 c3 c4 c5 c6 c7 c8 p0 p1 p2 p3 p4 p5 p6 p7 p8 p9 nI hnl hol jr gu HOX tV BF HPR;exact AcH):P:=h
theorem asZ.AcH(h:P:=by
 obtain⟨⟨d0,d1,d2,d3,d4,d5,d6,d7,d8⟩,f0,f1,f2,f3,f4,f5,f6,f7,f8⟩:=iG qH;have hrl:=ay qH;go_wp2_with fail;refine eB (u1:= .slice ma L1.length mc) (u2:= .int .i64 CW) results68 rfl rfl rfl rfl qH (λW' e4 eX=>?_);have HAT:=Hq (λW'' (ho:Ee w W' W'')=>aaj W'' (ho.out (c:=c) (eX) hrx HC9));have HMT:=Hq (λW'' (ho:Ee w W' W'')=>aeh W'' (ho.out (c:=c) (eX) hrx HC9));have qG:Hid (aG w W'):=xQ.trans (eX.below (λx hx=>by have:x=w.heap.size+2:=Aad;omega) xQ.size);clear e4 eX;exact⟨A2,ma,mc,rfl,HAT,HMT,qG⟩):P:=h
theorem as0.AcH(h:P:=by
 have Oq:=Hq (aEu W5 (.cells (dR N1 A2) 53));have xB:=Hq (aj qH (au W5 (.cells (dR N1 A2) 53)));have vI:=Hq (xQ.trans ((au W5 (.cells (dR N1 A2) 53)).mono xQ.size));obtain⟨c0,c1,c2,c3,c4,c5,c6,c7,c8⟩:=nine Oq;have hnl:=ay Oq;obtain⟨⟨d0,d1,d2,d3,d4,d5,d6,d7,d8⟩,f0,f1,f2,f3,f4,f5,f6,f7,f8⟩:=iG xB;have hrl:=ay xB;go_wp2_with fail;refine eB (u1:= .slice (some ⟨w.heap.size+1+1+1,0,none⟩) 0 0) (u2:= .int .i64 CW) results68 rfl rfl rfl rfl xB (λW' e4 eX=>?_);have HAT:=Hq (λW'' (ho:Ee w W' W'')=>aaj W'' (ho.out (c:=c) ((aC.of_below (au W5 (.cells (dR N1 A2) 53))).trans eX) hrx HC9));have qG:Hid (aG w W'):=vI.trans (eX.below (λx hx=>by have:x=w.heap.size+2:=Aad;omega) vI.size);clear e4 eX;exact⟨A2,some ⟨w.heap.size+1+1+1,0,none⟩,0,rfl,HAT,λW'' _ i hi=>Aau,qG⟩):P:=h
theorem agU(h:P:=by
 clear hr hc2;go_in
 go_wp2_with (first|(go_at_call_of 90 F;refine(H1 _).mono ?_;rintro e w1 ⟨rfl,rfl⟩)|(go_at_call_of 90 T;refine(H2 _).mono ?_;rintro e w1 ⟨rfl,rfl⟩)|(go_at_call_of 59 I;refine(Iq _).mono ?_;rintro e w1 ⟨rfl,rfl⟩))
 exact Adi):P:=h
theorem as1.Adi(h:P:=by
 go_ret;exact⟨aF (by first|exact HP.symm|exact he.trans HP.symm),au w _⟩):P:=h
theorem as3.Adi(h:P:=by
 exact xH):P:=h
theorem agV(h:P:=by
 have mixed:prog.follows .mixedOrders=true:=Aab
 have hw1:IntKind.i64.wrap ((i:Int)+1)=(i:Int)+1:=IntWalk.i64_in _ ⟨Aaa,Aaa⟩;have hb1:(0:Int)<=(i:Int)+1:=Aaa
 have hin:i<=l.length:=Aaa
 have htn:((i:Int)+1).toNat=i+1:=Aaa
 exact Adf):P:=h
theorem as4.Adf(h:P:=by
 have hb2:¬(cap=i+1):=Aaa
 have hb3:(i:Int)<=(l.length:Int)+1:=Aaa
 have hb4:¬(cap=i):=Aaa
 have hc63:cap<=9223372036854775807:=Aby
 clear hcs hcl hdl hv hblk htake hcm hr1 ab4 akQ hvr;go_in
 go_wp2_with (simp only[hov])
 go_region_law_o (refine step_copy_runI rfl _ _ 51 51 rfl _ _ Abp Abp (hcp1 _ _ _ _ _ Aaa Aaa) ?_)
 go_wp2_with (at_builtin;refine wpList_copy_runI _ rfl _ _ 51 51 rfl _ _ rfl rfl (hcp2 _ _ _ Aaa) ?_)
 go_ret;exact⟨rfl,hfin.1,hfin.2⟩):P:=h
theorem as5.Adf(h:P:=by
 have hb3:(i:Int)<=(l.length:Int):=Aaa
 have hGi:¬(G=i):=Aaa
 have hGim:¬(G=i+1):=Aaa
 have hci:¬(cap=i):=Aaa
 have hG63:G<=9223372036854775807:=by unfold maxLen at hGm;omega
 have hz3:(cap:Int) < (l.length:Int)+1:=Aaa
 have hA2:=hA ((w.alloc (.cells R 133)).drew) rfl;have hB2:=hB ((((w.alloc (.cells R 133)).drew).setRow w.heap.size (AV R.toList i q).toArray).drew) rfl;clear hblk hv htake hcell hdl htl hRs hRl hRt hBb hi0 hz0 hz1 hz2 hA hB;go_in
 go_upto_region 10 with(at_builtin;refine Lib.wpList_append_run _ rfl _ _ _ _ rfl _ _ rfl rfl _ _ (hrz _) ?_)
 go_wp2_with (first
  |(at_builtin;refine wpList_copy_runI _ rfl _ _ 51 51 rfl _ _ rfl rfl (hA2 _ _ _ Aaa) ?_))
 go_region_law_o (refine step_copy_runI rfl _ _ 51 51 rfl _ _ Abp Abp (hB2 _ _ _ _ _ Aaa Aaa) ?_)
 go_wp2
 go_ret;obtain⟨f1,f2⟩:=ah Ew ((((w.alloc (.cells R 133)).drew).setRow w.heap.size (AV R.toList i q).toArray).drew) rfl rfl rfl rfl;exact⟨G,_,rfl,hGn,hGm,f1,tX,OZ,f2⟩):P:=h
theorem aaL(h:P:=by
 have f0:=GR.Blk.free fI (k*4);have f1:=GR.Blk.free fI (k*4+1);have f2:=GR.Blk.free fI (k*4+2);have f3:=GR.Blk.free fI (k*4+3);go_wp2_with fail;exact AbL):P:=h
theorem as6.AbL(h:P:=by
 go_roundw
 case rel=>
  have h:=GR.Blk.set fI bQ k Aaa ⟨pno,pk,pn,ps⟩;rw [ah TS] at h;exact⟨k+1,Aaa,Aaf,h,GR.setW_below (o:=k*4) (aEx w.heap.size) (aM ⟨pno,pk,pn,ps⟩) eO⟩
 case measure=>simp[intOf];omega):P:=h
theorem as7.AbL(h:P:=by
 go_roundw
 case rel=>
  have h:=GR.Blk.set fI aX k Aaa ⟨pi,pt,pk,pn⟩;rw [ah TS] at h;exact⟨k+1,Aaa,Aaf,h,GR.setW_below (o:=k*4) (aEx w.heap.size) (aN ⟨pi,pt,pk,pn⟩) eO⟩
 case measure=>simp[intOf];omega):P:=h
theorem as8.AbL(h:P:=by
 go_roundw
 case rel=>
  have h:=GR.Blk.set fI aP k Aaa ⟨pk,pm,pf,ps⟩;rw [ah TS] at h;exact⟨k+1,Aaa,Aaf,h,GR.setW_below (o:=k*4) (aEx w.heap.size) (fO ⟨pk,pm,pf,ps⟩) eO⟩
 case measure=>simp[intOf];omega):P:=h
theorem Wu(h:P:=by
 obtain⟨c0,c1,c2,c3,c4,c5,c6,c7,c8,c9⟩:=jB HW1.blk;obtain⟨⟨p0,p1,p2,p3,p4,p5,p6,p7,p8,p9,nI⟩,_⟩:=aJ kU;exact Aa8):P:=h
theorem as9.Aa8(h:P:=by
 have hwl:=ay HW.blk;have hne:wb≠w.heap.size:=Aaa
 exact Kk9):P:=h
theorem ata.Aa8(h:P:=by
 go_in
 go_upto_region 1 with fail;have y1:=aEv c1;open avJ in exact aaY):P:=h
theorem atb.Aa8(h:P:=by
 go_in
 go_upto_region 3 with fail;have y0:=aEv c0;have y1:=aEv c1;open avI in exact aaY):P:=h
theorem atc.Aa8(h:P:=by
 have hwl:=ay HW.blk;have hne:wb≠w.heap.size:=Aaa
 go_in
 go_upto_region 1 with fail;have y1:=aEv c1;have y4:=aEv c4;open avH in exact aaY):P:=h
theorem agW(h:P:=by
 clear hat hmt hb5;have hwp:wr.heap.size<=y5.heap.size:=HG2.size;refine tk [6,7,8,9] ?_;iterate 4 (refine tkB 20 (Rb _) (λK hK=>?_);go_simp;(first|refine hK _ ?_|(apply Exists.intro;refine⟨λ_=>?_,hK _ ?_⟩;rfl));clear hK K)
 refine jm ?_;clear hwp;exact AdY):P:=h
theorem atd.AdY(h:P:=by
 refine iT 10 rfl Aab Aah Aag (λx10 Mv=>?_);have Ey:=Hq (Ge.trans HG2 Mv);have HD3:=Hq (show Ge y5 x10 from Mv);go_simp;refine⟨(au x10 _).mono Ey.size,?_⟩;have hqd:x10.heap.size < x5.heap.size\/y5.heap.size<=x10.heap.size:= .inr HD3.size;have hqV:wr.heap.size<=x10.heap.size:=Ey.size;have HGf:=Hq (Ge.trans Ey (au x10 (.cells kH 53)));have HDf:=Hq (Ge.trans HD3 (au x10 (.cells kH 53)));have HQf:=Hq (aEu x10 (.cells kH 53));clear Mv Ey HD3;generalize x10.heap.size=qf at *;exact aw9):P:=h
theorem ate.AdY(h:P:=by
 have HGf:=HG2;have HDf:=Hq (aEK y5.heap.size y5);have HQf:=HQ2;exact aw9):P:=h
theorem agX(h:P:=by
 have HR:Hid (textOf s k (some (n,c))=some (s.extract (k+c) (k+c+n),k+c+n)):=by unfold textOf;exact aEG hbad
 rw [aFy];have h1:¬1000 < n:=Aaa
 have h2:¬(s.size:Int) - ((k:Int)+(c:Int)) < (n:Int):=Aaa
 exact AcR):P:=h
theorem atf.AcR(h:P:=by
 clear hbad;open auI in exact aaV):P:=h
theorem atg.AcR(h:P:=by
 have hz:(s.extract (k+c) (k+c+n)).size<=281474976710656:=by rw [aF6];omega
 clear hbad;go_in
 go_wp2_with (first|(go_at_call 271;refine(HS _).mono ?_;rintro e w1 ⟨rfl,rfl⟩;simp only[rJ])|(go_at_call 74;refine(clone _ _ hz).mono ?_;rintro e w2 ⟨rfl,hb2⟩))
 go_ret3
 exact⟨by rw [ah HR];simp[tL],hb2⟩):P:=h
theorem agY(h:P:=by
 have ho:=h.own;rw [<-h.len] at ho;obtain⟨a',c',g,e,hW,hg,hgo⟩:=GR.W.of_own (enc:=eF) bf ho;cases e
 rw [h.len] at hgo;have hfe:∀x,x∈fp g l->x∈fp g T2:=λx hx=>by have:=dz hx;rw [this.1];exact dH (by rw [h.len];exact this.2)
 exact Ac1):P:=h
theorem ath.Ac1(h:P:=by
 refine⟨g,⟨T2,hW,h.len,λi hi=>?_⟩,λx hx=>⟨(hg x (hfe x hx)).1,hgo x (hfe x hx)⟩,λx hx=>?_,?_⟩
 .obtain⟨b,c,e1,e2,_⟩:=h.dn i hi hi;exact⟨b,c,e1,e2⟩
 .obtain⟨i,hi,rfl,hpos⟩:=uK hx;obtain⟨_,_,_,_,e3⟩:=h.dn i hi hi;exact e3 _ (dH hpos)
 .rw [pR];exact λi j hi hj hij h1 h2=>h.nd i j hi hj hij hj h1 h2):P:=h
theorem ati.Ac1(h:P:=by
 refine⟨g,⟨⟨T2,hW,h.len,λi hi=>?_⟩,λhp=>?_⟩,λx hx=>(hg x (hfe x hx)).1,λx hx=>?_,?_⟩
 .obtain⟨b,c,e1,e2,_⟩:=h.dn i hi hi;exact⟨b,c,e1,e2⟩
 .have hx:=hgo g (dH (by rw [h.len];exact hp));rcases h.own.2 with⟨_,hn⟩|⟨g',cap,cur,hv,_,hgg,_⟩
  .omega
  .rw [hv] at hx;have e3:g'=g:=Abj
   rw [e3] at hgg;exact⟨cur,hgg⟩
 .obtain⟨i,hi,rfl,hpos⟩:=uK hx;obtain⟨_,_,_,_,e3⟩:=h.dn i hi hi;have q:=e3 _ (dH hpos);exact⟨q.1,q.2.1,λhm=>q.2.2 (hgo _ (hfe _ hm))⟩
 .rw [pR];exact λi j hi hj hij h1 h2=>h.nd i j hi hj hij hj h1 h2):P:=h
theorem aaM(h:P:=by
 go_in
 go_wp2_with fail;refine HBS.mono ?_;rintro e w1 ⟨rfl,q,rfl⟩;rw [hf];exact AbK):P:=h
theorem atj.AbK(h:P:=by
 go_wp2_with fail;go_ret;exact⟨⟨rfl,rfl,rfl,aEx _,λ_ _=>rfl⟩,λ_ _ _ _=>rfl,.inl ⟨by first|trivial|rfl,rfl,HH.drewN⟩⟩):P:=h
theorem atl.AbK(h:P:=by
 clear HBS
 have HIN:=Hq (alj B (.slice a l.length cap) (l.map (·.k)) (place l key) key w.heap.size ((w.drewN q).alloc (.cells #[.string key] 9)) (by rw [aFo];exact lV l key) (by rw [aFo];exact hl) Aae
  (World.ownsRow.alloc (w:=w.drewN q) HH.row _) (aEu (w.drewN q) _) (λe=>by have:=HR.lt _ e;omega))
 go_wp2_with fail;refine HIN.mono ?_;rintro e w2 ⟨v',rfl,hown,hgr⟩;rw [aFo,acE,<-Da l key] at hown;obtain⟨g',cap',rfl,_,_⟩:=hown.form (by rw [Da];omega)
 have hlt:∀k,k < w.heap.size->(Value.slice a l.length cap).ownBlock≠some k->w2.heap[k]?=w.heap[k]?:=λk hk hne=>by
  rw [hgr.block k Aae (Ne.symm hne)]
  exact aEI (w.drewN q) _ _ hk
 have hm2:w2.heap[mp]?=some (.cells #[.slice a l.length cap,.map (some mb)] 392 (0,0)):=by rw [hlt mp hmp (own_ne (ah HR) (ah HH).blk Aag)];exact HH.blk
 have hb2:w2.heap[mb]?=w.heap[mb]?:=by
  obtain⟨es,clock,hbk⟩:=HH.map.blk;exact hlt mb hmb (yX HR hbk)
 have hbw:Below B w w2:=by
  refine⟨hgr.os,hgr.tape,hgr.output,aEA Aac hgr.size,λk hk=>hlt k Aaa (λe=>?_)⟩;have:=HR.lt _ e;omega
 have HO:=Hq hown;have HM2:=Hq hm2;have HB2:=Hq hb2;have gK:=Hq hbw;have HLT:=Hq hlt;obtain⟨⟨n0,n1⟩,g0,g1⟩:=lY hm2;clear hown hgr hlt hm2 hb2 hbw HIN n1 g1;go_wp2_with fail;go_ret;refine⟨gK.setCell (p:=⟨mp,0,none⟩) HH.lop _,λk hk hne1 hne2=>Fo.one_other (HLT k hk hne2) hne1,.inr (.inr ⟨by first|trivial|rfl,Aaa,rfl,.slice (some ⟨g',0,none⟩) (Qv l key).length cap',?_,?_,?_,HH.lop,HH.lom⟩)⟩
 .exact Fo.blk_set HM2 0 _
 .refine HO.kept (w':=w2.setCell ⟨mp,0,none⟩ _) (row:=some mp) ⟨rfl,rfl,rfl,by rw [Fo.setCell_size];exact aEx _,λk _ hne=>Fo.one_other rfl (λe=>hne Aao)⟩ (.inr (own_ne HO HM2 Aag))
 .refine HH.map.kept ?_;rw [Fo.one_other (ah HB2) (Ne.symm (ah HH).mpmb)]):P:=h
theorem atm.AbK(h:P:=by
 go_wp2_with fail;go_ret;exact⟨⟨rfl,rfl,rfl,aEx _,λ_ _=>rfl⟩,λ_ _ _ _=>rfl,.inr (.inl ⟨by first|trivial|rfl,H20,rfl⟩)⟩):P:=h
theorem aaN(h:P:=by
 rw [<-hW] at e1 e2 e3 e4;have HN:=Hq e1;have HO:=Hq e2;have HR:=Hq e3;have HB0:=Hq e4;have Oo:=Hq (jD.kc (k:=9) (KC.of_below e4) Aaa);exact Acz):P:=h
theorem atn.Acz(h:P:=by
 clear hW e1 e2 e3 e4 jD;open arF in exact awR):P:=h
theorem ato.Acz(h:P:=by
 clear hW e1 e2 e3 e4;open arE in exact awR):P:=h
theorem atp.Acz(h:P:=by
 clear hW e1 e2 e3 e4 jD;obtain⟨⟨p0,p1,p2,p3,p4,p5,p6,p7,p8,p9,nI⟩,_⟩:=aJ HO;have hol:=ay HO;obtain⟨c0,c1,c2,c3,c4,c5,c6,c7,c8⟩:=nine HN;obtain⟨⟨d0,d1,d2,d3,d4,d5,d6,d7,d8⟩,f0,f1,f2,f3,f4,f5,f6,f7,f8⟩:=iG HR;have hnl:=ay HN;have hrl:=ay HR;go_wp2_with fail;refine jW results98 rfl rfl rfl HR (λW' e4 eX=>?_);have HAT:=Hq (λW'' (ho:Out c w W' W'')=>(Oo.kc (k:=9) ((KC.keeps eX (λx hx=>by have:x=w.heap.size+2:=Aad;rw [this];exact aY Aaa)).trans (KC.out H9 ho)) Aaa).rm);have qG:Hid (Below B w W'):=(HB0.mono hB).trans (eX.below (λx hx=>by have:x=w.heap.size+2:=Aad;omega) (aEA hB (HB0.mono hB).size));have xA:=Hq (Apart.keeps (c:=c) (Apart.of_below (HB0)) (HB0.mono hB).size eX (λx hx=>by have:x=w.heap.size+2:=Aad;omega));clear e4 eX;exact⟨A,rfl,HAT,qG,xA⟩):P:=h
theorem Wv(h:P:=by
 refine wp_at (λW hW=>?_);have gK:Hid (aG w W):=by rw [hW];first|exact jo w _ _|exact(jo w _ _).drew
 exact AbB):P:=h
theorem atq.AbB(h:P:=by
 have hX:W.heap[w.heap.size+1]?=some (.cells (bE 2 no ⟨#[]⟩ 0 0 0 0 0 0 ⟨#[]⟩ 0) 106 (0,0)):=Abn
 have hY:W.heap[w.heap.size]?=some (.cells (bE 2 no k n mK mF mT mI mL mk mN) 106 (0,0)):=Abo
 open auF in exact aaU):P:=h
theorem atr.AbB(h:P:=by
 have hX:W.heap[w.heap.size+1]?=some (.cells (bE 5 0 ⟨#[]⟩ 0 0 0 0 0 0 ⟨#[]⟩ 0) 106 (0,0)):=Abn
 have hY:W.heap[w.heap.size]?=some (.cells (bE 5 no k n mK mF mT mI mL mk mN) 106 (0,0)):=Abo
 open asi in exact agJ):P:=h
theorem att.AbB(h:P:=by
 have hX:W.heap[w.heap.size+1]?=some (.cells (bE 1 no k n 0 0 0 0 0 ⟨#[]⟩ 0) 106 (0,0)):=Abn
 have hY:W.heap[w.heap.size]?=some (.cells (bE 1 no k n mK mF mT mI mL mk mN) 106 (0,0)):=Abo
 open auE in exact aaU):P:=h
theorem atu.AbB(h:P:=by
 exact Ab6):P:=h
theorem agZ(h:P:=by
 generalize l[k]=x at *;generalize m[k]=y at *;obtain⟨x0,x1,x2,x3⟩:=x;obtain⟨y0,y1,y2,y3⟩:=y;dsimp only at s0 s1 s2 s3 t0 t1 t2 t3;clear hk2;by_cases hx:x0=y0
 case' neg=>
  have hq:(x0 == y0)=false:=Aad
  exact abo
 subst hx;exact AcS):P:=h
theorem atv.AcS(h:P:=by
 by_cases hx:x1=y1
 case' neg=>
  have hq:(x1 == y1)=false:=Aad
  exact abo
 subst hx;by_cases hx:x2=y2
 case' neg=>
  have hq:(x2.toList == y2.toList)=false:=CK hx;have hr:¬x2.toList=y2.toList:=Abe
  exact akq
 exact axl):P:=h
theorem atw.AcS(h:P:=by
 by_cases hx:x1=y1
 case' neg=>
  have hq:(x1.toList == y1.toList)=false:=CK hx;have hr:¬x1.toList=y1.toList:=Abe
  exact akq
 exact aiD):P:=h
theorem aaO(h:P:=by
 have HW1:=Hq (h.step (au w (.cells (bH mK mF mT mI mL mk mN) 104)));have kU:=Hq (aEu w (.cells (bH mK mF mT mI mL mk mN) 104));exact AbR):P:=h
theorem atx.AbR(h:P:=by
 have hwl:=ay h.blk;have hne:wb≠w.heap.size:=Aaa
 have Tw:=Hq (λp:Regrown=>HW1.no.at.below (aEV _ p.d p.os));clear h hp hz;obtain⟨c0,c1,c2,c3,c4,c5,c6,c7,c8,c9⟩:=jB HW1.blk;obtain⟨p0,p1,p2,p3,p4,p5,p6⟩:=jA kU;open ani in exact XQ):P:=h
theorem aty.AbR(h:P:=by
 clear h;obtain⟨c0,c1,c2,c3,c4,c5,c6,c7,c8,c9⟩:=jB HW1.blk;have hwl:=ay HW.blk;have hne:wb≠w.heap.size:=Aaa
 go_in
 go_wp2_with fail;refine(HIX w.heap.size _ HW1.no.at.s kU).mono ?_;rintro e w2 ⟨rfl,hb2⟩;have HW2:=Hq (HW1.step hb2);have mD:=Hq (aj kU hb2);have HJ2:Hid (∀j mm,jH w j mm->jH w2 j mm):=λj mm hj=>aj (aj hj (au w _)) hb2
 clear hb2 HW1 kU HIX c0 c1 c2 c3 c4 c5 c6 c7 c8 c9;obtain⟨c0,c1,c2,c3,c4,c5,c6,c7,c8,c9⟩:=jB HW2.blk;obtain⟨g,off,b,cc,e0,hg,q0,q1,q2,I7⟩:=HW2.no.at.s i hi;rw [ah EL] at q0 q1 q2 I7;have HSO:=Hq (setOf s0.f s0.l b cc s0.ids w2 aex.2.2.1 (λx hx=>by have:=aex.2.2.2.1 x hx;have:=aex.1;omega) I7);have ak5:=ay HW2.blk;have hiI:(i:Int) < (n.seen.length:Int):=Aaa
 clear I7;rw [e0] at c6;go_wp2_with fail;refine HSO.mono ?_;rintro e w3 ⟨sb,mb,rfl,hsb,hmb,hS3,SV,hb3⟩;have HW3:Hid (qJ w0 w3 wb sb mb s0.ids.length n A G (newC w2.heap.size 9 c) v L s0.l s0.ids):=⟨(HW2.recol (c':=newC w2.heap.size 9 c) (λx hx=>eY hx)).step hb3,hS3,SV,aY hsb,aY hmb⟩;have Ef:=Hq (aj mD hb3);have HJ3:Hid (∀j mm,jH w j mm->jH w3 j mm):=λj mm hj=>aj (HJ2 j mm hj) hb3
 have aBK:w.heap.size≠sb:=by have:=ay mD;omega
 have ax8:w.heap.size≠mb:=by have:=ay mD;omega
 clear hS3 SV hb3 hsb hmb q0 q1 q2 e0 HSO c0 c1 c2 c3 c4 c5 c6 c7 c8 c9;obtain⟨⟨p0,p1,p2,p3,p4,p5,p6⟩,_⟩:=dY Ef;have hpl:=ay Ef;go_wp2_with fail;refine(afC sb mb s0.ids.length s0.l mL (fH s0 mL) s0.ids w3 HMX HW3.bk HW3.si).mono ?_;rintro e w4 ⟨rfl,hS4,hI4,hk4⟩;have HW4:=Hq (HW3.lift hS4 hI4 hk4);have JQ:=Hq (hk4.obj Ef (by simp[aBK,ax8]))
 have HJ4:Hid (∀j mm,jH w j mm->jH w4 j mm):=λj mm hj=>hk4.obj (HJ3 j mm hj) (by
  have h1:=UL (HJ3 j mm hj) HW3.bk
  have h2:=HW3.si.far (HJ3 j mm hj)
  simp[h1,h2])
 clear hS4 hI4 hk4 p0 p1 p2 p3 p4 p5 p6 hpl HJ2 HJ3;obtain⟨⟨p0,p1,p2,p3,p4,p5,p6⟩,_⟩:=dY JQ;have hpl:=ay JQ;go_wp2_with fail;refine(akP sb mb s0.ids.length (fH s0 mL) mI (bV s0 mL) w4 hI0 hI1 HW4.bk HW4.si).mono ?_;rintro e w5 ⟨rfl,hb5⟩;have HW5:=Hq (HW4.step hb5);have Iz:=Hq (aj JQ hb5);have HJ5:Hid (∀j mm,jH w j mm->jH w5 j mm):=λj mm hj=>aj (HJ4 j mm hj) hb5
 have hhs:(decide (mI < fH s0 mL)||decide (mI∈bV s0 mL))=rX s0 mL mI:=by
  unfold rX;congr 1
  rw [aFI,aE3,zY]
 rw [hhs];clear hhs hb5 p0 p1 p2 p3 p4 p5 p6 hpl HW4 JQ HW3 Ef;cases hq:rX s0 mL mI
 case' true=>
  have HQ:=Hq hq;clear hq;go_wp2_with fail;obtain⟨n',A',G',c',kk,l2,HWS,aec,HLEN,HSL,HTE⟩:∃(n':Nd) (A':bg) (G':aR) (c':Nat->Nat) (kk:Nat) (l2:List Int),Hid (qJ w0 w5 wb sb mb kk n' A' G' c' v L (fH s0 mL) l2)/\Hid (l2.Pairwise (· < ·))/\Hid (l2.length<=1000)/\Hid (n'.seen.length=n.seen.length)/\Hid (TT=(dS n' (n'.seen.set i ⟨mF,fH s0 mL,l2⟩),true)):=⟨n,A,G,_,_,_,HW5,Du.2.2.2.2,aEA Du.2.2.1 Aaa,rfl,XK HQ⟩;have eG:=Hq Iz;have HJW:=Hq HJ5;clear XK Tw HTN HGS HGF HQ HW5 Iz HW2 mD;exact Zk1
 have HQ:=Hq hq;clear hq;obtain⟨⟨p0,p1,p2,p3,p4,p5,p6⟩,_⟩:=dY Iz;have hpl:=ay Iz;have hnd:(bV s0 mL).Nodup:=Du.2.2.2.2.imp (λh=>Aaa);have HND:=Hq hnd;clear hnd;by_cases hf:(bV s0 mL).length=40
 case' pos=>
  have HF:=Hq hf;clear hf;go_wp2_with fail;refine(HGF w5 sb mb _ A G _ _ _ HND HF HW5).mono ?_;rintro e w6 ⟨rfl,hb6⟩;have eG:=Hq (aj Iz hb6);have HJW:Hid (∀j mm,jH w j mm->jH w6 j mm):=λj mm hj=>aj (HJ5 j mm hj) hb6
  have kJ:Hid (lS n s0 ⟨mK,mF,mT,mI,mL,mk,mN⟩=false):=by
   show lS n s0 ⟨mK,mF,mT,mI,mL,mk,mN⟩=false
   unfold lS;rw [aEw (by have:=ah HF;dsimp only;omega),Bool.and_false]
  go_wp2_with fail;obtain⟨n',A',G',c',kk,l2,HWS,aec,HLEN,HSL,HTE⟩:∃(n':Nd) (A':bg) (G':aR) (c':Nat->Nat) (kk:Nat) (l2:List Int),Hid (qJ w0 w6 wb sb mb kk n' A' G' c' v L (fH s0 mL) l2)/\Hid (l2.Pairwise (· < ·))/\Hid (l2.length<=1000)/\Hid (n'.seen.length=n.seen.length)/\Hid (TT=(dS n' (n'.seen.set i ⟨mF,fH s0 mL,l2⟩),false)):=⟨n,A,G,_,_,_,HW5.step hb6,Du.2.2.2.2,aEA Du.2.2.1 Aaa,rfl,HTN HQ kJ⟩;clear hb6 XK Tw HTN HGS HGF HQ HW5 Iz HW2 mD kJ HF HND p0 p1 p2 p3 p4 p5 p6 hpl;exact Zk1
 have HF:Hid ((bV s0 mL).length < 40):=by
  have:=Du.2.2.1;show(bV s0 mL).length < 40
  omega
 clear hf;go_wp2_with fail;refine(HGS w5 sb mb _ A G _ _ _ (by have:=aex.2.2.1;omega) HND HF HW5).mono ?_;rintro e w6 ⟨rfl,⟨A1,G1,c1,hW6⟩,Yt⟩;have eG:=Hq (Yt w.heap.size _ Aaa ax8 Iz);have HJW:Hid (∀j mm,jH w j mm->jH w6 j mm):=λj mm hj=>Yt j _ (YN (HJ5 j mm hj) HW5.wk.blk) (HW5.si.far (HJ5 j mm hj)) (HJ5 j mm hj)
 have Wl:=Hq hW6;clear hW6 Yt p0 p1 p2 p3 p4 p5 p6 hpl HGS HGF;cases hr:(cK n.pu mk 0 1 0 mN).2
 case' false=>
  have kJ:Hid (lS n s0 ⟨mK,mF,mT,mI,mL,mk,mN⟩=false):=by
   show lS n s0 ⟨mK,mF,mT,mI,mL,mk,mN⟩=false
   unfold lS;rw [hr,Bool.false_and]
  rw [hr] at Wl;clear hr;go_wp2_with fail;obtain⟨n',A',G',c',kk,l2,HWS,aec,HLEN,HSL,HTE⟩:∃(n':Nd) (A':bg) (G':aR) (c':Nat->Nat) (kk:Nat) (l2:List Int),Hid (qJ w0 w6 wb sb mb kk n' A' G' c' v L (fH s0 mL) l2)/\Hid (l2.Pairwise (· < ·))/\Hid (l2.length<=1000)/\Hid (n'.seen.length=n.seen.length)/\Hid (TT=(dS n' (n'.seen.set i ⟨mF,fH s0 mL,l2⟩),false)):=⟨n,A1,G1,c1,_,_,Wl,Du.2.2.2.2,aEA Du.2.2.1 Aaa,rfl,HTN HQ kJ⟩;clear XK Tw HTN HQ HW5 Iz HW2 mD kJ HF HND Wl;exact Zk1
 have kJ:Hid (lS n s0 ⟨mK,mF,mT,mI,mL,mk,mN⟩=true):=by
  show lS n s0 ⟨mK,mF,mT,mI,mL,mk,mN⟩=true
  unfold lS;rw [hr,aEy (ah HF),Bool.true_and]
 rw [hr] at Wl;clear hr;have HNI:=Hq (Xa HQ).2;go_wp2_with fail
 obtain⟨n',A',G',c',kk,l2,HWS,aec,HLEN,HSL,HTE⟩:∃(n':Nd) (A':bg) (G':aR) (c':Nat->Nat) (kk:Nat) (l2:List Int),Hid (qJ w0 w6 wb sb mb kk n' A' G' c' v L (fH s0 mL) l2)/\Hid (l2.Pairwise (· < ·))/\Hid (l2.length<=1000)/\Hid (n'.seen.length=n.seen.length)/\Hid (TT=(dS n' (n'.seen.set i ⟨mF,fH s0 mL,l2⟩),true)):=⟨setPu n (cK n.pu mk 0 1 0 mN).1,A1,G1,c1,_,kW (bV s0 mL) mI,⟨Wl.wk,Wl.bk,Wl.si.same (λx=>by rw [Qu];exact aET),Wl.cs,Wl.cm⟩,Qt Du.2.2.2.2 HNI,(by
  show(kW (bV s0 mL) mI).length<=1000
  rw [C9]
  have:=ah HF
  omega),rfl,Tw HQ kJ⟩
 clear XK Tw HTN HQ HW5 Iz HW2 mD kJ HF HND Wl HNI;exact Zk1):P:=h
theorem atz.AbR(h:P:=by
 obtain⟨c0,c1,c2,c3,c4,c5,c6,c7,c8,c9⟩:=jB HW1.wk.blk;obtain⟨⟨p0,p1,p2,p3,p4,p5,p6⟩,_⟩:=dY kU;obtain⟨⟨d0,d1⟩,_⟩:=lY HW1.bk;have hlen:=aCz HW1.si hnd;have hwl:=ay HW.wk.blk;have hsl:=ay HW.bk;have hne:wb≠w.heap.size:=Aaa
 have hne2:sb≠w.heap.size:=Aaa
 clear h;go_in
 go_upto_region 1 with fail;have y4:=aEv c4;have z3:=aEv p3;have z5:=aEv p5;have z6:=aEv p6;have x1:=aEv d1;clear c0 c1 c2 c3 c4 c5 c6 c7 c8 c9 p0 p1 p2 p3 p4 p5 p6 d0 d1;exact AdC):P:=h
theorem ag0(h:P:=by
 cases hx1:uH x
 case' false=>
  exact aw4
 by_cases hx2:x=id
 case' pos=>
  exact awZ
 have hy2:(x == id)=false:=by simp[hx2]
 by_cases hx3:x=par
 case' pos=>
  exact awY
 have hy3:(x == par)=false:=by simp[hx3]
 exact Adz):P:=h
theorem atA.Adz(h:P:=by
 by_cases hx4:y < x
 case' neg=>
  have hy4:decide (x<=y)=true:=aEy Aaa;have HP:=Hq (HBAD (by rw [ah gu];simp[jZ,iF,hx4]));clear HBAD gu;exact aeJ
 have hy4:decide (x<=y)=false:=aEw Aaa;have HG:=Hq (show gL (jZ id par) iF (kids.take (j+1+1))=true by rw [ah gu];simp[jZ,hx1,hx2,hx3,iF,hx4]);clear HBAD gu;open apy in exact aj8):P:=h
theorem atC.Adz(h:P:=by
 have HG:=Hq (show gL (jZ id par) iF (kids.take (0+1))=true by rw [ah gu];simp[jZ,hx1,hx2,hx3]);clear HBAD gu;open apz in exact aj8):P:=h
theorem aaP(h:P:=by
 obtain⟨K,no,k,nn,⟨mK,mF,mT,mI,mL,mk,mN⟩⟩:=o;have HW1:=Hq (h.step (au w (.cells (bE K no k nn mK mF mT mI mL mk mN) 106)));exact Ab3):P:=h
theorem atD.Ab3(h:P:=by
 have hq2:(n.par == -1)=true:=Abd
 clear h hR HSY hpar;obtain⟨c0,c1,c2,c3,c4,c5,c6,c7,c8,c9⟩:=jB HW1.blk;go_in
 go_wp2_with fail;go_ret;exact⟨rfl,c,v,HW1⟩):P:=h
theorem atE.Ab3(h:P:=by
 have hwl:=ay h.blk;have hne:wb≠w.heap.size:=Aaa
 have HBO:=Hq (show Below w0.heap.size w0 (w.alloc (.cells (bE K no k nn mK mF mT mI mL mk mN) 106)) from HW1.keep);have HSA:=Hq (λW c v L' (hW:WK w0 W wb n A G c v L')=>hW.no.at.o);clear h hz;generalize qh n=PM at *;obtain⟨ak,ap,ao,as',ar,ck,cp,co,cs,cr⟩:=A;obtain⟨c0,c1,c2,c3,c4,c5,c6,c7,c8,c9⟩:=jB HW1.blk;go_in
 go_wp2_with fail;go_loopw [13] (λi wr=>∃(k:Nat) (c':Nat->Nat) (v':Value),k<=n.out.length/\i= .int .i64 k/\WK w0 wr wb n ⟨ak,ap,ao,as',ar,ck,cp,co,cs,cr⟩ G c' v' (L++(n.out.take k).map PM)) (λi _=>n.out.length - (intOf i).toNat)
 case atStart=>exact⟨0,c,v,aEN _,rfl,by simpa using ah HW1⟩
 case round=>
  obtain⟨k,cc,vv,hk,rfl,hS⟩:=hrel;have zC:=Hq hS;clear hS c0 c1 c2 c3 c4 c5 c6 c7 c8 c9;have hwr:=ay zC.blk;by_cases hlt:k < n.out.length
  .obtain⟨g,off,e0,hg,q0,q1,q2,q3⟩:=SentAt.four (HSA wr cc vv _ zC) k hlt;have HKk:=Hq (HKK n.out[k] (aEL hlt));have HT:=Hq (show L++(n.out.take (k+1)).map PM=L++(n.out.take k).map PM++[PM n.out[k]] by rw [aEF hlt,List.map_append,aFa];rfl);have ajR:=Hq (IB n.out[k]);generalize n.out[k]=sk at *;generalize PM sk=mk' at *;obtain⟨si,st,sx,sn⟩:=sk;obtain⟨qK,qF,qT,qI,qL,qk,qN⟩:=mk';dsimp only at q0 q1 q2 q3 HKk e0;subst e0;go_upto_region 4 with fail;refine wp_at (λW3 hW3=>?_);have HR3:Hid (W3.heap[wr.heap.size]?=some (.cells (gB si st sx sn) 129 (0,0))):=by rw [hW3];exact aEu _ _
   have zD:Hid (WK w0 W3 wb n ⟨ak,ap,some ⟨g,off,none⟩,as',ar,ck,cp,co,cs,cr⟩ G cc vv (L++(n.out.take k).map PM)):=by rw [hW3];exact zC.step (au wr _)
   clear hW3 q0 q1 q2 q3;have azX:=Hq (λp:Regrown=>ajR (Gr W3 p) (GR.At.below (HSA W3 cc vv _ zD) (aEV W3 p.d p.os)));have hr3:=ay HR3;have hw3:=ay zD.blk;have hnr:wb≠wr.heap.size:=Aaa
   obtain⟨c0,c1,c2,c3,c4,c5,c6,c7,c8,c9⟩:=jB zD.blk;obtain⟨d0,d1,d2,d3⟩:=iq HR3;open anh in exact XQ
  .open au9 in exact aho):P:=h
theorem atF.Ab3(h:P:=by
 have hq2:(n.par == -1)=true:=Abd
 clear h hR IB hpar;obtain⟨c0,c1,c2,c3,c4,c5,c6,c7,c8,c9⟩:=jB HW1.blk;go_in
 go_upto_region 1 with fail;have y1:=aEv c1;clear c0 c1 c2 c3 c4 c5 c6 c7 c8 c9;refine Ip 20 ?_;refine tk [0,1,2,3,4,5,6,7,8,9,10,11,12,13,14,15,16,17,18,19] ?_;iterate 20 (refine iy (λK hK=>?_);go_simp;refine hK _ ?_;clear hK K)
 refine jm ?_;refine dJ Aab (λz hz=>?_);have HZ:=Hq (HW1.step hz);clear hz y1;exact ai1):P:=h
theorem ag1(h:P:=by
 obtain⟨R,hR⟩:∃R,bC ⟨6,no,k,n,m⟩=R:=⟨_,rfl⟩;rw [hR];have HP:=Hq (show R=(decide (k.toList=[])&&decide (n=0)&&decide (no=0)&&bJ m) by rw [<-hR];simp[bC]);clear hR;generalize bJ m=OK at *;obtain⟨mK,mF,mT,mI,mL,mk,mN⟩:=m;exact AcV):P:=h
theorem atH.AcV(h:P:=by
 have HX:=Hq (aEu (w.alloc (.cells (bE 6 no k n mK mF mT mI mL mk mN) 106)) (.cells (bE 6 0 ⟨#[]⟩ 0 0 0 0 0 0 ⟨#[]⟩ 0) 106));have HY:=Hq (aI (aEu w (.cells (bE 6 no k n mK mF mT mI mL mk mN) 106)) (au _ (.cells (bE 6 0 ⟨#[]⟩ 0 0 0 0 0 0 ⟨#[]⟩ 0) 106)));rw [show(w.alloc (.cells (bE 6 no k n mK mF mT mI mL mk mN) 106)).heap.size=w.heap.size+1 by simp] at HX;go_in
 go_wp2_with fail;refine(HM _).mono ?_;rintro e w1 ⟨rfl,hb1⟩;have BI:=Hq (aI HX hb1);have HY1:=Hq (aI HY hb1);have HB1:=Hq ((jo w _ _).trans (hb1.mono Aae));clear hb1 HX HY;obtain⟨x0,x1,x2,x3,x4,x5,x6,x7,x8,x9,x10⟩:=Ej BI;obtain⟨y0,y1,y2,y3,y4,y5,y6,y7,y8,y9,y10⟩:=Ej HY1;have f4:=uL BI 4;have f5:=uL BI 5;have f6:=uL BI 6;have f7:=uL BI 7;have f8:=uL BI 8;have f9:=uL BI 9;have f10:=uL BI 10;cases hOK:OK
 .go_wp2_with fail
  all_goals
   go_ret
   refine⟨aF ?_,?_⟩
   .rw [ah HP];simp[hOK]
   .exact Pg
 have HKK:=Hq hOK;clear hOK;by_cases hno:no=0
 case' neg=>
  have hno':¬(0:Int)=no:=λe=>hno e.symm
  go_wp2_with fail
  all_goals
   go_ret
   refine⟨aF ?_,?_⟩
   .rw [ah HP];simp[hno]
   .exact Pg
 subst hno;by_cases hk:k.toList=[]
 case' neg=>
  go_wp2_with fail
  all_goals
   go_ret
   refine⟨aF ?_,?_⟩
   .rw [ah HP];simp[hk]
   .exact Pg
 by_cases hn:n=0
 case' neg=>
  have hn':¬(0:Int)=n:=λe=>hn e.symm
  go_wp2_with fail
  all_goals
   go_ret
   refine⟨aF ?_,?_⟩
   .rw [ah HP];simp[hn,hk]
   .exact Pg
 subst hn;go_wp2_with fail
 all_goals
  go_ret
  refine⟨aF ?_,?_⟩
  .rw [ah HP];simp[hk,ah HKK]
  .exact Pg):P:=h
theorem atI.AcV(h:P:=by
 go_in
 go_wp2_with (go_at_call 136;refine(HM _).mono ?_;rintro e w1 ⟨rfl,hb1⟩;have HB1:=Hq hb1;clear hb1)
 all_goals
  go_ret
  refine⟨aF ?_,by first|exact au w _|exact(au w _).trans (HB1.mono Aac)⟩
  rw [ah HP]
  simp[*]):P:=h
theorem ag2(h:P:=by
 have jV:=Hq (aj mq hb2);have BD:=Hq (aj Tj hb2);have mJ:=Hq (aj BH hb2);have HB2:=Hq (HB1.trans (hb2.mono HB1.size));exact Ac8):P:=h
theorem atJ.Ac8(h:P:=by
 have amx:=Hq (XE.kc (k:=9) (KC.of_below hb2) Aaa);have amS:=Hq (ajW.below hb2);have hilt:∀x∈fp (G.i i) s0.ids,x < sb:=λx hx=>by rw [<-hsb];exact av3 ajW x hx
 rw [hsb] at *;clear hW2 hb2 hs2 u0 u1 u2 c0 c1 c2 c3 c4 c5 c6 c7 c8 hnl mq Tj BH HB1 XE ajW;obtain⟨m0,m1,m2,m3,m4,m5,m6⟩:=jA BD;obtain⟨s00,s01,s02⟩:=CP XJ;have sf:=aA XJ 1;have hml:=ay BD;have hsl2:=ay XJ;go_upto_if 35 with fail;go_cut [8] from 15 (λp wx=>p= .pointer (some ⟨sb,0,none⟩)/\wx.heap[sb]?=some (.cells #[.int .i64 mF,.int .i64 (fH s0 mL),.slice bi s0.ids.length ci] 144 (0,0))/\aC [sb] W2 wx)
 case first=>
  by_cases hlow:s0.l < mL
  .have hd:decide (s0.l < mL)=true:=aEy hlow;have HLW:=Hq (show fH s0 mL=mL from aER hlow);go_wp2_with fail;go_meet
   case rel=>exact⟨rfl,by rw [ah HLW];exact aT XJ 1 _,aC.set _⟩
  .have hd:decide (s0.l < mL)=false:=aEw hlow;have HLW:=Hq (show fH s0 mL=s0.l from aEG hlow);go_wp2_with fail;go_meet
   case rel=>exact⟨rfl,by rw [ah HLW];exact XJ,aC.refl _ _⟩
 case rest=>
  obtain⟨rfl,hs3,hk3⟩:=hcut;clear m0 m1 m2 m3 m4 m5 m6 s00 s01 s02 sf hml hsl2;go_upto_region 7 with fail;refine wp_at (λW3 hW3=>?_);subst hW3;have aey:=Hq hs3;have rR:=Hq (hk3.obj jV (λhx=>Aaj));have XD:=Hq (hk3.obj BD (λhx=>Aaj));have pX:=Hq (hk3.obj mJ (λhx=>Aaj));have HB3:=Hq (HB2.trans (hk3.below (B:=w.heap.size) (λx hx=>Aaj) HB2.size));have amy:=Hq (amx.kc (k:=9) (KC.keeps hk3 (λx hx=>by have:x=sb:=Aad;rw [this];exact aY Aaa)) Aaa);have amT:=Hq (amS.keeps hk3 (λx hx hm=>by have h1:=hilt x hx;simp at hm;omega));clear hs3 hk3 jV BD mJ HB2 amx amS XJ;have aDU:=ay aey;obtain⟨i0,hi0,hz0,hz1',hz2⟩:=aEY wP;go_upto_block 2 with fail;go_cut [9] from 15 (λv wx=>∃g cp,v= .slice (some ⟨g,0,none⟩) (bV s0 mL).length cp/\wx.ownsRow W3.heap.size 3 1 v (bV s0 mL).length (GR.flat aW (bV s0 mL))/\(bV s0 mL=[]->cp=0)/\aG W3 wx)
  case first=>
   go_wp2_with fail;go_loopw [9,10] (λv j wr=>∃k g cp:Nat,k<=s0.ids.length/\j= .int .i64 k/\v= .slice (some ⟨g,0,none⟩) (oJ s0 mL k).length cp/\wr.ownsRow W3.heap.size 3 1 v (oJ s0 mL k).length (GR.flat aW (oJ s0 mL k))/\(oJ s0 mL k=[]->cp=0)/\aG W3 wr) (λ_ j _=>s0.ids.length - (intOf j).toNat)
   case atStart=>exact⟨0,_,_,aEN _,rfl,rfl,aFb _ #[] 0 (aEx _) Aag rfl,λ_=>rfl,au _ _⟩
   case round=>
    obtain⟨k,g,cp,hk,rfl,rfl,hown,aye,hbel⟩:=hrel;have ajG:=Hq aye;clear aye;have aO:=Hq hbel;obtain⟨_,s31,s32⟩:=CP (aj aey hbel);clear hbel;by_cases hlt:k < s0.ids.length
    .obtain⟨eb,hgb,hcell⟩:=(amT.below aO) k hlt;open arG in exact awS
    .have hke:k=s0.ids.length:=Aaa
     subst hke;have hd:decide ((s0.ids.length:Int) < (s0.ids.length:Int))=false:=Aac
     rw [Cb] at hown ajG;have aDW:(Value.slice (some ⟨g,0,none⟩) (oJ s0 mL s0.ids.length).length cp)= .slice (some ⟨g,0,none⟩) (bV s0 mL).length cp:=by rw [Cb]
     rw [Cb];go_wp2_with fail;go_meet
     case rel=>exact⟨g,cp,rfl,hown,ajG,aO⟩
  case rest=>
   obtain⟨gi,Yc,rfl,Ae,aBQ,hb4⟩:=hcut;have aax:=Hq (aj aey hb4);have Dx:=Hq (aj rR hb4);have amv:=Hq (aj XD hb4);have Tv:=Hq (aj pX hb4);have mh:=Hq (HB3.trans (hb4.mono HB3.size));have ajL:=Hq (amy.kc (k:=9) (KC.of_below hb4) Aaa);have hgi:W3.heap.size<=gi:=(Ae.lt gi rfl).1;have aBY:gi < wc.heap.size:=(Ae.lt gi rfl).2
   have aDv:(bV s0 mL).length<=Yc:=by
    rcases Ae.2 with⟨h1,_⟩|⟨g1,aDn,aDo,hv1,_,_,aDN,_⟩
    .simp at h1
    .simp only[aFz] at hv1;omega
   have aDV:=ay aax;have hIL:(bV s0 mL).length<=1000:=aEA (aGa _ _) hil;have hW5:WO (wc.setCell ⟨sb,2,none⟩ (.slice (some ⟨gi,0,none⟩) (bV s0 mL).length Yc)) (some ⟨gi,0,none⟩) Yc gi (bV s0 mL):=(WO.of_own (agA aU Ae) Ae aBQ).keeps (aC.set _) (λx hx hm=>by have h1:=(dz hx).1;simp at hm;omega);have BF:=Hq (ajL.kc (k:=9) (w':=wc.setCell ⟨sb,2,none⟩ (.slice (some ⟨gi,0,none⟩) (bV s0 mL).length Yc)) (KC.set (aY Aaa)) Aaa);have XF:=Hq (BF.seenPut i hi ⟨mF,fH s0 mL,bV s0 mL⟩ (some ⟨gi,0,none⟩) Yc gi hW5 (λx hx=>by rw [(dz hx).1];exact aY Aaa));have aDC:G.s≠w.heap.size:=Aaa
   obtain⟨T,hT,hlT,hrT⟩:=ajL.s;obtain⟨_,_,hcT⟩:=hT i Aaa;open aoc in exact awf):P:=h
theorem atK.Ac8(h:P:=by
 have Dw:=Hq (vL.kc (k:=9) (KC.of_below hb2) Aaa);clear hb2 Tj BH mq HB1 vL;clear m0 m1 m2 m3 m4 m5 m6 c0 c1 c2 c3 c4 c5 c6 c7 c8 hml hnl SI;obtain⟨m0,m1,m2,m3,m4,m5,m6⟩:=jA BD;exact Kk3):P:=h
theorem ag3(h:P:=by
 obtain⟨⟨p0,p1,p2,p3,p4,p5,p6,p7,p8,p9,nI⟩,_⟩:=aJ Tt;have hpl:=ay Tt;go_wp2_with fail;refine(xB z HZ).mono ?_;rintro e w1 ⟨rfl,hb1⟩;have HZ1:=Hq (HZ.step hb1);clear hb1 xB p0 p1 p2 p3 p4 p5 p6 p7 p8 p9 nI HZ Tt;exact AdQ):P:=h
theorem atL.AdQ(h:P:=by
 obtain⟨g,hAr,hgw,hgl,⟨q0,q1,q2,q3⟩,qf⟩:=HZ1.reqRow i hil;obtain⟨d0,d1,d2,d3,d4,d5,d6,d7,d8,d9⟩:=jB HZ1.blk;rw [hAr] at d8;have aCx:=ay HZ1.blk;have aB2:(i:Int) < (n.reqs.length:Int):=Aaa
 rw [hs] at q3;go_upto_region 7 with fail;refine wp_at (λW hW=>?_);obtain rfl:=hW;exact Ac6):P:=h
theorem atM.AdQ(h:P:=by
 go_wp2_with fail;go_ret;exact⟨rfl,A,G,c,HZ1⟩):P:=h
theorem aaQ(h:P:=by
 (refine tkB 20 (alB _) (λK hK=>?_);go_simp;(first|refine hK _ ?_|(apply Exists.intro;refine⟨λ_=>?_,hK _ ?_⟩;rfl));clear hK K)
 refine jm ?_;exact Ab0):P:=h
theorem atN.Ab0(h:P:=by
 clear y3;refine Hz 3 rfl Aab Aah Aag 53 _ _ rfl (vG n.id n.par a_k n.kids.length cZ n.next pa PL.length pc iV n.out.length dW iM n.seen.length dw IH.no (some ⟨g8,0,none⟩) n.reqs.length c8') rfl rfl zB rfl Aab Aab (λX eX e4=>?_);refine Bp Aab (λX5 hX5=>?_);have e4:=aj e4 hX5;have eX:=eX.trans (aC.of_below hX5);clear hX5;refine an 4 ?_;go_simp;refine ad ?_;go_simp;have tZ:=Hq (HB9.trans (eX.below (B:=w.heap.size) (λx hx=>Aaj) HB9.size));have HLZ:=Hq (HL9.keeps eX (λx hx=>Aaj));have Tt:=Hq (HP9.keeps eX (λx hx=>Aaj));obtain⟨x0,x1,x2,x3,x4,x5,x6,x7,x8⟩:=nine e4;clear e4 eX;go_wp2_with fail;refine aEE (v:= .tuple #[.agg (vG n.id n.par a_k n.kids.length cZ n.next pa PL.length pc iV n.out.length dW iM n.seen.length dw IH.no (some ⟨g8,0,none⟩) n.reqs.length c8'),.int .i64 st]) Acv rfl ?_;rw [ah HK];refine⟨⟨a_k,pa,iV,iM,(some ⟨g8,0,none⟩),cZ,pc,dW,dw,c8'⟩,?_,λW'' ho=>?_,tZ.mono hB,Apart.of_below tZ⟩
 .simp[gP,dR,eD,oz,setPu,akL]
 .exact axd):P:=h
theorem atO.Ab0(h:P:=by
 clear y3;refine Hz 3 rfl Aab Aah Aag 53 _ _ rfl (vG n.id n.par a_k n.kids.length cZ n.next pa PL.length pc iV n.out.length dW iM n.seen.length dw n.old (some ⟨gv,0,none⟩) (n.reqs.length+1) vc) rfl rfl qH rfl Aab Aab (λX eX e4=>?_);refine Bp Aab (λX5 hX5=>?_);have e4:=aj e4 hX5;have eX:=eX.trans (aC.of_below hX5);clear hX5;refine an 4 ?_;go_simp;refine ad ?_;go_simp;have tZ:=Hq (xQ.trans (eX.below (B:=w.heap.size) (λx hx=>Aaj) xQ.size));have HLZ:=Hq (HL6.keeps eX (λx hx=>Aaj));have Tt:=Hq (Tq.keeps eX (λx hx=>Aaj));obtain⟨x0,x1,x2,x3,x4,x5,x6,x7,x8⟩:=nine e4;clear e4 eX;go_wp2_with fail;refine aEE (v:= .tuple #[.agg (vG n.id n.par a_k n.kids.length cZ n.next pa PL.length pc iV n.out.length dW iM n.seen.length dw n.old (some ⟨gv,0,none⟩) (n.reqs.length+1) vc),.int .i64 st]) Acv rfl ?_;rw [ah HK];refine⟨⟨a_k,pa,iV,iM,(some ⟨gv,0,none⟩),cZ,pc,dW,dw,vc⟩,?_,λW'' ho=>?_,tZ.mono hB,Apart.of_below tZ⟩
 .simp[gP,dR,eD,setPu,ah akL]
 .exact axd):P:=h
theorem atP.Ab0(h:P:=by
 exact Aed):P:=h
theorem aaR(h:P:=by
 rcases ho.2 with⟨_,hy⟩|⟨g,cp,cur,hx,hbg,hgg,hnc,hcm,hcs,htk⟩
 .omega
 simp only[aFz] at hx;obtain⟨rfl,_,rfl⟩:=hx;exact AbI):P:=h
theorem atQ.AbI(h:P:=by
 by_cases hroom:l.length+1<=cap
 .refine(MX g cap i l q vb w cur hl hi2 hroom hcm (hne g rfl) hgg hcs htk hv).mono ?_;rintro e w' ⟨rfl,hb,hgr⟩;have hcl:(l.length+1)*4<=cur.toList.length:=Acm
  refine⟨some ⟨g,0,none⟩,cap,by rw [hlen],?_,hgr,λx hx=> .inl hx⟩;rw [hlen];refine⟨hfl,.inr ⟨g,cap,_,rfl,hbg,hb,hroom,hcm,?_,?_⟩⟩
  .rw [aFs,ads _ _ _ _ hi2 hcl,show cur.toList.length=cur.size from aE9,hcs]
  .exact Zi cur.toList l i q hi2 hcl htk
 .refine(Qx g cap i l q vb w cur hl hi2 hnc Aaa hgg htk hv).mono ?_;rintro e w' ⟨G,cur',rfl,hG,hGm,hb,hs,ht,hgr⟩;refine⟨some ⟨w.heap.size,0,none⟩,G,by rw [hlen],?_,⟨hgr.os,hgr.tape,hgr.output,hgr.size,λk hk _=>hgr.block k hk Aac⟩,λx hx=> .inr ?_⟩
  .rw [hlen];exact⟨hfl,.inr ⟨w.heap.size,G,cur',rfl,hB,hb,hG,hGm,hs,ht⟩⟩
  .have:w.heap.size=x:=Abj
   omega):P:=h
theorem atS.AbI(h:P:=by
 refine(Ye g cap l w cur h2 hl hnc hcm hgg hcs htk).mono ?_;rintro e w' ⟨rfl,hb,hgr⟩;have hcl:l.length*4<=cur.toList.length:=Acm
 refine⟨some ⟨g,0,none⟩,cap,by rw [hlen],?_,hgr,λx hx=> .inl hx⟩;rw [hlen];refine⟨by rw [gN,hlen],.inr ⟨g,cap,_,rfl,hbg,hb,Aaa,hcm,?_,?_⟩⟩
 .rw [aFs,adu _ _ h2 hcl,show cur.toList.length=cur.size from aE9,hcs]
 .exact Zk cur.toList l h2 hcl):P:=h
theorem atT.AbI(h:P:=by
 have hce:cur=(GR.flat aN l++cur.toList.drop (l.length*4)).toArray:=by
  rw [<-htk,aFm,Array.toArray_toList]
 have hlr:l.length*4+(cur.toList.drop (l.length*4)).length=cap*4:=by
  rw [aE8,show cur.toList.length=cur.size from aE9,hcs];omega
 rw [hce] at hgg;have hlen:(l.eraseIdx (qb l m)).length=l.length - 1:=aFr h;refine(Ud g cap l _ B (qb l m) m w hl h hno hnc hcm hlr hB hgg hix).mono ?_;rintro e w' ⟨rfl,⟨r2,hS2,hr2⟩,hgr⟩;refine⟨some ⟨g,0,none⟩,cap,by rw [hlen],?_,hgr,λx hx=>hx⟩;rw [hlen];refine⟨by rw [mW,hlen],.inr ⟨g,cap,_,rfl,hbg,hS2,Aaa,hcm,?_,?_⟩⟩
 .rw [aFs,aEC,mW,hlen];exact hr2
 .exact List.take_left' (by rw [mW,hlen])):P:=h
theorem O7(h:P:=by
 have y0:=aEv p0;have y1:=aEv p1;have y2:=aEv p2;have y3:=aEv p3;exact AaX):P:=h
theorem atU.AaX(h:P:=by
 have y4:=aEv c4;clear HO p0 p1 p2 p3 c4;open aAC in exact TB):P:=h
theorem atV.AaX(h:P:=by
 have y4:=aEv p4;have y5:=aEv p5;have y6:=aEv p6;exact AaR):P:=h
theorem atW.AaX(h:P:=by
 clear HO p0 p1 p2 p3;open aAE in exact TB):P:=h
theorem atY.AaX(h:P:=by
 clear HO p0 p1 p2 p3;open aAD in exact TB):P:=h
theorem atZ.AaX(h:P:=by
 have y4:=aEv c4;clear HO p0 p1 p2 p3 c4;open aAI in exact TB):P:=h
theorem ag4(h:P:=by
 rw [<-hW] at e1 e2 e3;have HN:=Hq e1;have HR:=Hq e2;have HB0:=Hq e3;have Oo:=Hq (jD.kc (k:=9) (KC.of_below e3) Aaa);clear hW e1 e2 e3 jD hbw0 hlo;obtain⟨c0,c1,c2,c3,c4,c5,c6,c7,c8⟩:=nine HN;have hnl:=ay HN;exact AdN):P:=h
theorem at6.AdN(h:P:=by
 have tV:=Hq HR;obtain⟨⟨d0,d1,d2,d3,d4,d5,d6,d7,d8⟩,f0,f1,f2,f3,f4,f5,f6,f7,f8⟩:=iG tV;have hrl:=ay tV;go_wp2_with fail;refine jW results99 rfl rfl rfl tV (λW' e4 eX=>?_);have HAT:=Hq (λW'' (ho:Out c w W' W'')=>(Oo.kc (k:=9) ((KC.keeps eX (λx hx=>by have:x=w.heap.size+1:=Aad;rw [this];exact aY Aaa)).trans (KC.out H9 ho)) Aaa).rm);have qG:Hid (Below B w W'):=(HB0.mono hB).trans (eX.below (λx hx=>by have:x=w.heap.size+1:=Aad;omega) (aEA hB (HB0.mono hB).size));have xA:=Hq (Apart.keeps (c:=c) (Apart.of_below (HB0)) (HB0.mono hB).size eX (λx hx=>by have:x=w.heap.size+1:=Aad;omega));clear e4 eX;exact⟨A,rfl,HAT,qG,xA⟩):P:=h
theorem at7.AdN(h:P:=by
 go_wp2_with fail;refine(OO W0 Oo.at.r).mono ?_;open avj in exact aht):P:=h
theorem aaS(h:P:=by
 have xB:=Hq (λw1 (hw:WK w0 w1 wb n A G c v L)=>Oi w0 w1 wb n A G c v L o.no hok h0 h1 hw);rw [hf] at xB;have hlen:=(iL hok).2.1;exact AbS):P:=h
theorem aua.AbS(h:P:=by
 clear hR h0 h1 hok hf hgd afl;generalize dV n.reqs o.no=i at *;open aAz in exact Yk9):P:=h
theorem aub.AbS(h:P:=by
 generalize dV n.reqs o.no=i at *;generalize Gp n.reqs[i] o.k o.n=SQ at *;clear hR h0 h1 hok hf hgd;open aAw in exact Yk9):P:=h
theorem auc.AbS(h:P:=by
 clear hR h0 h1 hok hf hgd afl;generalize dV n.reqs o.no=i at *;have JV:=Hq (λw1 (hw:WK w0 w1 wb n A G c v L)=>Qn A.p A.cp n.pu n.reqs[i].k n.reqs[i].n E w1 hz.p hz.pk (hz.rk _ (aEL hil)) hw.no.p.at (he.below hw.keep));unfold jK at JV;generalize cK n.pu n.reqs[i].k 0 1 (-1) n.reqs[i].n=r at *;open aAt in exact Yk9):P:=h
theorem ag5(h:P:=by
 have hblk:V.heap[wr.heap.size]?=some (.cells (iK pk pm pf ps) 142 (0,0)):=by rw [hV];exact aEu wr _
 exact AdM):P:=h
theorem aud.AdM(h:P:=by
 have hPV:=HP.below hbV;have XH:=Hq hPV;have H7:=Hq hblk;have HVS:=Hq (show V.heap.size=wr.heap.size+1 by rw [hV];simp);have wJ:=Hq (aO.trans (hbV.mono aO.size));obtain⟨⟨p0,p1,p2,p3⟩,_⟩:=fG hblk;obtain⟨⟨n0,n1⟩,f0,f1⟩:=lY hPV.blk
 have HRW:=Hq (show V.ownsRow w.heap.size 9 1 (.slice aa k cc) k (((l.take k).map (·.k)).map Value.string) by
  have:=hPV.row
  rw [aFo,aEX,aFH hk] at this
  exact this)
 have HGR:=Hq (show∀w2:World,((V.alloc (.cells #[.string pk] 9)).drew).grownBy w2 (Value.slice aa k cc).ownBlock->
  w2.heap[w1.heap.size+1]?=some (.cells #[.slice aa k cc,.map (some w1.heap.size)] 392 (0,0))/\w2.heap[w1.heap.size]?=V.heap[w1.heap.size]?/\w2.heap[wr.heap.size]?=V.heap[wr.heap.size]?/\Below w.heap.size V w2 by
  intro w2 hg
  have hb:∀q,q < V.heap.size->(Value.slice aa k cc).ownBlock≠some q->w2.heap[q]?=V.heap[q]?:=λq hq hne=>by
   rw [hg.block q (by show q < (V.alloc _).heap.size;simp;omega) (Ne.symm hne)]
   exact aEI V _ _ hq
  obtain⟨es,clock,hmap⟩:=hPV.map.blk
  refine⟨?_,hb _ hPV.map.lt (yX HRW hmap),hb _ (Fo.lt_of_blk hblk) (own_ne HRW hblk Aag),?_⟩
  .rw [hb _ (Fo.lt_of_blk hPV.blk) (own_ne (ah HRW) hPV.blk Aag)];exact hPV.blk
  .refine⟨hg.os,hg.tape,hg.output,aEA (by show V.heap.size<=(V.alloc _).heap.size;simp) hg.size,λq hq=>hb q (by have:=wJ.size;omega) (λe=>?_)⟩;have:=HRW.lt _ e
   omega)
 have n2:(V.alloc (.cells #[.string pk] 9)).cell? ⟨w1.heap.size+1,0,none⟩=some (.slice aa k cc):=by rw [aEO _ _ _ (Fo.lt_of_blk hPV.blk)];exact n0
 clear hblk hbV hPV hV c0 c1 c2 c3 n1 f1;go_region_law (refine step_append_lies _ rfl (.tmp 24) (.tmp 27) 26 rfl w.heap.size 9 i0 (.string ⟨#[]⟩) 1 16 underlying26 hi hz0 hz1 hz2 rfl Aag (.slice aa k cc) k (((l.take k).map (·.k)).map Value.string) Aan (HRW.alloc _).drew ⟨V.heap.size,0,none⟩ 1 1 [.string pk] Aan rfl (aFj (w:=(V.alloc (.cells #[.string pk] 9)).drew) (aEu V _)) (λu hu=>by rw [aEM.1 hu];rfl) Aaa Aai Aaa (by have:=wJ.size;simp;omega) (V.heap.size+1) Aac ?_;intro g' cap' w2 hown hgrow hat hlt2;have hK2:=ah HGR w2 hgrow;have HOW:=Hq hown;clear hown hgrow hat hlt2;have HM2:=Hq hK2.1;have HX2:=Hq hK2;obtain⟨⟨y0,y1⟩,z0,z1⟩:=lY hK2.1;clear hK2 y1 z1)
 all_goals
  go_upto_region 8 with fail
  refine Fo.wp_at (λV3 hV3=>?_)
  obtain⟨hx1,hx2,hx3,hx4⟩:=ah HX2
  have aDM:w1.heap.size+1 < wr.heap.size:=Fo.lt_of_blk HP.blk
  have hblk3:V3.heap[w1.heap.size+1]?=some (.cells #[.slice (some ⟨g',0,none⟩) (k+1) cap',.map (some w1.heap.size)] 392 (0,0)):=by rw [hV3];exact Fo.blk_set hx1 0 _
  have ayp:V3.heap[wr.heap.size]?=some (.cells (iK pk pm pf ps) 142 (0,0)):=by
   rw [hV3,Fo.one_other rfl Aaa,hx3];exact H7
  have ab5:iA V3 w1.heap.size k (aD (l.take k)):=XH.map.kept (by rw [hV3,Fo.one_other rfl Aaa,hx2])
  have hrow3:V3.ownsRow w.heap.size 9 1 (.slice (some ⟨g',0,none⟩) (k+1) cap') (k+1) (((l.take k).map (·.k)).map Value.string++[.string pk]):=by
   rw [hV3];exact HOW.kept (w':=w2.setCell ⟨w1.heap.size+1,0,none⟩ _) (row:=some (w1.heap.size+1)) ⟨rfl,rfl,rfl,by rw [Fo.setCell_size];exact aEx _,λq _ hne=>Fo.one_other rfl (λe=>hne Aao)⟩ (.inr (own_ne HOW hx1 Aag))
  have hkeys:(l.take (k+1)).map (·.k)=(l.take k).map (·.k)++[pk]:=by rw [ah OZ];simp
  have azV:=Hq (show PM V3 w.heap.size (w1.heap.size+1) w1.heap.size k (.slice (some ⟨g',0,none⟩) (k+1) cap') ((l.take (k+1)).map (·.k)) (aD (l.take k)) by
   refine⟨hblk3,?_,ab5,HP.lop,HP.lom⟩
   rw [hkeys,List.map_append,aEC,aFo,aEX,aFH hk]
   exact hrow3)
  have HB3:=Hq (show aG w V3 by rw [hV3];exact(wJ.trans hx4).setCell (p:=⟨w1.heap.size+1,0,none⟩) HP.lop _)
  have ajQ:=Hq (Xc (w1.heap.size+1) w1.heap.size k _ (aD (l.take k)) ⟨pk,pm,pf,ps⟩ V3 hkk Aai hblk3 ab5)
  obtain⟨⟨r0,r1,r2,r3⟩,_⟩:=fG ayp
  clear hx1 hx2 hx3 hx4 hblk3 ayp ab5 hrow3 hkeys hV3 y0 z0 n0 n2 p0 p1 p2 p3 f0
  go_wp2_with fail
  refine ajQ.mono ?_
  rintro e w5 ⟨rfl,hm5,hk5⟩
  have Iz:=Hq (azV.turned hk5 hm5)
  have fI:=Hq (HB3.trans (Dc hk5 HP.lom HB3.size))
  clear hm5 hk5 r0 r1 r2 r3
  go_wp2_with fail
  go_roundw
  case rel=>
   have h:=ah Iz;rw [ah HUP] at h;exact⟨k+1,_,_,Aaa,Aaf,h,fI⟩
  case measure=>simp[intOf];omega):P:=h
theorem aue.AdM(h:P:=by
 have wJ:=Hq (show aG w V by rw [hV];exact aO.alloc aO.size _);have hgV:=Fo.lt_of_blk hblk;obtain⟨⟨p0,p1,p2,p3⟩,_⟩:=fG hblk;exact Aa1):P:=h
theorem EP(h:P:=by
 iterate 2 (refine iy (λK hK=>?_);go_simp;refine hK _ ?_;clear hK K)
 refine jm ?_;exact AaS):P:=h
theorem auf.AaS(h:P:=by
 refine aS Aab (λz hz=>?_);refine an 20 ?_;go_simp;refine(HST z hz).mono ?_;rintro e z2 ⟨rfl,A',G',c',hZ⟩;have HZ:=Hq hZ;clear hZ HST hz;obtain⟨rl,rb⟩:=r;dsimp only at HZ ⊢;refine an 21 ?_;go_simp;refine an 22 ?_;go_simp;refine ad ?_;go_simp;cases rb
 all_goals
  go_wp2_with fail
  go_ret
  exact⟨rfl,A',G',c',HZ⟩):P:=h
theorem aug.AaS(h:P:=by
 refine aS Aab (λu hu=>?_);refine an 23 ?_;go_simp;refine(HST u hu).mono ?_;rintro e z2 ⟨rfl,A',G',c',hZ2,hA2⟩;have HZ2:=Hq hZ2;have HA2:=Hq (hA2.trans hAr);clear hZ2 HST hu hA2 d0 d1 d2 d3 d4 d5 d6 d7 d8 d9 q0 q1 q2 q3 qf;obtain⟨rl,rb⟩:=r;dsimp only at HZ2 ⊢;refine an 24 ?_;go_simp;refine ad ?_;go_simp;cases rb
 .rw [aEG Aac] at HZ2;obtain⟨g6,hA6,_,hg6,⟨s0,s1,s2,s3⟩,sf⟩:=HZ2.reqRow i hil;rw [ah HA2] at hA6;cases hA6
  rw [hs] at s3;go_wp2_with fail;go_ret;exact⟨rfl,A',G',c',HZ2⟩
 .rw [aER rfl] at HZ2;obtain⟨g6,hA6,_,hg6,⟨s0,s1,s2,s3⟩,sf⟩:=HZ2.reqRow i hil;rw [ah HA2] at hA6;cases hA6
  have Ew:=Hq (HZ2.reqSet i hil g HA2);clear HZ2 HZ1 HX HW;go_wp2_with fail;go_ret;exact⟨rfl,A',G',c',Ew⟩):P:=h
theorem auh.AaS(h:P:=by
 refine aS Aab (λz hz=>?_);have tZ:=Hq (Eu.trans (hz.mono Eu.size));have HZP:=Hq (aj HYP hz);refine an 20 ?_;go_simp;refine(HST z hz).mono ?_;rintro e z2 ⟨rfl,A',G',c',hZ,hko,hcc⟩;have HZ:=Hq (HW.settled tZ hZ hko hcc);have mD:=Hq (hko w.heap.size _ Aaa HZP);have Ig:Hid (∀j o,j≠wb->w.heap[j]?=some o->z2.heap[j]?=some o):=λj o h1 h2=>hko j o h1 (aj h2 tZ)
 clear hZ hko hcc HST hz tZ HZP HYP Eu HXP jL;obtain⟨rl,rb⟩:=r;dsimp only at HZ ⊢;refine an 21 ?_;go_simp;refine an 22 ?_;go_simp;refine ad ?_;go_simp;cases rb
 .go_wp2_with fail;go_ret;exact⟨rfl,⟨A',G',c',HZ.wk,HZ.bk,HZ.si.mono (Nat.le_succ k),HZ.cs,HZ.cm⟩,λj o h1 _ h3=>Ig j o h1 h3⟩
 .obtain⟨⟨p0,p1,p2,p3,p4,p5,p6⟩,_⟩:=dY mD;obtain⟨⟨d0,d1⟩,_⟩:=lY HZ.bk;have hsl2:=ay HZ.bk;have ak3:=ay mD;have hI1:fq z2.drew mb k l:=HZ.si.kept rfl;obtain⟨z3,hrun,SV,hK3⟩:=hI1.store mI hi0 hi1 Aai;have HR:=Hq (HZ.put SV (Keeps.trans (b:=z2.drew) (Keeps.of_below (aEK _ _).drew) hK3))
  have HK4:Hid (∀j o,j≠wb->j≠mb->w.heap[j]?=some o->z3.heap[j]?=some o):=λj o h1 h2 h3=>by
   have h4:=ah Ig j o h1 h3
   rw [hK3.block j (ay h4) h2]
   exact h4
  clear hI1 SV hK3 mD;go_wp2_with fail;go_region
  all_goals
   go_wp2_with fail
   go_ret
   exact⟨rfl,⟨A',G',c',HR⟩,HK4⟩):P:=h
theorem aui.AaS(h:P:=by
 clear y0 y1 y2 y3 y4 y5 y6 y7 y8;refine dB 2 rfl Aab Aah (λx hx=>?_);go_simp;refine(jr x A1 (BF.at.below hx)).mono ?_;rintro e y ⟨ma,mc,rfl,g,hmw,hml,hby⟩;refine⟨hby,?_⟩;have HY:=Hq (Ge.trans hx hby);have hxs:=hx.size;clear hx hby jr gu HOX p0 p1 p2 p3 p4 p5 p6 p7 p8 p9 nI hnl hol;refine aS Aab (λz hz=>?_);have HZ:=Hq (Ge.trans HY hz);have HRZ:=Hq (aj tV HZ);have tZ:=Hq (jL.trans (HZ.mono jL.size));have Ir:=Hq (BF.kc (k:=9) (KC.of_below HZ) Aaa);have Ml:∀x'∈fp g L1,(λq=>if q<=w.heap.size+2 then 9 else 0) x'=0:=λx' hx'=>aEG (by have:=(hml x' hx').1;have:=ay tV;omega)
 have HMW:=Hq ((KC.of_below (c:=λq=>if q<=w.heap.size+2 then 9 else 0) (k:=9) hz).w hmw Ml Aaa);have aml:=Hq Ml;clear hz Ml hmw hml HY HZ BF jL tV;obtain⟨⟨d0,d1,d2,d3,d4,d5,d6,d7,d8⟩,f0,f1,f2,f3,f4,f5,f6,f7,f8⟩:=iG HRZ;have hrl:=ay HRZ;refine an 3 ?_;go_simp;refine an 4 ?_;go_simp;refine an 5 ?_;go_simp;refine ad ?_;go_simp;clear d0 d1 d2 d3 d4 d5 d6 d7 d8 f0 f1 f2 f3 f4 f5 f6 f7 f8 hrl;go_wp2_with fail;refine eB (u1:= .slice ma L1.length mc) (u2:= .int .i64 0) results68 rfl rfl rfl rfl HRZ (λW' e4 eX=>?_);have HMT:=Hq ((KC.keeps (c:=λq=>if q<=w.heap.size+2 then 9 else 0) (k:=9) eX (λx hx=>aER (by have:x=w.heap.size+2:=(by simpa using hx);omega))).w HMW aml Aaa);have HAT:=Hq (λW'' (ho:Ee w W' W'')=>((Ir.kc (k:=9) (KC.keeps eX (λx hx=>by have:x=w.heap.size+2:=Aad;rw [this];exact Iq)) Aaa).kc (k:=9) (ho.kc (λx hx=>HC9 x Aaa)) Aaa).rm);have qG:Hid (aG w W'):=tZ.trans (eX.below (λx hx=>by have:x=w.heap.size+2:=Aad;omega) tZ.size);clear e4 eX;exact⟨A1,ma,⟨mc,rfl⟩,HAT,λW'' ho=>((ho.kc (c:=λq=>if q<=w.heap.size+2 then 9 else 0) (k:=9) (λx hx=>aER Aaa)).w HMT aml Aaa).at,qG⟩):P:=h
theorem auj.AaS(h:P:=by
 refine dJ Aab (λz hz=>?_);have tX:=Hq (HS.below hz hg);clear hz x0 x1 y0 y1 y2 y3 y4 y5 y6 y7 y8 y9 y10 HS nD;go_simp;cases hbo:bo
 .have hno:OK=false:=by rw [aGp];intro hy;have:=(HG.1 hy).2.2;rw [hbo] at this;cases this
  subst hbo;go_wp2_with fail;refine(HF _ tX.rd).mono ?_;rintro e w9 ⟨rfl,rfl⟩;go_wp2_with fail;exact⟨rfl,.inr ⟨hno,_,rfl⟩,tX.keep⟩
 .have hyes:OK=true:=HG.2 ⟨HES,HYE.2,hbo⟩;subst hbo;have az1:=Hq hyes;clear hyes;have hzo:=cu tX.op;have hlo:=tX.lo;obtain⟨⟨c0,c1,c2,c3,c4,c5,c6,c7,c8,c9,c10⟩,_⟩:=aJ tX.op;obtain⟨⟨d0,d1,d2,d3,d4,d5,d6,d7,d8,d9,d10⟩,f0,f1,f2,f3,f4,f5,f6,f7,f8,f9,f10⟩:=aJ tX.res;go_wp2_with fail;refine gY (λW' hW'=>?_);obtain⟨⟨r0,r1,r2,r3,r4,r5,r6,r7,r8,r9,Za⟩,_⟩:=aJ (show W'.heap[w.heap.size]?=some (.cells (bE (s[0].toNat:Int) N1 TX N2 mK mF mT mI mL mk mN) 106 (0,0)) by rw [hW'];exact lC tX.res)
  have WX:dD g w W':=by
   rw [hW'];exact(((((((((((tX.keep.setNew (aEx _)).setNew (aEx _)).setNew (aEx _)).setNew (aEx _)).setNew (aEx _)).setNew (aEx _)).setNew (aEx _)).setNew (aEx _)).setNew (aEx _)).setNew (aEx _)).setNew (aEx _))
  exact aEE (v:= .agg (bE (s[0].toNat:Int) N1 TX N2 mK mF mT mI mL mk mN)) (by simp[results,results217,go_sem,r0,r1,r2,r3,r4,r5,r6,r7,r8,r9,Za]) rfl ⟨.inl ⟨az1,rfl⟩,WX⟩):P:=h
theorem auk.AaS(h:P:=by
 refine dJ Aab (λz hz=>?_);have tZ:=Hq (gK.trans (hz.mono gK.size));exact AaH):P:=h
theorem aul.AaS(h:P:=by
 refine dJ Aab (λz hz=>?_);have HZ:=Hq ((au w (.cells (bH mK mF mT mI mL mk mN) 104)).trans (hz.mono Aac));clear hz y0 y1 y2 y3 y4 y5 y6 y7 y8 z1 z2 Tw;go_simp;go_wp2_with fail;go_ret;exact⟨rfl,HZ⟩):P:=h
theorem ag6(h:P:=by
 go_wp2_with fail;refine(DC _ jC).mono ?_;rintro e w1 ⟨rfl,hb1⟩;have HB1:=Hq (aj HB0 hb1);have jM:=Hq (jC.trans (hb1.mono jC.size));exact Aeb):P:=h
theorem aum.Aeb(h:P:=by
 clear hb1 c0 c1 c2 c3 c4 c5 c6 c7 c8 DC;obtain⟨c0,c1,c2,c3,c4,c5,c6,c7,c8⟩:=nine HB1;cases h1:PL
 case' false=>
  have HV:=Hq (show bb=true by rw [<-ah eG];simp[h1])
  clear eG h1
  go_wp2_with fail
  go_meet
  case rel=>exact⟨Aam,HB1,jM⟩
 go_wp2_with fail;refine(HPU _ jM).mono ?_;rintro e w2 ⟨rfl,hb1⟩;have HB2:=Hq (aj HB1 hb1);have HL2:=Hq (jM.trans (hb1.mono jM.size));clear hb1 c0 c1 c2 c3 c4 c5 c6 c7 c8 HPU;obtain⟨c0,c1,c2,c3,c4,c5,c6,c7,c8⟩:=nine HB2;cases h2:PS
 case' false=>
  have HV:=Hq (show bb=true by rw [<-ah eG];simp[h2])
  clear eG h2
  go_wp2_with fail
  go_meet
  case rel=>exact⟨Aam,HB2,HL2⟩
 go_wp2_with fail;refine(Bq _ HL2).mono ?_;rintro e w3 ⟨rfl,hb1⟩;have HB3:=Hq (aj HB2 hb1);have lu:=Hq (HL2.trans (hb1.mono HL2.size));clear hb1 c0 c1 c2 c3 c4 c5 c6 c7 c8 Bq;obtain⟨c0,c1,c2,c3,c4,c5,c6,c7,c8⟩:=nine HB3;cases h3:TD
 case' false=>
  have HV:=Hq (show bb=true by rw [<-ah eG];simp[h3])
  clear eG h3
  go_wp2_with fail
  go_meet
  case rel=>exact⟨Aam,HB3,lu⟩
 cases h4:fC next
 case' false=>
  have HV:=Hq (show bb=true by rw [<-ah eG];simp[h4])
  clear eG h1 h2 h3
  go_wp2_with (go_at_call 59;refine(dZ _ _ _ h4).mono ?_;rintro e w9 ⟨rfl,rfl⟩)
  go_meet
  case rel=>exact⟨Aam,HB3,lu⟩
 by_cases h5:out.length<=40
 case' neg=>
  have hq:decide ((40:Int) < out.length)=true:=aEy Aaa
  have HV:=Hq (show bb=true by rw [<-ah eG];simp[h5])
  clear eG h1 h2 h3
  go_wp2_with (go_at_call 59;refine(dZ _ _ _ h4).mono ?_;rintro e w9 ⟨rfl,rfl⟩)
  go_meet
  case rel=>exact⟨Aam,HB3,lu⟩
 have hq:decide ((40:Int) < out.length)=false:=aEw Aaa;cases h6:qM old
 case' false=>
  have Lv:=Hq (λw1=>acM old false w1 h6)
  have HV:=Hq (show bb=true by rw [<-ah eG];simp[h6])
  clear eG h1 h2 h3
  go_wp2_with (first|(go_at_call 59;refine(dZ _ _ _ h4).mono ?_;rintro e w9 ⟨rfl,rfl⟩)|(go_at_call 60;refine(Lv _).mono ?_;rintro e w9 ⟨rfl,rfl⟩))
  go_meet
  case rel=>exact⟨Aam,HB3,lu⟩
 have Lv:=Hq (λw1=>acM old true w1 h6);by_cases h7:reqs.length<=30
 case' neg=>
  have hq2:decide ((30:Int) < reqs.length)=true:=aEy Aaa
  have HV:=Hq (show bb=true by rw [<-ah eG];simp[h7])
  clear eG h1 h2 h3
  go_wp2_with (first|(go_at_call 59;refine(dZ _ _ _ h4).mono ?_;rintro e w9 ⟨rfl,rfl⟩)|(go_at_call 60;refine(Lv _).mono ?_;rintro e w9 ⟨rfl,rfl⟩))
  go_meet
  case rel=>exact⟨Aam,HB3,lu⟩
 have hq2:decide ((30:Int) < reqs.length)=false:=aEw Aaa;have HV:=Hq (show bb=false by rw [<-ah eG];simp[h1,h2,h3,h4,h5,h6,h7]);clear eG h1 h2 h3;go_wp2_with (first|(go_at_call 59;refine(dZ _ _ _ h4).mono ?_;rintro e w9 ⟨rfl,rfl⟩)|(go_at_call 60;refine(Lv _).mono ?_;rintro e w9 ⟨rfl,rfl⟩))
 go_meet
 case rel=>exact⟨Aam,HB3,lu⟩):P:=h
theorem aun.Aeb(h:P:=by
 clear hb1 c0 c1 c2 c3 c4 c5 c6 c7 c8;obtain⟨c0,c1,c2,c3,c4,c5,c6,c7,c8⟩:=nine HB1;cases h1:PL
 case' false=>
  have HP:=Hq (show TT=false by rw [ah HD];simp[h1]);clear h1 HD;go_wp2_with fail;go_ret;exact⟨aF HP.symm,jM⟩
 go_wp2_with fail;refine(HPU _ jM).mono ?_;rintro e w2 ⟨rfl,hb1⟩;have HB2:=Hq (aj HB1 hb1);have HL2:=Hq (jM.trans (hb1.mono jM.size));clear hb1 c0 c1 c2 c3 c4 c5 c6 c7 c8;obtain⟨c0,c1,c2,c3,c4,c5,c6,c7,c8⟩:=nine HB2;cases h2:PS
 case' false=>
  have HP:=Hq (show TT=false by rw [ah HD];simp[h2]);clear h2 HD;go_wp2_with fail;go_ret;exact⟨aF HP.symm,HL2⟩
 cases h3:fC next
 case' false=>
  have HP:=Hq (show TT=false by rw [ah HD];simp[h3]);have H3:=Hq (λw1=>aL next false w1 h3);clear h3 HD;go_wp2_with (go_at_call 179;refine(H3 _).mono ?_;rintro e w9 ⟨rfl,rfl⟩)
  go_ret;exact⟨aF HP.symm,HL2⟩
 have H3:=Hq (λw1=>aL next true w1 h3);go_wp2_with (go_at_call 179;refine(H3 _).mono ?_;rintro e w9 ⟨rfl,rfl⟩)
 refine(HOT _ HL2 h1).mono ?_;rintro e w3 ⟨rfl,hb1⟩;have HB3:=Hq (aj HB2 hb1);have lu:=Hq (HL2.trans (hb1.mono HL2.size));clear hb1 c0 c1 c2 c3 c4 c5 c6 c7 c8;obtain⟨c0,c1,c2,c3,c4,c5,c6,c7,c8⟩:=nine HB3;cases h4:OT
 case' false=>
  have HP:=Hq (show TT=false by rw [ah HD];simp[h4]);clear h4 HD;go_wp2_with fail;go_ret;exact⟨aF HP.symm,lu⟩
 go_wp2_with fail;refine(HSE _ lu h1).mono ?_;rintro e w4 ⟨rfl,hb1⟩;have mh:=Hq (aj HB3 hb1);have xU:=Hq (lu.trans (hb1.mono lu.size));clear hb1 c0 c1 c2 c3 c4 c5 c6 c7 c8;obtain⟨c0,c1,c2,c3,c4,c5,c6,c7,c8⟩:=nine mh;cases h5:TD
 case' false=>
  have HP:=Hq (show TT=false by rw [ah HD];simp[h5]);clear h5 HD;go_wp2_with fail;go_ret;exact⟨aF HP.symm,xU⟩
 go_wp2_with fail;refine(HRE _ xU).mono ?_;rintro e w5 ⟨rfl,hb1⟩;have fI:=Hq (aj mh hb1);have HL5:=Hq (xU.trans (hb1.mono xU.size));clear hb1 c0 c1 c2 c3 c4 c5 c6 c7 c8;obtain⟨c0,c1,c2,c3,c4,c5,c6,c7,c8⟩:=nine fI;have HP:=Hq (show TT=RQ by rw [ah HD];simp[h1,h2,h3,h4,h5]);clear h1 h2 h3 h4 h5 HD;go_wp2_with fail;go_ret;exact⟨aF HP.symm,HL5⟩):P:=h
theorem ag7(h:P:=by
 have HID:Hid ((takeN n o.m).1.id=n.id):=by
  exact aw7
 have HSY:=Hq (λW A G c n' (hW:WK w0 W wb n' A G c v L)=>XA w0 W wb n' A G c v L ⟨2,n'.id,o.m.F,o.m.I,0,ByteArray.empty,0⟩ Aac Aaa hW);rw [ah HR];exact Adb):P:=h
theorem auo.Adb(h:P:=by
 unfold XY;rw [<-ah HID];open anL in exact awe):P:=h
theorem aup.Adb(h:P:=by
 open anM in exact awe):P:=h
theorem ag8(h:P:=by
 refine Ip 23 ?_;refine tk [0,1,2,3,4,5,6,7,8,9,10,11,12,13,14,15,16,17,18,19,20,21,22] ?_;iterate 23 (refine iy (λK hK=>?_);go_simp;refine hK _ ?_;clear hK K)
 refine jm ?_;refine dJ Aab (λz hz=>?_);exact AcQ):P:=h
theorem auq.AcQ(h:P:=by
 have HZ:=Hq (HW1.step hz);clear hz y1;go_simp;go_wp2_with fail;go_ret;exact⟨rfl,A,G,c,HZ⟩):P:=h
theorem aur.AcQ(h:P:=by
 have HZ:=Hq ((au w (.cells (bH mK mF mT mI mL mk mN) 104)).trans (hz.mono Aac));clear hz y4 z3 z5 z6 x1 hlen;go_simp;go_wp2_with fail;go_ret;exact⟨rfl,HZ⟩):P:=h
theorem ag9(h:P:=by
 have hlit:(w.alloc (.cells #[] e)).ownsRow w.heap.size e sz (.slice (some ⟨w.heap.size,0,none⟩) 0 0) 0 []:=aFb (base:=w.heap.size) (e:=e) (size:=sz) w #[] 0 (aEx _) Aai Aac;exact Ad8):P:=h
theorem aus.Ad8(h:P:=by
 exact⟨some ⟨w.heap.size,0,none⟩,0,w.alloc (.cells #[] e),λty=>ou (w.alloc (.cells #[] e)) w.heap.size t ty e i sz ht hi _ 0 [] hlit a c,hlit,au w _,λ_=>rfl⟩):P:=h
theorem aut.Ad8(h:P:=by
 by_cases hl0:l.length=0
 .have hn:l=[]:=aEZ hl0;subst hn;refine⟨some ⟨w.heap.size,0,none⟩,0,w.alloc (.cells #[] e),λty=>ou (w.alloc (.cells #[] e)) w.heap.size t ty e i sz ht hi _ 0 [] hlit a c,hlit,au w _,⟨_,rfl⟩,aEx _⟩
 .obtain⟨v',w',hr,ho,hg,_⟩:=ql (P:=P) hs hz (w.alloc (.cells #[] e)) w.heap.size t 0 e i z bytes ht hi hz0 hsize hby hzs _ 0 [] hlit a l c (GR.At.below ha (au w _)) h1 Aaa (by rw [aFq];exact hbytes) Aac;rw [aFq,aFN] at ho;obtain⟨a',c',rfl,_⟩:=GR.own_at (enc:=enc) (sz:=sz) hs ho;refine⟨a',c',w',λty=>hr,ho,(au w _).grown hg Aac (λk hk=>Acl),?_⟩;rcases ho.2 with⟨_,hn⟩|⟨g,cap,cur,hv,_,_,hnc,_⟩
  .omega
  .grind):P:=h
theorem aha(h:P:=by
 have HAT:=Hq (λW'' (ho:Ee w W' W'')=>((BF.kc (k:=9) (KC.keeps eX (λx hx=>by have:x=w.heap.size+2:=Aad;rw [this];exact Iq)) Aaa).kc (k:=9) (ho.kc (λx hx=>HC9 x Aaa)) Aaa).rm);exact Aep):P:=h
theorem auu.Aep(h:P:=by
 have HMT:=Hq (λW'' (ho:Ee w W' W'')=>TI (c:=c) (w:=w) HMZ (ho.out0 HC9) hmb);have qG:Hid (aG w W'):=jL.trans (eX.below (λx hx=>by have:x=w.heap.size+2:=Aad;omega) jL.size);obtain⟨x0,x1,x2,x3,x4,x5,x6,x7,x8⟩:=nine HRZ;clear eX;exact AdW):P:=h
theorem auv.Aep(h:P:=by
 have qG:Hid (aG w W'):=jL.trans (eX.below (λx hx=>by have:x=w.heap.size+2:=Aad;omega) jL.size);clear e4 eX;exact⟨A1,some ⟨w.heap.size+1+1+1,0,none⟩,0,rfl,HAT,λW'' _ i hi=>Aau,qG⟩):P:=h
theorem aaT(h:P:=by
 refine tk [0,1,2,3,4,5,6,7,8,9,10,11,12,13,14,15,16] ?_;iterate 17 (refine iy (λK hK=>?_);go_simp;refine hK _ ?_;clear hK K)
 refine jm ?_;exact Ab9):P:=h
theorem auw.Ab9(h:P:=by
 clear y1 y4 z2 z3;refine dB 17 rfl Aab Aah (λx hx=>?_);go_simp;have jL:=Hq ((au w (.cells (bE K no k nn mK mF mT mI mL mk mN) 106)).trans (hx.mono Aac));clear hx;refine(HMI x jL).mono ?_;rintro e y ⟨a,cp,g,hg,rfl,hp,hby⟩;refine⟨hby,?_⟩;have Eu:=Hq (jL.trans (hby.mono jL.size));have HST:=Hq (λz (hz:Ge y z)=>Xt (cp:=cp) HW (Eu.trans (hz.mono Eu.size)) (aEA jL.size hg) (hp.below hz));clear hby hg hp HMI;refine tk [18,19] ?_;open auf in exact EP):P:=h
theorem auy.Ab9(h:P:=by
 clear y1 z2 z3;refine aS Aab (λx hx=>?_);have JU:=Hq (IB x c v (HW1.step hx));clear hx;refine an 17 ?_;go_simp;refine JU.mono ?_;rintro e y ⟨rfl,A',G',c',v',hY⟩;have HY:=Hq hY;clear hY JU;refine an 18 ?_;go_simp;refine an 19 ?_;go_simp;refine ad ?_;go_simp;cases gb
 all_goals
  go_wp2_with fail
  go_ret
  exact⟨rfl,A',G',c',v',HY⟩):P:=h
theorem auz.Ab9(h:P:=by
 clear y4 z3 z5 z6 x1;refine dB 17 rfl Aab Aah (λx hx=>?_);go_simp;have jL:=Hq ((au w (.cells (bH mK mF mT mI mL mk mN) 104)).trans (hx.mono Aac));have HXP:=Hq (aj kU hx);clear hx;refine(HGN x jL).mono ?_;rintro e y ⟨a,cp,g,hg,rfl,hp,hby⟩;refine⟨hby,?_⟩;have Eu:=Hq (jL.trans (hby.mono jL.size));have HYP:=Hq (aj HXP hby);have HST:=Hq (λz (hz:Ge y z)=>Xr (cp:=cp) HW.wk (Eu.trans (hz.mono Eu.size)) (aEA jL.size hg) (hp.below hz));clear hby hg hp HGN;refine tk [18,19] ?_;open auh in exact EP):P:=h
theorem ahb(h:P:=by
 clear h1 HST BI HX2;refine aEJ Aab Aab ?_;repeat (first|go_big_quiet_step ((first|(go_at_call 197;exact cS _ _)))|quiet_step ((first|(go_at_call 197;exact cS _ _))))
 exact AdX):P:=h
theorem auA.AdX(h:P:=by
 open avm in exact Ww):P:=h
theorem auB.AdX(h:P:=by
 exact ahU):P:=h
theorem ahc(h:P:=by
 obtain⟨k,y,hk,rfl,rfl,hy,hall,hblk,hbel⟩:=hrel;have kS:=Hq hall;have HY:=Hq hy;have aO:=Hq hbel;have H7:=Hq hblk;exact Adk):P:=h
theorem auC.Adk(h:P:=by
 have hy0:0<=y:=by rw [hy];exact HLB k hall
 clear hall hy hblk hbel;by_cases hlt:k < out.length
 case' neg=>
  open aqm in exact aa3
 obtain⟨g,off,e0,hgw,q0,q1,q2,q3⟩:=SentAt.four (HA.below aO).o k hlt;(try dsimp only at e0 q0 q1 q2 q3)
 subst e0;have HBAD:Hid (gL KB RR (out.take (k+1))=false->TT=false):=λh=>nD.trans (xR _ h)
 have gu:Hid (gL KB RR (out.take (k+1))=(KB out[k]&&decide (y < (out[k]).i))):=by
  exact aiU
 have zy:=Hq (zo k hlt);have Dv:=Hq (VR out[k]);clear jr zo xR VR HLB;generalize out[k]=sk at *;generalize KB sk=OB at *;obtain⟨si,st,sx,sn⟩:=sk;dsimp only at q0 q1 q2 q3 gu zy Dv;obtain⟨bb,hbb⟩:∃bb,(!(decide (y < si)&&decide (si < next)&&NN st&&keyOk sx.data.toList&&fC sn))=bb:=⟨_,rfl⟩;have eG:=Hq hbb
 have Bu:Hid (gL KB RR (out.take (k+1))= !bb):=by
  rw [ah gu,<-ah eG,ah Dv,Bool.not_not]
  have e1:(decide (1<=si/\si<=next - 1)&&decide (y < si))=(decide (y < si)&&decide (si < next)):=by
   rw [aFI];simp only[aED,aES];omega
  rw [<-e1];generalize decide (1<=si/\si<=next - 1)=z1;generalize decide (y < si)=z2;generalize NN st=z3;generalize keyOk sx.data.toList=z4;generalize fC sn=z5;cases z1<;>cases z2<;>cases z3<;>cases z4<;>cases z5<;>exact Hq rfl
 clear hbb gu Dv;go_upto_region 7 with fail;refine wp_at (λW1 hW1=>?_);have HW1:Hid (W1.heap[wr.heap.size]?=some (.cells (gB si st sx sn) 129 (0,0))):=Abx
 open anK in exact aeF):P:=h
theorem auD.Adk(h:P:=by
 have hy0:old<=y:=by rw [hy];exact HLB k hall
 clear hall hy hblk hbel;by_cases hlt:k < reqs.length
 case' neg=>
  have hke:k=reqs.length:=Aaa
  subst hke;have hnlt:decide ((reqs.length:Int) < (reqs.length:Int))=false:=Aac
  exact akr
 obtain⟨g,off,e0,hgw,q0,q1,q2,q3⟩:=fJ.four (HA.below aO).r k hlt;(try dsimp only at e0 q0 q1 q2 q3)
 subst e0;have HBAD:Hid (gL KB RR (reqs.take (k+1))=false->TT=false):=λh=>nD.trans (xR _ h)
 have gu:Hid (gL KB RR (reqs.take (k+1))=(KB reqs[k]&&decide (y < (reqs[k]).no))):=by
  exact aiU
 have zy:=Hq (zo k hlt);have Dv:=Hq (VR reqs[k]);clear jr zo xR VR HLB;generalize reqs[k]=sk at *;generalize KB sk=OB at *;obtain⟨si,sx,sn,st⟩:=sk;dsimp only at q0 q1 q2 q3 gu zy Dv;obtain⟨bb,hbb⟩:∃bb,(!(decide (y < si)&&qM si&&keyOk sx.data.toList&&fC sn&&decide (0<=st)&&decide (st<=2)))=bb:=⟨_,rfl⟩;have eG:=Hq hbb
 have Bu:Hid (gL KB RR (reqs.take (k+1))= !bb):=by
  rw [ah gu,<-ah eG,ah Dv,Bool.not_not]
  have e1:(decide (old+1<=si/\si<=1000000000)&&decide (y < si))=(decide (y < si)&&qM si):=by
   rw [aFI];unfold qM;simp only[aED,aES];omega
  have e2:decide (0<=st/\st<=2)=(decide (0<=st)&&decide (st<=2)):=by
   rw [aFI];simp only[aED,aES]
  rw [<-e1,e2];generalize decide (old+1<=si/\si<=1000000000)=z1;generalize decide (y < si)=z2;generalize decide (0<=st)=z3;generalize decide (st<=2)=z6;generalize keyOk sx.data.toList=z4;generalize fC sn=z5;cases z1<;>cases z2<;>cases z3<;>cases z4<;>cases z5<;>cases z6<;>exact Hq rfl
 clear hbb gu Dv;go_upto_region 7 with fail;refine wp_at (λW1 hW1=>?_);have HW1:Hid (W1.heap[wr.heap.size]?=some (.cells (gJ si sx sn st) 133 (0,0))):=Abx
 open anJ in exact aeF):P:=h
theorem aaU(h:P:=by
 clear hW;obtain⟨x0,x1,x2,x3,x4,x5,x6,x7,x8,x9,x10⟩:=Ej hX;obtain⟨y0,y1,y2,y3,y4,y5,y6,y7,y8,y9,y10⟩:=Ej hY;clear hX hY;exact AbN):P:=h
theorem auE.AbN(h:P:=by
 exact Zk7):P:=h
theorem auF.AbN(h:P:=by
 exact aw8):P:=h
theorem auG.AbN(h:P:=by
 by_cases hno:no=0
 case' neg=>
  have hno':¬(0:Int)=no:=λe=>hno e.symm
  go_wp2_with fail;go_ret;exact⟨aF (by rw [ah HP];simp[lK,hno]),gK⟩
 subst hno;exact AdJ):P:=h
theorem aaV(h:P:=by
 go_in
 go_wp2_with (go_at_call 92;refine(HS _).mono ?_;rintro e w1 ⟨rfl,hb1⟩;simp only[vV])
 go_ret2
 exact AbZ):P:=h
theorem auH.AbZ(h:P:=by
 exact⟨rfl,hb1⟩):P:=h
theorem auI.AbZ(h:P:=by
 exact⟨by rw [ah HR];simp[Ep],hb1⟩):P:=h
theorem auJ.AbZ(h:P:=by
 exact⟨by rw [ah HR];rfl,hb1⟩):P:=h
theorem ahd(h:P:=by
 clear HR;clear hk hn;go_in
 go_wp2_with (first|(go_at_call_of 195 k;refine(HK _).mono ?_;rintro e w1 ⟨rfl,rfl⟩)|(go_at_call_of 179 n;refine(HN _).mono ?_;rintro e w1 ⟨rfl,rfl⟩))
 exact AcN):P:=h
theorem auK.AcN(h:P:=by
 go_region
 go_upto_region 23 with fail;open atu in exact Wv):P:=h
theorem auL.AcN(h:P:=by
 go_ret;exact⟨aF (by rw [ah HP];simp),by first|exact jo w _ _|exact Below.setNew (jo w _ _) Aaa⟩):P:=h
theorem ahe(h:P:=by
 clear ha he hks hok hb0 hd1 hd2 hd3 hkk;go_in
 go_wp2_with fail;refine HOF.mono ?_;rintro e w1 ⟨mp,mb,v,rfl,Io,hb1⟩;have HB1:=Hq (Fo.one_block hb1).2.2;exact AdZ):P:=h
theorem auM.AdZ(h:P:=by
 have ve:=(HE.below HB1).var 2 Aaa;clear hb1 Io HOF;go_wp2_with (first|(go_at_call 195;refine(HK _).mono ?_;rintro e w2 ⟨rfl,rfl⟩)|(go_at_call 179;refine(Lv _).mono ?_;rintro e w2 ⟨rfl,rfl⟩))
 go_quiet (fail);go_wp2_with fail;go_ret2
 exact⟨HB1.trans ⟨rfl,rfl,rfl,aEx _,λ_ _=>rfl⟩,.inl ⟨by rw [ah HAD],_,Aaa,rfl⟩⟩):P:=h
theorem auN.AdZ(h:P:=by
 have ve:=(HE.below HB1).var 1 Aaa;clear hb1 Io HOF;go_wp2_with (go_at_call 195;refine(HK _).mono ?_;rintro e w2 ⟨rfl,rfl⟩)
 go_quiet (fail);go_wp2_with fail;go_ret2
 exact⟨HB1.trans ⟨rfl,rfl,rfl,aEx _,λ_ _=>rfl⟩,.inl ⟨HAD,_,Aaa,rfl⟩⟩):P:=h
theorem ahf(h:P:=by
 go_in
 go_wp2_with fail;refine HG.mono ?_;rintro e w1 ⟨rfl,hb1⟩;clear hr HG;go_upto_region 7 with fail;refine wp_at (λV hV=>?_);obtain rfl:=hV;have wJ:=Hq hb1;clear hb1;exact Aem):P:=h
theorem auO.Aem(h:P:=by
 have hcc:=λd os=>HCC (Sort.grow (redrawn V d) os) (Ge.trans wJ (aEV V d os))
 refine Ip 10 ?_;refine tk [0,1,2,3,6,7] ?_;iterate 6 (refine iy (λK hK=>?_);go_simp;refine hK _ ?_;clear hK K)
 refine jm ?_;refine eu 4 rfl Aab Aah (λx hx=>?_);go_simp;refine(HS _).mono ?_;rintro e y ⟨g2,rfl,hg2,hblk,hby⟩;refine⟨hby,?_⟩;have Eu:=Hq (Ge.trans (Ge.trans wJ hx) hby);have hgy:=cu hblk;obtain⟨c0,c1,c2,c3⟩:=Mc hblk;have hcv:=λd os=>HCV (Sort.grow (redrawn y d) os) g2 (aEv c0 d os) (aEv c1 d os) (aEv c2 d os) (aEv c3 d os)
 clear hx hby hblk c0 c1 c2 c3 HCV wJ HS hcc HCC hg2;refine tk [5,8,9] ?_;iterate 3 (refine iy (λK hK=>?_);go_simp;refine hK _ ?_;clear hK K)
 refine jm ?_;refine dJ Aab (λx2 hx=>?_);have tZ:=Hq (Ge.trans Eu hx);clear hx Eu hcv;go_simp;go_wp2_with fail;exact AaI):P:=h
theorem auP.Aem(h:P:=by
 refine Ip 10 ?_;refine tk [0,1,2,3,4,5,6,7,8,9] ?_;iterate 10 (refine iy (λK hK=>?_);go_simp;refine hK _ ?_;clear hK K)
 refine jm ?_;refine dJ Aab (λx hx=>?_);have tZ:=Hq (Ge.trans wJ hx);clear hx wJ;go_simp;go_wp2_with fail;exact aEE (v:= .tuple #[.string ⟨#[]⟩,.int .i64 (-1)]) Acd rfl ⟨rfl,tZ⟩):P:=h
theorem aaW(h:P:=by
 clear hkk;go_wp2_with fail;refine(tX wr).mono ?_;rintro e w5 ⟨r,rfl,hcase,hb5⟩;have eO:=Hq (aO.trans (hb5.mono aO.size));exact AbW):P:=h
theorem auQ.AbW(h:P:=by
 clear hb5 q0 q1 q2 q3 q4 q5 q6 q7 q8 q9 QZ q11 q12;exact aeK):P:=h
theorem auR.AbW(h:P:=by
 clear hb5 q0 q1 q2 q3 q4 q5 q6 q7 q8 q9 QZ q11;exact aeK):P:=h
theorem auS.AbW(h:P:=by
 clear hb5 q0 q1 q2 q3 q4 q5 q6;exact aeK):P:=h
theorem ahg(h:P:=by
 go_in
 go_wp2_with (first|(go_at_call 90;refine(nH _ true _ h1).mono ?_;rintro e w1 ⟨rfl,rfl⟩)|(go_at_call 33;refine(yO _ _ _ true _ h2).mono ?_;rintro e w1 ⟨rfl,rfl⟩))
 exact AdV):P:=h
theorem auT.AdV(h:P:=by
 go_loopw [3] (λi wr=>∃k:Nat,k<=kids.length/\i= .int .i64 k/\gL (jZ id par) iF (kids.take k)=true/\wr.heap[w.heap.size]?=some (.cells (dR ⟨id,par,kids,next,pu,out,seen,old,reqs⟩ ⟨ak,ap,ao,as',ar,ck,cp,co,cs,cr⟩) 53 (0,0))/\aG w wr) (λi _=>kids.length - (intOf i).toNat)
 case atStart=>exact⟨0,aEN _,rfl,rfl,aEu w _,au w _⟩
 case round=>
  open aqZ in exact aeH):P:=h
theorem auU.AdV(h:P:=by
 exact xH):P:=h
theorem ahh(h:P:=by
 have cO:∀d os,Calls prog 193 #[xO ⟨pk,pm,pf,ps⟩] (Sort.grow (redrawn V d) os) λe w''=>e= .returned (.bool false)/\∃p:Regrown,w''=Sort.grow (redrawn V p.d) p.os:=λd os=>aE1 (HO _)
 exact AcG):P:=h
theorem auV.AcG(h:P:=by
 open atW in exact O7):P:=h
theorem auW.AcG(h:P:=by
 exact axj):P:=h
theorem ahi(h:P:=by
 have cO:∀d os,Calls prog 193 #[xO ⟨pk,pm,pf,ps⟩] (Sort.grow (redrawn V d) os) λe w''=>e= .returned (.bool true)/\∃p:Regrown,w''=Sort.grow (redrawn V p.d) p.os:=λd os=>aE1 (HO _)
 exact AcL):P:=h
theorem auX.AcL(h:P:=by
 exact Adm):P:=h
theorem auY.AcL(h:P:=by
 open atY in exact O7):P:=h
theorem ahj(h:P:=by
 clear h1 h2;go_in
 go_wp2_with (first|(go_at_call_of 192 F;refine(H1 _).mono ?_;rintro e w1 ⟨rfl,rfl⟩)|(go_at_call_of 192 T;refine(H2 _).mono ?_;rintro e w1 ⟨rfl,rfl⟩))
 exact Ael):P:=h
theorem auZ.Ael(h:P:=by
 go_ret;exact⟨aF (by first|exact HP.symm|exact he.trans HP.symm),au w _⟩):P:=h
theorem au0.Ael(h:P:=by
 exact xH):P:=h
theorem ahk(h:P:=by
 have hlit:(w.alloc (.cells #[] 142)).ownsRow w.heap.size 142 4 (.slice (some ⟨w.heap.size,0,none⟩) 0 0) 0 []:=aFb (base:=w.heap.size) (e:=142) (size:=4) w #[] 0 (aEx _) Aag rfl;exact Adv):P:=h
theorem au1.Adv(h:P:=by
 cases a with
 |none=>
  have hl0:l=[]:=GR.none_nil ha;subst hl0;clear ha hlit;go_in
  exact TH
 |some x=>
  have HN:=Hq (aH.news (GR.At.below ha (aV w (.cells #[] 142))));clear ha;go_in
  open aqO in exact awF):P:=h
theorem au2.Adv(h:P:=by
 cases a with
 |none=>
  obtain⟨h1,h2⟩:=hn rfl;have hl0:l=[]:=aEZ h1;subst hl0 h2;go_in
  go_wp2_with (at_builtin;refine wpList_append_own_none rfl _ _ 48 rfl w.heap.size 142 i0 4 underlying48 hi _ 0 [] rfl hlit rfl ?_)
  go_ret;exact⟨_,rfl,(by intro h;cases h),hlit,aV w _⟩
 |some x=>
  have HN:=Hq (aH.news (GR.At.below ha (aV w (.cells #[] 142))));clear ha;go_in
  open aqP in exact awF):P:=h
theorem ahl(h:P:=by
 refine wp_at (λW1 hW1=>?_);have HW1:Hid (W1.heap[wr.heap.size]?=some (.cells #[.int .i64 fr,.int .i64 lo,.slice b ids.length c] 144 (0,0))):=Abx
 exact Adu):P:=h
theorem au3.Adu(h:P:=by
 open anH in exact aeF):P:=h
theorem au4.Adu(h:P:=by
 have hbw:aG wr W1:=by rw [hW1];exact au wr _
 have ami:=Hq (jL.trans (hbw.mono jL.size));have HI1:=Hq (GR.At.below HI hbw);have p1:=(hbw.cell (p:=⟨g2,off2+k,none⟩) akU).trans p0;have xu:=Hq (aO.trans (hbw.mono aO.size));clear hW1 hbw q0 q1 q2 p0 HI;obtain⟨d0,d1,d2⟩:=three HW1;have m0:=cell_grown' d0;have m1:=cell_grown' d1;have m2:=cell_grown' d2;have m3:=cell_grown' p1;by_cases h1:fr=y
 case' neg=>
  have hb1:(fr != y)=true:=Abc
  have HP:=Hq (show TT=false by rw [ah HD,aEw (ah BI h1)];rfl);clear h1 HST BI HX2;refine aEJ Aab Aab ?_;repeat (first|go_big_quiet_step (fail)|quiet_step (fail))
  exact ahU
 have hb1:(fr != y)=false:=Abc
 cases h2:vK ⟨fr,lo,ids⟩
 case' false=>
  have HP:=Hq (show TT=false by rw [ah HD,ah HX2 h2];simp)
  have cS:=ajt ⟨fr,lo,ids⟩ b c false W1 I7 HI1 h2
  open auB in exact ahb
 have HG:=Hq (HST h1 h2);have cS:=ajt ⟨fr,lo,ids⟩ b c true W1 I7 HI1 h2;open auA in exact ahb):P:=h
theorem ahm(h:P:=by
 rw [e1] at e2;injection e2 with e2
 injection e2 with e2 e3
 subst e2 e3 e1;have hgt:decide ((0:Int) < ((j+1:Nat):Int))=true:=aEy Aaa;exact AcE):P:=h
theorem au5.AcE(h:P:=by
 have gu:Hid (gL (DW lo) iF (ids.take (j+1+1))=(DW lo ids[j+1]&&iF ids[j] ids[j+1])):=by
  have h:=vR (DW lo) iF ids j hlm;rw [ah ama] at h;exact h
 clear SV;generalize ids[j]=y at *;generalize ids[j+1]=x at *;cases h1:decide (lo<=x/\x<=1000000000)
 case' false=>
  exact aje
 by_cases h2:y < x
 case' neg=>
  have hy:decide (x<=y)=true:=aEy Aaa;have HV:=Hq (HBM (by rw [ah gu];simp[iF,h2]));exact axe
 have hy:decide (x<=y)=false:=aEw Aaa;have HV:=Hq (show gL (DW lo) iF (ids.take (j+1+1))=true by rw [ah gu];simp[DW,h1,iF,h2]);open apd in exact aj5):P:=h
theorem au6.AcE(h:P:=by
 have gu:Hid (gL (jZ id par) iF (kids.take (j+1+1))=(jZ id par kids[j+1]&&iF kids[j] kids[j+1])):=by
  have h:=ah Ev j hlt;rw [ah kS] at h;exact h
 clear OI Ev xR;generalize kids[j]=y at *;generalize kids[j+1]=x at *;open atA in exact ag0):P:=h
theorem ahn(h:P:=by
 have HY:=Hq (UE l n k hlt hkn);rw [hkn] at q0;have hnn:(n == n)=true:=Aac
 clear hkn;exact Ad4):P:=h
theorem au7.Ad4(h:P:=by
 go_wp2_with (at_builtin;refine aFf _ rfl _ _ 22 rfl W0.heap.size 3 i0 (.int .i64 0) 1 8 underlying22 hi hz0 hz1 hz2 rfl Aag _ _ _ rfl (hown1.alloc _) ⟨w1.heap.size,0,none⟩ 1 1 [.int .i64 (k:Int)] rfl rfl ?c1 ?c2 ?c3 ?c4 ?c5 ?_)
 case c1=>exact cell_one_new _ _ _
 case c2=>intro u hu;simp at hu;subst hu;rfl
 case c3=>unfold maxLen;omega
 case c4=>omega
 case c5=>have:=HB1.size;simp;omega
 intro v' w2 hown' hgrow _;have zZ:=Hq (GR.below_append HB1 HB1.size hown1 hgrow)
 have hown2:Hid (w2.ownsRow W0.heap.size 3 1 v' (jw l n (k+1)).length (GR.flat aW (jw l n (k+1)))):=by
  exact ai5
 clear hown' hgrow hown1;go_wp2_with fail;go_roundw
 case rel=>exact⟨k+1,Aaa,Aaa,Aaf,hown2,zZ⟩
 case measure=>simp[intOf];omega):P:=h
theorem au8.Ad4(h:P:=by
 go_wp2_with (at_builtin;refine aFf _ rfl _ _ 22 rfl w.heap.size 3 i0 (.int .i64 0) 1 8 underlying22 hi hz0 hz1 hz2 rfl Aag _ _ _ rfl (hown.alloc _) ⟨wr.heap.size,0,none⟩ 1 1 [.int .i64 (k:Int)] rfl rfl ?c1 ?c2 ?c3 ?c4 ?c5 ?_)
 case c1=>exact cell_one_new _ _ _
 case c2=>intro u hu;simp at hu;subst hu;rfl
 case c3=>unfold maxLen;omega
 case c4=>omega
 case c5=>have:=aO.size;simp;omega
 intro v' w2 hown' hgrow _;have zZ:=Hq (GR.below_append aO aO.size hown hgrow)
 have hown2:Hid (w2.ownsRow w.heap.size 3 1 v' (jw l n (k+1)).length (GR.flat aW (jw l n (k+1)))):=by
  exact ai5
 clear hown' hgrow hown;go_wp2_with fail;go_roundw
 case rel=>exact⟨k+1,Aaa,Aaf,hown2,zZ⟩
 case measure=>simp[intOf];omega):P:=h
theorem aho(h:P:=by
 have hke:k=n.out.length:=Aaa
 subst hke;have hnlt:decide ((n.out.length:Int) < (n.out.length:Int))=false:=Aac
 exact Ad2):P:=h
theorem au9.Ad2(h:P:=by
 go_wp2_with fail;go_ret;have hS:=ah zC;rw [aEW] at hS;exact⟨rfl,cc,vv,hS⟩):P:=h
theorem ava.Ad2(h:P:=by
 have pX:=Hq (aj mJ gK);have HN3:=Hq (Dw.kc (k:=9) (KC.of_below gK) Aaa);have HB3:=Hq (HB2.trans (gK.mono HB2.size));have h2r:=ay mJ;clear hlt hk SH HFS HFN HF0 jC gK jV BD mJ Dw HB2;have f5n:=aA rR 5;go_upto_region 14 with fail;refine wp_at (λZ hZ=>?_);have Dx:Hid (Z.heap[w.heap.size]?=some (.cells (vG n.id n.par A.k n.kids.length A.ck n.next A.p n.pu.length A.cp a (FL n.out.length).length cp A.s n.seen.length A.cs n.old A.r n.reqs.length A.cr) 53 (0,0))):=by rw [hZ];exact Dg rR
 have Tv:Hid (Z.heap[w.heap.size+2]?=some (.cells kH 53 (0,0))):=by rw [hZ];exact iW pX Aaa
 have HN4:Hid (NQ Z B n A G (newC w.heap.size 9 c)):=by rw [hZ];exact HN3.kc (k:=9) (KC.set (aY (aEx _))) Aaa
 have HO4:Hid (Z.ownsRow W2.heap.size 129 4 (.slice a (FL n.out.length).length cp) (FL n.out.length).length (GR.flat aN (FL n.out.length))):=by rw [hZ];exact dA HO (aC.set _) (λy hy=>by have:y=w.heap.size:=Aar;omega)
 have mh:Hid (Below B w Z):=by rw [hZ];exact(HB3.mono hB).setCell (p:=⟨w.heap.size,5,none⟩) hB _
 have HK4:Hid (Apart c w Z):=by rw [hZ];exact(Apart.of_below HB3).keeps HB3.size (aC.set _) (λy hy=>by have:y=w.heap.size:=Aar;omega)
 clear hZ f5n c0 c1 c2 c3 c4 c5 c6 c7 c8 m0 m1 m2 m3 m4 m5 m6 hml hnl rR XD pX HN3 HB3 HO;have xB:=Hq (aj Tv (au Z (.cells #[] 104)));have vI:=Hq (mh.trans ((au Z (.cells #[] 104)).mono (aEA hB mh.size)));have HKA:=Hq (HK4.step mh.size (au Z (.cells #[] 104)));have Oq:=Hq (HN4.kc (k:=9) (KC.of_below (au Z (.cells #[] 104))) Aaa);have HOA:=Hq (GR.own_below HO4 (au Z (.cells #[] 104)));obtain⟨c0,c1,c2,c3,c4,c5,c6,c7,c8⟩:=nine Dx;obtain⟨⟨d0,d1,d2,d3,d4,d5,d6,d7,d8⟩,f0,f1,f2,f3,f4,f5,f6,f7,f8⟩:=iG xB;have hnl:=ay Dx;have hrl:=ay xB;go_wp2_with fail;refine eB (u1:= .slice (some ⟨Z.heap.size,0,none⟩) 0 0) (u2:= .int .i64 0) results101 rfl rfl rfl rfl xB (λW' e4 eX=>?_)
 have HAT:=Hq (λW'' (ho:Out c w W' W'')=>(show RM W'' ⟨A.k,A.p,a,A.s,A.r,A.ck,A.cp,cp,A.cs,A.cr⟩ (setOut n (FL n.out.length)) from by
  have kF:KC (newC w.heap.size 9 c) 9 (Z.alloc (.cells #[] 104)) W'':=(KC.keeps eX (λy hy=>by have:y=w.heap.size+2:=Aar;rw [this];exact aY Aaa)).trans (KC.out H9 ho)
  have hoF:W''.ownsRow W2.heap.size 129 4 (.slice a (FL n.out.length).length cp) (FL n.out.length).length (GR.flat aN (FL n.out.length)):=by
   obtain⟨F,hk,hF⟩:=ho;exact(dA (dA HOA eX (λy hy=>by have:y=w.heap.size+2:=Aar;omega)) hk (λy hy=>by have:=(hF y hy).1;omega))
  have h5:=Oq.kc (k:=9) kF Aaa
  exact NQ.put h5 h5 (setOut n (FL n.out.length)) ⟨A.k,A.p,a,A.s,A.r,A.ck,A.cp,cp,A.cs,A.cr⟩ rfl rfl rfl rfl h5.p.at (λg' hg' hp'=> .inl (h5.cpB h5 g' hg' hp')) hoF (λy hy=> .inr (by have h1:=uM hoF hy;rw [aY Aaa];omega)) h5.r (λy hy=> .inl (h5.cr y hy))
   (λg' hg' hp' h6=>by have:=h5.cpB h5 g' hg' hp';omega) (λy hy h6 e=>by have:=h5.cr y e;omega)))
 open asY in exact agS):P:=h
theorem ahp(h:P:=by
 rw [Mth.take_all s k hlt] at HA;have HF:Hid (Mth.keyOk s.data.toList=decide (1<=s.data.toList.length/\s.data.toList.length<=10)):=Mth.keyOk_all _ HA;rw [aZ s] at HF;exact Aek):P:=h
theorem avb.Aek(h:P:=by
 by_cases hin:(1:Int)<=(s.size:Int)/\(s.size:Int)<=10
 .obtain⟨hi1,hi2⟩:=hin;exact ahH
 .exact ahH):P:=h
theorem avc.Aek(h:P:=by
 go_wp2
 go_ret;exact⟨aF (by rw [ah HF];simp;omega),rfl⟩):P:=h
theorem ahq(h:P:=by
 generalize l[k]=pu at *;have nD:=Hq (λw1=>FM pu w1 hkk);clear hkk;obtain⟨pk,pm,pf,ps⟩:=pu;exact Ac3):P:=h
theorem avd.Ac3(h:P:=by
 dsimp only at c0 c1 c2 c3 hf;go_wp2_with fail;refine(nD _).mono ?_;rintro e w1 ⟨rfl,hb1⟩;have hb2:=aO.trans ((Below.mono (Fo.one_block hb1).2.2 aO.size));have hB:w1.heap[w.heap.size]?=some (.cells (iK ⟨#[]⟩ 0 0 0) 142 (0,0)):=by rw [(Fo.one_block hb1).2.2.block _ afm];exact H7
 have HB:=Hq hB;have HB2:=Hq hb2;obtain⟨⟨r0,r1,r2,r3⟩,s0,s1,s2,s3⟩:=fG hB;clear hB hb1 hb2;go_wp2_with fail;clear r0 r1 r2 r3;refine Fo.bodyPost_at (λW' hW'=>?_);obtain⟨⟨r0,r1,r2,r3⟩,_⟩:=fG (show W'.heap[w.heap.size]?=some (.cells (iK pk pm pf ps) 142 (0,0)) by rw [hW'];exact Fo.four_set HB);have hbb:aG w W':=by rw [hW'];exact Fo.four_below HB2 (aEx _)
 refine aEE (v:= .agg (iK pk pm pf ps)) (by simp[results,results249,go_sem,r0,r1,r2,r3]) rfl ⟨by rw [ah HX],hbb⟩):P:=h
theorem ave.Ac3(h:P:=by
 dsimp only at q0 q1 q2 q3;go_wp2_with fail;refine(nD _).mono ?_;rintro e w5 ⟨rfl,hb5⟩;obtain⟨_,_,hb6⟩:=Fo.one_block hb5;have fI:=Hq (xC.below HB hb6);have eO:=Hq (aO.trans (hb6.mono aO.size));clear hb5 hb6 q0 q1 q2 q3;obtain⟨_,aDD,⟨s0,s1,s2,s3⟩,f0,f1,f2,f3⟩:=xC.four fI k hlt;go_wp2_with fail;go_roundw
 case rel=>
  have h:=xC.set fI k ⟨pk,pm,pf,ps⟩ hlt;rw [ah HSE] at h;exact⟨k+1,Aaa,Aaf,h,GR.setW_below (o:=k*4) hg (fO ⟨pk,pm,pf,ps⟩) eO⟩
 case measure=>simp[intOf];omega):P:=h
theorem ahr(h:P:=by
 have HK:=Hq ((dD.of_below (au w _)).trans hk1);have HR1:=Hq hr1;have HH1:=Hq (P8 HH HK hg hge);clear hr1 hk1;go_wp2_with fail;refine(HGM _ HH1).mono ?_;rintro e w2 ⟨rfl,hb2⟩;exact AcX):P:=h
theorem avf.AcX(h:P:=by
 have HR2:=Hq (aI HR hb2);have HA2:=Hq (aI HR1 hb2);have qE:=Hq (HK.trans (dD.of_below hb2));have hz2:=cu HR2;have hz3:=cu HA2;clear hb2 HR HK HR1 HH1;go_upto_region 7 with fail;refine wp_at (λV hV=>?_);have HMV:Hid (V.heap[w2.heap.size]?=some (.cells (bH mK mF mT mI mL mk mN) 104 (0,0))):=by rw [hV];exact aEu w2 _
 have HRV:Hid (V.heap[w.heap.size]?=some (.cells (bH 0 0 0 0 0 ⟨#[]⟩ 0) 104 (0,0))):=by rw [hV];exact aI HR2 (au w2 _)
 have HAV:Hid (jv V g s E):=by rw [hV];exact aI HA2 (au w2 _)
 have HKV:Hid (dD g w V):=by rw [hV];exact qE.trans (dD.of_below (au w2 _))
 clear hV HR2 HA2 qE;have Bv:=cu HMV;obtain⟨q0,q1,q2,q3,q4,q5,q6⟩:=uf HMV;obtain⟨⟨d0,d1,d2,d3,d4,d5,d6⟩,f0,f1,f2,f3,f4,f5,f6⟩:=dY HRV;go_wp2_with fail;refine gY (λW' hW'=>?_);obtain⟨⟨r0,r1,r2,r3,r4,r5,r6⟩,_⟩:=dY (show W'.heap[w.heap.size]?=some (.cells (bH mK mF mT mI mL mk mN) 104 (0,0)) by rw [hW'];exact tH HRV);have WX:dD g w W':=by rw [hW'];exact Dh HKV
 have hRR:jv W' g s E:=by rw [hW'];exact Ba (Ne.symm hg2) HAV
 exact aEE (v:= .agg (bH mK mF mT mI mL mk mN)) Acw rfl ⟨rfl,hRR,WX⟩):P:=h
theorem avg.AcX(h:P:=by
 have HR2:=Hq (aI (aI HR1 hb2) (au w2 (.cells (bH 0 0 0 0 0 ⟨#[]⟩ 0) 104)));have qE:=Hq (HK.trans (dD.of_below ((hb2.trans ((au w2 (.cells (bH 0 0 0 0 0 ⟨#[]⟩ 0) 104)).mono hb2.size)))));clear hb2;go_wp2_with fail;refine(HF _ HR2).mono ?_;rintro e w3 ⟨rfl,rfl⟩;go_wp2_with fail;exact⟨rfl,⟨_,rfl⟩,qE⟩):P:=h
theorem ahs(h:P:=by
 have e2:b=g1:=by injection e1 with e1;injection e1 with e1 e2
 have e3:off=o1:=by injection e1 with e1;injection e1 with e1 e2
 subst e2 e3;exact AcZ):P:=h
theorem avh.AcZ(h:P:=by
 have HT:=Hq (aEF hlt);have DC:=Hq (λh2=>(place_at l pk k Aaa kS h2).1);clear s1 s2 s3 e1;cases hbl:Op.bytesLess l[k].k.toList pk.toList with
 |true=>
  clear DC;generalize l[k]=pu at *;obtain⟨qk,qm,qf,qs⟩:=pu;dsimp only at s0 hbl;go_wp2_with fail;go_quiet (fail);go_wp2
  go_roundw
  case rel=>
   refine⟨k+1,_,Aaa,Aaf,?_,rfl⟩;intro x hx;rw [ah HT] at hx;rcases aE0.1 hx with hx|hx
   .exact kS x hx
   .rw [aEM] at hx;subst hx;exact hbl
  case measure=>simp[intOf];omega
 |false=>
  have zq:=Hq (DC (λ_=>hbl));clear DC HT;generalize l[k]=pu at *;obtain⟨qk,qm,qf,qs⟩:=pu;dsimp only at s0 hbl;exact ait):P:=h
theorem avi.AcZ(h:P:=by
 have hae:=hAe hlt;subst hae;have HF:=Hq hf;have hpos:decide (0 < l.length - place l pk)=true:=aEy Aaa;have aCr:0 < l.length - place l pk:=Aaa
 clear s1 s2 s3 e1 hf hAe hAd;generalize l[place l pk]=pu at *;obtain⟨qk,qm,qf,qs⟩:=pu;dsimp only at s0 HF;cases heq:qk.toList == pk.toList
 all_goals
  go_quiet (fail)
  go_wp2_with fail
  go_meet
  case rel=>exact⟨by rw [ah HF,heq],_,BL w1 _ _⟩):P:=h
theorem aht(h:P:=by
 rintro e W1 ⟨rfl,hb1⟩;have mq:=Hq (aj HN hb1);have tV:=Hq (aj HR hb1);have HB1:=Hq (HB0.trans (hb1.mono HB0.size));have vL:=Hq (Oo.kc (k:=9) (KC.of_below hb1) Aaa);exact Adq):P:=h
theorem avj.Adq(h:P:=by
 clear hb1 c0 c1 c2 c3 c4 c5 c6 c7 c8 hnl OO HN HR Oo HB0;exact Ab7):P:=h
theorem avk.Adq(h:P:=by
 clear hb1 c0 c1 c2 c3 c4 c5 c6 c7 c8 hnl JR HN HR Oo HB0;exact Ado):P:=h
theorem Ww(h:P:=by
 refine aE2 ?_;intro _ hw';obtain⟨⟨dq,osq⟩,hw''⟩:=hw';subst hw'';go_wp2_with fail;exact AbE):P:=h
theorem avl.AbE(h:P:=by
 go_roundw
 case rel=>exact⟨k+1,Aaa,Aaf,aO.trans ((aEV _ dq osq).mono aO.size)⟩
 case measure=>simp[intOf];omega):P:=h
theorem avm.AbE(h:P:=by
 go_roundw
 case rel=>exact⟨k+1,Aaa,Aaf,HG.1,HG.2,ami.trans ((aEV _ dq osq).mono ami.size)⟩
 case measure=>simp[intOf];omega):P:=h
theorem avn.AbE(h:P:=by
 go_ret;exact⟨aF HP.symm,xu.trans ((aEV _ dq osq).mono xu.size)⟩):P:=h
theorem avo.AbE(h:P:=by
 go_meet
 case rel=>exact yC):P:=h
theorem ahu(h:P:=by
 have HO:=Hq (show w1.ownsRow w.heap.size 142 4 v' l.length (GR.flat fO l) by simpa using hown');have hb:aG w w1:=(aV w _).grown hgrow Aac (λk hk=>Acl);exact Adr):P:=h
theorem avp.Adr(h:P:=by
 clear hown' hgrow hlit hnil;go_wp2
 go_ret;exact⟨_,rfl,LC,HO,hb⟩):P:=h
theorem avq.Adr(h:P:=by
 clear hown' hgrow hlit;go_wp2
 go_ret;exact⟨_,rfl,HO,hb⟩):P:=h
theorem ahv(h:P:=by
 have g3:decide (yB ps 0 1000000000)=true:=aEy h3;have hA3:qM ps=true:=aEy h3;have e4:IntKind.i64.wrap (pf+ps)=pf+ps:=IntWalk.i64_in _ ⟨Aaa,Aaa⟩;exact Ac4):P:=h
theorem avr.Ac4(h:P:=by
 by_cases h4:0<=(pf+ps)/\(pf+ps)<=1000000000
 case' neg=>
  have hA:qM (pf+ps)=false:=aEw h4;have g4:decide (yB (pf+ps) 0 1000000000)=false:=aEw h4;have g5:=g4;rw [<-e4] at g4;exact aeR
 have g4:decide (yB (pf+ps) 0 1000000000)=true:=aEy h4;have hA4:qM (pf+ps)=true:=aEy h4;have g5:=g4;rw [<-e4] at g4;have Ez:=Hq (show nU l 0=true by rw [ah nO];simp[gZ,hkb,hA1,hA2,hA3,hA4]);clear nO hA1 hA2 hA3 hA4;open aA5 in exact ajZ):P:=h
theorem avs.Ac4(h:P:=by
 by_cases h4:0<=(pf+ps)/\(pf+ps)<=1000000000
 case' neg=>
  have hA:qM (pf+ps)=false:=aEw h4;have g4:decide (yB (pf+ps) 0 1000000000)=false:=aEw h4;have g5:=g4;rw [<-e4] at g4;exact aeQ
 have g4:decide (yB (pf+ps) 0 1000000000)=true:=aEy h4;have hA4:qM (pf+ps)=true:=aEy h4;have g5:=g4;rw [<-e4] at g4;have Ez:=Hq (show nU l (j+1)=true by rw [ah nO];simp[gZ,hkb,hA1,hA2,hA3,hA4,ah hsl]);clear nO hA1 hA2 hA3 hA4;open aA4 in exact ajZ):P:=h
theorem ahw(h:P:=by
 have hl:=World.lt_of_cell h;have HG:=Hq (show Handle (w.alloc (.cells #[.int .i64 0] 326)) from h.below ((aEK _ _).alloc (aEx _) _));clear h;go_in
 exact AcM):P:=h
theorem avt.AcM(h:P:=by
 go_wp2_with (go_at_call 273;refine(PV _ w.heap.size (.int .i64 0) _ ⟨_,rfl⟩ (λtg t a old w h1 h2 h3=>aku p tg t a old w h1 h2 h3) HG ?_ ?_).mono ?_;(simp);(simp);rintro e w' ⟨rfl,hbel⟩)
 go_ret;exact⟨rfl,((aEK _ _).alloc (aEx _) _).trans hbel⟩):P:=h
theorem avu.AcM(h:P:=by
 go_wp2_with (go_at_call 273;refine(PV _ w.heap.size (.int .i64 0) _ ⟨_,rfl⟩ (λtg t a old w h1 h2 h3=>akt p tg t a old w h1 h2 h3) HG ?_ ?_).mono ?_;(simp);(simp);rintro e w' ⟨rfl,hbel⟩)
 go_ret;exact⟨rfl,((aEK _ _).alloc (aEx _) _).trans hbel⟩):P:=h
theorem aaX(h:P:=by
 generalize l[k]=pu at *;obtain⟨pk,pm,pf,ps⟩:=pu;dsimp only at c0 c1 c2 c3 hf;go_wp2_with fail;exact AbX):P:=h
theorem avv.AbX(h:P:=by
 refine aEE (v:= .agg (iK pk pm pf ps)) (by simp[results,results143,go_sem]) rfl ⟨by rw [ah HX],?_⟩;exact(aEK _ _).alloc (aEx _) _):P:=h
theorem avw.AbX(h:P:=by
 go_roundw
 case rel=>exact⟨k+1,Aaa,Aaf,HX,by first|rfl|trivial⟩
 case measure=>simp[intOf];omega):P:=h
theorem avx.AbX(h:P:=by
 go_roundw
 case rel=>exact⟨k+1,Aaa,Aaf,HX,by first|exact aO.alloc aO.size _|exact aO,by first|(rw [aEI _ _ _ afm];exact H7)|exact H7⟩
 case measure=>simp[intOf];omega):P:=h
theorem O9(h:P:=by
 have q0:(mT != n.id)=false:=Abc
 have q0':(mT == n.id)=true:=Abc
 clear h1;exact Aa0):P:=h
theorem avy.Aa0(h:P:=by
 subst h3;have q4:(mF == n.par)=false:=by simpa using h4
 clear h4;open avW in exact ahD):P:=h
theorem avz.Aa0(h:P:=by
 subst h3;have q4:(mF == n.par)=true:=by simp[h4]
 clear h4;unfold fZ;have H9:=Hq h9;clear h9;have HMO:=Hq (λW=>kD ⟨0,mF,mT,mI,mL,mk,mN⟩ W Aal);open anW in exact aa0):P:=h
theorem avA.Aa0(h:P:=by
 unfold fZ;have H9:=Hq h9;clear h9;have HMO:=Hq (λW=>kD ⟨mK,mF,mT,mI,mL,mk,mN⟩ W Aal);open anX in exact aa0):P:=h
theorem avB.Aa0(h:P:=by
 subst h3;obtain⟨FL,hFL⟩:∃FL:Nat->List jI,∀k,FL k=(n.out.take k).filter (λs=> !iJ ⟨2,mF,mT,mI,mL,mk,mN⟩ s):=⟨_,λ_=>rfl⟩;have HFE:Hid (n.out.filter (λs=> !iJ ⟨2,mF,mT,mI,mL,mk,mN⟩ s)=FL n.out.length):=by unfold Hid;rw [hFL,aEW]
 rw [ah HFE];have HF0:Hid (FL 0=[]):=by unfold Hid;rw [hFL];rfl
 have HFS:Hid (∀k (hk:k < n.out.length),FL (k+1)=if n.out[k].i=mI/\n.out[k].t=mF then FL k else FL k++[n.out[k]]):=λk hk=>by
  rw [hFL,hFL,aEF hk,List.filter_append]
  by_cases e:n.out[k].i=mI/\n.out[k].t=mF
  .rw [aER e];have e2:(!iJ ⟨2,mF,mT,mI,mL,mk,mN⟩ n.out[k])=false:=by unfold iJ;rw [aEy e];rfl
   rw [List.filter_cons,e2];simp
  .rw [aEG e];have e2:(!iJ ⟨2,mF,mT,mI,mL,mk,mN⟩ n.out[k])=true:=by unfold iJ;rw [aEw e];rfl
   rw [List.filter_cons,e2];simp
 have HFN:Hid (∀k,(FL k).length<=n.out.length):=λk=>by
  rw [hFL]
  exact aEA (aGa _ _) Abi
 clear hFL HFE;obtain⟨i0,hi,hz0,hz1,hz2⟩:=aEY MV;have HI:=Hq (And.intro hi (And.intro hz0 (And.intro hz1 hz2)));clear hi hz0 hz1 hz2;unfold fZ;have H9:=Hq h9;clear h9;have HMO:=Hq (λW=>kD ⟨2,mF,mT,mI,mL,mk,mN⟩ W Aal);open anY in exact aa0):P:=h
theorem avC.Aa0(h:P:=by
 subst h3;open avV in exact ahD):P:=h
theorem ahx(h:P:=by
 have hkk:=hks l[k] (aEL hlt);have hat:=(HA.below aO).each l[k] (aEL hlt);exact AdO):P:=h
theorem avD.AdO(h:P:=by
 have hbt:=(HB.below aO).each m[k] (aEL hlt2)
 have hxy:l[k].1=m[k].1:=by
  have h:=congrArg (λz=>z[k]?) HLM;simpa [hlt,hlt2] using h
 generalize l[k]=pu at *;generalize m[k]=pv at *;have xS:=Hq (λw1 (h:Ge wr w1)=>Yi pu pv hxy w1 hkk (hat.below h) (hbt.below h));have HR1:=Hq hr1;have HR2:=Hq hr2;have HI1:Hid ((prog.info? 57).map (·.size)=some (mE pu).length):=yL;have HI2:Hid ((prog.info? 57).map (·.size)=some (mE pv).length):=yL;clear hkk hat hbt hxy hr1 hr2 hlt2;generalize mE pu=V1 at xS HR1 HI1;generalize mE pv=V2 at xS HR2 HI2;go_upto_region 6 with fail;refine Ip 10 ?_;refine tk [0,1,2] ?_;iterate 3 (refine iy (λK hK=>?_);go_simp;refine hK _ ?_;clear hK K)
 refine jm ?_;refine jc 3 rfl Aab Aab Aab (λ_ _ _ _ h=>h) Aah 57 _ rfl g1 (o1+k*22) (by first|rfl|simp[Act.eval,Act.put]) V1 _ HR1 hg1 underlying57 rfl HI1 ?_;go_simp;refine tk [4,5,6] ?_;iterate 3 (refine iy (λK hK=>?_);go_simp;refine hK _ ?_;clear hK K)
 refine jm ?_;refine jc 7 rfl Aab Aab Aab (λ_ _ _ _ h=>h) Aah 57 _ rfl g2 (o2+k*22) (by first|rfl|simp[Act.eval,Act.put]) V2 _ HR2 hg2 underlying57 rfl HI2 ?_;go_simp;refine eu 8 rfl Aab Aah (λx hx=>?_);go_simp;refine(xS x hx).mono ?_;rintro e y ⟨rfl,hby⟩;refine⟨hby,?_⟩;have Eu:=Hq (Ge.trans hx hby);clear hx hby;refine tk [9] ?_;(refine iy (λK hK=>?_);go_simp;refine hK _ ?_;clear hK K)
 refine jm ?_;refine dJ Aab (λz hz=>?_);have eO:=Hq (aO.trans ((Ge.trans Eu hz).mono aO.size));clear hz Eu xS HR1 HR2 HI1 HI2;go_simp;go_wp2_with fail;go_roundw
 case rel=>exact⟨k+1,Aaa,Aaf,eO⟩
 case measure=>simp[intOf];omega):P:=h
theorem avE.AdO(h:P:=by
 have HT:=Hq (aEF hlt);generalize l[k]=pu at *;exact Aef):P:=h
theorem ahy(h:P:=by
 have hVO:= @aFl prog 293 _ (λargs=>ReflectliteValue.unpack (args.getD 0 (.tuple #[]))) func293 Aab Aab Aab Aab;exact Aeq):P:=h
theorem avF.Aeq(h:P:=by
 have hTY:= @aFl prog 294 _ (ReflectliteValue.methodAny (ReflectliteValue.valueError "reflectlite.Value.Type" 0) (λt _ _ _=>ReflectliteType.toType t)) func294 Aab Aab Aab Aab;have hIN:= @aFl prog 295 _ (ReflectliteValue.method (ReflectliteValue.valueError "reflectlite.Value.IsNil" 0) ReflectliteValue.isNil) func295 Aab Aab Aab Aab;have hKI:= @aFl prog 339 _ (ReflectliteType.abiMethod λt=>do pure (.int .u8 (<-Rtype.kind t))) func339 Aab Aab Aab Aab;have hEL:= @aFl prog 359 _ (ReflectliteType.method ReflectliteType.elem) func359 Aab Aab Aab Aab;have hIM:= @aFl prog 360 _ (ReflectliteType.relation "Implements" ReflectliteType.implements_) func360 Aab Aab Aab Aab;have f1:=As.valueOfPtr;have f2:=As.typePtr;have f3:=As.methodKind;have f4:=As.kindPtr;have f5:=As.methodElem;have f6:=As.elemType;have f7:=As.kindStruct;have f8:=As.methodImplements;have f9:=As.implements;have hgl:=World.lt_of_cell hg;have htl:=World.lt_of_cell ht;simp only at hgl htl;have n8:=As.isNil ⟨w.heap.size,0,none⟩ ⟨tb,0,none⟩ ((w.alloc (.cells #[.pointer (some ⟨tb,0,none⟩)] 328)).alloc (.cells #[.pointer (some ⟨6,328,none⟩),.pointer (some ⟨w.heap.size,0,none⟩),.int .u64 150] 359)) Aac
 have hg2:((w.alloc (.cells #[.pointer (some ⟨tb,0,none⟩)] 328)).alloc (.cells #[.pointer (some ⟨6,328,none⟩),.pointer (some ⟨w.heap.size,0,none⟩),.int .u64 150] 359)).cell? ⟨0,0,none⟩=some (.iface 377 (.agg #[.pointer (some ⟨6,284,none⟩)])):=by
  rw [aEO _ _ ⟨0,0,none⟩ (by simp<;>omega),aEO _ _ ⟨0,0,none⟩ hgl];exact hg
 go_in
 go_wp2_with (go_at_call 296;refine(HAS _ ⟨tb,0,none⟩ ⟨w.heap.size,0,none⟩ old _ ?_ ?_ ?_).mono ?_;(simp);(rw [aEO _ _ ⟨tb,0,none⟩ Aae,aEO _ _ ⟨tb,0,none⟩ htl];exact ht);(rw [aFv _ _ ⟨tb,0,none⟩ Aae,aFv _ _ ⟨tb,0,none⟩ (Nat.ne_of_lt htl)];exact hf);rintro e w' ⟨rfl,hbel⟩)
 go_ret;exact⟨rfl,(((aEK _ _).alloc Aaa _).alloc Aae _).trans hbel⟩):P:=h
theorem avG.Aeq(h:P:=by
 have hEL:= @aFl prog 306 _ (ReflectliteValue.method (ReflectliteValue.valueError "reflectlite.Value.Elem" 0) ReflectliteValue.elem) func306 Aab Aab Aab Aab;have hST:= @aFl prog 307 _ ReflectliteValue.set func307 Aab Aab Aab Aab;have f1:=As.typeOfNo;have f2:=As.typeOfUnread;have f3:=As.methodAssignableTo;have f4:=As.assignNo;have f5:=As.assignUnread;have f6:=As.noAs;have f7:=As.hasUnwrap;have f8:=As.methodUnwrap;have f9:=As.valueOfNo;have hal:a.block < w.heap.size:=World.lt_of_cell ha;have htl:t.block < w.heap.size:=World.lt_of_cell ht;exact Adj):P:=h
theorem aaY(h:P:=by
 have z2:=aEv p2;have z3:=aEv p3;clear c0 c1 c2 c3 c4 c5 c6 c7 c8 c9 p0 p1 p2 p3 p4 p5 p6 p7 p8 p9 nI;exact Ab4):P:=h
theorem avH.Ab4(h:P:=by
 refine rg 20 Ge 23 ?_;open auw in exact aaT):P:=h
theorem avI.Ab4(h:P:=by
 refine rg 16 Ge 17 ?_;refine tk [0,1,2,3,4,5,6,7,8,9,10,11,12,13,14,15] ?_;iterate 16 (refine iy (λK hK=>?_);go_simp;refine hK _ ?_;clear hK K)
 refine jm ?_;clear y0 y1 z2 z3;refine aS Aab (λx hx=>?_);have JU:=Hq (HSY x c v (HW1.step hx));clear hx;refine an 16 ?_;go_simp;refine JU.mono ?_;rintro e y ⟨rfl,c',v',hY⟩;have HY:=Hq hY;clear hY JU;refine ad ?_;go_simp;go_wp2_with fail;go_ret;exact⟨rfl,c',v',HY⟩):P:=h
theorem avJ.Ab4(h:P:=by
 refine rg 17 Ge 20 ?_;open auy in exact aaT):P:=h
theorem ahz(h:P:=by
 have c4:V.cell? ⟨g,off+j*4,none⟩=some (.string q):=by rw [hV,aEO _ _ _ hgw];exact d0
 have hgq:g < V.heap.size:=by rw [hV];simp;omega
 clear hblk hV c0 c1 c2 c3 d0;exact Ad5):P:=h
theorem avK.Ad5(h:P:=by
 open auX in exact ahi):P:=h
theorem avL.Ad5(h:P:=by
 open auW in exact ahh):P:=h
theorem ahA(h:P:=by
 go_wp2_with fail;refine(H1 _ jC).mono ?_;rintro e w1 ⟨rfl,hb⟩;have HA1:=Hq (aj SA hb);have HB1:=Hq (aj HB0 hb);have jM:=Hq (jC.trans (hb.mono jC.size));exact Aej):P:=h
theorem avM.Aej(h:P:=by
 clear hb c0 c1 c2 c3 c4 c5 c6 c7 c8 c9 c10 c11 c12 c13 c14 c15 c16 c17 c18 c19 c20 c21 d0 d1 d2 d3 d4 d5 d6 d7 d8 d9 d10 d11 d12 d13 d14 d15 d16 d17 d18 d19 d20 d21 SA HB0 jC;obtain⟨c0,c1,c2,c3,c4,c5,c6,c7,c8,c9,c10,c11,c12,c13,c14,c15,c16,c17,c18,c19,c20,c21⟩:=yD HA1;obtain⟨d0,d1,d2,d3,d4,d5,d6,d7,d8,d9,d10,d11,d12,d13,d14,d15,d16,d17,d18,d19,d20,d21⟩:=yD HB1;open avY in exact ahE):P:=h
theorem avN.Aej(h:P:=by
 clear hb c0 c1 c2 c3 c4 d0 d1 d2 d3 d4 SA HB0 jC;obtain⟨c0,c1,c2,c3,c4⟩:=xI HA1;obtain⟨d0,d1,d2,d3,d4⟩:=xI HB1;open avX in exact ahE):P:=h
theorem ahB(h:P:=by
 go_wp2_with fail;refine(HCM _).mono ?_;rintro e w1 ⟨rfl,hb1⟩;have HB1:=Hq (HB.trans (hb1.mono HB.size));exact Ac2):P:=h
theorem avP.Ac2(h:P:=by
 have HE:Hid (RF=(ln - no == 0)):=by
  show RF=_
  rw [ah HFP,aFI,aE3,beq_iff_eq];omega
 clear hb1 q0 q1 q2 q3 HFP;go_wp2_with fail;go_ret2
 exact⟨by rw [ah HE];rfl,HB1⟩):P:=h
theorem avQ.Ac2(h:P:=by
 clear hb1 q0 q1 q2 q3;by_cases hc:ln - no < 0
 .go_wp2_with fail;go_roundw
  case rel=>exact⟨m+1,q,by
   rcases aFD R (m+1) with h9|h9
   .have:=ah HHM Aaa;omega
   .exact h9,h3,h4,Aaf,rfl,HB1⟩
  case measure=>simp[intOf];omega
 .go_wp2_with fail;go_roundw
  case rel=>exact⟨p,m,h2,by
   rcases aFD m R with h9|h9
   .have:=ah HLM h9;omega
   .exact h9,Aaa,rfl,rfl,HB1⟩
  case measure=>simp[intOf];omega):P:=h
theorem ahC(h:P:=by
 go_in
 go_wp2_with fail;refine(HO _).mono ?_;rintro e w1 ⟨rfl,hb1⟩;obtain⟨hA,hC,hbel⟩:=Bg hb1;have HC:=Hq hC;have aO:=Hq hbel;exact Aen):P:=h
theorem avS.Aen(h:P:=by
 obtain⟨⟨p0,p1,p2,p3⟩,_⟩:=fG hA;obtain⟨⟨r0,r1,r2,r3⟩,s0,s1,s2,s3⟩:=fG hC;clear hb1 hA hC hbel;go_wp2_with fail;clear r0 r1 r2 r3;refine Fo.bodyPost_at (λW' hW'=>?_);obtain⟨⟨r0,r1,r2,r3⟩,_⟩:=fG (show W'.heap[w.heap.size+1+1]?=some (.cells (iK pk (pm+dm*n) (pf+df*n) (ps+ds*n)) 142 (0,0)) by rw [hW'];exact Fo.four_set HC);have hbb:aG w W':=by rw [hW'];exact Fo.four_below aO Aaa
 exact aEE (v:= .tuple #[.agg (iK pk (pm+dm*n) (pf+df*n) (ps+ds*n)),.nilIface]) (by simp[results,results310,go_sem,r0,r1,r2,r3]) rfl ⟨rfl,hbb⟩):P:=h
theorem avU.Aen(h:P:=by
 have ve:=(HE.below hbel).var 5 Aaa;have hsz:=(show w.heap.size+1+1 < w1.heap.size from Fo.lt_of_blk hC);have hve:5 < w.heap.size:=aFC _ _ (HE.var 5 Aaa);obtain⟨⟨r0,r1,r2,r3⟩,s0,s1,s2,s3⟩:=fG hC;clear hb1 hA hC hbel;go_wp2_with fail;go_region
 all_goals
  go_wp2_with fail
  refine Fo.bodyPost_at (λW' hW'=>?_)
  obtain⟨⟨t0,t1,t2,t3⟩,_⟩:=fG (show W'.heap[w.heap.size+1+1]?=some (.cells (iK ⟨#[]⟩ 0 0 0) 142 (0,0)) by rw [hW'];exact Fo.four_set (w:=w1.drew) HC)
  have hbb:aG w W':=by rw [hW'];exact Fo.four_below (w:=w1.drew) (aO.trans ⟨rfl,rfl,rfl,aEx _,λ_ _=>rfl⟩) Aaa
  exact aEE (v:= .tuple #[.agg (iK ⟨#[]⟩ 0 0 0),um (E 5)]) (by simp[results,results310,go_sem,t0,t1,t2,t3]) rfl ⟨rfl,hbb⟩):P:=h
theorem ahD(h:P:=by
 have h9n:∀x,6 < newC w.heap.size 9 c x->newC w.heap.size 9 c x=9:=λx hx=>by
  by_cases hlt:x < w.heap.size
  .rw [eY hlt] at hx ⊢;exact h9 x hx
  .exact aY Aaa
 exact AdL):P:=h
theorem avV.AdL(h:P:=by
 have OZ:=Hq (λW (hBW:B<=W.heap.size) (hN:NQ W B n A G (newC w.heap.size 9 c))=>adF n A G (newC w.heap.size 9 c) 1 mF mT mI mL mk mN W B hBW h9n hz hmk hP yI hok h2 hN);clear h9n hz hP yI hok;unfold fZ at OZ;dsimp only at OZ ⊢;generalize (takeN n ⟨1,mF,mT,mI,mL,mk,mN⟩).1=N1 at *;generalize (if (takeN n ⟨1,mF,mT,mI,mL,mk,mN⟩).2=true then[XY n ⟨1,mF,mT,mI,mL,mk,mN⟩] else[])=L1 at *;generalize (if (takeN n ⟨1,mF,mT,mI,mL,mk,mN⟩).2=true then(0:Int) else 1)=CW at *;unfold fZ;have H9:=Hq h9;clear h9;have HMO:=Hq (λW=>kD ⟨1,mF,mT,mI,mL,mk,mN⟩ W Aal);open anZ in exact aa0):P:=h
theorem avW.AdL(h:P:=by
 have HGV:=Hq (λW (hBW:B<=W.heap.size) (hN:NQ W B n A G (newC w.heap.size 9 c))=>Rz n A G (newC w.heap.size 9 c) mF mk mN W B hBW h9n hz hmk hP yI h0 hN);clear h9n hz hP yI;unfold fZ at HGV;generalize eU n mF mk mN=GV at *;obtain⟨N1,L1,b1⟩:=GV;dsimp only at HGV ⊢;generalize (if b1=true then(0:Int) else 1)=CW at *;unfold fZ;have H9:=Hq h9;clear h9;have HMO:=Hq (λW=>kD ⟨0,mF,mT,mI,mL,mk,mN⟩ W Aal);open anV in exact aa0):P:=h
theorem ahE(h:P:=by
 go_wp2_with fail;refine(H2 _ jM).mono ?_;rintro e w2 ⟨rfl,hb⟩;have HA2:=Hq (aj HA1 hb);have HB2:=Hq (aj HB1 hb);have HL2:=Hq (jM.trans (hb.mono jM.size));exact AdU):P:=h
theorem avX.AdU(h:P:=by
 clear hb c0 c1 c2 c3 c4 d0 d1 d2 d3 d4 HA1 HB1 jM;obtain⟨c0,c1,c2,c3,c4⟩:=xI HA2;obtain⟨d0,d1,d2,d3,d4⟩:=xI HB2;open av0 in exact ahF):P:=h
theorem avY.AdU(h:P:=by
 clear hb c0 c1 c2 c3 c4 c5 c6 c7 c8 c9 c10 c11 c12 c13 c14 c15 c16 c17 c18 c19 c20 c21 d0 d1 d2 d3 d4 d5 d6 d7 d8 d9 d10 d11 d12 d13 d14 d15 d16 d17 d18 d19 d20 d21 HA1 HB1 jM;obtain⟨c0,c1,c2,c3,c4,c5,c6,c7,c8,c9,c10,c11,c12,c13,c14,c15,c16,c17,c18,c19,c20,c21⟩:=yD HA2;obtain⟨d0,d1,d2,d3,d4,d5,d6,d7,d8,d9,d10,d11,d12,d13,d14,d15,d16,d17,d18,d19,d20,d21⟩:=yD HB2;open avZ in exact ahF):P:=h
theorem ahF(h:P:=by
 go_wp2_with fail;refine(H3 _ HL2).mono ?_;rintro e w3 ⟨rfl,hb⟩;have SE:=Hq (aj HA2 hb);have HB3:=Hq (aj HB2 hb);have lu:=Hq (HL2.trans (hb.mono HL2.size));exact Ad0):P:=h
theorem avZ.Ad0(h:P:=by
 clear hb c0 c1 c2 c3 c4 c5 c6 c7 c8 c9 c10 c11 c12 c13 c14 c15 c16 c17 c18 c19 c20 c21 d0 d1 d2 d3 d4 d5 d6 d7 d8 d9 d10 d11 d12 d13 d14 d15 d16 d17 d18 d19 d20 d21 HA2 HB2 HL2;obtain⟨c0,c1,c2,c3,c4,c5,c6,c7,c8,c9,c10,c11,c12,c13,c14,c15,c16,c17,c18,c19,c20,c21⟩:=yD SE;obtain⟨d0,d1,d2,d3,d4,d5,d6,d7,d8,d9,d10,d11,d12,d13,d14,d15,d16,d17,d18,d19,d20,d21⟩:=yD HB3;open av2 in exact ahG):P:=h
theorem av0.Ad0(h:P:=by
 clear hb c0 c1 c2 c3 c4 d0 d1 d2 d3 d4 HA2 HB2 HL2;obtain⟨c0,c1,c2,c3,c4⟩:=xI SE;obtain⟨d0,d1,d2,d3,d4⟩:=xI HB3;open av1 in exact ahG):P:=h
theorem ahG(h:P:=by
 go_wp2_with fail;refine(H4 _ lu).mono ?_;rintro e w4 ⟨rfl,hb⟩;have OA:=Hq (aj SE hb);have mh:=Hq (aj HB3 hb);have xU:=Hq (lu.trans (hb.mono lu.size));exact AdP):P:=h
theorem av1.AdP(h:P:=by
 clear hb c0 c1 c2 c3 c4 d0 d1 d2 d3 d4 SE HB3 lu;obtain⟨c0,c1,c2,c3,c4⟩:=xI OA;obtain⟨d0,d1,d2,d3,d4⟩:=xI mh;go_wp2_with fail;refine(H5 _ xU).mono ?_;rintro e w5 ⟨rfl,hb⟩;have HA5:=Hq (aj OA hb);have fI:=Hq (aj mh hb);have HL5:=Hq (xU.trans (hb.mono xU.size));clear hb c0 c1 c2 c3 c4 d0 d1 d2 d3 d4 OA mh xU;go_wp2_with fail;go_ret;exact⟨rfl,HL5⟩):P:=h
theorem av2.AdP(h:P:=by
 clear hb c0 c1 c2 c3 c4 c5 c6 c7 c8 c9 c10 c11 c12 c13 c14 c15 c16 c17 c18 c19 c20 c21 d0 d1 d2 d3 d4 d5 d6 d7 d8 d9 d10 d11 d12 d13 d14 d15 d16 d17 d18 d19 d20 d21 SE HB3 lu;go_wp2_with fail;go_ret;exact⟨rfl,xU⟩):P:=h
end Go.Proofs.YtfachhcijcjbpaaGreatDoor
