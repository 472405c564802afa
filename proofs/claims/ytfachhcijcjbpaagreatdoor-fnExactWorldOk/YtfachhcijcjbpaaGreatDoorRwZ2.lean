/-
  Parts of proofs that stand more than once, each said once.
-/
import Derived.Test.YtfachhcijcjbpaaGreatDoorRwZ1
namespace Go.Proofs.YtfachhcijcjbpaaGreatDoor
open Go.Proofs.Tryz
set_option maxRecDepth 100000
variable{P:Prop}
theorem anK.Aa6(h:P:=by
 clear hW1 hbw q0 q1 q2 q3 H7;obtain⟨d0,d1,d2,d3⟩:=iq HW1;obtain⟨c0,c1,c2,c3,c4,c5,c6,c7,c8⟩:=nine BA;go_cut [46] (λr wx=>r= .bool bb/\aG W1 wx)
 case first=>
  by_cases h1:y < si
  case' neg=>
   have HV:=Hq (show bb=true by rw [<-ah eG];simp[h1])
   have hb1:decide (si<=y)=true:=aEy Aaa
   clear eG Bu
   go_wp2_with fail
   go_meet
   case rel=>exact⟨Aam,aEK _ _⟩
  have hb1:decide (si<=y)=false:=aEw Aaa;by_cases h2:si < next
  case' neg=>
   have HV:=Hq (show bb=true by rw [<-ah eG];simp[h2])
   have hb2:decide (next<=si)=true:=aEy Aaa
   clear eG Bu
   go_wp2_with fail
   go_meet
   case rel=>exact⟨Aam,aEK _ _⟩
  have hb2:decide (next<=si)=false:=aEw Aaa;go_wp2_with fail;refine(SI _ _ xu).mono ?_;rintro e w2 ⟨rfl,hb3⟩;have HB3:=Hq hb3;have HW2:=Hq (aj HW1 hb3);clear hb3 d0 d1 d2 d3 c0 c1 c2 c3 c4 c5 c6 c7 c8;obtain⟨d0,d1,d2,d3⟩:=iq HW2;cases h3:NN st
  case' false=>
   have HV:=Hq (show bb=true by rw [<-ah eG];simp[h3])
   clear eG Bu h3
   go_wp2_with fail
   go_meet
   case rel=>exact⟨Aam,HB3⟩
  cases h4:keyOk sx.data.toList
  case' false=>
   have HV:=Hq (show bb=true by rw [<-ah eG];simp[h4])
   have H4:=Hq (λw1=>gW sx false w1 h4)
   clear eG Bu h3 h4
   go_wp2_with (go_at_call 195;refine(H4 _).mono ?_;rintro e w9 ⟨rfl,rfl⟩)
   go_meet
   case rel=>exact⟨Aam,HB3⟩
  have H4:=Hq (λw1=>gW sx true w1 h4);have HV:=Hq (show bb= !fC sn by rw [<-ah eG];simp[h1,h2,h3,h4]);have H5:=Hq (λw1=>aL sn _ w1 rfl);clear eG Bu h3 h4;go_wp2_with (first|(go_at_call 195;refine(H4 _).mono ?_;rintro e w9 ⟨rfl,rfl⟩)|(go_at_call 179;refine(H5 _).mono ?_;rintro e w9 ⟨rfl,rfl⟩))
  go_meet
  case rel=>exact⟨Aam,HB3⟩
 case rest=>
  obtain⟨rfl,hbx⟩:=hcut;open asL in exact Wt):P:=h
theorem awe(h:P:=by
 clear hz hok hm hL he HR hw hF hks hb HID;generalize (takeN n o.m).1=n' at *;open arC in exact ake):P:=h
theorem anL.Ady(h:P:=by
 obtain⟨c0,c1,c2,c3,c4,c5,c6,c7,c8,c9⟩:=jB HY.blk;obtain⟨⟨p0,p1,p2,p3,p4,p5,p6⟩,_⟩:=dY IB;have ak5:=ay HY.blk;have aDq:=ay IB;go_upto_region 10 with fail;have y0:=aEv c0;have z1:=aEv p1;have z3:=aEv p3;clear c0 c1 c2 c3 c4 c5 c6 c7 c8 c9 p0 p1 p2 p3 p4 p5 p6;refine rg 11 Ge 12 ?_;refine tk [0,1,2,3,4,5,6,7,8,9,10] ?_;iterate 11 (refine iy (λK hK=>?_);go_simp;refine hK _ ?_;clear hK K)
 refine jm ?_;clear y0 z1 z3;refine aS Aab (λx hx=>?_);have JU:=Hq (HSY x A' G' c' n' (HY.step hx));clear hx;refine an 11 ?_;go_simp;refine JU.mono ?_;rintro e z ⟨rfl,c2,v2,hZ⟩;have HZ:=Hq hZ;clear hZ JU;refine ad ?_;go_simp;go_wp2_with fail;go_ret;exact⟨rfl,A',G',c2,v2,HZ⟩):P:=h
theorem anM.Ady(h:P:=by
 go_wp2_with fail;go_ret;exact⟨rfl,A',G',c',v,by rw [aFF];exact HY⟩):P:=h
theorem Pb(h:P:=by
 open atV in exact O7):P:=h
theorem anN.AaR(h:P:=by
 clear HO p0 p1 p2 p3 p4 p5 p6;have f1:=acV;open aAF in exact TB):P:=h
theorem anO.AaR(h:P:=by
 clear HO HM p0 p1 p2 p3 p4 p5 p6;have f1:=acW;open apn in exact aj6):P:=h
theorem anP.AaR(h:P:=by
 clear HO p0 p1 p2 p3 p4 p5 p6;have f1:=acW;open aAG in exact TB):P:=h
theorem anQ.AaR(h:P:=by
 clear HO p0 p1 p2 p3 p4 p5 p6;have f1:=Xi;open aAH in exact TB):P:=h
theorem anR.AaR(h:P:=by
 clear p0 p1 p2 p3 p4 p5 p6;refine Ip 30 ?_;refine tk [0,1,2,5,6,7,9,10,11,13,14,15,17,18,19,21,22,23,25,26,27] ?_;open ao0 in exact awi):P:=h
theorem anS.AaR(h:P:=by
 have y7:=aEv p7;have y8:=aEv p8;have y9:=aEv p9;have y10:=aEv nI;clear p0 p1 p2 p3 p4 p5 p6 p7 p8 p9 nI;refine Ip 23 ?_;refine tk [0,1,2,5,6,7,9,10,11,13,14,15,17,18,19,20] ?_;open aoZ in exact awi):P:=h
theorem anT.AaR(h:P:=by
 clear HO HM p0 p1 p2 p3 p4 p5 p6;have f1:=Xi;open apm in exact aj6):P:=h
theorem anU.AaR(h:P:=by
 clear HO HM p0 p1 p2 p3 p4 p5 p6;have f1:=acV;open apl in exact aj6):P:=h
theorem aa0(h:P:=by
 rw [hmo] at HMO;unfold nT at HMO;have SI:=Hq (λW (ha:aK W A.k n.kids)=>GN n A mF W hkl ha);rw [h2] at SI;clear hmo h2;have jD:=Hq (h.nine hB);clear h;go_in
 go_upto_region 1 with fail;refine wp_at (λW0 hW=>?_);exact Aa3):P:=h
theorem anV.Aa3(h:P:=by
 obtain⟨e1,e2,e3,e4⟩:=fP w (.cells (dR n A) 53) (.cells (bH 0 mF mT mI mL mk mN) 104) (.cells kH 53);open aAd in exact Yk3):P:=h
theorem anW.Aa3(h:P:=by
 obtain⟨e1,e2,e3,e4⟩:=fP w (.cells (dR n A) 53) (.cells (bH 0 mF mT mI mL mk mN) 104) (.cells kH 53);exact aw2):P:=h
theorem anX.Aa3(h:P:=by
 obtain⟨e1,e2,e3,e4⟩:=fP w (.cells (dR n A) 53) (.cells (bH mK mF mT mI mL mk mN) 104) (.cells kH 53);exact aw2):P:=h
theorem anY.Aa3(h:P:=by
 obtain⟨e1,e2,e3,e4⟩:=fP w (.cells (dR n A) 53) (.cells (bH 2 mF mT mI mL mk mN) 104) (.cells kH 53);open aAe in exact Yk3):P:=h
theorem anZ.Aa3(h:P:=by
 obtain⟨e1,e2,e3,e4⟩:=fP w (.cells (dR n A) 53) (.cells (bH 1 mF mT mI mL mk mN) 104) (.cells kH 53);open aAf in exact Yk3):P:=h
theorem aj3(h:P:=by
 obtain⟨pk,pm,pf,ps⟩:=p;unfold gZ at hp;simp only[aED] at hp;obtain⟨⟨⟨⟨_,a1⟩,a2⟩,a3⟩,a4⟩:=hp;have b1:0<=pm/\pm<=1000000000:=aEQ a1;have b2:0<=pf/\pf<=1000000000:=aEQ a2;have b3:0<=ps/\ps<=1000000000:=aEQ a3;obtain⟨Ow,a11⟩:=b1;obtain⟨a20,a21⟩:=b2;obtain⟨a30,a31⟩:=b3;obtain⟨h10,h11⟩:=h1;obtain⟨h20,h21⟩:=h2;obtain⟨h30,h31⟩:=h3;clear a1 a2 a3 a4;exact Ab5):P:=h
theorem an0.Ab5(h:P:=by
 dsimp only at hf;clear he;rcases hf with hf|⟨hf,hs⟩
 all_goals
  go_in
  go_upto_region 5 with fail
  refine Fo.wp_at (λV hV=>?_)
  obtain⟨_,hC,hbel⟩:=Bg (w:=w) (w1:=V) (by rw [hV];exact aEK _ _)
  have HC:=Hq hC
  have aO:=Hq hbel
  have vv:=(HE.below hbel).var 4 Aaa
  have hsz:=(show w.heap.size+1+1 < V.heap.size from Fo.lt_of_blk hC)
  obtain⟨⟨r0,r1,r2,r3⟩,s0,s1,s2,s3⟩:=fG hC
  clear hC hbel hV
  go_region
  all_goals
   go_wp2_with fail
   refine Fo.bodyPost_at (λW' hW'=>?_)
   obtain⟨⟨t0,t1,t2,t3⟩,_⟩:=fG (show W'.heap[w.heap.size+1+1]?=some (.cells (iK ⟨#[]⟩ 0 0 0) 142 (0,0)) by rw [hW'];exact Fo.four_set (w:=V.drew) HC)
   have hbb:aG w W':=by rw [hW'];exact Fo.four_below (w:=V.drew) (aO.trans ⟨rfl,rfl,rfl,aEx _,λ_ _=>rfl⟩) Aaa
   exact aEE (v:= .tuple #[.agg (iK ⟨#[]⟩ 0 0 0),um (E 4)]) (by simp[results,results310,go_sem,t0,t1,t2,t3]) rfl ⟨rfl,hbb⟩):P:=h
theorem an1.Ab5(h:P:=by
 dsimp only at hf hs;clear hok he;open avU in exact ahC):P:=h
theorem an2.Ab5(h:P:=by
 dsimp only at hf hs;clear hok;open avS in exact ahC):P:=h
theorem LQ(h:P:=by
 obtain⟨k,z,hk,rfl,rfl,hz0,hz1,hall,hbel⟩:=hrel;have kS:=Hq hall;have aO:=Hq hbel;clear hall hbel;exact AaP):P:=h
theorem an3.AaP(h:P:=by
 by_cases hlt:k < l.length
 .obtain⟨g,off,rfl,hgw,q0,q1,q2,q3⟩:=aH.four (GR.At.below HA aO) k hlt;open apI in exact Pd
 .exact aeL):P:=h
theorem an4.AaP(h:P:=by
 by_cases hlt:k < l.length
 .obtain⟨g,off,rfl,hgw,q0,q1,q2,q3⟩:=SentAt.four (GR.At.below HA aO) k hlt;open apH in exact Pd
 .exact aeL):P:=h
theorem an5.AaP(h:P:=by
 by_cases hlt:k < l.length
 .obtain⟨g,off,rfl,hgw,q0,q1,q2,q3⟩:=fJ.four (GR.At.below HA aO) k hlt;open apG in exact Pd
 .exact aeL):P:=h
theorem an6.AaP(h:P:=by
 by_cases hlt:k < l.length
 .obtain⟨g,off,b,c,e0,hgw,q0,q1,q2,_⟩:=gT.below HA aO k hlt;subst e0;open apF in exact Pd
 .exact aeL):P:=h
theorem an7.AaP(h:P:=by
 by_cases hlt:k < l.length
 .obtain⟨g,off,rfl,hgw,q0,q1,q2,q3,q4,q5,q6,q7,q8,q9,QZ,q11,q12⟩:=oN (GR.At.below HA aO) k hlt;open apE in exact Pd
 .exact abp):P:=h
theorem an8.AaP(h:P:=by
 by_cases hlt:k < l.length
 .obtain⟨g,off,rfl,hgw,q0,q1,q2,q3,q4,q5,q6,q7,q8,q9,QZ,q11⟩:=lM (GR.At.below HA aO) k hlt;open apD in exact Pd
 .exact abp):P:=h
theorem an9.AaP(h:P:=by
 by_cases hlt:k < l.length
 .obtain⟨g,off,rfl,hgw,q0,q1,q2,q3,q4,q5,q6⟩:=qU (GR.At.below HA aO) k hlt;open apC in exact Pd
 .exact abp):P:=h
theorem aoa.AaP(h:P:=by
 by_cases hlt:k < l.length
 .open ar0 in exact agE
 .exact abp):P:=h
theorem aob.AaP(h:P:=by
 by_cases hlt:k < l.length
 .obtain⟨g,off,rfl,hgw,q0⟩:=mP.one (GR.At.below HA aO) k hlt;open apB in exact Pd
 .exact abp):P:=h
theorem awf(h:P:=by
 have hTi:∀j,j < 3->∃u,wc.cell? ⟨G.s,i*3+j,none⟩=some u/\wc.frozen? ⟨G.s,i*3+j,none⟩=false:=λj hj=>⟨_,(hcT j hj).1.trans (aEB (by rw [bf];exact hj)),(hcT j hj).2⟩
 obtain⟨v0,y0,x0⟩:=hTi 0 Aaa;obtain⟨v1,y1,x1⟩:=hTi 1 Aaa;obtain⟨v2,y2,x2⟩:=hTi 2 Aaa;rw [aF2] at y0 x0;exact AdA):P:=h
theorem aoc.AdA(h:P:=by
 clear hTi hcT hrT hT hlT T Ae hb4 ajL rR XD pX HB3 amy amT aey;have aDh:G.s < wc.heap.size:=Aaa
 obtain⟨c0,c1,c2,c3,c4,c5,c6,c7,c8⟩:=nine Dx;obtain⟨s40,s41,s42⟩:=CP aax;have sf:=aA aax 2;have hnl:=ay Dx;have hne1:sb≠G.s:=Aaa
 have hne2:G.s≠sb:=Aaa
 go_upto_region 15 with fail;refine wp_at (λW6 hW6=>?_);have HNW:Hid (NQ W6 B (dS n (n.seen.set i ⟨mF,fH s0 mL,bV s0 mL⟩)) (⟨a_k,(some ⟨gp,0,none⟩),iV,(some ⟨G.s,0,none⟩),jd,cZ,fD,dW,dw,dG⟩:bg) ⟨G.k,G.p,G.o,G.s,G.r,uQ G.i i gi⟩ (vS gi (bV s0 mL) (newC w.heap.size 9 c))):=by rw [hW6];exact XF
 have Yt:aC [sb,G.s] wc W6:=by
  rw [hW6];exact((aC.set _).mono Aac).trans ((eP [.int .i64 mF,.int .i64 (fH s0 mL),.slice (some ⟨gi,0,none⟩) (bV s0 mL).length Yc] _ (i*3)).mono Aac)
 have HIW:Hid (GR.W aW 1 W6 (some ⟨gi,0,none⟩) gi (bV s0 mL)):=by
  rw [hW6];exact hW5.W.keeps (eP [.int .i64 mF,.int .i64 (fH s0 mL),.slice (some ⟨gi,0,none⟩) (bV s0 mL).length Yc] _ (i*3)) (λx hx hm=>by have h1:=(dz hx).1;simp at hm;omega)
 have aez:Hid (W6.heap[sb]?=some (.cells #[.int .i64 mF,.int .i64 (fH s0 mL),.slice (some ⟨gi,0,none⟩) (bV s0 mL).length Yc] 144 (0,0))):=by rw [hW6];exact lU _ hne1 (lU _ hne1 (lU _ hne1 (aT aax 2 _)))
 have nM:=Hq (Yt.obj Dx (λhx=>Aaj));have aej:=Hq (Yt.obj amv (λhx=>Aaj));have qH:=Hq (Yt.obj Tv (λhx=>Aaj))
 have hBs:B<=G.s:=by
  rcases aFD G.s B with h1|h1
  .have h2:=jD.lo G.s h1;rw [eY Aaa,hc4] at h2;omega
  .exact h1
 have amg:=Hq ((mh.mono hB).trans (Yt.below (B:=B) (λx hx=>Aaj) (aEA hB mh.size)))
 have ams:=Hq (Apart.keeps (c:=c) (Apart.of_below mh) mh.size Yt (λx hx=>by
  have h1:x=sb\/x=G.s:=Aad
  rcases h1 with rfl|rfl
  .left;omega
  .right;omega))
 have aDy:gi < W6.heap.size:=aEH aBY Yt.size;have aDX:w.heap.size+3<=W6.heap.size:=by have:=ay aez;omega
 have HCO:Hid (∀x,x < w.heap.size->6 < c x->vS gi (bV s0 mL) (newC w.heap.size 9 c) x=9):=λx hx h=>by rw [vT (λhm=>by have:=(dz hm).1;omega),eY hx];exact H9 x h
 have Ev:Hid (∀x,w.heap.size<=x->x≠gi->vS gi (bV s0 mL) (newC w.heap.size 9 c) x=9):=λx hx h=>by rw [vT (λhm=>h (dz hm).1)];exact aY hx
 clear hW6 Yt hW5 XF y0 y1 y2 x0 x1 x2 s40 s41 s42 sf c0 c1 c2 c3 c4 c5 c6 c7 c8 hnl Dx amv Tv aax mh;obtain⟨c0,c1,c2,c3,c4,c5,c6,c7,c8⟩:=nine nM;obtain⟨m0,m1,m2,m3,m4,m5,m6⟩:=jA aej;have hnl:=ay nM;have hml:=ay aej;go_upto_region 16 with fail;refine wp_at (λW7 WY=>?_);have vJ:=au W6 (.cells (bH 2 n.id mF mI 0 ⟨#[]⟩ 0) 104);have ha7:=aEu W6 (.cells (bH 2 n.id mF mI 0 ⟨#[]⟩ 0) 104);rw [<-WY] at vJ ha7;have aak:=Hq ha7;have rF:=Hq (aj nM vJ);have aek:=Hq (aj aej vJ);have vP:=Hq (aj qH vJ);have aeA:=Hq (aj aez vJ);have ajH:=Hq (HIW.below vJ);have aen:=Hq (HNW.kc (k:=9) (KC.of_below vJ) Aaa);have ajB:=Hq (amg.trans (vJ.mono (aEA hB Aaa)));have ajJ:=Hq (ams.step Aaa vJ);obtain⟨ab,hab⟩:∃ab,W6.heap.size=ab:=⟨_,rfl⟩;have aDs:w.heap.size+3<=ab:=Aaa
 have habs:sb < ab:=by have:=ay aez;omega
 have aDt:gi < ab:=Aaa
 rw [hab] at aak;rw [hab] at *;have hz7:=ay aak;clear WY vJ ha7 c0 c1 c2 c3 c4 c5 c6 c7 c8 m0 m1 m2 m3 m4 m5 m6 hnl hml nM aej qH aez HIW HNW amg ams;obtain⟨m0,m1,m2,m3,m4,m5,m6⟩:=jA aek;obtain⟨s70,s71,s72⟩:=CP aeA;have hml:=ay aek;have aCt:=ay aeA;have aef:=Hq (λW (ha:aK W (some ⟨gi,0,none⟩) (bV s0 mL))=>Xu (some ⟨gi,0,none⟩) Yc (bV s0 mL) mI W Aaa ha);cases hhas:rX s0 mL mI
 .clear r1;have hm1:¬mI < fH s0 mL:=λh=>by unfold rX at hhas;rw [aEy h] at hhas;simp at hhas
  have hd:decide (mI < fH s0 mL)=false:=aEw hm1;have hb:hasB (bV s0 mL) mI=false:=Acu
  rw [hb] at aef;obtain⟨c0,c1,c2,c3,c4,c5,c6,c7,c8⟩:=nine rF;have hnl:=ay rF;open am0 in exact awd
 .obtain rfl:=r1 hhas;clear r1 r2 r3;obtain⟨c0,c1,c2,c3,c4,c5,c6,c7,c8⟩:=nine rF;obtain⟨⟨d0,d1,d2,d3,d4,d5,d6,d7,d8⟩,f0,f1,f2,f3,f4,f5,f6,f7,f8⟩:=iG vP;have hnl:=ay rF;have hrl:=ay vP;by_cases hm:mI < fH s0 mL
  .have hd:decide (mI < fH s0 mL)=true:=aEy hm;go_wp2_with fail;exact axa
  .have hd:decide (mI < fH s0 mL)=false:=aEw hm;have hb:hasB (bV s0 mL) mI=true:=Acu
   rw [hb] at aef;open amZ in exact awd):P:=h
theorem aod.AdA(h:P:=by
 clear hTi hcT hrT hT hlT T ayu Mr hown2 ags aao agv aav agc VP agr agf agm aer;have aDi:G.s < wc.heap.size:=Aaa
 obtain⟨c0,c1,c2,c3,c4,c5,c6,c7,c8⟩:=nine VU;obtain⟨s40,s41,s42⟩:=CP aaw;have hnl:=ay VU;have ayC:=ay aaw;have ax9:Hid ((kW (bV s0 mL) mI).length=(bV s0 mL).length+1):=ab0;clear ab0;go_upto_region 27 with fail;refine wp_at (λW12 akO=>?_)
 have amz:Hid (NQ W12 B (dS (dS n (n.seen.set i ⟨mF,fH s0 mL,bV s0 mL⟩)) ((n.seen.set i ⟨mF,fH s0 mL,bV s0 mL⟩).set i ⟨mF,fH s0 mL,kW (bV s0 mL) mI⟩)) (⟨a_k,(some ⟨gp,0,none⟩),iV,(some ⟨G.s,0,none⟩),jd,cZ,fD,dW,dw,dG⟩:bg) ⟨G.k,G.p,G.o,G.s,G.r,uQ (uQ G.i i gi) i g2⟩ (vS g2 (kW (bV s0 mL) mI) (vS gi (bV s0 mL) (newC w.heap.size 9 c)))):=by
  rw [akO,<-ah ax9];exact HNP
 have Un:aC [G.s] wc W12:=by
  rw [akO];exact eP [.int .i64 mF,.int .i64 (fH s0 mL),.slice (some ⟨g2,0,none⟩) ((bV s0 mL).length+1) cq2] wc (i*3)
 have agt:=Hq (Un.obj VU (λhx=>Aaj));have OQ:=Hq (Un.obj agw (λhx=>Aaj));have amb:=Hq (Un.obj agd (λhx=>Aaj));have amf:=Hq (agh.trans (Un.below (B:=B) (λx hx=>Aaj) Aaa));have amr:=Hq (Apart.keeps (c:=c) agn Aaa Un (λx hx=>by have:x=G.s:=Aad;rw [this];right;omega));have azU:=Hq (amD.keeps Un (λx hx=>Aaj));have azH:Hid (∀x,x < w.heap.size->6 < c x->vS g2 (kW (bV s0 mL) mI) (vS gi (bV s0 mL) (newC w.heap.size 9 c)) x=9):=λx hx h=>by rw [vT (λhm=>by have:=(dz hm).1;omega)];exact HCO x hx h
 have amk:Hid (∀x,w.heap.size<=x->x≠gi->x≠g2->vS g2 (kW (bV s0 mL) mI) (vS gi (bV s0 mL) (newC w.heap.size 9 c)) x=9):=λx hx h h'=>by rw [vT (λhm=>h' (dz hm).1)];exact Ev x hx h
 clear akO Un HNP y0 y1 y2 x0 x1 x2 s40 s41 s42 c0 c1 c2 c3 c4 c5 c6 c7 c8 hnl ayC VU agw agd agh agn amD aaw aap HW2;obtain⟨c0,c1,c2,c3,c4,c5,c6,c7,c8⟩:=nine agt;obtain⟨⟨d0,d1,d2,d3,d4,d5,d6,d7,d8⟩,f0,f1,f2,f3,f4,f5,f6,f7,f8⟩:=iG OQ;have hnl:=ay agt;have hrl:=ay OQ;go_wp2_with fail;refine eB (u1:= .slice (some ⟨ab,0,none⟩) 1 1) (u2:= .int .i64 0) results142 rfl rfl rfl rfl OQ (λW' e4 eX=>?_);have ace:w.heap.size+2≠gi:=Aaa
 have HNF:=Hq (amz.kc (k:=9) (KC.keeps eX (λx hx=>by have:x=w.heap.size+2:=Aad;rw [this];exact amk _ Aaa ace Aaa)) Aaa)
 have HAT:Hid (∀W'',Out c w W' W''->RM W'' (⟨a_k,av,iV,(some ⟨G.s,0,none⟩),jd,cZ,cv,dW,dw,dG⟩:bg) (dS (setPu n RL) (n.seen.set i ⟨mF,fH s0 mL,kW (bV s0 mL) mI⟩))):=λW'' ho=>by
  obtain⟨F,hk,hF⟩:=ho
  have hold:=(HNF.kc (k:=9) (KC.keeps hk (λx hx=>azH x (hF x hx).1 (hF x hx).2)) Aaa)
  have ho:Out c w W' W'':=⟨F,hk,hF⟩
  have hc9:∀g,av.map (λy=>y.block)=some g->0 < RL.length->vS g2 (kW (bV s0 mL) mI) (vS gi (bV s0 mL) (newC w.heap.size 9 c)) g=9:=λg hg hp=>by
   have h1:=ah DC g hg hp
   exact amk g Aaa Aaa Aaa
  refine NQ.put hold hold (dS (setPu n RL) (n.seen.set i ⟨mF,fH s0 mL,kW (bV s0 mL) mI⟩)) (⟨a_k,av,iV,(some ⟨G.s,0,none⟩),jd,cZ,cv,dW,dw,dG⟩:bg) rfl (by simp only[dS,List.set_set]) rfl rfl ((azU.keeps eX (λx hx=>Aaj)).out Aaa ho) (λg hg hp=> .inr (by have h3:=hc9 g hg hp;omega)) hold.o (λy hy=> .inl (hold.co y hy)) hold.r (λy hy=> .inl (hold.cr y hy)) (λg hg hp _=>⟨λe=>?_,λe=>?_⟩) (λx hx h6=>by have:=hold.co x hx;omega)
  .have h1:=hold.co g e;have h2:=hc9 g hg hp;omega
  .have h1:=hold.cr g e;have h2:=hc9 g hg hp;omega
 have Lv:Hid (∀W'',Out c w W' W''->GR.At lQ 7 W'' (some ⟨ab,0,none⟩) [⟨2,n.id,mF,mI,0,ByteArray.empty,0⟩]):=λW'' ho j hj=>TI (eX.obj amb (λhm=>Aaz)) ho Aaa j hj
 have qG:Hid (Below B w W'):=amf.trans (eX.below (λx hx=>by have:x=w.heap.size+2:=Aad;omega) (by have h1:=ay OQ;omega));have xA:=Hq (Apart.keeps (c:=c) amr (by have h1:=ay OQ;omega) eX (λx hx=>by have:x=w.heap.size+2:=Aad;omega));clear e4 eX;exact⟨(⟨a_k,av,iV,(some ⟨G.s,0,none⟩),jd,cZ,cv,dW,dw,dG⟩:bg),(some ⟨ab,0,none⟩),⟨1,by simp[gP,dR,dS,setPu]⟩,HAT,Lv,qG,xA⟩):P:=h
theorem aj4(h:P:=by
 obtain⟨x0,x1,x2,x3,x4,x5,x6,x7,x8⟩:=nine e;generalize (((((((((W.setCell ⟨g,0,none⟩ v0).setCell ⟨g,1,none⟩ v1).setCell ⟨g,2,none⟩ v2).setCell ⟨g,3,none⟩ v3).setCell ⟨g,4,none⟩ v4).setCell ⟨g,5,none⟩ v5).setCell ⟨g,6,none⟩ v6).setCell ⟨g,7,none⟩ v7).setCell ⟨g,8,none⟩ v8)=W' at *;have hp':act.tmps[p]?.getD undef= .pointer (some ⟨g,0,none⟩):=by simpa [Act.eval] using hp
 exact AbH):P:=h
theorem aoe.AbH(h:P:=by
 have hq':act.tmps[q]?.getD undef=u1:=by simpa [Act.eval] using hq
 have hr':act.tmps[r]?.getD undef=u2:=by simpa [Act.eval] using hr
 exact aEE (by simp[results,hf,go_sem,hp',hq',hr',x0,x1,x2,x3,x4,x5,x6,x7,x8]) hd (h W' e k)):P:=h
theorem aof.AbH(h:P:=by
 have hq':act.tmps[q]?.getD undef=u1:=by simpa [Act.eval] using hq
 exact aEE (by simp[results,hf,go_sem,hp',hq',x0,x1,x2,x3,x4,x5,x6,x7,x8]) hd (h W' e k)):P:=h
theorem aog.AbH(h:P:=by
 exact aEE (by simp[results,hf,go_sem,hp',x0,x1,x2,x3,x4,x5,x6,x7,x8]) hd (h W' e k hs hz)):P:=h
theorem DJ(h:P:=by
 unfold jJ;have nD:=Hq (λW (h:aG w W)=>qA n A W (hz.mono Aaa) (ha.below h));rw [hok] at nD;exact AaM):P:=h
theorem aoh.AaM(h:P:=by
 have ED:=Hq (λW=>jl ⟨K,no,k,nn,⟨mK,mF,mT,mI,mL,mk,mN⟩⟩ W Aal Aal);open aAT in exact EO):P:=h
theorem aoi.AaM(h:P:=by
 have Ol:=Hq (λW (h:aG w W)=>uS n A W hz (ha.below h));clear hz ha hok;go_in
 go_upto_region 2 with fail;refine wp_at (λW1 hW=>?_);open ara in exact awH):P:=h
theorem aoj.AaM(h:P:=by
 have jr:=Hq (λW A1 G1 c (hB:0<=W.heap.size) (h9:∀x,6 < c x->c x=9) (hp:((∃g,A1.p=some ⟨g,0,none⟩)/\n.pu.length<=A1.cp)/\(∃g,A1.r=some ⟨g,0,none⟩)/\n.reqs.length<=A1.cr) (hN:NQ W 0 n A1 G1 c)=>R4 n A1 G1 c no W 0 hB h9 hz hp.1.1 hp.1.2 (bq hok).2.2.2.2.2 hN);unfold iO at jr;generalize aQ n no=GV at *;obtain⟨N1,CW⟩:=GV;dsimp only at jr ⊢;have ED:=Hq (λW=>jl ⟨2,no,k,nn,⟨mK,mF,mT,mI,mL,mk,mN⟩⟩ W Aal Aal);open aAU in exact EO):P:=h
theorem aok.AaM(h:P:=by
 have jr:=Hq (λW A1 G1 c (hB:0<=W.heap.size) (h9:∀x,6 < c x->c x=9) (hp:((∃g,A1.p=some ⟨g,0,none⟩)/\n.pu.length<=A1.cp)/\(∃g,A1.r=some ⟨g,0,none⟩)/\n.reqs.length<=A1.cr) (hN:NQ W 0 n A1 G1 c)=>Zx n A1 G1 c 1 no k nn mK mF mT mI mL mk mN W 0 hB h9 hz hk hp.1.1 hp.1.2 hp.2.1 hp.2.2 (bq hok).2.2.2.2.2 hN);unfold iO at jr;generalize fE n no k nn=GV at *;obtain⟨N1,CW⟩:=GV;dsimp only at jr ⊢;have ED:=Hq (λW=>jl ⟨1,no,k,nn,⟨mK,mF,mT,mI,mL,mk,mN⟩⟩ W Aal Aal);open aAV in exact EO):P:=h
theorem aol.AaM(h:P:=by
 have hpz:(decide (n.par < 0))=false:=by
  exact aiA
 have jr:=Hq (λW A1 G1 c (hB:0<=W.heap.size) (h9:∀x,6 < c x->c x=9) (hp:((∃g,A1.p=some ⟨g,0,none⟩)/\n.pu.length<=A1.cp)/\(∃g,A1.r=some ⟨g,0,none⟩)/\n.reqs.length<=A1.cr) (hN:NQ W 0 n A1 G1 c)=>Rz n A1 G1 c n.par k nn W 0 hB h9 hz hk hp.1.1 hp.1.2 (by have h:=(bq hok).2.2.2.1;unfold fC at h;simp at h;omega) hN);unfold fZ at jr;generalize eU n n.par k nn=GV at *;obtain⟨N1,L1,b1⟩:=GV;dsimp only at jr ⊢;generalize (if b1=true then(0:Int) else 1)=CW at *;have ED:=Hq (λW=>jl ⟨4,no,k,nn,⟨mK,mF,mT,mI,mL,mk,mN⟩⟩ W Aal Aal);open aAW in exact EO):P:=h
theorem aom.AaM(h:P:=by
 have hmo:bJ ⟨mK,mF,mT,mI,mL,mk,mN⟩=true:=by
  have h:=hop;unfold bC at h;dsimp only at h;rw [aEG Aaa,aEG Aaa,aEG Aaa,aEG Aaa,aER rfl,aED] at h;exact h.2
 have jr:=Hq (λW A1 G1 c (hB:0<=W.heap.size) (h9:∀x,6 < c x->c x=9) (hp:((∃g,A1.p=some ⟨g,0,none⟩)/\n.pu.length<=A1.cp)/\(∃g,A1.r=some ⟨g,0,none⟩)/\n.reqs.length<=A1.cr) (hN:NQ W 0 n A1 G1 c)=>adB n A1 G1 c mK mF mT mI mL mk mN W 0 hB h9 hz hmk hok hmo hp.1.1 hp.1.2 hN);clear hmo;unfold fZ at jr;generalize CY n ⟨mK,mF,mT,mI,mL,mk,mN⟩=GV at *;obtain⟨N1,L1,CW⟩:=GV;dsimp only at jr ⊢;have ED:=Hq (λW=>jl ⟨6,no,k,nn,⟨mK,mF,mT,mI,mL,mk,mN⟩⟩ W Aal Aal);open aAX in exact EO):P:=h
theorem aon.AaM(h:P:=by
 have hpz:(decide (n.par < 0))=true:=by rw [hpar];rfl
 clear hpar;have ED:=Hq (λW=>jl ⟨4,no,k,nn,⟨mK,mF,mT,mI,mL,mk,mN⟩⟩ W Aal Aal);open aAY in exact EO):P:=h
theorem aoo.AaM(h:P:=by
 have hpz:(decide (n.par < 0))=true:=by rw [hpar];rfl
 clear hpar;have ED:=Hq (λW=>jl ⟨3,no,k,nn,⟨mK,mF,mT,mI,mL,mk,mN⟩⟩ W Aal Aal);open aAZ in exact EO):P:=h
theorem aop.AaM(h:P:=by
 have hpg:(decide (n.par≥0))=false:=by rw [hpar];rfl
 have ayq:(decide (0<=n.par))=false:=hpg;clear hpar
 have jr:=Hq (λW (A1:bg) (hp:(∃g,A1.p=some ⟨g,0,none⟩)/\n.pu.length<=A1.cp) (hN:aH W A1.p n.pu)=>(by
  obtain⟨⟨g,hg⟩,hc⟩:=hp
  rw [hg] at hN ⊢
  have:=GJ g 0 A1.cp n.pu k nn W (aEA hz.p Aaa) hc hz.pk hk hN
  rw [hu] at this
  exact this:Calls prog 97 #[.slice A1.p n.pu.length A1.cp,.string k,.int .i64 nn] W (iN W (RL,true))))
 clear hu;unfold iN at jr;have ED:=Hq (λW=>jl ⟨0,no,k,nn,⟨mK,mF,mT,mI,mL,mk,mN⟩⟩ W Aal Aal);open aA0 in exact EO):P:=h
theorem aoq.AaM(h:P:=by
 have hpg:(decide (n.par≥0))=false:=by rw [hpar];rfl
 have ayq:(decide (0<=n.par))=false:=hpg;clear hpar
 have jr:=Hq (λW (A1:bg) (hp:(∃g,A1.p=some ⟨g,0,none⟩)/\n.pu.length<=A1.cp) (hN:aH W A1.p n.pu)=>(by
  obtain⟨⟨g,hg⟩,hc⟩:=hp
  rw [hg] at hN ⊢
  have:=GJ g 0 A1.cp n.pu k nn W (aEA hz.p Aaa) hc hz.pk hk hN
  rw [hu] at this
  exact this:Calls prog 97 #[.slice A1.p n.pu.length A1.cp,.string k,.int .i64 nn] W (iN W (RL,false))))
 exact Zk4):P:=h
theorem aor.AaM(h:P:=by
 have hpg:(decide (n.par≥0))=true:=by
  have h:=(bq hok).1;unfold dX at h;simp only[aED,aES] at h;exact aEy Aaa
 have ayq:(decide (0<=n.par))=true:=hpg
 have jr:=Hq (λW (A1:bg) (hp:(∃g,A1.p=some ⟨g,0,none⟩)/\n.pu.length<=A1.cp) (hN:aH W A1.p n.pu)=>(by
  obtain⟨⟨g,hg⟩,hc⟩:=hp
  rw [hg] at hN ⊢
  have:=GJ g 0 A1.cp n.pu k nn W (aEA hz.p Aaa) hc hz.pk hk hN
  rw [hu] at this
  exact this:Calls prog 97 #[.slice A1.p n.pu.length A1.cp,.string k,.int .i64 nn] W (iN W (RL,ok))))
 exact Zk4):P:=h
theorem aos.AaM(h:P:=by
 have jr:=Hq (λW A1 (hN:bX W A1 n)=>adE n A1 W (hz.mono Aaa) hN);rw [show adf n=n.out.map (qh n) from aER hok] at jr;unfold Bz at jr;dsimp only at jr ⊢;generalize n.out.map (qh n)=L1 at *;have ED:=Hq (λW=>jl ⟨5,no,k,nn,⟨mK,mF,mT,mI,mL,mk,mN⟩⟩ W Aal Aal);open aA1 in exact EO):P:=h
theorem awg(h:P:=by
 open atz in exact aaO):P:=h
theorem aot.AdC(h:P:=by
 refine rg 20 Ge 23 ?_;open auz in exact aaT):P:=h
theorem aou.AdC(h:P:=by
 open aur in exact ag8):P:=h
theorem XR(h:P:=by
 have wJ:=Hq (show aG w V by rw [hV];exact((aEK _ _).alloc (aEx _) _).alloc Aac _);have hgV:=cu hblk;obtain⟨p0,p1,p2,p3,p4,p5,p6⟩:=uf hblk;clear hV hblk;exact AaT):P:=h
theorem aov.AaT(h:P:=by
 have cO:∀d os,Calls prog 352 #[.agg #[.int .i64 F,.int .i64 T,.int .i64 I]] (Sort.grow (redrawn V d) os) λe w''=>e= .returned (.bool false)/\∃p:Regrown,w''=Sort.grow (redrawn V p.d) p.os:=λd os=>aE1 (HO _)
 open anN in exact Pb):P:=h
theorem aow.AaT(h:P:=by
 have cO:∀d os,Calls prog 351 #[.agg #[.int .i64 F,.int .i64 T,.int .i64 I,.int .i64 L,.string k,.int .i64 N]] (Sort.grow (redrawn V d) os) λe w''=>e= .returned (.bool true)/\∃p:Regrown,w''=Sort.grow (redrawn V p.d) p.os:=λd os=>aE1 (HO _)
 have cM:∀d os,Calls prog 277 #[.iface 334 (.agg #[.int .i64 F,.int .i64 T,.int .i64 I,.int .i64 L,.string k,.int .i64 N])] (Sort.grow (redrawn V d) os) λe w''=>e= .returned (nT ⟨1,F,T,I,L,k,N⟩)/\∃p:Regrown,w''=Sort.grow (redrawn V p.d) p.os:=λd os=>aE1 (HM _)
 open anO in exact Pb):P:=h
theorem aox.AaT(h:P:=by
 have cO:∀d os,Calls prog 351 #[.agg #[.int .i64 F,.int .i64 T,.int .i64 I,.int .i64 L,.string k,.int .i64 N]] (Sort.grow (redrawn V d) os) λe w''=>e= .returned (.bool false)/\∃p:Regrown,w''=Sort.grow (redrawn V p.d) p.os:=λd os=>aE1 (HO _)
 open anP in exact Pb):P:=h
theorem aoy.AaT(h:P:=by
 have cO:∀d os,Calls prog 350 #[.agg #[.int .i64 F,.int .i64 T,.string k,.int .i64 N]] (Sort.grow (redrawn V d) os) λe w''=>e= .returned (.bool false)/\∃p:Regrown,w''=Sort.grow (redrawn V p.d) p.os:=λd os=>aE1 (HO _)
 open anQ in exact Pb):P:=h
theorem aoz.AaT(h:P:=by
 have cO:∀d os,Calls prog 350 #[.agg #[.int .i64 F,.int .i64 T,.string k,.int .i64 N]] (Sort.grow (redrawn V d) os) λe w''=>e= .returned (.bool true)/\∃p:Regrown,w''=Sort.grow (redrawn V p.d) p.os:=λd os=>aE1 (HO _)
 have cM:∀d os,Calls prog 277 #[.iface 332 (.agg #[.int .i64 F,.int .i64 T,.string k,.int .i64 N])] (Sort.grow (redrawn V d) os) λe w''=>e= .returned (nT ⟨0,F,T,0,0,k,N⟩)/\∃p:Regrown,w''=Sort.grow (redrawn V p.d) p.os:=λd os=>aE1 (HM _)
 open anT in exact Pb):P:=h
theorem aoA.AaT(h:P:=by
 have cO:∀d os,Calls prog 352 #[.agg #[.int .i64 F,.int .i64 T,.int .i64 I]] (Sort.grow (redrawn V d) os) λe w''=>e= .returned (.bool true)/\∃p:Regrown,w''=Sort.grow (redrawn V p.d) p.os:=λd os=>aE1 (HO _)
 have cM:∀d os,Calls prog 277 #[.iface 336 (.agg #[.int .i64 F,.int .i64 T,.int .i64 I])] (Sort.grow (redrawn V d) os) λe w''=>e= .returned (nT ⟨2,F,T,I,0,ByteArray.empty,0⟩)/\∃p:Regrown,w''=Sort.grow (redrawn V p.d) p.os:=λd os=>aE1 (HM _)
 open anU in exact Pb):P:=h
theorem awh(h:P:=by
 have xA:=Hq eX;clear eX;refine an 12 ?_;go_simp;refine an 13 ?_;go_simp;refine ad ?_;go_simp;go_wp2_with fail;refine fQ (λW' hW'=>?_);subst hW';have eX:=ah xA;open auu in exact aha):P:=h
theorem aoB.AdW(h:P:=by
 exact aEE (v:= .tuple #[(gP n A1),.slice (some ⟨y.heap.size,0,none⟩) 1 1,.int .i64 0]) Ach rfl ⟨A1,some ⟨y.heap.size,0,none⟩,1,rfl,HAT,HMT,qG⟩):P:=h
theorem aoC.AdW(h:P:=by
 exact aEE (v:= .tuple #[(gP n A1),.slice (some ⟨x.heap.size,0,none⟩) 1 1,.int .i64 0]) Ach rfl ⟨A1,some ⟨x.heap.size,0,none⟩,1,rfl,HAT,HMT,qG⟩):P:=h
theorem XT(h:P:=by
 have HW1:=Hq (h.step (au w (.cells (bE K no k nn mK mF mT mI mL mk mN) 106)));have kU:=Hq (aEu w (.cells (bE K no k nn mK mF mT mI mL mk mN) 106));exact AaU):P:=h
theorem aoD.AaU(h:P:=by
 clear h he hR hz hk hpar;open atc in exact Wu):P:=h
theorem aoE.AaU(h:P:=by
 clear h hR hpar;obtain⟨c0,c1,c2,c3,c4,c5,c6,c7,c8,c9⟩:=jB HW1.blk;have hwl:=ay HW.blk;have hne:wb≠w.heap.size:=Aaa
 go_in
 go_upto_region 1 with fail;have y1:=aEv c1;clear c0 c1 c2 c3 c4 c5 c6 c7 c8 c9;open auq in exact ag8):P:=h
theorem aoF.AaU(h:P:=by
 have hq2:(n.par == -1)=false:=Abd
 clear h hR hpar;open atb in exact Wu):P:=h
theorem aoG.AaU(h:P:=by
 have hq2:(n.par == -1)=false:=Abd
 clear h hR hpar;generalize eU n n.par k nn=gv at *;obtain⟨gn,gl,gb⟩:=gv;dsimp only at IB ⊢;open ata in exact Wu):P:=h
theorem aoH.AaU(h:P:=by
 clear h ho;obtain⟨⟨p0,p1,p2,p3,p4,p5,p6,p7,p8,p9,nI⟩,_⟩:=aJ kU;have hpl:=ay kU;go_in
 go_wp2_with fail;refine(HIO _).mono ?_;rintro e w2 ⟨rfl,hb2⟩;have HW2:=Hq (HW1.step hb2);have mD:=Hq (aj kU hb2);clear hb2 HW1 kU p0 p1 p2 p3 p4 p5 p6 p7 p8 p9 nI HIO;exact AaC):P:=h
theorem aoI.AaU(h:P:=by
 open as9 in exact Wu):P:=h
theorem xG(h:P:=by
 obtain⟨id,par,kids,next,pu,out,seen,old,reqs⟩:=n;obtain⟨ak,ap,ao,as',ar,ck,cp,co,cs,cr⟩:=A;exact AaK):P:=h
theorem aoJ.AaK(h:P:=by
 dsimp only at hl HA HD LJ xR OI Ev ⊢;cases h1:uH id
 case' false=>
  have HP:=Hq (HD (by rw [h1];rfl));clear HD LJ xR OI Ev;go_in
  go_wp2_with (first|(go_at_call 90;refine(nH _ false _ h1).mono ?_;rintro e w1 ⟨rfl,rfl⟩))
  exact xH
 cases h2:decide (-1<=par/\par<=29)
 case' false=>
  have HP:=Hq (HD (by rw [h2];simp));clear HD LJ xR OI Ev;go_in
  go_wp2_with (first|(go_at_call 90;refine(nH _ true _ h1).mono ?_;rintro e w1 ⟨rfl,rfl⟩)|(go_at_call 33;refine(yO _ _ _ false _ h2).mono ?_;rintro e w1 ⟨rfl,rfl⟩))
  exact xH
 by_cases h3:par=id
 case' pos=>
  have hb3:(par == id)=true:=by simp[h3]
  have HP:=Hq (HD (by simp[h3]));clear h3 HD LJ xR OI Ev;exact ahP
 have hb3:(par == id)=false:=by simp[h3]
 by_cases h4:kids.length<=30
 case' neg=>
  have hb4:decide ((30:Int) < kids.length)=true:=aEy Aaa;have HP:=Hq (HD (by simp[h4]));clear HD LJ xR OI Ev;exact ahP
 have hb4:decide ((30:Int) < kids.length)=false:=aEw Aaa;have nD:=Hq (LJ h1 (aEQ h2) h3 h4);clear HD LJ;open auT in exact ahg):P:=h
theorem aoK.AaK(h:P:=by
 dsimp only at hl hl2 HA HS lu HD xR OI Ev SI jL ⊢;go_in
 go_upto_if 12 with fail;open aqd in exact akc):P:=h
theorem aoL.AaK(h:P:=by
 obtain⟨bk,bp,bo,bs',br,dk,dp,dO,ds,dr⟩:=A';dsimp only at HK HP HO HS HR SA HB0 jC ⊢;go_in
 obtain⟨c0,c1,c2,c3,c4,c5,c6,c7,c8⟩:=nine SA;obtain⟨d0,d1,d2,d3,d4,d5,d6,d7,d8⟩:=nine HB0;go_wp2_with fail;refine(HK _ jC).mono ?_;rintro e w1 ⟨rfl,hb1⟩;have HA1:=Hq (aj SA hb1);have HB1:=Hq (aj HB0 hb1);have jM:=Hq (jC.trans (hb1.mono jC.size));clear hb1 c0 c1 c2 c3 c4 c5 c6 c7 c8 d0 d1 d2 d3 d4 d5 d6 d7 d8;obtain⟨c0,c1,c2,c3,c4,c5,c6,c7,c8⟩:=nine HA1;obtain⟨d0,d1,d2,d3,d4,d5,d6,d7,d8⟩:=nine HB1;go_wp2_with fail;refine(HP _ jM).mono ?_;rintro e w2 ⟨rfl,hb1⟩;have HA2:=Hq (aj HA1 hb1);have HB2:=Hq (aj HB1 hb1);have HL2:=Hq (jM.trans (hb1.mono jM.size));clear hb1 c0 c1 c2 c3 c4 c5 c6 c7 c8 d0 d1 d2 d3 d4 d5 d6 d7 d8;obtain⟨c0,c1,c2,c3,c4,c5,c6,c7,c8⟩:=nine HA2;obtain⟨d0,d1,d2,d3,d4,d5,d6,d7,d8⟩:=nine HB2;go_wp2_with fail;refine(HO _ HL2).mono ?_;rintro e w3 ⟨rfl,hb1⟩;have SE:=Hq (aj HA2 hb1);have HB3:=Hq (aj HB2 hb1);have lu:=Hq (HL2.trans (hb1.mono HL2.size));clear hb1 c0 c1 c2 c3 c4 c5 c6 c7 c8 d0 d1 d2 d3 d4 d5 d6 d7 d8;obtain⟨c0,c1,c2,c3,c4,c5,c6,c7,c8⟩:=nine SE;obtain⟨d0,d1,d2,d3,d4,d5,d6,d7,d8⟩:=nine HB3;go_wp2_with fail;refine(HS _ lu).mono ?_;rintro e w4 ⟨rfl,hb1⟩;have OA:=Hq (aj SE hb1);have mh:=Hq (aj HB3 hb1);have xU:=Hq (lu.trans (hb1.mono lu.size));clear hb1 c0 c1 c2 c3 c4 c5 c6 c7 c8 d0 d1 d2 d3 d4 d5 d6 d7 d8;obtain⟨c0,c1,c2,c3,c4,c5,c6,c7,c8⟩:=nine OA;obtain⟨d0,d1,d2,d3,d4,d5,d6,d7,d8⟩:=nine mh;go_wp2_with fail;refine(HR _ xU).mono ?_;rintro e w5 ⟨rfl,hb1⟩;have HA5:=Hq (aj OA hb1);have fI:=Hq (aj mh hb1);have HL5:=Hq (xU.trans (hb1.mono xU.size));clear hb1 c0 c1 c2 c3 c4 c5 c6 c7 c8 d0 d1 d2 d3 d4 d5 d6 d7 d8;obtain⟨c0,c1,c2,c3,c4,c5,c6,c7,c8⟩:=nine HA5;obtain⟨d0,d1,d2,d3,d4,d5,d6,d7,d8⟩:=nine fI;go_wp2_with fail;go_ret;exact⟨rfl,HL5⟩):P:=h
theorem aoM.AaK(h:P:=by
 dsimp only at OZ HTP Bq HTS HTR ⊢;go_in
 go_upto_region 4 with fail;refine wp_at (λW0 hW0=>?_);obtain⟨hP,hR,hO,hB⟩:=zM w (.cells (dR ⟨id,par,kids,next,pu,out,seen,old,reqs⟩ ⟨ak,ap,ao,as',ar,ck,cp,co,cs,cr⟩) 79) (.cells (vG 0 0 none 0 0 0 none 0 0 none 0 0 none 0 0 0 none 0 0) 53) (.cells (vG id par none 0 0 0 none 0 0 none 0 0 none 0 0 0 none 0 0) 53);rw [<-hW0] at hP hR hO hB;have TQ:=Hq (TN.mk hP hR hO (rows:=[]) (λx hx=>by cases hx) hB);clear hP hR hO hB hW0;obtain⟨c0,c1,c2,c3,c4,c5,c6,c7,c8⟩:=nine TQ.par;go_wp2_with fail;refine(OZ _ TQ.bel).mono ?_;rintro e w1 ⟨rfl,hblk,hb⟩;have hg:w.heap.size+1+1 < W0.heap.size:=ay (ah TQ).out;have UU:=Hq ((TQ.step hb).add [(W0.heap.size,_)] (λx hx=>by rw [aEM] at hx;subst hx;exact⟨hg,hblk⟩));have o0:=ay hblk;clear hblk hb hg TQ;clear c0 c1 c2 c3 c4 c5 c6 c7 c8;obtain⟨c0,c1,c2,c3,c4,c5,c6,c7,c8⟩:=nine UU.par;obtain⟨d0,d1,d2,d3,d4,d5,d6,d7,d8⟩:=nine (ah UU).out;obtain⟨f0,f1,f2,f3,f4,f5,f6,f7,f8⟩:=mX ((ah UU).out);go_upto_region 6 with fail;refine wp_at (λW1 hW=>?_);have TQ:=(UU.put 2 (.slice (some ⟨W0.heap.size,0,none⟩) kids.length kids.length)).put 3 (.int .i64 next);rw [<-hW] at TQ;replace TQ:=Hq TQ
 have hzz:W1.heap.size=w1.heap.size:=Abv
 rw [<-hzz] at o0;clear c0 c1 c2 c3 c4 c5 c6 c7 c8 d0 d1 d2 d3 d4 d5 d6 d7 d8 f0 f1 f2 f3 f4 f5 f6 f7 f8;clear hW hzz UU;obtain⟨c0,c1,c2,c3,c4,c5,c6,c7,c8⟩:=nine TQ.par;go_wp2_with fail;refine(HTP _ TQ.bel).mono ?_;rintro e w2 ⟨rfl,hblk,hb⟩;have hg:w.heap.size+1+1 < W1.heap.size:=ay (ah TQ).out;have UU:=Hq ((TQ.step hb).add [(W1.heap.size,_)] (λx hx=>by rw [aEM] at hx;subst hx;exact⟨hg,hblk⟩));have o1:=ay hblk;clear hblk hb hg TQ;clear c0 c1 c2 c3 c4 c5 c6 c7 c8;obtain⟨c0,c1,c2,c3,c4,c5,c6,c7,c8⟩:=nine UU.par;obtain⟨d0,d1,d2,d3,d4,d5,d6,d7,d8⟩:=nine (ah UU).out;obtain⟨f0,f1,f2,f3,f4,f5,f6,f7,f8⟩:=mX ((ah UU).out);go_upto_region 7 with fail;refine wp_at (λW2 hW=>?_);have TQ:=UU.put 4 (.slice (some ⟨W1.heap.size,0,none⟩) pu.length pu.length);rw [<-hW] at TQ;replace TQ:=Hq TQ
 have hzz:W2.heap.size=w2.heap.size:=Abv
 rw [<-hzz] at o1;clear c0 c1 c2 c3 c4 c5 c6 c7 c8 d0 d1 d2 d3 d4 d5 d6 d7 d8 f0 f1 f2 f3 f4 f5 f6 f7 f8;clear hW hzz UU;obtain⟨c0,c1,c2,c3,c4,c5,c6,c7,c8⟩:=nine TQ.par;go_wp2_with fail;refine(Bq _ TQ.bel).mono ?_;rintro e w3 ⟨rfl,hblk,hb⟩;have hg:w.heap.size+1+1 < W2.heap.size:=ay (ah TQ).out;have UU:=Hq ((TQ.step hb).add [(W2.heap.size,_)] (λx hx=>by rw [aEM] at hx;subst hx;exact⟨hg,hblk⟩));have o2:=ay hblk;clear hblk hb hg TQ;clear c0 c1 c2 c3 c4 c5 c6 c7 c8;obtain⟨c0,c1,c2,c3,c4,c5,c6,c7,c8⟩:=nine UU.par;obtain⟨d0,d1,d2,d3,d4,d5,d6,d7,d8⟩:=nine (ah UU).out;obtain⟨f0,f1,f2,f3,f4,f5,f6,f7,f8⟩:=mX ((ah UU).out);go_upto_region 8 with fail;refine wp_at (λW3 hW=>?_);have TQ:=UU.put 5 (.slice (some ⟨W2.heap.size,0,none⟩) out.length out.length);rw [<-hW] at TQ;replace TQ:=Hq TQ
 have hzz:W3.heap.size=w3.heap.size:=Abv
 rw [<-hzz] at o2;clear c0 c1 c2 c3 c4 c5 c6 c7 c8 d0 d1 d2 d3 d4 d5 d6 d7 d8 f0 f1 f2 f3 f4 f5 f6 f7 f8;clear hW hzz UU;obtain⟨c0,c1,c2,c3,c4,c5,c6,c7,c8⟩:=nine TQ.par;go_wp2_with fail;refine(HTS _ TQ.bel).mono ?_;rintro e w4 ⟨rfl,⟨TT,II,hblk,hTl,hII,hIm⟩,hb⟩;have hg:w.heap.size+1+1 < W3.heap.size:=ay (ah TQ).out;have LJ:=Hq hTl;have HII:=Hq (λi hi=>(hII i hi).2.2.1);have HIM:=Hq hIm
 have UU:=Hq ((TQ.step hb).add ((W3.heap.size,.cells (GR.flat eF TT).toArray 144 (0,0))::(List.range seen.length).map λi=>(II i,.cells (GR.flat aW (seen.getD i default).ids).toArray 3 (0,0))) (λx hx=>by
  rcases aET.1 hx with rfl|hx
  .exact⟨hg,hblk⟩
  .obtain⟨i,hi,rfl⟩:=aFS.1 hx;have h:=hII i (aFA.1 hi)
   exact⟨Nat.lt_trans hg h.1,h.2.2.2⟩))
 have o3:W3.heap.size < w4.heap.size/\∀i,i < seen.length->W3.heap.size < II i/\II i < w4.heap.size:=⟨ay hblk,λi hi=>⟨(hII i hi).1,(hII i hi).2.1⟩⟩;clear hblk hb hg hTl hII hIm TQ;clear c0 c1 c2 c3 c4 c5 c6 c7 c8;obtain⟨c0,c1,c2,c3,c4,c5,c6,c7,c8⟩:=nine UU.par;obtain⟨d0,d1,d2,d3,d4,d5,d6,d7,d8⟩:=nine (ah UU).out;obtain⟨f0,f1,f2,f3,f4,f5,f6,f7,f8⟩:=mX ((ah UU).out);go_upto_region 10 with fail;refine wp_at (λW4 hW=>?_);have TQ:=(UU.put 6 (.slice (some ⟨W3.heap.size,0,none⟩) seen.length seen.length)).put 7 (.int .i64 old);rw [<-hW] at TQ;replace TQ:=Hq TQ
 have hzz:W4.heap.size=w4.heap.size:=Abv
 rw [<-hzz] at o3;clear c0 c1 c2 c3 c4 c5 c6 c7 c8 d0 d1 d2 d3 d4 d5 d6 d7 d8 f0 f1 f2 f3 f4 f5 f6 f7 f8;clear hW hzz UU;obtain⟨c0,c1,c2,c3,c4,c5,c6,c7,c8⟩:=nine TQ.par;go_wp2_with fail;refine(HTR _ TQ.bel).mono ?_;rintro e w5 ⟨rfl,hblk,hb⟩;have hg:w.heap.size+1+1 < W4.heap.size:=ay (ah TQ).out;have UU:=Hq ((TQ.step hb).add [(W4.heap.size,_)] (λx hx=>by rw [aEM] at hx;subst hx;exact⟨hg,hblk⟩));have o4:=ay hblk;clear hblk hb hg TQ;clear c0 c1 c2 c3 c4 c5 c6 c7 c8;obtain⟨c0,c1,c2,c3,c4,c5,c6,c7,c8⟩:=nine UU.par;obtain⟨d0,d1,d2,d3,d4,d5,d6,d7,d8⟩:=nine (ah UU).out;obtain⟨f0,f1,f2,f3,f4,f5,f6,f7,f8⟩:=mX ((ah UU).out);go_upto_region 11 with fail;refine wp_at (λW5 hW=>?_);have TQ:=UU.put 8 (.slice (some ⟨W4.heap.size,0,none⟩) reqs.length reqs.length);rw [<-hW] at TQ;replace TQ:=Hq TQ
 have hzz:W5.heap.size=w5.heap.size:=Abv
 rw [<-hzz] at o4;clear c0 c1 c2 c3 c4 c5 c6 c7 c8 d0 d1 d2 d3 d4 d5 d6 d7 d8 f0 f1 f2 f3 f4 f5 f6 f7 f8;clear hW hzz UU;obtain⟨d0,d1,d2,d3,d4,d5,d6,d7,d8⟩:=nine (show W5.heap[w.heap.size+1+1]?=some (.cells (dR ⟨id,par,kids,next,pu,out,seen,old,reqs⟩ ⟨some ⟨W0.heap.size,0,none⟩,some ⟨W1.heap.size,0,none⟩,some ⟨W2.heap.size,0,none⟩,some ⟨W3.heap.size,0,none⟩,some ⟨W4.heap.size,0,none⟩,kids.length,pu.length,out.length,seen.length,reqs.length⟩) 53 (0,0)) from(ah TQ).out);obtain⟨r0,r1,r2,r3,r4,r5,r6,r7,r8⟩:=nine TQ.res;obtain⟨f0,f1,f2,f3,f4,f5,f6,f7,f8⟩:=mX (TQ.res);have hlt:=ay TQ.res;go_wp2_with fail;refine fQ (λW' hW'=>?_);have hR:=ac5 (b0:= .int .i64 id) (b1:= .int .i64 par) (b2:= .slice (some ⟨W0.heap.size,0,none⟩) kids.length kids.length) (b3:= .int .i64 next) (b4:= .slice (some ⟨W1.heap.size,0,none⟩) pu.length pu.length) (b5:= .slice (some ⟨W2.heap.size,0,none⟩) out.length out.length) (b6:= .slice (some ⟨W3.heap.size,0,none⟩) seen.length seen.length) (b7:= .int .i64 old) (b8:= .slice (some ⟨W4.heap.size,0,none⟩) reqs.length reqs.length) TQ.res;have hK:=UQ (w:=W5) (g:=w.heap.size+1) (b0:= .int .i64 id) (b1:= .int .i64 par) (b2:= .slice (some ⟨W0.heap.size,0,none⟩) kids.length kids.length) (b3:= .int .i64 next) (b4:= .slice (some ⟨W1.heap.size,0,none⟩) pu.length pu.length) (b5:= .slice (some ⟨W2.heap.size,0,none⟩) out.length out.length) (b6:= .slice (some ⟨W3.heap.size,0,none⟩) seen.length seen.length) (b7:= .int .i64 old) (b8:= .slice (some ⟨W4.heap.size,0,none⟩) reqs.length reqs.length);rw [<-hW'] at hR hK;clear d0 d1 d2 d3 d4 d5 d6 d7 d8 r0 r1 r2 r3 r4 r5 r6 r7 r8 f0 f1 f2 f3 f4 f5 f6 f7 f8 hW';obtain⟨x0,x1,x2,x3,x4,x5,x6,x7,x8⟩:=nine hR;have hrow:=TQ.rows;have eG:=TQ.bel.trans (hK.below (B:=w.heap.size) (λx hx=>Aaj) TQ.bel.size);have q0:=hrow _ (aFg _ (aFg _ (aFg _ (aFg _ (aFG _ (aEM.2 rfl))))));have q1:=hrow _ (aFg _ (aFg _ (aFg _ (aFG _ (aEM.2 rfl)))));have q2:=hrow _ (aFg _ (aFg _ (aFG _ (aEM.2 rfl))));have q3:=hrow _ (aFg _ (aFG _ (List.mem_cons_self ..)));have q4:=hrow _ (aFG _ (aEM.2 rfl));have q5:=λi (hi:i < seen.length)=>hrow (II i,_) (aFg _ (aFG _ (List.mem_cons_of_mem _ (aFS.2 ⟨i,aFA.2 hi,rfl⟩))))
 dsimp only at q0 q1 q2 q3 q4 q5;obtain⟨o3,o3i⟩:=o3;refine aEE (v:=gP ⟨id,par,kids,next,pu,out,seen,old,reqs⟩ ⟨some ⟨W0.heap.size,0,none⟩,some ⟨W1.heap.size,0,none⟩,some ⟨W2.heap.size,0,none⟩,some ⟨W3.heap.size,0,none⟩,some ⟨W4.heap.size,0,none⟩,kids.length,pu.length,out.length,seen.length,reqs.length⟩) (by simp[results,results69,go_sem,x0,x1,x2,x3,x4,x5,x6,x7,x8]) rfl ⟨_,rfl,⟨W0.heap.size,W1.heap.size,W2.heap.size,W3.heap.size,W4.heap.size,II⟩,?_,?_,eG⟩
 .refine rT.keeps (w:=W5) (F:=[w.heap.size+1]) ⟨GR.W.of_blk aU q0.2,GR.W.of_blk aP q1.2,GR.W.of_blk aX q2.2,fU.of q3.2 LJ (λi hi=>⟨HII i hi,(q5 i hi).2⟩),GR.W.of_blk bQ q4.2⟩ hK (λx hx=>?_)
  have hx':w.heap.size+1+1 < x:=by
   rcases aR.mem_all.1 hx with h|h|h|h|h|h
   .rw [(dz h).1];exact q0.1
   .rw [(dz h).1];exact q1.1
   .rw [(dz h).1];exact q2.1
   .rw [(dz h).1];exact q3.1
   .obtain⟨i,hi,rfl,_⟩:=uK h;exact(q5 i hi).1
   .rw [(dz h).1];exact q4.1
  simp;omega
 .have hs5:=hK.size;have o4':=o4
  have hI:∀x∈uo II seen,W3.heap.size < x/\x < W4.heap.size:=λx hx=>by
   obtain⟨i,hi,rfl,_⟩:=uK hx
   exact o3i i hi
  refine⟨?_,λx hx=>?_⟩
  .unfold aR.all;dsimp only;rw [aFY,aFY,aFY,aFY,aFY];refine⟨jh _ _,⟨jh _ _,⟨jh _ _,⟨jh _ _,⟨afe HIM,jh _ _,?_⟩,?_⟩,?_⟩,?_⟩,?_⟩
   all_goals
    intro a ha b hb
    (try simp only[aE0] at hb)
   .have:=hI a ha;rw [(dz hb).1];omega
   .rw [(dz ha).1];rcases hb with hb|hb
    .have:=hI b hb;omega
    .rw [(dz hb).1];omega
   .rw [(dz ha).1];rcases hb with hb|hb|hb
    .rw [(dz hb).1];omega
    .have:=hI b hb;omega
    .rw [(dz hb).1];omega
   .rw [(dz ha).1];rcases hb with hb|hb|hb|hb
    .rw [(dz hb).1];omega
    .rw [(dz hb).1];omega
    .have:=hI b hb;omega
    .rw [(dz hb).1];omega
   .rw [(dz ha).1];rcases hb with hb|hb|hb|hb|hb
    .rw [(dz hb).1];omega
    .rw [(dz hb).1];omega
    .rw [(dz hb).1];omega
    .have:=hI b hb;omega
    .rw [(dz hb).1];omega
  .have hq:=q0.1;rcases aR.mem_all.1 hx with h|h|h|h|h|h
   .rw [(dz h).1];dsimp only;omega
   .rw [(dz h).1];dsimp only;omega
   .rw [(dz h).1];dsimp only;omega
   .rw [(dz h).1];dsimp only;omega
   .have:=hI x h;omega
   .rw [(dz h).1];dsimp only;omega):P:=h
theorem aoN.AaK(h:P:=by
 dsimp only at HK HP HO HS HR HQ jL hkl ⊢;go_in
 go_wp2_with fail;refine(HK _ _ Aaa Aaa).mono ?_;rintro e w0 ⟨rfl,rfl⟩;have jC:=Hq (au w (.cells (dR ⟨id,par,kids,next,pu,out,seen,old,reqs⟩ ⟨ak,ap,ao,as',ar,ck,cp,co,cs,cr⟩) 79));have HB0:=Hq jL;obtain⟨z0,hz0⟩:∃zz:Int,(if (kids.length:Int)<=z then z - (kids.length:Int) else -1)=zz:=⟨_,rfl⟩;rw [hz0];by_cases hk:(kids.length:Int)<=z
 case' neg=>
  rw [aEG hk] at hz0;subst hz0;go_wp2_with fail;go_ret;exact⟨-1,rfl,jC,.inl rfl⟩
 rw [aER hk] at hz0;have q0:0<=z0:=Aaa
 have q1:z0<=1048576:=Aaa
 have q2:decide (z0 < 0)=false:=aEw Aaa;clear hz0 jL;obtain⟨c0,c1,c2,c3,c4,c5,c6,c7,c8⟩:=nine HB0;go_wp2_with fail;refine(HP _ _ jC Aaa Aaa).mono ?_;rintro e w1 ⟨z1,rfl,hb1,hcase⟩;have HB1:=Hq (aj HB0 hb1);have jM:=Hq (jC.trans (hb1.mono jC.size));clear hb1 c0 c1 c2 c3 c4 c5 c6 c7 c8;obtain⟨c0,c1,c2,c3,c4,c5,c6,c7,c8⟩:=nine HB1;rcases hcase with rfl|⟨p0,p1,p2,p3⟩
 case' inl=>
  go_wp2_with fail;go_ret;exact⟨-1,rfl,jM,.inl rfl⟩
 have K1:=Hq (And.intro p2 p3);have q3:decide (z1 < 0)=false:=aEw Aaa;clear p2 p3;go_wp2_with fail;refine(HO _ _ jM Aaa Aaa).mono ?_;rintro e w2 ⟨z2,rfl,hb1,hcase⟩;have HB2:=Hq (aj HB1 hb1);have HL2:=Hq (jM.trans (hb1.mono jM.size));clear hb1 c0 c1 c2 c3 c4 c5 c6 c7 c8;obtain⟨c0,c1,c2,c3,c4,c5,c6,c7,c8⟩:=nine HB2;rcases hcase with rfl|⟨p0,p1,p2,p3⟩
 case' inl=>
  go_wp2_with fail;go_ret;exact⟨-1,rfl,HL2,.inl rfl⟩
 have K2:=Hq (And.intro p2 p3);have q4:decide (z2 < 0)=false:=aEw Aaa;clear p2 p3;go_wp2_with fail;refine(HS _ _ HL2 Aaa Aaa).mono ?_;rintro e w3 ⟨z3,rfl,hb1,hcase⟩;have HB3:=Hq (aj HB2 hb1);have lu:=Hq (HL2.trans (hb1.mono HL2.size));clear hb1 c0 c1 c2 c3 c4 c5 c6 c7 c8;obtain⟨c0,c1,c2,c3,c4,c5,c6,c7,c8⟩:=nine HB3;rcases hcase with rfl|⟨p0,p1,p2,p3⟩
 case' inl=>
  go_wp2_with fail;go_ret;exact⟨-1,rfl,lu,.inl rfl⟩
 have K3:=Hq (And.intro p2 p3);have q5:decide (z3 < 0)=false:=aEw Aaa;clear p2 p3;go_wp2_with fail;refine(HR _ _ lu Aaa Aaa).mono ?_;rintro e w4 ⟨z4,rfl,hb1,hcase⟩;have mh:=Hq (aj HB3 hb1);have xU:=Hq (lu.trans (hb1.mono lu.size));clear hb1 c0 c1 c2 c3 c4 c5 c6 c7 c8;obtain⟨c0,c1,c2,c3,c4,c5,c6,c7,c8⟩:=nine mh;rcases hcase with rfl|⟨p0,p1,p2,p3⟩
 case' inl=>
  go_wp2_with fail;go_ret;exact⟨-1,rfl,xU,.inl rfl⟩
 have K4:=Hq (And.intro p2 p3);have q6:decide (z4 < 0)=false:=aEw Aaa;clear p2 p3;go_wp2_with fail;go_ret;exact⟨z4,rfl,xU,.inr ⟨p0,p1,HQ Aaa K1 K2 K3 K4⟩⟩):P:=h
theorem aoO.AaK(h:P:=by
 dsimp only at hl HD HA xR jr zo VR jL ⊢;clear ha;go_in
 go_upto_region 1 with fail;refine wp_at (λW0 hW0=>?_);have hblk:W0.heap[w.heap.size]?=some (.cells (dR ⟨id,par,kids,next,pu,out,seen,old,reqs⟩ ⟨ak,ap,ao,as',ar,ck,cp,co,cs,cr⟩) 53 (0,0)):=by rw [hW0];exact jL
 have jC:Hid (aG w W0):=by rw [hW0];exact au w _
 obtain⟨c0,c1,c2,c3,c4,c5,c6,c7,c8⟩:=nine hblk;clear hW0 jL hblk;obtain⟨bb,hbb⟩:∃bb,(!(uH id&&(decide (par= -1)||(uH par&&decide (par≠id)))))=bb:=⟨_,rfl⟩;have eG:=Hq hbb;clear hbb;go_cut [27] (λr wx=>r= .bool bb/\wx=W0)
 case first=>
  cases h1:uH id
  case' false=>
   have HV:=Hq (show bb=true by rw [<-ah eG];simp[h1])
   have H1:=Hq (λw1=>isNode id false w1 h1)
   clear eG h1
   go_wp2_with (go_at_call 192;refine(H1 _).mono ?_;rintro e w1 ⟨rfl,rfl⟩)
   go_meet
   case rel=>exact⟨Aam,rfl⟩
  have H1:=Hq (λw1=>isNode id true w1 h1);by_cases h2:par= -1
  case' pos=>
   have HV:=Hq (show bb=false by rw [<-ah eG];simp[h1,h2])
   have hb2:(par != -1)=false:=by simp[h2]
   clear eG h1 h2
   go_wp2_with (go_at_call 192;refine(H1 _).mono ?_;rintro e w1 ⟨rfl,rfl⟩)
   go_meet
   case rel=>exact⟨Aam,rfl⟩
  have hb2:(par != -1)=true:=by simp[h2]
  cases h3:uH par
  case' false=>
   have HV:=Hq (show bb=true by rw [<-ah eG];simp[h2,h3])
   have H3:=Hq (λw1=>isNode par false w1 h3)
   clear eG h1 h2 h3
   go_wp2_with (first|(go_at_call_of 192 id;refine(H1 _).mono ?_;rintro e w1 ⟨rfl,rfl⟩)|(go_at_call_of 192 par;refine(H3 _).mono ?_;rintro e w1 ⟨rfl,rfl⟩))
   go_meet
   case rel=>exact⟨Aam,rfl⟩
  have H3:=Hq (λw1=>isNode par true w1 h3);by_cases h4:par=id
  case' pos=>
   have HV:=Hq (show bb=true by rw [<-ah eG,aEw h2,aEw (show¬(par≠id) from λh=>h h4)];simp)
   have hb4:(par == id)=true:=by simp[h4]
   subst h4
   clear eG h1 h2 h3
   go_wp2_with (go_at_call 192;refine(H1 _).mono ?_;rintro e w1 ⟨rfl,rfl⟩)
   go_meet
   case rel=>exact⟨Aam,rfl⟩
  have HV:=Hq (show bb=false by rw [<-ah eG];simp[h1,h3,h4]);have hb4:(par == id)=false:=by simp[h4]
  clear eG h1 h2 h3;go_wp2_with (first|(go_at_call_of 192 id;refine(H1 _).mono ?_;rintro e w1 ⟨rfl,rfl⟩)|(go_at_call_of 192 par;refine(H3 _).mono ?_;rintro e w1 ⟨rfl,rfl⟩))
  go_meet
  case rel=>exact⟨Aam,rfl⟩
 case rest=>
  obtain⟨rfl,rfl⟩:=hcut;cases hbv:bb
  case' true=>
   have HP:Hid (TT=false):=by
    have h:=ah eG;rw [hbv] at h;rw [ah HD];generalize (uH id&&(decide (par= -1)||(uH par&&decide (par≠id))))=X at *;cases X
    .rfl
    .cases h
   clear eG HD;subst hbv;go_wp2_with fail;go_ret;exact⟨aF HP.symm,jC⟩
  have nD:Hid (TT=gL KB iF kids):=by
   have h:=ah eG;rw [hbv] at h;rw [ah HD];generalize (uH id&&(decide (par= -1)||(uH par&&decide (par≠id))))=X at *;cases X
   .cases h
   .rfl
  clear eG HD;subst hbv;go_wp2_with fail;go_loop [3,31] (λlv i=>∃(k:Nat) (y:Int),k<=kids.length/\i= .int .i64 k/\lv= .int .i64 y/\y=yg (λx=>x) (-1) (kids.take k)/\gL KB iF (kids.take k)=true) (λ_ i=>kids.length - (intOf i).toNat)
  case atStart=>exact⟨0,-1,aEN _,rfl,rfl,rfl,rfl⟩
  case round=>
   obtain⟨k,y,hk,rfl,rfl,hy,hall⟩:=hrel;have kS:=Hq hall;have HY:=Hq hy;clear hall hy;by_cases hlt:k < kids.length
   case' neg=>
    have hke:k=kids.length:=Aaa
    subst hke;have hnlt:decide ((kids.length:Int) < (kids.length:Int))=false:=Aac
    have HF:Hid (TT=true):=by
     exact WE
    go_wp2_with fail;go_ret;exact⟨aF HF.symm,jC⟩
   obtain⟨g,off,rfl,hgw,q0⟩:=aK.one (GR.At.below HA jC) k hlt;have HBAD:Hid (gL KB iF (kids.take (k+1))=false->TT=false):=λh=>nD.trans (xR _ h)
   have gu:Hid (gL KB iF (kids.take (k+1))=(KB kids[k]&&decide (y < kids[k]))):=by
    exact ail
   have zy:=Hq (zo k hlt);have Dv:=Hq (VR kids[k]);clear jr zo xR VR;generalize kids[k]=x at *;cases h1:uH x
   case' false=>
    have H1:=Hq (λw1=>isNode x false w1 h1);have HV:=Hq (HBAD (by rw [ah gu,ah Dv];simp[h1]));clear HBAD gu Dv h1;exact aeS
   have H1:=Hq (λw1=>isNode x true w1 h1);by_cases h2:y < x
   case' neg=>
    have hb2:decide (x<=y)=true:=aEy Aaa;have HV:=Hq (HBAD (by rw [ah gu,ah Dv];simp[h2]));clear HBAD gu Dv h1;exact aeS
   have hb2:decide (x<=y)=false:=aEw Aaa;by_cases h3:x=id
   case' pos=>
    have hb3:(x == id)=true:=by simp[h3]
    have HV:=Hq (HBAD (by rw [ah gu,ah Dv];simp[h3]));clear HBAD gu Dv h1 h3;exact aeS
   have hb3:(x == id)=false:=by simp[h3]
   by_cases h4:x=par
   case' pos=>
    have hb4:(x == par)=true:=by simp[h4]
    have HV:=Hq (HBAD (by rw [ah gu,ah Dv];simp[h4]));clear HBAD gu Dv h1 h4;exact aeS
   have hb4:(x == par)=false:=by simp[h4]
   have HV:=Hq (show gL KB iF (kids.take (k+1))=true by rw [ah gu,ah Dv];simp[h1,h2,h3,h4]);clear HBAD gu Dv h1;go_wp2_with (go_at_call 192;refine(H1 _).mono ?_;rintro e w1 ⟨rfl,rfl⟩)
   exact aiO):P:=h
theorem aoP.AaK(h:P:=by
 dsimp only at DC HPU Bq SI HOT OO HD jL ⊢;have hlo:=hz.o;have hlr:=hz.r;dsimp only at hlo hlr;clear ha hz;go_in
 go_upto_region 1 with fail;open aqc in exact akc):P:=h
theorem aoQ.AaK(h:P:=by
 dsimp only at hlo HD xR jr zo HLB VR jL ⊢;generalize (λs t:Rq=>iF s.no t.no)=RR at *;cases h1:qM old
 case' false=>
  have HP:=Hq (show TT=false by rw [ah HD,h1];rfl);have H1:=Hq (λw1=>jY old false w1 h1);exact aiv
 have H1:=Hq (λw1=>jY old true w1 h1);have hold:0<=old/\old<=1000000000:=aEQ h1;obtain⟨ho1,ho2⟩:=hold;by_cases h0:reqs.length<=30
 case' neg=>
  have HP:=Hq (show TT=false by rw [ah HD,aEw h0];simp);have hb0:decide ((30:Int) < reqs.length)=true:=aEy Aaa;exact aiv
 have hb0:decide ((30:Int) < reqs.length)=false:=aEw Aaa;have nD:Hid (TT=gL KB RR reqs):=by rw [ah HD,h1,aEy h0];rfl
 clear HD h1;go_in
 go_wp2_with (go_at_call 198;refine(H1 _).mono ?_;rintro e w9 ⟨rfl,rfl⟩)
 go_loopw [3,21] (λlv i wr=>∃(k:Nat) (y:Int),k<=reqs.length/\i= .int .i64 k/\lv= .int .i64 y/\y=yg (λs=>s.no) old (reqs.take k)/\gL KB RR (reqs.take k)=true/\wr.heap[w.heap.size]?=some (.cells (dR ⟨id,par,kids,next,pu,out,seen,old,reqs⟩ ⟨ak,ap,ao,as',ar,ck,cp,co,cs,cr⟩) 53 (0,0))/\aG w wr) (λ_ i _=>reqs.length - (intOf i).toNat)
 case atStart=>exact⟨0,old,aEN _,rfl,rfl,rfl,rfl,jL,au w _⟩
 case round=>
  open auD in exact ahc):P:=h
theorem aoR.AaK(h:P:=by
 dsimp only at hlo HD xR jr zo HLB VR SI jL ⊢;generalize (λs t:jI=>iF s.i t.i)=RR at *;by_cases h0:out.length<=40
 case' neg=>
  have HP:=Hq (show TT=false by rw [ah HD,aEw h0];rfl);have hb0:decide ((40:Int) < out.length)=true:=aEy Aaa;go_in
  go_wp2_with fail;exact xH
 have hb0:decide ((40:Int) < out.length)=false:=aEw Aaa;have nD:Hid (TT=gL KB RR out):=by rw [ah HD,aEy h0];rfl
 clear HD;go_in
 go_wp2_with fail;go_loopw [3,13] (λlv i wr=>∃(k:Nat) (y:Int),k<=out.length/\i= .int .i64 k/\lv= .int .i64 y/\y=yg (λs=>s.i) 0 (out.take k)/\gL KB RR (out.take k)=true/\wr.heap[w.heap.size]?=some (.cells (dR ⟨id,par,kids,next,pu,out,seen,old,reqs⟩ ⟨ak,ap,ao,as',ar,ck,cp,co,cs,cr⟩) 53 (0,0))/\aG w wr) (λ_ i _=>out.length - (intOf i).toNat)
 case atStart=>exact⟨0,0,aEN _,rfl,rfl,rfl,rfl,jL,au w _⟩
 case round=>
  open auC in exact ahc):P:=h
theorem aoS.AaK(h:P:=by
 dsimp only at hl HC jL Tk ⊢;clear ha;go_in
 go_wp2_with fail;refine HC.mono ?_;rintro e w1 ⟨v,rfl,hown,hb1⟩;have HB1:=Hq ((au w _).trans (hb1.mono Aac));have Ih:=Hq (GR.own_lower (b':=w.heap.size) hown Aac);obtain⟨c0,c1,_⟩:=nine (aj jL hb1);clear hown hb1 HC;go_upto_if 9 with fail;go_cut [3] (λr wx=>wx.ownsRow w.heap.size 3 1 r NB.length (GR.flat aW NB)/\aG w wx)
 case first=>
  by_cases hp:par= -1
  .have hb:(par != -1)=false:=by simp[hp]
   have HE:=Hq (Tk.1 hp);clear hp;go_wp2_with fail;go_meet
   case rel=>exact⟨by rw [ah HE];exact Ih,HB1⟩
  .have hb:(par != -1)=true:=by simp[hp]
   have HE:=Hq (Tk.2 hp);clear hp;have ho:=ah Ih;go_wp2_with (at_builtin;refine aFf _ rfl _ _ 22 rfl w.heap.size 3 i0 (.int .i64 0) 1 8 underlying22 hi hz0 hz1 hz2 rfl Aag _ _ _ rfl (ho.alloc _) ⟨w1.heap.size,0,none⟩ 1 1 [.int .i64 par] rfl rfl ?c1 ?c2 ?c3 ?c4 ?c5 ?_)
   case c1=>exact cell_one_new _ _ _
   case c2=>intro u hu;simp at hu;subst hu;rfl
   case c3=>unfold maxLen;omega
   case c4=>omega
   case c5=>have:=HB1.size;simp;omega
   intro v' w6 hown' hgrow _;have xQ:=Hq (GR.below_append HB1 HB1.size ho hgrow)
   have HO6:Hid (w6.ownsRow w.heap.size 3 1 v' NB.length (GR.flat aW NB)):=by
    rw [ah HE,GR.flat_append,aEC];exact hown'
   clear hgrow ho hown';go_wp2_with fail;go_meet
   case rel=>exact⟨HO6,xQ⟩
 case rest=>
  obtain⟨ho,hb⟩:=hcut;have HS:=Hq (afT w.heap.size _ NB wc hln hb.size ho);have HB2:=Hq hb;clear ho hb c0 c1;go_wp2_with fail;refine HS.mono ?_;rintro e w3 ⟨rfl,ho3,hb3⟩;have JO:=Hq ho3;have HB3:=Hq (HB2.trans hb3);clear ho3 hb3;go_wp2_with fail;go_ret;exact⟨_,rfl,JO,HB3⟩):P:=h
theorem aoT.AaK(h:P:=by
 dsimp only at DC HPU HOT HSE HRE HD jL ⊢;go_in
 go_upto_region 1 with fail;open aqb in exact akc):P:=h
theorem aoU.AaK(h:P:=by
 dsimp only at hls HA HD HSK Tk jL ⊢;go_in
 go_wp2_with fail;refine Tk.mono ?_;rintro e w1 ⟨v,rfl,hown,hb1⟩;have HB1:=Hq ((au w _).trans (hb1.mono Aac));have BA:=Hq (aj jL hb1);have hFL:=ah zo;subst hFL;obtain⟨fa,fc,rfl,hF⟩:=GR.own_at (enc:=aW) (sz:=1) aU hown;have HF:=Hq hF;obtain⟨c0,c1,c2,c3,c4,c5,c6,c7,c8⟩:=nine BA;clear hown hb1 Tk jL zo hF;by_cases hlen:seen.length=F.length
 case' neg=>
  have hbn:((seen.length:Int) != (F.length:Int))=true:=Aae
  have HP:=Hq (show TT=false by
   rw [ah HD,aEw (show¬seen.map (·.f)=F from λh=>hlen (by rw [<-h,aFo]))]
   rfl)
  clear HD;go_wp2_with fail;go_ret;exact⟨aF HP.symm,HB1⟩
 have hbn:((seen.length:Int) != (F.length:Int))=false:=Aae
 have zy:=Hq hlen;clear hlen;go_wp2_with fail;go_loopw [17] (λi wr=>∃k:Nat,k<=seen.length/\i= .int .i64 k/\(seen.take k).map (·.f)=F.take k/\(seen.take k).all vK=true/\aG w1 wr) (λi _=>seen.length - (intOf i).toNat)
 case atStart=>exact⟨0,aEN _,rfl,rfl,rfl,aEK _ _⟩
 case round=>
  obtain⟨k,hk,rfl,hm,hall,hbx⟩:=hrel;have HM:=Hq hm;have kS:=Hq hall;have jL:=Hq hbx;have H7:=Hq (aj BA hbx);have aO:=Hq (HB1.trans (hbx.mono HB1.size));clear hm hall hbx;by_cases hlt:k < seen.length
  case' neg=>
   have hke:k=seen.length:=Aaa
   subst hke;have hnlt:decide ((seen.length:Int) < (seen.length:Int))=false:=Aac
   have HP:=Hq (show TT=true by
    have h1:=ah HM
    have h2:=ah kS
    rw [aEW] at h1 h2
    rw [ah zy,aEW] at h1
    rw [ah HD,aEy h1,h2]
    rfl)
   go_wp2_with fail;go_ret;exact⟨aF HP.symm,aO⟩
  have aB8:k < F.length:=by rw [<-ah zy];exact hlt
  obtain⟨g,off,b,c,e0,hgw,q0,q1,q2,hI⟩:=gT.below (bX.s HA) aO k hlt;obtain⟨g2,off2,e2,akU,p0⟩:=aK.one (GR.At.below HF jL) k aB8;(try dsimp only at e0 q0 q1 q2 hI)
  subst e0 e2;have I7:=ah HSK _ (aEL hlt);have HI:=Hq hI;have HST:=Hq (λh3 h4=>Zr hlt zy.symm HM kS h3 h4);have BI:=Hq (λh3=>Zp (F:=F) hlt zy.symm h3);have HX2:=Hq (λh4=>Zq hlt h4);clear hI;generalize seen[k]=sk at *;generalize F[k]=y at *;obtain⟨fr,lo,ids⟩:=sk;dsimp only at q0 q1 q2 HI I7 HST BI HX2;go_upto_region 7 with fail;open au4 in exact ahl):P:=h
theorem aoV.AaK(h:P:=by
 obtain⟨si,st,sx,sn⟩:=s;dsimp only at hl HA HLY zo zy HP HR HO HB ⊢;obtain⟨c0,c1,c2,c3,c4,c5,c6,c7,c8⟩:=nine HP;obtain⟨d0,d1,d2,d3⟩:=iq HR;go_in
 go_wp2_with fail;go_loopw [5,13] (λlv i wr=>∃k:Nat,k<=out.length/\i= .int .i64 k/\lv= .int .i64 si/\(out.take k).find? (λo=>decide (o.t=st))=none/\Below (((w.alloc (.cells (dR ⟨id,par,kids,next,pu,out,seen,old,reqs⟩ ⟨ak,ap,ao,as',ar,ck,cp,co,cs,cr⟩) 53)).alloc (.cells (gB si st sx sn) 129)).alloc (.cells zm7 104)).heap.size (((w.alloc (.cells (dR ⟨id,par,kids,next,pu,out,seen,old,reqs⟩ ⟨ak,ap,ao,as',ar,ck,cp,co,cs,cr⟩) 53)).alloc (.cells (gB si st sx sn) 129)).alloc (.cells zm7 104)) wr) (λ_ i _=>out.length - (intOf i).toNat)
 case atStart=>exact⟨0,aEN _,rfl,rfl,rfl,aEK _ _⟩
 case round=>
  obtain⟨k,hk,rfl,rfl,hno,hbx⟩:=hrel;have HN:=Hq hno;have kU:=Hq (aj HP hbx);have HR1:=Hq (aj HR hbx);have Ih:=Hq (aj HO hbx);have HB1:=Hq (HB.trans (hbx.mono HB.size));have jL:=Hq hbx;clear hno hbx c0 c1 c2 c3 c4 c5 c6 c7 c8 d0 d1 d2 d3;obtain⟨c0,c1,c2,c3,c4,c5,c6,c7,c8⟩:=nine kU;obtain⟨d0,d1,d2,d3⟩:=iq HR1;have hrz:=ay Ih;have aDT:w.heap.size+1 < wr.heap.size:=Aaa
  have aDS:w.heap.size < wr.heap.size:=Aaa
  by_cases hlt:k < out.length
  .obtain⟨g,off,e0,hgw,q0,q1,q2,q3⟩:=SentAt.four (GR.At.below HA HB1) k hlt;(try dsimp only at e0 q0 q1 q2 q3)
   subst e0;by_cases ht:(out[k]).t=st
   .have HY:=Hq (HLY k hlt HN ht);have hb:((out[k]).t == st)=true:=by simp[ht]
    clear ht HLY zo zy;generalize out[k]=sk at *;obtain⟨ui,ut,ux,un⟩:=sk;dsimp only at q0 q1 q2 q3 hb HY;have hyy:=ah HY;subst hyy;go_upto_region 8 with fail;refine wp_at (λW3 hW3=>?_);have hbw:aG wr W3:=by rw [hW3];exact au wr _
    open apk in exact awl
   .have HS:=Hq (zo k hlt HN ht);have hb:((out[k]).t == st)=false:=by simp[ht]
    clear ht HLY zo zy;generalize out[k]=sk at *;obtain⟨ui,ut,ux,un⟩:=sk;dsimp only at q0 q1 q2 q3 hb;go_wp2_with fail;go_roundw
    case rel=>exact⟨k+1,Aaa,Aaf,rfl,HS,jL.alloc jL.size _⟩
    case measure=>simp[intOf];omega
  .open aql in exact aa3):P:=h
theorem aoW.AaK(h:P:=by
 dsimp only at hl HA HLY zo zy c0 c1 c2 c3 c4 c5 c6 c7 c8 ⊢;go_in
 go_wp2_with fail;go_loop [7] (λi=>∃k:Nat,k<=out.length/\i= .int .i64 k/\(out.take k).find? (λo=>decide (o.t=t))=none) (λi=>out.length - (intOf i).toNat)
 case atStart=>exact⟨0,aEN _,rfl,rfl⟩
 case round=>
  obtain⟨k,hk,rfl,hno⟩:=hrel;have HN:=Hq hno;clear hno;by_cases hlt:k < out.length
  .obtain⟨g,off,e0,hgw,q0,q1,q2,q3⟩:=SentAt.four HA k hlt;subst e0;by_cases ht:(out[k]).t=t
   .have HY:=Hq (HLY k hlt HN ht);have hb:((out[k]).t == t)=true:=by simp[ht]
    clear ht HLY zo zy;generalize out[k]=sk at *;obtain⟨si,st,sx,sn⟩:=sk;dsimp only at q0 q1 q2 q3 hb HY;go_wp2_with fail;go_ret;exact⟨Nt HY.symm,au w _⟩
   .have HS:=Hq (zo k hlt HN ht);have hb:((out[k]).t == t)=false:=by simp[ht]
    clear ht HLY zo zy;generalize out[k]=sk at *;obtain⟨si,st,sx,sn⟩:=sk;dsimp only at q0 q1 q2 q3 hb;go_wp2_with fail;go_round
    case rel=>exact⟨k+1,Aaa,Aaf,HS⟩
    case measure=>simp[intOf];omega
  .open aqk in exact aa3):P:=h
theorem aoX.AaK(h:P:=by
 obtain⟨si,st,sx,sn⟩:=s;dsimp only at hl HLW hP hR hO hB ⊢;have HP:=Hq hP;have HR:=Hq hR;have HO:=Hq hO;have HB:=Hq hB;clear ha hP hR hO hB Ii;go_in
 go_upto_region 1 with fail;refine wp_at (λW hW=>?_);rw [<-hW] at HP HR HO HB;have azM:=Hq (HLW W HB);have hz2:w.heap.size+1+1 < W.heap.size:=ay HO;have hz1:w.heap.size+1 < W.heap.size:=Aaa
 have hz0:w.heap.size < W.heap.size:=Aaa
 have hne0:w.heap.size+1+1≠w.heap.size:=Aaa
 have hne1:w.heap.size+1+1≠w.heap.size+1:=Aaa
 clear hW HLW;obtain⟨c0,c1,c2,c3,c4,c5,c6,c7,c8⟩:=nine HP;obtain⟨d0,d1,d2,d3⟩:=iq HR
 go_region_held (λw'=>(w'.cell? ⟨w.heap.size,0,none⟩=some (.int .i64 id)/\w'.cell? ⟨w.heap.size,1,none⟩=some (.int .i64 par)/\w'.cell? ⟨w.heap.size,2,none⟩=some (.slice ak kids.length ck)/\w'.cell? ⟨w.heap.size,3,none⟩=some (.int .i64 next)/\w'.cell? ⟨w.heap.size,4,none⟩=some (.slice ap pu.length cp)/\w'.cell? ⟨w.heap.size,5,none⟩=some (.slice ao out.length co)/\w'.cell? ⟨w.heap.size,6,none⟩=some (.slice as' seen.length cs)/\w'.cell? ⟨w.heap.size,7,none⟩=some (.int .i64 old)/\w'.cell? ⟨w.heap.size,8,none⟩=some (.slice ar reqs.length cr))/\w'.cell? ⟨w.heap.size+1,0,none⟩=some (.int .i64 si)/\w'.cell? ⟨w.heap.size+1,1,none⟩=some (.int .i64 st)/\w'.cell? ⟨w.heap.size+1,2,none⟩=some (.string sx)/\w'.cell? ⟨w.heap.size+1,3,none⟩=some (.int .i64 sn)) (first|go_keep|(refine⟨⟨?_,?_,?_,?_,?_,?_,?_,?_,?_⟩,?_,?_,?_,?_⟩<;>first|exact aBH hne0 (by assumption)|exact aBH hne1 (by assumption)))
  (first
   |(go_at_call 168;refine(azM W.drew rfl).mono ?_;rintro e w5 ⟨rfl,hb5⟩;have hb6:aG W w5:=⟨hb5.os,hb5.tape,hb5.output,hb5.size,hb5.block⟩;clear hb5;have Iz:=Hq (aj HP hb6);have HR5:=Hq (aj HR hb6);have Ov:=Hq (aj HO hb6);have fI:=Hq (HB.trans (hb6.mono HB.size));clear hb6;obtain⟨y0,y1,y2,y3,y4,y5,y6,y7,y8⟩:=nine Iz;obtain⟨z0,z1,z2,z3⟩:=iq HR5;obtain⟨r0,r1,r2,r3,r4,r5,r6⟩:=jA Ov;have f0:=aA Ov 0;have f1:=aA Ov 1;have f2:=aA Ov 2;have f3:=aA Ov 3;have f4:=aA Ov 4;have f5:=aA Ov 5;have f6:=aA Ov 6))
 all_goals
  go_wp2_with fail
  refine fQ (λW' hW'=>?_)
  have hR:=zl (b0:= .int .i64 1) (b1:= .int .i64 id) (b2:= .int .i64 st) (b3:= .int .i64 si) (b4:= .int .i64 LO) (b5:= .string sx) (b6:= .int .i64 sn) Ov
  have hK:=uR (w:=w5) (g:=w.heap.size+1+1) (b0:= .int .i64 1) (b1:= .int .i64 id) (b2:= .int .i64 st) (b3:= .int .i64 si) (b4:= .int .i64 LO) (b5:= .string sx) (b6:= .int .i64 sn)
  rw [<-hW'] at hR hK
  obtain⟨x0,x1,x2,x3,x4,x5,x6⟩:=jA hR
  refine aEE (v:= .agg (bH 1 id st si LO sx sn)) (by simp[results,results141,go_sem,x0,x1,x2,x3,x4,x5,x6]) rfl ⟨rfl,fI.trans (hK.below (λx hx=>by have:x=w.heap.size+1+1:=Aad;omega) fI.size)⟩):P:=h
theorem aoY.AaK(h:P:=by
 dsimp only at hlo HAO LH nD IB DC ⊢;go_in
 go_upto_region 1 with fail;refine wp_at (λW0 hW0=>?_);rw [<-hW0] at LH;have HB0:Hid (aG w W0):=by rw [hW0];exact au w _
 have afm:w.heap.size < W0.heap.size:=ay LH;have aDO:w.heap.size≠W0.heap.size:=Aaa
 clear hW0;have amu:Hid ((W0.alloc (.cells #[] 104)).ownsRow W0.heap.size 104 7 (.slice (some ⟨W0.heap.size,0,none⟩) 0 0) 0 []):=aFb (base:=W0.heap.size) (e:=104) (size:=7) W0 #[] 0 (aEx _) Aag rfl;go_wp2_with fail;go_loopw [3,4] (λov i wr=>∃(k:Nat) (va:Option Addr) (vc:Nat),k<=out.length/\i= .int .i64 k/\ov= .slice va k vc/\wr.ownsRow W0.heap.size 104 7 (.slice va k vc) k (GR.flat lQ ((out.take k).map PM))/\aG W0 wr/\(0 < k->OK=true)) (λ_ i _=>out.length - (intOf i).toNat)
 case atStart=>exact⟨0,some ⟨W0.heap.size,0,none⟩,0,aEN _,rfl,rfl,amu,au W0 _,λh=>Aaa⟩
 case round=>
  obtain⟨k,va,vc,hk,rfl,rfl,hown,hbel,hpos⟩:=hrel;have HO:=Hq hown;have aO:=Hq hbel;have HW:=Hq (HB0.trans (hbel.mono HB0.size));have kU:=Hq (aj LH hbel);clear hown hbel amu;obtain⟨c0,c1,c2,c3,c4,c5,c6,c7,c8⟩:=nine kU;by_cases hlt:k < out.length
  .obtain⟨g,off,e0,hg,q0,q1,q2,q3⟩:=SentAt.four (GR.At.below HAO HB0) k hlt;subst e0;have amA:=Hq (nD wr HW);go_wp2_with fail;refine amA.mono ?_;rintro e w4 ⟨rfl,hb4⟩;have HO4:=Hq (GR.own_below HO hb4);have Et:=Hq (aO.trans (hb4.mono aO.size));clear hb4 amA c0 c1 c2 c3 c4 c5 c6 c7 c8 kU aO HW HO;have JQ:=Hq (aj LH Et);have HW4:=Hq (HB0.trans (Et.mono HB0.size));cases hOK:OK
   .have hk0:k=0:=by
     rcases Nat.eq_zero_or_pos k with h|h
     .exact h
     .exact absurd (hpos h) (by rw [hOK];simp)
    subst hk0;have HE:Hid (L=[]):=by rw [ah DC,hOK];rfl
    clear hpos hOK DC;go_wp2_with fail;go_ret;rw [ah HE];exact Bz.of_own rfl HO4 Aaa HW4
   .clear hpos;have ajR:=Hq (IB out[k] w4 HW4);have HT:=Hq (show(out.take (k+1)).map PM=(out.take k).map PM++[PM out[k]] by rw [aEF hlt,List.map_append];rfl);generalize out[k]=sk at *;generalize PM sk=mk at *;obtain⟨si,st,sx,sn⟩:=sk;obtain⟨mK,mF,mT,mI,mL,mk,mN⟩:=mk;dsimp only at q0 q1 q2 q3;have HQ0:=Hq q0;have HQ1:=Hq q1;have HQ2:=Hq q2;have HQ3:=Hq q3;have x0:=(Et.cell (p:=⟨g,off+k*4,none⟩) hg).trans q0;have x1:=(Et.cell (p:=⟨g,off+k*4+1,none⟩) hg).trans q1;have x2:=(Et.cell (p:=⟨g,off+k*4+2,none⟩) hg).trans q2;have x3:=(Et.cell (p:=⟨g,off+k*4+3,none⟩) hg).trans q3;clear q0 q1 q2 q3;obtain⟨c0,c1,c2,c3,c4,c5,c6,c7,c8⟩:=nine JQ;go_wp2_with fail
    go_region_held_law (λw'=>(w'.cell? ⟨w.heap.size,0,none⟩=some (.int .i64 id)/\w'.cell? ⟨w.heap.size,1,none⟩=some (.int .i64 par)/\w'.cell? ⟨w.heap.size,2,none⟩=some (.slice ak kids.length ck)/\w'.cell? ⟨w.heap.size,3,none⟩=some (.int .i64 next)/\w'.cell? ⟨w.heap.size,4,none⟩=some (.slice ap pu.length cp)/\w'.cell? ⟨w.heap.size,5,none⟩=some (.slice (some ⟨g,off,none⟩) out.length co)/\w'.cell? ⟨w.heap.size,6,none⟩=some (.slice as' seen.length cs)/\w'.cell? ⟨w.heap.size,7,none⟩=some (.int .i64 old)/\w'.cell? ⟨w.heap.size,8,none⟩=some (.slice ar reqs.length cr))/\w'.cell? ⟨g,off+k*4,none⟩=some (.int .i64 si)/\w'.cell? ⟨g,off+k*4+1,none⟩=some (.int .i64 st)/\w'.cell? ⟨g,off+k*4+2,none⟩=some (.string sx)/\w'.cell? ⟨g,off+k*4+3,none⟩=some (.int .i64 sn)) (go_keep)
     (first
      |((go_at_call 141);(refine(ajR w4.drew rfl).mono ?_);(rintro e w5 ⟨rfl,hb5⟩);(have hb6:aG w4 w5:=⟨hb5.os,hb5.tape,hb5.output,hb5.size,hb5.block⟩);(clear hb5);(have Ov:=Hq (GR.own_below HO4 hb6));(have eO:=Hq (Et.trans (hb6.mono Et.size)));(clear hb6);(have Iz:=Hq (aj LH eO));(obtain⟨y0,y1,y2,y3,y4,y5,y6,y7,y8⟩:=nine Iz);(have u0:=(eO.cell (p:=⟨g,off+k*4,none⟩) hg).trans HQ0);(have u1:=(eO.cell (p:=⟨g,off+k*4+1,none⟩) hg).trans HQ1);(have u2:=(eO.cell (p:=⟨g,off+k*4+2,none⟩) hg).trans HQ2);(have u3:=(eO.cell (p:=⟨g,off+k*4+3,none⟩) hg).trans HQ3))
      |((refine CJ _ rfl (.tmp 17) (.tmp 25) 54 rfl W0.heap.size 104 i0 (.agg (bH 0 0 0 0 0 ByteArray.empty 0)) 7 64 underlying54 hi hz0 hz1 hz2 rfl Aag (.slice va k vc) k (GR.flat lQ ((out.take k).map PM)) Aan (Ov.alloc _) ⟨w5.heap.size,0,none⟩ 1 1 (lQ ⟨mK,mF,mT,mI,mL,mk,mN⟩) Aan rfl (aFj (aEu w5 _)) (PO _) Aai Aaa (aEA eO.size Aac) ?_);(intro v6 w6 hown6 qP P9);(have Kh:w6.ownsRow W0.heap.size 104 7 v6 (k+1) (GR.flat lQ ((out.take (k+1)).map PM)):=by rw [ah HT,iX];exact hown6);(obtain⟨va6,vc6,hv6,_⟩:=GR.own_at (enc:=lQ) (sz:=7) (l:=(out.take (k+1)).map PM) qX (by rw [aFo,aEX,aFH Aaa];exact Kh));(rw [aFo,aEX,aFH Aaa] at hv6);(subst hv6);(have HO6:=Hq Kh);(have OC:=Hq (show aG W0 w6 from(eO.alloc eO.size _).trans (Mk qP (λk e=>(Ov.lt k e).1) (aEA eO.size Aac))));(clear hown6 qP P9 Kh);(have Tq:=Hq (aj LH OC));(obtain⟨z0,z1,z2,z3,z4,z5,z6,z7,z8⟩:=nine Tq);(have t0:=(OC.cell (p:=⟨g,off+k*4,none⟩) hg).trans HQ0);(have t1:=(OC.cell (p:=⟨g,off+k*4+1,none⟩) hg).trans HQ1);(have t2:=(OC.cell (p:=⟨g,off+k*4+2,none⟩) hg).trans HQ2);(have t3:=(OC.cell (p:=⟨g,off+k*4+3,none⟩) hg).trans HQ3))
      |fail)
    all_goals
     go_wp2_with fail
     go_roundw
     case rel=>exact⟨k+1,va6,vc6,Aaa,Aaf,rfl,HO6,OC,λ_=>hOK⟩
     case measure=>simp[intOf];omega
  .open aqj in exact aa3):P:=h
theorem awi(h:P:=by
 iterate 5 (refine iy (λK hK=>?_);go_simp;refine hK _ ?_;clear hK K)
 (refine iy (λK hK=>?_);go_simp;(first|refine hK _ ?_|(apply Exists.intro;refine⟨λ_=>?_,hK _ ?_⟩;(exact N1 _)));clear hK K)
 iterate 2 (refine iy (λK hK=>?_);go_simp;refine hK _ ?_;clear hK K)
 (refine iy (λK hK=>?_);go_simp;(first|refine hK _ ?_|(apply Exists.intro;refine⟨λ_=>?_,hK _ ?_⟩;(exact N2 _)));clear hK K)
 iterate 2 (refine iy (λK hK=>?_);go_simp;refine hK _ ?_;clear hK K)
 (refine iy (λK hK=>?_);go_simp;(first|refine hK _ ?_|(apply Exists.intro;refine⟨λ_=>?_,hK _ ?_⟩;(exact N3 _)));clear hK K)
 iterate 2 (refine iy (λK hK=>?_);go_simp;refine hK _ ?_;clear hK K)
 exact AcT):P:=h
theorem aoZ.AcT(h:P:=by
 (refine iy (λK hK=>?_);go_simp;(first|refine hK _ ?_|(apply Exists.intro;refine⟨λ_=>?_,hK _ ?_⟩;(exact NM _)));clear hK K)
 (refine iy (λK hK=>?_);go_simp;(first|refine hK _ ?_|(apply Exists.intro;refine⟨λ_=>?_,hK _ ?_⟩;(exact N4 _)));clear hK K)
 refine jm ?_;clear y0 y1 y2 y3 y4 y5 y6 y7 y8 y9 y10 N1 N2 N3 N4 NM;open arn in exact awL):P:=h
theorem ao0.AcT(h:P:=by
 (refine iy (λK hK=>?_);go_simp;(first|refine hK _ ?_|(apply Exists.intro;refine⟨λ_=>?_,hK _ ?_⟩;(exact N4 _)));clear hK K)
 iterate 2 (refine iy (λK hK=>?_);go_simp;refine hK _ ?_;clear hK K)
 (refine iy (λK hK=>?_);go_simp;(first|refine hK _ ?_|(apply Exists.intro;refine⟨λ_=>?_,hK _ ?_⟩;(exact N5 _)));clear hK K)
 iterate 2 (refine iy (λK hK=>?_);go_simp;refine hK _ ?_;clear hK K)
 (refine iy (λK hK=>?_);go_simp;(first|refine hK _ ?_|(apply Exists.intro;refine⟨λ_=>?_,hK _ ?_⟩;(exact N6 _)));clear hK K)
 refine jm ?_;clear y0 y1 y2 y3 y4 y5 y6 N1 N2 N3 N4 N5 N6;open arl in exact awL):P:=h
theorem awj(h:P:=by
 go_upto_region 1 with fail;have y0:=aEv c0;have y1:=aEv c1;clear c0 c1;refine Ip 14 ?_;refine tk [0,1,2,3,4,5,6,7,8,9,10,11,12,13] ?_;iterate 8 (refine iy (λK hK=>?_);go_simp;refine hK _ ?_;clear hK K)
 (refine iy (λK hK=>?_);go_simp;(first|refine hK _ ?_|(apply Exists.intro;refine⟨λ_=>?_,hK _ ?_⟩;(exact HC _ (Tw _))));clear hK K)
 iterate 5 (refine iy (λK hK=>?_);go_simp;refine hK _ ?_;clear hK K)
 refine jm ?_;refine dJ Aab (λz hz=>?_);have HZ:=Hq hz;have HRZ:=Hq (aI H hz);clear hz y0 y1 Tw HC H;go_simp;go_wp2_with fail;refine(HG _ HRZ).mono ?_;rintro e w1 ⟨rfl,rfl⟩;go_wp2_with fail;exact Ac7):P:=h
theorem ao1.Ac7(h:P:=by
 exact⟨rfl,rfl,HZ⟩):P:=h
theorem ao2.Ac7(h:P:=by
 go_ret;exact⟨rfl,jv.set HRZ _,(dD.of_below HZ).trans (dD.set _)⟩):P:=h
theorem IJ(h:P:=by
 obtain⟨k,hk,rfl,hB,hbel⟩:=hrel;have HB:=Hq hB;have aO:=Hq hbel;clear hB hbel hmk;exact AaN):P:=h
theorem ao3.AaN(h:P:=by
 by_cases hlt:k < l.length
 .obtain⟨g,off,rfl,hgw,q0,q1,q2,q3⟩:=aH.four (GR.At.below HA aO) k hlt;have TS:=Hq (Dk l ⟨ByteArray.empty,0,0,0⟩ k hlt);generalize l[k]=pu at *;obtain⟨pk,pm,pf,ps⟩:=pu;dsimp only at q0 q1 q2 q3;have hln:(l.take k++List.replicate (l.length - k) (⟨ByteArray.empty,0,0,0⟩:Pu)).length=l.length:=Aae
  go_wp2_with fail;refine(af5 ⟨pk,pm,pf,ps⟩ _).mono ?_;rintro e w5 ⟨rfl,hb5⟩;have fI:=Hq (L9 HB hb5);have eO:=Hq (aO.trans (hb5.mono aO.size));clear hb5 q0 q1 q2 q3;exact axr
 .exact IL):P:=h
theorem ao4.AaN(h:P:=by
 by_cases hlt:k < l.length
 .obtain⟨g,off,rfl,hgw,q0⟩:=aK.one (GR.At.below HA aO) k hlt;have TS:=Hq (ZK l 0 k hlt);generalize l[k]=pu at *;have hln:(l.take k++List.replicate (l.length - k) (0:Int)).length=l.length:=Aae
  have s0:=kQ.one HB k Aaa;have f0:=GR.Blk.free HB k;go_wp2_with fail;first|go_region|skip
  go_roundw
  case rel=>
   have h:=GR.Blk.set HB aU k Aaa pu;rw [ah TS] at h;have h2:=GR.setW_below (o:=k*1) (aEx w.heap.size) (aW pu) aO;rw [Nat.mul_one] at h h2;exact⟨k+1,Aaa,Aaf,h,h2⟩
  case measure=>simp[intOf];omega
 .exact IL):P:=h
theorem ao5.AaN(h:P:=by
 by_cases hlt:k < l.length
 .obtain⟨g,off,rfl,hgw,q0,q1,q2,q3⟩:=SentAt.four (GR.At.below HA aO) k hlt;have TS:=Hq (Oc l ⟨0,0,ByteArray.empty,0⟩ k hlt);generalize l[k]=pu at *;obtain⟨pi,pt,pk,pn⟩:=pu;dsimp only at q0 q1 q2 q3;have hln:(l.take k++List.replicate (l.length - k) (⟨0,0,ByteArray.empty,0⟩:jI)).length=l.length:=Aae
  go_wp2_with fail;refine(alO ⟨pi,pt,pk,pn⟩ _).mono ?_;rintro e w5 ⟨rfl,hb5⟩;have fI:=Hq (lN.step HB hb5);have eO:=Hq (aO.trans (hb5.mono aO.size));clear hb5 q0 q1 q2 q3;obtain⟨s0,s1,s2,s3⟩:=lN.four fI k Aaa;open as7 in exact aaL
 .exact IL):P:=h
theorem ao6.AaN(h:P:=by
 by_cases hlt:k < l.length
 .obtain⟨g,off,rfl,hgw,q0,q1,q2,q3⟩:=fJ.four (GR.At.below HA aO) k hlt;have TS:=Hq (Sb l ⟨0,ByteArray.empty,0,0⟩ k hlt);generalize l[k]=pu at *;obtain⟨pno,pk,pn,ps⟩:=pu;dsimp only at q0 q1 q2 q3;have hln:(l.take k++List.replicate (l.length - k) (⟨0,ByteArray.empty,0,0⟩:Rq)).length=l.length:=Aae
  go_wp2_with fail;refine(azu ⟨pno,pk,pn,ps⟩ _).mono ?_;rintro e w5 ⟨rfl,hb5⟩;have fI:=Hq (pY.step HB hb5);have eO:=Hq (aO.trans (hb5.mono aO.size));clear hb5 q0 q1 q2 q3;obtain⟨s0,s1,s2,s3⟩:=pY.four fI k Aaa;open as6 in exact aaL
 .exact IL):P:=h
theorem ao7.AaN(h:P:=by
 by_cases hlt:k < l.length
 .obtain⟨g,off,rfl,hgw,q0,q1⟩:=rE (GR.At.below HA aO) k hlt;have TS:=Hq (wX l ⟨0,0⟩ k hlt);generalize l[k]=pu at *;have Bq:=Hq (λw1=>af4 pu w1);obtain⟨ga,gn⟩:=pu;dsimp only at q0 q1;have hln:(l.take k++List.replicate (l.length - k) (⟨0,0⟩:Gv)).length=l.length:=Aae
  open aqT in exact aeG
 .exact IL):P:=h
theorem ao8.AaN(h:P:=by
 by_cases hlt:k < l.length
 .obtain⟨g,off,rfl,hgw,q0,q1,q2,q3,q4,q5,q6,q7,q8,q9,QZ,q11,q12⟩:=oN (GR.At.below HA aO) k hlt;have TS:=Hq (wX l ⟨0,⟨⟨0,0,ByteArray.empty,0,⟨0,0,0,0,0,ByteArray.empty,0⟩⟩,0⟩⟩ k hlt);generalize l[k]=pu at *;have Bq:=Hq (λw1=>alP pu w1);obtain⟨ta,⟨⟨oK,oZ,ok,on,⟨mK,mF,mT,mI,mL,mk,mN⟩⟩,ac⟩⟩:=pu;dsimp only at q0 q1 q2 q3 q4 q5 q6 q7 q8 q9 QZ q11 q12;have hln:(l.take k++List.replicate (l.length - k) (⟨0,⟨⟨0,0,ByteArray.empty,0,⟨0,0,0,0,0,ByteArray.empty,0⟩⟩,0⟩⟩:Td)).length=l.length:=Aae
  open aqS in exact aeG
 .exact IL):P:=h
theorem ao9.AaN(h:P:=by
 by_cases hlt:k < l.length
 .obtain⟨g,off,rfl,hgw,q0,q1,q2,q3,q4,q5,q6,q7,q8,q9,QZ,q11⟩:=lM (GR.At.below HA aO) k hlt;have TS:=Hq (wX l ⟨⟨0,0,ByteArray.empty,0,⟨0,0,0,0,0,ByteArray.empty,0⟩⟩,0⟩ k hlt);generalize l[k]=pu at *;have Bq:=Hq (λw1=>Sc pu w1);obtain⟨⟨oK,oZ,ok,on,⟨mK,mF,mT,mI,mL,mk,mN⟩⟩,ac⟩:=pu;dsimp only at q0 q1 q2 q3 q4 q5 q6 q7 q8 q9 QZ q11;have hln:(l.take k++List.replicate (l.length - k) (⟨⟨0,0,ByteArray.empty,0,⟨0,0,0,0,0,ByteArray.empty,0⟩⟩,0⟩:An)).length=l.length:=Aae
  open aqR in exact aeG
 .exact IL):P:=h
theorem apa.AaN(h:P:=by
 by_cases hlt:k < l.length
 .obtain⟨g,off,rfl,hgw,q0,q1,q2,q3,q4,q5,q6⟩:=qU (GR.At.below HA aO) k hlt;have TS:=Hq (wX l ⟨0,0,0,0,0,ByteArray.empty,0⟩ k hlt);generalize l[k]=pu at *;have Bq:=Hq (λw1=>ajv pu w1);obtain⟨mK,mF,mT,mI,mL,mk,mN⟩:=pu;dsimp only at q0 q1 q2 q3 q4 q5 q6;have hln:(l.take k++List.replicate (l.length - k) (⟨0,0,0,0,0,ByteArray.empty,0⟩:Mg)).length=l.length:=Aae
  open aqQ in exact aeG
 .exact IL):P:=h
theorem apb.AaN(h:P:=by
 by_cases hlt:k < l.length
 .obtain⟨g,off,rfl,hgw,q0⟩:=mP.one (GR.At.below HA aO) k hlt;have TS:=Hq (Vr l ByteArray.empty k hlt);generalize l[k]=pu at *;have hln:(l.take k++List.replicate (l.length - k) ByteArray.empty).length=l.length:=Aae
  have s0:=nL.one HB k Aaa;have f0:=GR.Blk.free HB k;go_wp2_with fail;first|go_region|skip
  go_roundw
  case rel=>
   have h:=GR.Blk.set HB kV k Aaa pu;rw [ah TS] at h;have h2:=GR.setW_below (o:=k*1) (aEx w.heap.size) (encStr pu) aO;rw [Nat.mul_one] at h h2;exact⟨k+1,Aaa,Aaf,h,h2⟩
  case measure=>simp[intOf];omega
 .exact IL):P:=h
theorem apc.AaN(h:P:=by
 by_cases hlt:k < l.length
 .obtain⟨g,cap',ev,hgl,hgw⟩:=HR.form Aaa;have ea:a=some ⟨g,0,none⟩:=by injection ev
  subst ea;have c0:∀(_:k < l.length),Hid True:=λ_=>trivial
  clear c0 ev;have hcl:_:=aO.cell (p:=⟨g,k,none⟩) hgw;have hce:=HR.cellAt k Aaa;have hck:w.cell? ⟨g,k,none⟩=some (.string l[k].k):=by rw [hce];simp[hlt]
  rw [hck] at hcl;clear hce hck;have TS:=Hq (Dk l ⟨ByteArray.empty,0,0,0⟩ k hlt);have hkk:=ah Ti l[k] (aEL hlt);have hgk:=ah HG l[k] (aEL hlt);have akM:=HH.below aO;generalize l[k]=pu at *;have OJ:=Hq (MF mp mb n _ G pu.k wr hkk akM.blk akM.map);rw [hgk] at OJ;have nD:=Hq (λw1=>FM pu w1 hkk);clear hkk hgk akM;obtain⟨pk,pm,pf,ps⟩:=pu;dsimp only at hcl;have hln:(l.take k++List.replicate (l.length - k) (⟨ByteArray.empty,0,0,0⟩:Pu)).length=l.length:=Aae
  go_wp2_with fail;refine OJ.mono ?_;rintro e w4 ⟨rfl,hb4⟩;have mh:=Hq (L9 HB hb4);have Et:=Hq (aO.trans (hb4.mono aO.size));clear hb4 OJ;go_wp2_with fail;refine(nD _).mono ?_;rintro e w5 ⟨rfl,hb5⟩;have fI:=Hq (L9 mh hb5);have eO:=Hq (Et.trans (hb5.mono Et.size));clear hb5;exact axr
 .exact IL):P:=h
theorem aj5(h:P:=by
 clear gu HBM;go_wp2_with fail;refine wp_region_quiet_lit Aab Aab ?_;repeat (first|go_big_quiet_step ((first|(go_at_call 33;exact qIn _ _ _ _ h1 _ _)))|quiet_step ((first|(go_at_call 33;exact qIn _ _ _ _ h1 _ _))))
 refine aE2 ?_;intro _ hw';obtain⟨nq,hw''⟩:=hw';subst hw'';go_wp2_with fail;exact Ab1):P:=h
theorem apd.Ab1(h:P:=by
 go_roundw
 case rel=>exact⟨j+1+1,Aaa,Aaf,HV,jL.trans ⟨rfl,rfl,rfl,aEx _,λ_ _=>rfl⟩⟩
 case measure=>simp[intOf];omega):P:=h
theorem ape.Ab1(h:P:=by
 go_roundw
 case rel=>exact⟨0+1,Aaa,Aaf,HV,jL.trans ⟨rfl,rfl,rfl,aEx _,λ_ _=>rfl⟩⟩
 case measure=>simp[intOf];omega):P:=h
theorem apf.Ab1(h:P:=by
 go_ret;exact⟨aF HV.symm,HL9.trans ⟨rfl,rfl,rfl,aEx _,λ_ _=>rfl⟩⟩):P:=h
theorem awk(h:P:=by
 go_in
 go_upto_region 1 with fail;refine Fo.wp_at (λV hV=>?_);have hbV:aG w V:=by rw [hV];exact aV w _
 have hblk:V.heap[w.heap.size]?=some (.cells #[.int .i64 dm,.int .i64 df,.int .i64 ds] 298 (0,0)):=by rw [hV];exact aEu w _
 have hlt:=Fo.lt_of_blk hblk;have c0:V.cell? ⟨w.heap.size,0,none⟩=some (.int .i64 dm):=by rw [aEz V _ _ _ _ (0,0) hblk];rfl
 have c1:V.cell? ⟨w.heap.size,1,none⟩=some (.int .i64 df):=by rw [aEz V _ _ _ _ (0,0) hblk];rfl
 have c2:V.cell? ⟨w.heap.size,2,none⟩=some (.int .i64 ds):=by rw [aEz V _ _ _ _ (0,0) hblk];rfl
 have wJ:=Hq hbV;clear hblk hV hbV;exact AdG):P:=h
theorem apg.AdG(h:P:=by
 go_cut [9,10] (λp9 nI wx=>∃pb:Nat,p9= .pointer (some ⟨pb,0,none⟩)/\nI= .nilIface/\aG w wx/\wx.heap[pb]?=some (.cells (iK pk qm qf qs) 142 (0,0))/\w.heap.size<=pb)
 case first=>
  have hnV:w.heap.size≠V.heap.size:=Aaa
  have hmV:V.heap.size≠w.heap.size:=Aaa
  go_region_held (λw'=>w'.cell? ⟨w.heap.size,0,none⟩=some (.int .i64 dm)/\w'.cell? ⟨w.heap.size,1,none⟩=some (.int .i64 df)/\w'.cell? ⟨w.heap.size,2,none⟩=some (.int .i64 ds)) (go_keep)
   (first
    |((go_at_call 309);(refine(OJ _ (by exact wJ.trans (by exact⟨rfl,rfl,rfl,Aac,λk hk=>by first|rfl|exact aEI _ _ _ Aaa⟩))).mono ?_);(rintro e w4 ⟨rfl,hb4⟩);(have hs4:=hb4.size);(simp at hs4);(have mh:=Hq (wJ.trans (Below.trans (b:=_) (by exact⟨rfl,rfl,rfl,Aac,λk hk=>by first|rfl|exact aEI _ _ _ Aaa⟩) (hb4.mono (by first|omega|(simp<;>omega))))));(obtain⟨hc4,hf4⟩:=CV hb4);(have d0:w4.cell? ⟨w.heap.size,0,none⟩=some (.int .i64 dm):=by rw [hc4 _ _ (by first|omega|(simp<;>omega))];first|exact c0|exact(aEO _ _ _ hlt).trans c0);(have d1:w4.cell? ⟨w.heap.size,1,none⟩=some (.int .i64 df):=by rw [hc4 _ _ (by first|omega|(simp<;>omega))];first|exact c1|exact(aEO _ _ _ hlt).trans c1);(have d2:w4.cell? ⟨w.heap.size,2,none⟩=some (.int .i64 ds):=by rw [hc4 _ _ (by first|omega|(simp<;>omega))];first|exact c2|exact(aEO _ _ _ hlt).trans c2);(first|(guard_hyp hs4:V.heap.size+1<=w4.heap.size;obtain⟨⟨z0,z1,z2,z3⟩,x0,x1,x2,x3⟩:=fG (Fo.one_block (show Below (V.alloc (.cells (iK ⟨#[]⟩ 0 0 0) 142)).heap.size (V.alloc (.cells (iK ⟨#[]⟩ 0 0 0) 142)) w4 from⟨hb4.os,hb4.tape,hb4.output,hb4.size,hb4.block⟩)).1;have Bv:V.heap.size < w4.heap.size:=aFC _ _ z0;have HZ:=Hq (Fo.one_block (show Below (V.alloc (.cells (iK ⟨#[]⟩ 0 0 0) 142)).heap.size (V.alloc (.cells (iK ⟨#[]⟩ 0 0 0) 142)) w4 from⟨hb4.os,hb4.tape,hb4.output,hb4.size,hb4.block⟩)).1)|skip);(have Uo:w.heap.size < w4.heap.size:=by omega);(have hn4:w.heap.size≠w4.heap.size:=by omega);(have hm4:w4.heap.size≠w.heap.size:=by omega);(clear hb4 hc4 hf4))
    |((go_at_call 310);(refine(HSH _ (by exact mh.trans (by exact⟨rfl,rfl,rfl,Aac,λk hk=>by first|rfl|exact aEI _ _ _ Aaa⟩))).mono ?_);(rintro e w5 ⟨rfl,hb5⟩);(have hs5:=hb5.size);(try simp at hs5);(have fI:=Hq (mh.trans (Below.trans (b:=_) (by exact⟨rfl,rfl,rfl,Aac,λk hk=>by first|rfl|exact aEI _ _ _ Aaa⟩) (hb5.mono (by first|omega|(simp<;>omega))))));(obtain⟨FB,Yr⟩:=CV hb5);(have e0:w5.cell? ⟨w.heap.size,0,none⟩=some (.int .i64 dm):=by rw [FB _ _ (by first|omega|(simp<;>omega))];first|exact d0|exact(aEO _ _ _ Uo).trans d0);(have e1:w5.cell? ⟨w.heap.size,1,none⟩=some (.int .i64 df):=by rw [FB _ _ (by first|omega|(simp<;>omega))];first|exact d1|exact(aEO _ _ _ Uo).trans d1);(have e2:w5.cell? ⟨w.heap.size,2,none⟩=some (.int .i64 ds):=by rw [FB _ _ (by first|omega|(simp<;>omega))];first|exact d2|exact(aEO _ _ _ Uo).trans d2);(first|(guard_hyp Bv:V.heap.size < w4.heap.size;have HY:=Hq ((hb5.block _ Bv).trans HZ);have y0:=(FB _ 0 Bv).trans z0;have y1:=(FB _ 1 Bv).trans z1;have y2:=(FB _ 2 Bv).trans z2;have y3:=(FB _ 3 Bv).trans z3;have v0:=(Yr _ 0 Bv).trans x0;have v1:=(Yr _ 1 Bv).trans x1;have v2:=(Yr _ 2 Bv).trans x2;have v3:=(Yr _ 3 Bv).trans x3)|(guard_hyp hs5:w4.heap.size+1<=w5.heap.size;have HY:=Hq (Fo.one_block hb5).1;obtain⟨⟨y0,y1,y2,y3⟩,v0,v1,v2,v3⟩:=fG (Fo.one_block hb5).1)|skip);(have aB7:w.heap.size < w5.heap.size:=by omega);(have hn5:w.heap.size≠w5.heap.size:=by omega);(have hm5:w5.heap.size≠w.heap.size:=by omega);(clear hb5 FB Yr)))
  all_goals
   go_wp2_with fail
   go_meet
   case rel=>
    first
     |exact⟨_,rfl,rfl,Fo.four_below fI Aaa,Fo.four_set HY,Aaa⟩
     |exact⟨_,rfl,rfl,fI.alloc fI.size _,aEu w5 _,Aaa⟩
 case rest=>
  obtain⟨pb,rfl,rfl,hbx,hpb,hge⟩:=hcut;obtain⟨⟨p0,p1,p2,p3⟩,_⟩:=fG hpb;have al9:=Hq (aeb _ hbx);have jL:=Hq hbx;have LH:=Hq hpb;have aB9:=Fo.lt_of_blk hpb
  have HNE:=Hq (show pb≠mp/\v.ownBlock≠some pb from⟨λe=>by
   have:=(Ii _ hbx).blk
   rw [<-e,hpb] at this
   injection this with this
   injection this with h1 h2 h3
   exact absurd h2 Aag,own_ne (Ii _ hbx).row hpb Aag⟩)
  clear hbx hpb aeb OJ HSH wJ c0 c1 c2 hlt;go_wp2_with fail;refine al9.mono ?_;rintro e w6 ⟨hb6,ayf,hcase⟩;have xQ:=Hq (Below.trans (jL.mono hB) hb6);have ak2:=(ayf pb aB9 HNE.1 HNE.2).trans LH;clear ayf hb6 p0 p1 p2 p3 al9;rcases hcase with⟨hf,rfl,Io⟩|⟨hf,h20,rfl⟩|⟨hf,h20,rfl,v',Io⟩
  .rw [ah xA hf] at Io;open aqf in exact awx
  .have HF:=Hq hf;have H20:=Hq h20;clear hf h20 ak2;go_wp2_with fail;go_ret;exact⟨xQ,.inl ⟨HF,H20,rfl⟩⟩
  .rw [ah HKN hf] at Io;open aqe in exact awx):P:=h
theorem aph.AdG(h:P:=by
 have hnV:w.heap.size≠V.heap.size:=Aaa
 have hmV:V.heap.size≠w.heap.size:=Aaa
 go_region_held (λw'=>w'.cell? ⟨w.heap.size,0,none⟩=some (.int .i64 dm)/\w'.cell? ⟨w.heap.size,1,none⟩=some (.int .i64 df)/\w'.cell? ⟨w.heap.size,2,none⟩=some (.int .i64 ds)) (go_keep)
  (first
   |((go_at_call 309);(refine(OJ _ (by exact wJ.trans (by exact⟨rfl,rfl,rfl,Aac,λk hk=>by first|rfl|exact aEI _ _ _ Aaa⟩))).mono ?_);(rintro e w4 ⟨rfl,hb4⟩);(have hs4:=hb4.size);(simp at hs4);(have mh:=Hq (wJ.trans (Below.trans (b:=_) (by exact⟨rfl,rfl,rfl,Aac,λk hk=>by first|rfl|exact aEI _ _ _ Aaa⟩) (hb4.mono (by first|omega|(simp<;>omega))))));(obtain⟨hc4,hf4⟩:=CV hb4);(have d0:w4.cell? ⟨w.heap.size,0,none⟩=some (.int .i64 dm):=by rw [hc4 _ _ (by first|omega|(simp<;>omega))];first|exact c0|exact(aEO _ _ _ hlt).trans c0);(have d1:w4.cell? ⟨w.heap.size,1,none⟩=some (.int .i64 df):=by rw [hc4 _ _ (by first|omega|(simp<;>omega))];first|exact c1|exact(aEO _ _ _ hlt).trans c1);(have d2:w4.cell? ⟨w.heap.size,2,none⟩=some (.int .i64 ds):=by rw [hc4 _ _ (by first|omega|(simp<;>omega))];first|exact c2|exact(aEO _ _ _ hlt).trans c2);(first|(guard_hyp hs4:V.heap.size+1<=w4.heap.size;obtain⟨⟨z0,z1,z2,z3⟩,x0,x1,x2,x3⟩:=fG (Fo.one_block (show Below (V.alloc (.cells (iK ⟨#[]⟩ 0 0 0) 142)).heap.size (V.alloc (.cells (iK ⟨#[]⟩ 0 0 0) 142)) w4 from⟨hb4.os,hb4.tape,hb4.output,hb4.size,hb4.block⟩)).1;have Bv:V.heap.size < w4.heap.size:=aFC _ _ z0)|skip);(have Uo:w.heap.size < w4.heap.size:=by omega);(have hn4:w.heap.size≠w4.heap.size:=by omega);(have hm4:w4.heap.size≠w.heap.size:=by omega);(clear hb4 hc4 hf4))
   |((go_at_call 310);(refine(HSH _ (by exact mh.trans (by exact⟨rfl,rfl,rfl,Aac,λk hk=>by first|rfl|exact aEI _ _ _ Aaa⟩))).mono ?_);(rintro e w5 ⟨ix,hix,rfl,hb5⟩);(have hs5:=hb5.size);(try simp at hs5);(have fI:=Hq (mh.trans (Below.trans (b:=_) (by exact⟨rfl,rfl,rfl,Aac,λk hk=>by first|rfl|exact aEI _ _ _ Aaa⟩) (hb5.mono (by first|omega|(simp<;>omega))))));(obtain⟨FB,Yr⟩:=CV hb5);(have e0:w5.cell? ⟨w.heap.size,0,none⟩=some (.int .i64 dm):=by rw [FB _ _ (by first|omega|(simp<;>omega))];first|exact d0|exact(aEO _ _ _ Uo).trans d0);(have e1:w5.cell? ⟨w.heap.size,1,none⟩=some (.int .i64 df):=by rw [FB _ _ (by first|omega|(simp<;>omega))];first|exact d1|exact(aEO _ _ _ Uo).trans d1);(have e2:w5.cell? ⟨w.heap.size,2,none⟩=some (.int .i64 ds):=by rw [FB _ _ (by first|omega|(simp<;>omega))];first|exact d2|exact(aEO _ _ _ Uo).trans d2);(first|(guard_hyp Bv:V.heap.size < w4.heap.size;have y0:=(FB _ 0 Bv).trans z0;have y1:=(FB _ 1 Bv).trans z1;have y2:=(FB _ 2 Bv).trans z2;have y3:=(FB _ 3 Bv).trans z3;have v0:=(Yr _ 0 Bv).trans x0;have v1:=(Yr _ 1 Bv).trans x1;have v2:=(Yr _ 2 Bv).trans x2;have v3:=(Yr _ 3 Bv).trans x3)|(guard_hyp hs5:w4.heap.size+1<=w5.heap.size;obtain⟨⟨y0,y1,y2,y3⟩,v0,v1,v2,v3⟩:=fG (Fo.one_block hb5).1)|skip);(have aB7:w.heap.size < w5.heap.size:=by omega);(have hn5:w.heap.size≠w5.heap.size:=by omega);(have hm5:w5.heap.size≠w.heap.size:=by omega);(clear hb5 FB Yr)))
 all_goals
  go_wp2_with fail
  go_ret
  refine⟨ix,hix,rfl,?_⟩
  first|exact fI.alloc fI.size _|exact Fo.four_below fI Aaa):P:=h
theorem awl(h:P:=by
 have Ef:=Hq (aj kU hbw);have HR3:=Hq (aj HR1 hbw);have JO:=Hq (aj Ih hbw);have HB3:=Hq (HB1.trans (hbw.mono HB1.size));clear hW3 hbw c0 c1 c2 c3 c4 c5 c6 c7 c8 d0 d1 d2 d3;obtain⟨c0,c1,c2,c3,c4,c5,c6,c7,c8⟩:=nine Ef;obtain⟨d0,d1,d2,d3⟩:=iq HR3;obtain⟨r0,r1,r2,r3,r4,r5,r6⟩:=jA JO;have f0:=aA JO 0;have f1:=aA JO 1;have f2:=aA JO 2;have f3:=aA JO 3;have f4:=aA JO 4;have f5:=aA JO 5;have f6:=aA JO 6;go_wp2_with fail;refine fQ (λW' hW'=>?_);exact AdT):P:=h
theorem apj.AdT(h:P:=by
 have hR:=zl (b0:= .int .i64 1) (b1:= .int .i64 id) (b2:= .int .i64 st) (b3:= .int .i64 LO) (b4:= .int .i64 LO) (b5:= .string sx) (b6:= .int .i64 sn) JO;have hK:=uR (w:=W3) (g:=w.heap.size+1+1) (b0:= .int .i64 1) (b1:= .int .i64 id) (b2:= .int .i64 st) (b3:= .int .i64 LO) (b4:= .int .i64 LO) (b5:= .string sx) (b6:= .int .i64 sn);rw [<-hW'] at hR hK;obtain⟨x0,x1,x2,x3,x4,x5,x6⟩:=jA hR;refine aEE (v:= .agg (bH 1 id st LO LO sx sn)) Acs rfl ⟨rfl,HB3.trans (hK.below (λx hx=>by have:x=w.heap.size+1+1:=Aad;omega) HB3.size)⟩):P:=h
theorem apk.AdT(h:P:=by
 have hR:=zl (b0:= .int .i64 1) (b1:= .int .i64 id) (b2:= .int .i64 st) (b3:= .int .i64 si) (b4:= .int .i64 LO) (b5:= .string sx) (b6:= .int .i64 sn) JO;have hK:=uR (w:=W3) (g:=w.heap.size+1+1) (b0:= .int .i64 1) (b1:= .int .i64 id) (b2:= .int .i64 st) (b3:= .int .i64 si) (b4:= .int .i64 LO) (b5:= .string sx) (b6:= .int .i64 sn);rw [<-hW'] at hR hK;obtain⟨x0,x1,x2,x3,x4,x5,x6⟩:=jA hR;refine aEE (v:= .agg (bH 1 id st si LO sx sn)) Acs rfl ⟨rfl,HB3.trans (hK.below (λx hx=>by have:x=w.heap.size+1+1:=Aad;omega) HB3.size)⟩):P:=h
theorem aj6(h:P:=by
 refine aEJ Aab Aab ?_;repeat (first|go_big_quiet_step (first|exact cO _ _|exact cM _ _)|quiet_step (first|exact cO _ _|exact cM _ _))
 refine aE2 ?_;intro _ hw';obtain⟨⟨dq,osq⟩,hw''⟩:=hw';subst hw'';have eO:=Hq (wJ.trans ((aEV _ dq osq).mono wJ.size));clear cO cM y0 y1 y2 y3 y4 y5 y6;exact AbO):P:=h
theorem apl.AbO(h:P:=by
 exact Kk2):P:=h
theorem apm.AbO(h:P:=by
 exact Kk7):P:=h
theorem apn.AbO(h:P:=by
 go_wp2_with fail;exact aEE (v:= .tuple #[wO ⟨1,F,T,I,L,k,N⟩,.bool true]) Aaw rfl ⟨Aav,eO⟩):P:=h
theorem awm(h:P:=by
 rw [<-hW] at e1 e2 e3 e4;have HN:=Hq e1;have HM:=Hq e2;have HR:=Hq e3;have HB0:=Hq e4;have Oo:=Hq (jD.kc (k:=9) (KC.of_below e4) Aaa);clear hW e1 e2 e3 e4 jD;obtain⟨m0,m1,m2,m3,m4,m5,m6⟩:=jA HM;have hml:=ay HM;have hnl:=ay HN;go_wp2_with fail;refine(HMO W0).mono ?_;rintro e W1 ⟨rfl,hb1⟩;have mq:=Hq (aj HN hb1);have Tj:=Hq (aj HM hb1);have BH:=Hq (aj HR hb1);have HB1:=Hq (HB0.trans (hb1.mono HB0.size));have vL:=Hq (Oo.kc (k:=9) (KC.of_below hb1) Aaa);clear hb1 HM HR HN HB0 Oo;clear m0 m1 m2 m3 m4 m5 m6 hml hnl HMO;obtain⟨m0,m1,m2,m3,m4,m5,m6⟩:=jA Tj;exact Adc):P:=h
theorem apo.Adc(h:P:=by
 have hml:=ay Tj;have xB:=Hq (aj BH (au W1 (.cells #[] 104)));have Oq:=Hq (vL.kc (k:=9) (KC.of_below (au W1 (.cells #[] 104))) Aaa);have vI:=Hq (HB1.trans ((au W1 (.cells #[] 104)).mono HB1.size));obtain⟨c0,c1,c2,c3,c4,c5,c6,c7,c8⟩:=nine mq;obtain⟨⟨d0,d1,d2,d3,d4,d5,d6,d7,d8⟩,f0,f1,f2,f3,f4,f5,f6,f7,f8⟩:=iG xB;have hnl:=ay mq;open apM in exact awp):P:=h
theorem apq.Adc(h:P:=by
 obtain⟨c0,c1,c2,c3,c4,c5,c6,c7,c8⟩:=nine mq;have hml:=ay Tj;have hnl:=ay mq;go_wp2_with fail;refine(SI W1 vL.at.k).mono ?_;rintro e W2 ⟨rfl,hb2⟩;open atK in exact ag2):P:=h
theorem awn(h:P:=by
 cases h1:NN fr
 case' false=>
  have cN:=ah SI fr false W1 VT h1
  have HV:=Hq (show bb=true by rw [<-ah eG];simp[h1])
  clear eG
  refine aEJ Aab Aab ?_
  repeat (first|go_big_quiet_step ((first|(go_at_call 61;exact cN _ _)|(go_at_call 59;exact cS _ _)))|quiet_step ((first|(go_at_call 61;exact cN _ _)|(go_at_call 59;exact cS _ _))))
  refine aE2 ?_
  intro _ hw'
  obtain⟨⟨dq,osq⟩,hw''⟩:=hw'
  subst hw''
  go_wp2_with fail
  go_meet
  case rel=>exact yC
 have cN:=ah SI fr true W1 VT h1;exact Aeh):P:=h
theorem apr.Aeh(h:P:=by
 by_cases h2:y < fr
 case' neg=>
  have hy:decide (fr<=y)=true:=aEy Aaa
  have HV:=Hq (show bb=true by rw [<-ah eG];simp[h2])
  clear eG
  refine aEJ Aab Aab ?_
  repeat (first|go_big_quiet_step ((first|(go_at_call 61;exact cN _ _)|(go_at_call 59;exact cS _ _)))|quiet_step ((first|(go_at_call 61;exact cN _ _)|(go_at_call 59;exact cS _ _))))
  refine aE2 ?_
  intro _ hw'
  obtain⟨⟨dq,osq⟩,hw''⟩:=hw'
  subst hw''
  go_wp2_with fail
  go_meet
  case rel=>exact yC
 have hy:decide (fr<=y)=false:=aEw Aaa;open aBj in exact av7):P:=h
theorem aps.Aeh(h:P:=by
 open aBk in exact av7):P:=h
theorem aj7(h:P:=by
 have hr:(convert 178 9 (.slice (some ⟨g,a+4,none⟩) (s.size - (a+4)) (s.size - (a+4)))).run prog w= .ok (.string (iB (tl s a))) w:=by
  exact aBz
 have h1:(s.size:Int)<=(a:Int)+1006:=Aaa
 have h2:¬((s.size:Int) - (a:Int) < 4):=Aaa
 have h3:(a:Int)+4 < (s.size:Int):=Aaa
 have hcap2:(s.size:Int)<=(cap:Int):=Aaa
 exact Ab2):P:=h
theorem apt.Ab2(h:P:=by
 rw [CQ s a 0 4 Aaa] at hq;have hmn:min (s.size:Int) ((a:Int)+1006)=(s.size:Int):=Int.min_eq_left Aaa;exact aw0):P:=h
theorem apu.Ab2(h:P:=by
 rw [CQ s a 0 4 Aaa] at hq;have hmn:min (s.size:Int) ((a:Int)+1006)=(s.size:Int):=Int.min_eq_left Aaa;exact awX):P:=h
theorem apv.Ab2(h:P:=by
 have hmn:min (s.size:Int) ((a:Int)+1006)=(s.size:Int):=Int.min_eq_left Aaa;exact axo):P:=h
theorem awo(h:P:=by
 go_wp2_with fail;refine jW results99 rfl rfl rfl tV (λW' e4 eX=>?_);have HAT:=Hq (λW'' (ho:Out c w W' W'')=>(vL.kc (k:=9) ((KC.keeps eX (λx hx=>by have:x=w.heap.size+1:=Aad;rw [this];exact aY Aaa)).trans (KC.out H9 ho)) Aaa).rm);have qG:Hid (Below B w W'):=(HB1.mono hB).trans (eX.below (λx hx=>by have:x=w.heap.size+1:=Aad;omega) (aEA hB (HB1.mono hB).size));have xA:=Hq (Apart.keeps (c:=c) (Apart.of_below (HB1)) (HB1.mono hB).size eX (λx hx=>by have:x=w.heap.size+1:=Aad;omega));clear e4 eX;exact Adt):P:=h
theorem apw.Adt(h:P:=by
 exact⟨(⟨a_k,qV,iV,iM,(some ⟨g,off,none⟩),cZ,fD,dW,dw,dG⟩:bg),rfl,HAT,qG,xA⟩):P:=h
theorem apx.Adt(h:P:=by
 exact⟨A,rfl,HAT,qG,xA⟩):P:=h
theorem aj8(h:P:=by
 go_wp2_with fail;refine wp_region_quiet_lit Aab Aab ?_;repeat (first|go_big_quiet_step ((first|(go_at_call 90;exact ajq _ _ hx1 _ _)))|quiet_step ((first|(go_at_call 90;exact ajq _ _ hx1 _ _))))
 refine aE2 ?_;intro _ hw';obtain⟨nq,hw''⟩:=hw';subst hw'';go_wp2_with fail;exact AbY):P:=h
theorem apy.AbY(h:P:=by
 go_roundw
 case rel=>exact⟨j+1+1,Aaa,Aaf,HG,H7,aO.trans ⟨rfl,rfl,rfl,aEx _,λ_ _=>rfl⟩⟩
 case measure=>simp[intOf];omega):P:=h
theorem apz.AbY(h:P:=by
 go_roundw
 case rel=>exact⟨0+1,Aaa,Aaf,HG,H7,aO.trans ⟨rfl,rfl,rfl,aEx _,λ_ _=>rfl⟩⟩
 case measure=>simp[intOf];omega):P:=h
theorem apA.AbY(h:P:=by
 go_ret;exact⟨aF HP.symm,aO.trans ⟨rfl,rfl,rfl,aEx _,λ_ _=>rfl⟩⟩):P:=h
theorem Pd(h:P:=by
 have hkk:=hks l[k] (aEL hlt);have HT:=Hq (aEF hlt);generalize l[k]=pu at *;exact AaQ):P:=h
theorem apB.AaQ(h:P:=by
 unfold maxLen at hkk;by_cases hc:(pu.size:Int)<=z
 .have hn2:¬(z - (pu.size:Int) < 0):=Aaa
  go_wp2_with fail;go_roundw
  case rel=>
   refine⟨k+1,z - pu.size,Aaa,Aaf,Aaf,Aaa,Aaa,?_,aO⟩;intro p hp;rw [ah HT] at hp;rcases aE0.1 hp with h|h
   .exact kS p h
   .rw [aEM] at h;subst h;omega
  case measure=>simp[intOf];omega
 .have hn2:z - (pu.size:Int) < 0:=Aaa
  go_wp2_with fail;go_ret;exact⟨-1,rfl,.inl rfl,aO⟩):P:=h
theorem apC.AaQ(h:P:=by
 have tX:=Hq (fun(w1:World)=>alF pu z w1 hz0 Aaa hkk);obtain⟨mK,mF,mT,mI,mL,mk,mN⟩:=pu;dsimp only at q0 q1 q2 q3 q4 q5 q6 tX;open auS in exact aaW):P:=h
theorem apD.AaQ(h:P:=by
 have tX:=Hq (fun(w1:World)=>K8 pu z w1 hz0 Aaa hkk);obtain⟨⟨oK,oZ,ok,on,⟨mK,mF,mT,mI,mL,mk,mN⟩⟩,ac⟩:=pu;dsimp only at q0 q1 q2 q3 q4 q5 q6 q7 q8 q9 QZ q11 tX;open auR in exact aaW):P:=h
theorem apE.AaQ(h:P:=by
 have tX:=Hq (fun(w1:World)=>af2 pu z w1 hz0 Aaa hkk);obtain⟨ta,⟨⟨oK,oZ,ok,on,⟨mK,mF,mT,mI,mL,mk,mN⟩⟩,ac⟩⟩:=pu;dsimp only at q0 q1 q2 q3 q4 q5 q6 q7 q8 q9 QZ q11 q12 tX;open auQ in exact aaW):P:=h
theorem apF.AaQ(h:P:=by
 have tX:=Hq (λw1=>alH pu b c z w1 hz0 hz1 hkk);obtain⟨fr,lo,ids⟩:=pu;dsimp only at q0 q1 q2 hkk;unfold maxLen at hkk;go_wp2_with fail;refine(tX _).mono ?_;rintro e w5 ⟨rfl,hb5⟩;have eO:=Hq (aO.trans (hb5.mono aO.size));clear hb5 q0 q1 q2;dsimp only;by_cases hc:(ids.length:Int)<=z
 .rw [aER hc];have hn2:decide (z - (ids.length:Int) < 0)=false:=aEw Aaa;go_wp2_with fail;go_roundw
  case rel=>
   refine⟨k+1,z - ids.length,Aaa,Aaf,rfl,Aaa,Aaa,?_,eO⟩;intro p hp;rw [ah HT] at hp;rcases aE0.1 hp with h|h
   .exact kS p h
   .rw [aEM] at h;subst h;show ids.length<=1048576
    omega
  case measure=>simp[intOf];omega
 .rw [aEG hc];go_wp2_with fail;go_ret;exact⟨-1,rfl,eO,.inl rfl⟩):P:=h
theorem apG.AaQ(h:P:=by
 have tX:=Hq (λw1=>azt pu z w1 hz0 hz1 hkk);obtain⟨pno,pk,pn,ps⟩:=pu;exact akh):P:=h
theorem apH.AaQ(h:P:=by
 have tX:=Hq (λw1=>alI pu z w1 hz0 hz1 hkk);obtain⟨pi,pt,pk,pn⟩:=pu;exact akh):P:=h
theorem apI.AaQ(h:P:=by
 have tX:=Hq (λw1=>afY pu z w1 hz0 hz1 hkk);obtain⟨pk,pm,pf,ps⟩:=pu;exact akh):P:=h
theorem aj9(h:P:=by
 have hr:(convert 178 9 (.slice (some ⟨g,a+4,none⟩) 1002 1002)).run prog w= .ok (.string (iB (tl s a))) w:=by
  exact awV
 have h1:¬((s.size:Int)<=(a:Int)+1006):=Aaa
 have h3:(a:Int)+1006 < (s.size:Int):=Aaa
 have h31:¬((a:Int)+1006 - (a:Int) < 4):=Aaa
 have hcap2:(s.size:Int)<=(cap:Int):=Aaa
 exact AbM):P:=h
theorem apJ.AbM(h:P:=by
 rw [CQ s a 0 4 Aaa] at hq;have hmn:min (s.size:Int) ((a:Int)+1006)=(a:Int)+1006:=Int.min_eq_right Aaa;exact aw0):P:=h
theorem apK.AbM(h:P:=by
 rw [CQ s a 0 4 Aaa] at hq;have hmn:min (s.size:Int) ((a:Int)+1006)=(a:Int)+1006:=Int.min_eq_right Aaa;exact awX):P:=h
theorem apL.AbM(h:P:=by
 have hmn:min (s.size:Int) ((a:Int)+1006)=(a:Int)+1006:=Int.min_eq_right Aaa;exact axo):P:=h
theorem awp(h:P:=by
 have hrl:=ay xB;go_wp2_with fail;refine eB results101 rfl rfl rfl rfl xB (λW' e4 eX=>?_);have HAT:=Hq (λW'' (ho:Out c w W' W'')=>(Oq.kc (k:=9) ((KC.keeps eX (λx hx=>by have:x=w.heap.size+2:=Aad;rw [this];exact aY Aaa)).trans (KC.out H9 ho)) Aaa).rm);have qG:Hid (Below B w W'):=(vI.mono hB).trans (eX.below (λx hx=>by have:x=w.heap.size+2:=Aad;omega) (aEA hB (vI.mono hB).size));have xA:=Hq (Apart.keeps (c:=c) (Apart.of_below vI) (vI.mono hB).size eX (λx hx=>by have:x=w.heap.size+2:=Aad;omega));clear e4 eX;exact Adg):P:=h
theorem apM.Adg(h:P:=by
 exact⟨A,some ⟨W1.heap.size,0,none⟩,0,rfl,HAT,λW'' _ i hi=>Aau,qG,xA⟩):P:=h
theorem apN.Adg(h:P:=by
 exact⟨A,some ⟨W2.heap.size,0,none⟩,0,rfl,HAT,λW'' _ i hi=>Aau,qG,xA⟩):P:=h
theorem aa1(h:P:=by
 have hk2:k < m.length:=(ah HN)▸hlt;have HE:=Hq (λe=>nA HN hlt HT e);have HD:=Hq (λe=>Kt hlt hk2 e);exact Aa2):P:=h
theorem apP.Aa2(h:P:=by
 obtain⟨g1,o1,rfl,hg1,s0,s1,s2,s3⟩:=fJ.four (GR.At.below HA aO) k hlt;obtain⟨g2,o2,rfl,hg2,t0,t1,t2,t3⟩:=fJ.four (GR.At.below HB aO) k hk2;open atw in exact agZ):P:=h
theorem apQ.Aa2(h:P:=by
 obtain⟨g1,o1,rfl,hg1,s0,s1,s2,s3⟩:=SentAt.four (GR.At.below HA aO) k hlt;obtain⟨g2,o2,rfl,hg2,t0,t1,t2,t3⟩:=SentAt.four (GR.At.below HB aO) k hk2;open atv in exact agZ):P:=h
theorem apR.Aa2(h:P:=by
 obtain⟨g1,o1,rfl,hg1,s0,s1,s2,s3⟩:=aH.four (GR.At.below HA aO) k hlt;obtain⟨g2,o2,rfl,hg2,t0,t1,t2,t3⟩:=aH.four (GR.At.below HB aO) k hk2;generalize l[k]=x at *;generalize m[k]=y at *;obtain⟨x0,x1,x2,x3⟩:=x;obtain⟨y0,y1,y2,y3⟩:=y;dsimp only at s0 s1 s2 s3 t0 t1 t2 t3;clear hk2;by_cases hx:x0=y0
 case' neg=>
  have hq:(x0.toList == y0.toList)=false:=CK hx;have hr:¬x0.toList=y0.toList:=Abe
  exact akq
 subst hx;by_cases hx:x1=y1
 case' neg=>
  have hq:(x1 == y1)=false:=Aad
  exact abo
 exact aiD):P:=h
theorem apS.Aa2(h:P:=by
 obtain⟨g1,o1,rfl,hg1,s0⟩:=aK.one (GR.At.below HA aO) k hlt;obtain⟨g2,o2,rfl,hg2,t0⟩:=aK.one (GR.At.below HB aO) k hk2;generalize l[k]=x at *;generalize m[k]=y at *;clear hk2;by_cases hxy:x=y
 case' neg=>
  have hq:(x != y)=true:=by simpa using hxy
  have HP:=Hq (HD hxy);clear HD HE hxy;go_upto_region 6 with fail;go_quiet (fail);go_wp2_with fail;go_ret;exact .no HP (fu _ aO)
 subst hxy;have HT2:=Hq (HE rfl);clear HE HD;go_upto_region 6 with fail;go_quiet (fail);go_wp2_with fail;go_roundw
 case rel=>exact⟨k+1,Aaa,Aaf,fu _ aO,HT2⟩
 case measure=>simp[intOf];omega):P:=h
theorem apT.Aa2(h:P:=by
 obtain⟨g1,o1,b1,c1,rfl,hg1,s0,s1,s2,i1⟩:=HA.below aO k hlt;obtain⟨g2,o2,b2,c2,rfl,hg2,t0,t1,t2,i2⟩:=HB.below aO k hk2;have hil:=ah HI l[k] (aEL hlt);generalize l[k]=x at *;generalize m[k]=y at *;have HC:=Hq (λW (h:aG wr W)=>adx x y b1 b2 c1 c2 W hil (i1.below h) (i2.below h));clear i1 i2 hil hk2;have hbz:=Hq (zL wr (.cells #[.int .i64 x.f,.int .i64 x.l,.slice b1 x.ids.length c1] 144) (.cells #[.int .i64 y.f,.int .i64 y.l,.slice b2 y.ids.length c2] 144));go_wp2_with fail;refine(HC _ hbz).mono ?_;rintro e w1 ⟨⟨r,rfl,hr⟩,hb1⟩;have Dt:=Hq (aO.trans ((Below.trans hbz (hb1.mono hbz.size)).mono aO.size));clear hb1 hbz HC aO;cases r
 .have HP:=Hq (HD (λe=>by have:=hr.2 e;cases this));clear hr HE HD;go_wp2_with fail;go_ret;exact .no HP Dt
 .have HT2:=Hq (HE (hr.1 rfl));clear hr HE HD;go_wp2_with fail;go_roundw
  case rel=>exact⟨k+1,Aaa,Aaf,Dt,HT2⟩
  case measure=>simp[intOf];omega):P:=h
theorem awq(h:P:=by
 go_wp2_with fail;refine(jr X A1 HPR.1 BF.at.p).mono ?_;rintro e W5 ⟨v,rfl,_,hown,hb5⟩;obtain⟨pa,pc,rfl,_⟩:=GR.own_at (enc:=fO) aP hown;have nM:=Hq (aj gu hb5);have qH:=Hq (aj tV hb5);have xQ:=Hq (jL.trans (hb5.mono jL.size));have XF:=Hq (BF.kc (k:=9) (KC.of_below hb5) Aaa);have JR:=Hq hown;have hxr:=ay tV;clear hown hb5 c0 c1 c2 c3 c4 c5 c6 c7 c8 p0 p1 p2 p3 p4 p5 p6 p7 p8 p9 nI hnl hol jr gu HOX tV BF HPR jL;obtain⟨c0,c1,c2,c3,c4,c5,c6,c7,c8⟩:=nine nM;have hnl:=ay nM;exact Adl):P:=h
theorem apU.Adl(h:P:=by
 have f4:=aA nM 4;go_upto_region 11 with fail;refine wp_at (λY hY=>?_)
 have hky:aC [w.heap.size] W5 Y:=by
  rw [hY];exact aC.set _
 have rF:Hid (Y.heap[w.heap.size]?=some (.cells (vG n.id n.par A1.k n.kids.length A1.ck n.next pa RL.length pc A1.o n.out.length A1.co A1.s n.seen.length A1.cs n.old A1.r n.reqs.length A1.cr) 53 (0,0))):=by
  rw [hY];exact aT nM 4 (.slice pa RL.length pc)
 have vP:=Hq (hky.obj qH Aac);have H6:=Hq (xQ.trans (hky.below (B:=w.heap.size) (λx hx=>by have:x=w.heap.size:=Aad;omega) xQ.size));have azS:=Hq (XF.kc (k:=9) (KC.keeps hky (λx hx=>by have:x=w.heap.size:=Aad;rw [this];exact Oj)) Aaa);have azW:=Hq (dA JR hky (λx hx=>by have:x=w.heap.size:=Aad;omega));clear hY hky f4 c0 c1 c2 c3 c4 c5 c6 c7 c8 hnl nM qH xQ XF JR;obtain⟨c0,c1,c2,c3,c4,c5,c6,c7,c8⟩:=nine rF;have hnl:=ay rF;obtain⟨⟨d0,d1,d2,d3,d4,d5,d6,d7,d8⟩,f0,f1,f2,f3,f4,f5,f6,f7,f8⟩:=iG vP;have hrl:=ay vP;go_wp2_with fail;refine eB (u1:= .slice (some ⟨w.heap.size+1+1+1,0,none⟩) 0 0) (u2:= .int .i64 0) results68 rfl rfl rfl rfl vP (λW' e4 eX=>?_)
 have HAT:=Hq (λW'' (ho:Ee w W' W'')=>(show RM W'' ⟨A1.k,pa,A1.o,A1.s,A1.r,A1.ck,pc,A1.co,A1.cs,A1.cr⟩ (setPu n RL) from(by
  have h:=((azS.kc (k:=9) (KC.keeps eX (λx hx=>by have:x=w.heap.size+2:=Aad;rw [this];exact Iq)) Aaa).kc (k:=9) (ho.kc (λx hx=>HC9 x Aaa)) Aaa)
  obtain⟨F,hk2,hF⟩:=ho
  have hpo:=(dA (dA azW eX (λx hx=>by have:x=w.heap.size+2:=Aad;omega)) hk2 (λx hx=>by have:=hF x hx;omega))
  have hp9:∀g',pa.map (λy=>y.block)=some g'->6 < newC X.heap.size 9 c g':=λg' hg'=>by
   have h1:=uM hpo (sH hpo hg')
   rw [aY Aaa]
   omega
  exact NQ.put h HCQ (setPu n RL) ⟨A1.k,pa,A1.o,A1.s,A1.r,A1.ck,pc,A1.co,A1.cs,A1.cr⟩ rfl rfl rfl rfl (GR.own_ati aP hpo) (λg' hg' _=> .inr (hp9 g' hg')) h.o (λy hy=> .inl (HCQ.co y hy)) h.r (λy hy=> .inl (HCQ.cr y hy))
   (λg' hg' _ h6=>⟨λe=>by have:=HCQ.co g' e;omega,λe=>by have:=HCQ.cr g' e;omega⟩) (λy hy h6 e=>by have:=HCQ.co y hy;omega))))
 have qG:Hid (aG w W'):=H6.trans (eX.below (λx hx=>by have:x=w.heap.size+2:=Aad;omega) H6.size);clear e4 eX;exact⟨⟨A1.k,pa,A1.o,A1.s,A1.r,A1.ck,pc,A1.co,A1.cs,A1.cr⟩,some ⟨w.heap.size+1+1+1,0,none⟩,0,rfl,HAT,λW'' _ i hi=>Aau,qG⟩):P:=h
theorem apV.Adl(h:P:=by
 go_upto_region 9 with fail;obtain⟨⟨d0,d1,d2,d3,d4,d5,d6,d7,d8⟩,f0,f1,f2,f3,f4,f5,f6,f7,f8⟩:=iG qH;have hrl:=ay qH;go_wp2_with fail;refine eB (u1:= .slice (some ⟨w.heap.size+1+1+1,0,none⟩) 0 0) (u2:= .int .i64 1) results68 rfl rfl rfl rfl qH (λW' e4 eX=>?_);have HAT:=Hq (λW'' (ho:Ee w W' W'')=>((XF.kc (k:=9) (KC.keeps eX (λx hx=>by have:x=w.heap.size+2:=Aad;rw [this];exact Iq)) Aaa).kc (k:=9) (ho.kc (λx hx=>HC9 x Aaa)) Aaa).rm);have qG:Hid (aG w W'):=xQ.trans (eX.below (λx hx=>by have:x=w.heap.size+2:=Aad;omega) xQ.size);clear e4 eX;exact⟨A1,some ⟨w.heap.size+1+1+1,0,none⟩,0,rfl,HAT,λW'' _ i hi=>Aau,qG⟩):P:=h
theorem awr(h:P:=by
 go_in
 go_wp2_with fail;refine HOF.mono ?_;rintro e w1 ⟨mp,mb,v,rfl,Io,hb1⟩;obtain⟨hblk,hlt1,hbw⟩:=Fo.one_block hb1;have HB1:=Hq hbw;have c0:w1.cell? ⟨w.heap.size,0,none⟩=some (.int .i64 dm):=by rw [aEz w1 _ _ _ _ (0,0) hblk];rfl
 have c1:w1.cell? ⟨w.heap.size,1,none⟩=some (.int .i64 df):=by rw [aEz w1 _ _ _ _ (0,0) hblk];rfl
 have c2:w1.cell? ⟨w.heap.size,2,none⟩=some (.int .i64 ds):=by rw [aEz w1 _ _ _ _ (0,0) hblk];rfl
 exact AdR):P:=h
theorem apW.AdR(h:P:=by
 have HMX:=Hq (HMV _ mp mb _ v w1 hb1.size Aai Io (HE.below hbw));clear hb1 Io HOF hblk hbw HMV;go_wp2_with (first|(go_at_call 195;refine(HK _).mono ?_;rintro e w2 ⟨rfl,rfl⟩)|(go_at_call 179;refine(Lv _).mono ?_;rintro e w2 ⟨rfl,rfl⟩))
 refine HMX.mono ?_;rintro e w3 ⟨hb3,hcase⟩;have HB3:=Hq (HB1.trans (Below.mono hb3 Aac));clear hb3 HMX;rcases hcase with⟨hf,h20,rfl⟩|⟨hf,rfl,v',aya⟩
 .have HAD:=Hq (aal hf h20);clear hf h20 aal aar;go_wp2_with fail;go_ret2
  exact⟨HB3,.inl ⟨HAD,_,Aaa,rfl⟩⟩
 .obtain⟨hadd,hlen⟩:=ah aar hf;have aeb:=Hq hadd;have zo:=Hq (acs _ mp mb _ v' PL G2 w3 hlen HPA zq aya);clear hf aal aar hadd aya;go_wp2_with fail;refine zo.mono ?_;rintro e w4 ⟨rfl,ajh,hb4⟩;have mh:=Hq (HB3.trans (hb4.mono HB3.size));have HK4:=Hq ajh;clear hb4 ajh;go_wp2_with fail;go_ret2
  rw [ah aeb];exact⟨mh,.inr ⟨rfl,_,HB3.size,rfl,HK4⟩⟩):P:=h
theorem apX.AdR(h:P:=by
 have HMX:=Hq (HMV _ mp mb _ v w1 Io (HE.below hbw));clear hb1 Io HOF hblk hbw HMV;go_wp2_with (first|(go_at_call 195;refine(HK _).mono ?_;rintro e w2 ⟨rfl,rfl⟩)|(go_at_call 179;refine(Lv _).mono ?_;rintro e w2 ⟨rfl,rfl⟩)|(go_at_call 298;refine HMX.mono ?_;rintro e w3 ⟨i,hi,rfl,hb3⟩))
 go_ret2
 exact⟨HB1.trans (hb3.mono HB1.size),.inl ⟨HAD,i,hi,rfl⟩⟩):P:=h
theorem aws(h:P:=by
 open atL in exact ag3):P:=h
theorem apY.Ac6(h:P:=by
 have r1:=aEv q1;have r2:=aEv q2;have r3:=aEv q3;have e4:=aEv d4;refine rg 23 Ge 25 ?_;refine tk [0,1,2,3,4,5,6,7,8,9,10,11,12,13,14,15,16,17,18,19] ?_;iterate 20 (refine iy (λK hK=>?_);go_simp;refine hK _ ?_;clear hK K)
 refine jm ?_;clear r1 r2 r3 e4;refine dB 20 rfl Aab Aah (λx hx=>?_);go_simp;have HX:=Hq (HZ1.step hx);refine(JV x HX).mono ?_;rintro e y ⟨a,cp,g5,hg5,rfl,hp,hby⟩;refine⟨hby,?_⟩;have HST:=Hq (λu (hu:Ge y u)=>afS (cp:=cp) HX (hby.trans (hu.mono hby.size)) hg5 (hp.below hu));clear hby hg5 hp JV hx;refine tk [21,22] ?_;open aug in exact EP):P:=h
theorem apZ.Ac6(h:P:=by
 have r3:=aEv q3;refine Ip 25 ?_;refine tk [0,1,2,3,4,5,6,7,8,9,10,11,12,13,14,15,16,17,18,19,20,21,22,23,24] ?_;iterate 25 (refine iy (λK hK=>?_);go_simp;refine hK _ ?_;clear hK K)
 refine jm ?_;refine dJ Aab (λx hx=>?_);have HX:=Hq (HZ1.step hx);have x3:=(CV hx).1 g (i*4+3) hgl;clear hx r3;go_simp;go_wp2_with fail;go_ret;exact⟨rfl,A,G,c,HX⟩):P:=h
theorem awt(h:P:=by
 rw [<-hW] at e1 e2 e3;have HN:=Hq e1;have HR:=Hq e2;have HB0:=Hq e3;have Oo:=Hq (jD.kc (k:=9) (KC.of_below e3) Aaa);clear hW e1 e2 e3 jD hbw0;obtain⟨c0,c1,c2,c3,c4,c5,c6,c7,c8⟩:=nine HN;have hnl:=ay HN;go_wp2_with fail;refine(JR W0 Oo.at.p).mono ?_;open avk in exact aht):P:=h
theorem ap0.Ado(h:P:=by
 have HI:=Hq (And.intro hi (And.intro hz0 (And.intro hz1 hz2)));clear hi hz0 hz1 hz2;obtain⟨c0,c1,c2,c3,c4,c5,c6,c7,c8⟩:=nine mq;have hnl:=ay mq;have hrl:=ay tV;open aqh in exact awy):P:=h
theorem ap1.Ado(h:P:=by
 have xB:=Hq (aj tV (au W1 (.cells #[] 104)));obtain⟨c0,c1,c2,c3,c4,c5,c6,c7,c8⟩:=nine mq;obtain⟨⟨d0,d1,d2,d3,d4,d5,d6,d7,d8⟩,f0,f1,f2,f3,f4,f5,f6,f7,f8⟩:=iG xB;have hnl:=ay mq;have hrl:=ay xB;open aqg in exact awy):P:=h
theorem awu(h:P:=by
 have hat:nU l k=(gZ l[k]&&(k == 0|| !sle l[k].k (l.getD (k - 1) default).k)):=by unfold nU;rw [getD_at l k hlt]
 exact Adp):P:=h
theorem ap2.Adp(h:P:=by
 cases k with
 |zero=>
  open arU in exact agB
 |succ j=>
  obtain⟨g,off,rfl,hgw,c0,c1,c2,c3⟩:=aH.four (GR.At.below HA aO) (j+1) hlt;obtain⟨g',off',e',_,d0,_,_,_⟩:=aH.four (GR.At.below HA aO) j Aaa;have eg:g=g'/\off=off':=by injection e' with e';injection e' with e1 e2;exact⟨e1,e2⟩
  obtain⟨rfl,rfl⟩:=eg;have hgd:l.getD j default=l[j]:=getD_at l j Aaa;rw [show j+1 - 1=j from rfl,hgd] at hat;have hgt:decide ((0:Int) < ((j:Int)+1))=true:=aEy Aaa;clear e' hgd;generalize l[j].k=q at *;have nO:=Hq hat;have gu:=Hq (qc (nU l) (j+1));clear hat;generalize l[j+1]=pu at *;obtain⟨pk,pm,pf,ps⟩:=pu;dsimp only at c0 c1 c2 c3 hks;cases hkb:keyOk pk.data.toList
  .have HB:=Hq hkb;have HBAD:=Hq (nV hlt (show nU l (j+1)=false by rw [ah nO];simp[gZ,ah HB]));clear nO gu;have hkb':=ah HB;exact Zk0
  have hkb':=hkb;cases hbl:Op.bytesLess pk.toList q.toList
  case' true=>
   have hsl:sle pk q=true:=by unfold sle;rw [hbl];rfl
   cases heq:pk.toList == q.toList
   .exact aa5
   .exact aa5
  cases heq:pk.toList == q.toList
  case' true=>
   have hsl:sle pk q=true:=by unfold sle;rw [hbl,heq];rfl
   exact aa5
  have hsl:Hid (sle pk q=false):=by unfold sle;rw [hbl,heq];rfl
  by_cases h1:0<=pm/\pm<=1000000000
  case' neg=>
   have hA:qM pm=false:=aEw h1;have g1:decide (yB pm 0 1000000000)=false:=aEw h1;exact aeQ
  have g1:decide (yB pm 0 1000000000)=true:=aEy h1;have hA1:qM pm=true:=aEy h1;by_cases h2:0<=pf/\pf<=1000000000
  case' neg=>
   have hA:qM pf=false:=aEw h2;have g2:decide (yB pf 0 1000000000)=false:=aEw h2;exact aeQ
  have g2:decide (yB pf 0 1000000000)=true:=aEy h2;have hA2:qM pf=true:=aEy h2;by_cases h3:0<=ps/\ps<=1000000000
  case' neg=>
   have hA:qM ps=false:=aEw h3;have g3:decide (yB ps 0 1000000000)=false:=aEw h3;exact aeQ
  open avs in exact ahv):P:=h
theorem ap3.Adp(h:P:=by
 cases k with
 |zero=>
  open arT in exact agB
 |succ j=>
  have hlt2:j < l.length:=Aaa
  obtain⟨g,off,rfl,hgw,c0,c1,c2,c3⟩:=aH.four (GR.At.below HA aO) (j+1) hlt;obtain⟨g2,off2,e2,akU,d0,d1,d2,d3⟩:=aH.four (GR.At.below HA aO) j hlt2;have e3:g=g2:=by injection e2 with e2;injection e2 with e2 e4
  have e4:off=off2:=by injection e2 with e2;injection e2 with e2 e4
  subst e3 e4;clear e2 akU d1 d2 d3;have hgt:decide ((0:Int) < ((j+1:Nat):Int))=true:=aEy Aaa;have ej:IntKind.i64.wrap (((j+1:Nat):Int) - 1)=(j:Int):=by rw [IntWalk.i64_in _ ⟨by omega,by omega⟩];omega
  rw [show j+1 - 1=j by omega,getD_at l j hlt2] at hat;have nO:=Hq hat;have gu:=Hq (qc (nU l) (j+1));clear hat;generalize l[j+1]=pu at *;generalize l[j]=pq at *;obtain⟨q,qm,qf,qs⟩:=pq;dsimp only at d0;cases hpo:gZ pu
  .have HO:=Hq (λw1=>pV pu false w1 hpo);have HBAD:=Hq (nV hlt (show nU l (j+1)=false by rw [ah nO,hpo];rfl));clear nO gu hpo;obtain⟨pk,pm,pf,ps⟩:=pu;dsimp only at c0 c1 c2 c3;open aBn in exact aaZ
  .have HO:=Hq (λw1=>pV pu true w1 hpo);cases hsl:Op.bytesLess q.toList pu.k.toList
   .have HBAD:=Hq (nV hlt (show nU l (j+1)=false by rw [ah nO,hpo];dsimp only;rw [<-QD,hsl];simp));clear nO gu hpo;obtain⟨pk,pm,pf,ps⟩:=pu;dsimp only at c0 c1 c2 c3 hsl;open aBm in exact aaZ
   .have Ez:=Hq (show nU l (j+1)=true by rw [ah nO,hpo];dsimp only;rw [<-QD,hsl];simp);clear nO hpo;obtain⟨pk,pm,pf,ps⟩:=pu;dsimp only at c0 c1 c2 c3 hsl;open aBl in exact aaZ):P:=h
theorem awv(h:P:=by
 obtain⟨⟨p0,p1,p2,p3,p4,p5,p6,p7,p8,p9,nI⟩,_⟩:=aJ Iw;have hol:=ay Iw;go_wp2_with fail;refine(ED W2).mono ?_;rintro e W4 ⟨rfl,hb4⟩;have Iu:=Hq (aj jV hb4);have ajP:=Hq (aj Iw hb4);have EJ:=Hq (aj mJ hb4);have fI:=Hq (HB2.trans (hb4.mono HB2.size));clear hb4 p0 p1 p2 p3 p4 p5 p6 p7 p8 p9 nI hol ED jV Iw mJ HB2;obtain⟨c0,c1,c2,c3,c4,c5,c6,c7,c8⟩:=nine Iu;have hnl:=ay Iu;go_wp2_with fail;refine(Ol W4 fI).mono ?_;exact Adw):P:=h
theorem ap4.Adw(h:P:=by
 rintro e W3 ⟨A1,G1,cc,rfl,hNO,hb3,hP1,hP2,hR1,hR2⟩;have pX:=Hq (aj EJ hb3);have rR:=Hq (aj Iu hb3);have LD:=Hq (aj ajP hb3);have HB3:=Hq (fI.trans (hb3.mono fI.size));have HPR:=Hq (And.intro (And.intro hP1 hP2) (And.intro hR1 hR2));have jD:=Hq (hNO.flat (b:=0) (aEN _));have HC9:=Hq (λx (hx:x < w.heap.size+3)=>Yj (b:=0) (aEN _) (hNO.lo x (by have:=ay EJ;omega)));have hrs:=ay EJ;have H9:=Hq (abL 0 cc);generalize xZ 0 cc=c at *;have Iq:=Hq (HC9 (w.heap.size+2) Aaa);have Oj:=Hq (HC9 w.heap.size Aaa);clear hb3 hNO hP1 hP2 hR1 hR2 c0 c1 c2 c3 c4 c5 c6 c7 c8 hnl Ol Iu ajP EJ;obtain⟨⟨d0,d1,d2,d3,d4,d5,d6,d7,d8⟩,f0,f1,f2,f3,f4,f5,f6,f7,f8⟩:=iG rR;obtain⟨⟨p0,p1,p2,p3,p4,p5,p6,p7,p8,p9,nI⟩,_⟩:=aJ LD;have hnl:=ay rR;have hol:=ay LD;go_upto_region 5 with fail;refine azC rR (λX e5 hkx=>?_);have gu:=Hq e5;have HOX:=Hq ((hkx.block _ (ay LD) Aac).trans LD);have tV:=Hq ((hkx.block _ (ay pX) Aac).trans pX);have jL:=Hq (HB3.trans (hkx.below (B:=w.heap.size) (λx hx=>by have:x=w.heap.size:=Aad;omega) HB3.size));have BF:=Hq (jD.kc (k:=9) (KC.keeps hkx (λx hx=>by have:x=w.heap.size:=Aad;rw [this];exact Oj)) Aaa);exact Kk0):P:=h
theorem ap5.Adw(h:P:=by
 rintro e W3 ⟨A1,G1,cc,rfl,hNO,hb3,_,_⟩;have pX:=Hq (aj EJ hb3);have HB3:=Hq (fI.trans (hb3.mono fI.size));have jD:=Hq hNO;have hrs:=ay EJ;clear hb3 hNO c0 c1 c2 c3 c4 c5 c6 c7 c8 hnl Ol Iu ajP EJ;exact axf):P:=h
theorem aww(h:P:=by
 have ab2:cand s=⟨s[0].toNat,uN s (fV s 0),uN s (fV s 1),uN s (fV s 2),uN s (fV s 3),jU s (fV s 4),uN s (iR s (fV s 4))⟩:=by unfold cand;rw [Mq h0];rfl
 have HM:=Hq (show jP s=true->DU s= .tuple #[nT (cand s),.bool true] from λh=>by unfold DU mH;rw [h,aER rfl]);have HZ:=Hq (show jP s=false->DU s= .tuple #[.agg (bH 0 0 0 0 0 ⟨#[]⟩ 0),.bool false] from El);have hE:xY s=jR s (iR s (fV s 4)):=rfl;rw [hE] at HO;rw [ab2] at HP HM HO;exact AdD):P:=h
theorem ap6.AdD(h:P:=by
 clear ab2 hE e1 e2 e3 e4;have hne:=ku s h0;have hi0:(0:Int) < (s.size:Int):=Aaa
 open asB in exact Ws):P:=h
theorem ap7.AdD(h:P:=by
 clear hcs ab2 hE;have hne:=ku s h0;have hi0:(0:Int) < (s.size:Int):=Aaa
 open aru in exact awO):P:=h
theorem akb(h:P:=by
 rw [<-hW] at e2 e3;have LH:=Hq e2;have HW1:=Hq (HW0.step e3);clear hW e2 e3;generalize w.heap.size+1=B at *;obtain⟨c0,c1,c2,c3,c4,c5,c6,c7,c8,c9⟩:=jB HW1.blk;obtain⟨⟨p0,p1,p2,p3,p4,p5,p6⟩,_⟩:=dY LH;have hBl:=ay LH;have aCx:=ay HW1.blk;exact AbP):P:=h
theorem ap8.AbP(h:P:=by
 go_upto_region 12 with fail;go_wp2_with fail;refine(HDL W B LH HW1.no.o).mono ?_;rintro e y ⟨a2,cp2,rfl,hrow,hgr,hx2⟩;have HY:=Hq (HW1.setOut hgr hrow hx2);clear hrow hgr hx2 HDL c0 c1 c2 c3 c4 c5 c6 c7 c8 c9 p0 p1 p2 p3 p4 p5 p6;obtain⟨c0,c1,c2,c3,c4,c5,c6,c7,c8,c9⟩:=jB HY.1;have f5:=aA HY.1 5;have ak5:=ay HY.1;go_wp2_with fail;go_ret;exact⟨rfl,_,G,c,v,by rw [aFF];exact HY.2⟩):P:=h
theorem ap9.AbP(h:P:=by
 go_wp2_with fail;refine(OZ W HW1).mono ?_;rintro e y ⟨rfl,⟨A',G',c',hY⟩,hJ⟩;have HY:=Hq hY;have IB:=Hq (hJ B ⟨1,mF,mT,mI,mL,mk,mN⟩ LH);clear hY hJ OZ p0 p1 p2 p3 p4 p5 p6 c0 c1 c2 c3 c4 c5 c6 c7 c8 c9;exact Ady):P:=h
theorem aqa.AbP(h:P:=by
 have Tw:=Hq (λp:Regrown=>HW1.no.at.below (aEV _ p.d p.os));go_upto_region 4 with fail;open anl in exact XQ):P:=h
theorem akc(h:P:=by
 refine wp_at (λW0 hW0=>?_);have HB0:Hid (W0.heap[w.heap.size]?=some (.cells (dR ⟨id,par,kids,next,pu,out,seen,old,reqs⟩ ⟨ak,ap,ao,as',ar,ck,cp,co,cs,cr⟩) 53 (0,0))):=by rw [hW0];exact jL
 have jC:Hid (aG w W0):=by rw [hW0];exact au w _
 clear hW0 jL;exact AbQ):P:=h
theorem aqb.AbQ(h:P:=by
 obtain⟨c0,c1,c2,c3,c4,c5,c6,c7,c8⟩:=nine HB0;open aun in exact ag6):P:=h
theorem aqc.AbQ(h:P:=by
 obtain⟨bb,hbb⟩:∃bb,(!(PL&&PS&&TD&&fC next&&decide (out.length<=40)&&qM old&&decide (reqs.length<=30)))=bb:=⟨_,rfl⟩;have eG:=Hq hbb;clear hbb;obtain⟨c0,c1,c2,c3,c4,c5,c6,c7,c8⟩:=nine HB0;go_cut [44] (λr wx=>r= .bool bb/\wx.heap[w.heap.size]?=some (.cells (dR ⟨id,par,kids,next,pu,out,seen,old,reqs⟩ ⟨ak,ap,ao,as',ar,ck,cp,co,cs,cr⟩) 53 (0,0))/\aG w wx)
 case first=>
  open aum in exact ag6
 case rest=>
  obtain⟨rfl,hblk,hbel⟩:=hcut;have HB1:=Hq hblk;have jM:=Hq hbel;clear hblk hbel c0 c1 c2 c3 c4 c5 c6 c7 c8 DC HPU Bq HB0 jC;cases hbv:bb
  case' true=>
   have HP:Hid (TT=false):=by
    have h:=ah eG;rw [hbv] at h;rw [ah HD];generalize (PL&&PS&&TD&&fC next&&decide (out.length<=40)&&qM old&&decide (reqs.length<=30))=X at *;cases X
    .rfl
    .cases h
   clear eG HD;subst hbv;go_wp2_with fail;go_ret;exact⟨aF HP.symm,jM⟩
  have HF:Hid (fC next=true/\qM old=true/\TT=(gL OT (λs t=>iF s.i t.i) out&&gL RQ (λs t=>iF s.no t.no) reqs)):=by
   have h:=ah eG;rw [hbv] at h;rw [ah HD];cases h4:fC next<;>cases h6:qM old<;>rw [h4,h6] at h
   all_goals first
    |(simp at h;done)
    |skip
   refine⟨rfl,rfl,?_⟩;generalize (PL&&PS&&TD&&true&&decide (out.length<=40)&&true&&decide (reqs.length<=30))=X at *;cases X
   .cases h
   .rfl
  clear eG HD;subst hbv;obtain⟨hn1,ho1,hTT⟩:=ah HF;have HTT:=Hq hTT;have hn2:1<=next/\next<=1000000000:=aEQ hn1;have ho2:0<=old/\old<=1000000000:=aEQ ho1;obtain⟨hn3,hn4⟩:=hn2;obtain⟨ho3,ho4⟩:=ho2;clear hn1 ho1 hTT HF;have xR:=Hq (λk h=>oV OT (λs t=>iF s.i t.i) out k h);have OI:=Hq (rV OT (λs t=>iF s.i t.i) out);have Ev:=Hq (vR OT (λs t=>iF s.i t.i) out);have HDB:=Hq (λk h=>oV RQ (λs t=>iF s.no t.no) reqs k h);have HDF:=Hq (rV RQ (λs t=>iF s.no t.no) reqs);have HDN:=Hq (vR RQ (λs t=>iF s.no t.no) reqs);generalize (λs t:jI=>iF s.i t.i)=RO at *;generalize (λs t:Rq=>iF s.no t.no)=RR at *;go_wp2_with fail;go_loopw [3] (λi wr=>∃k:Nat,k<=out.length/\i= .int .i64 k/\gL OT RO (out.take k)=true/\wr.heap[w.heap.size]?=some (.cells (dR ⟨id,par,kids,next,pu,out,seen,old,reqs⟩ ⟨ak,ap,ao,as',ar,ck,cp,co,cs,cr⟩) 53 (0,0))/\aG w wr) (λi _=>out.length - (intOf i).toNat)
  case atStart=>exact⟨0,aEN _,rfl,rfl,HB1,jM⟩
  case round=>
   open aqY in exact aeH):P:=h
theorem aqd.AbQ(h:P:=by
 obtain⟨al,hal⟩:∃al:Int,(kids.length:Int)+(if 0<=par then 1 else 0)=al:=⟨_,rfl⟩;rw [hal] at HD;go_cut [3] (λr wx=>r= .int .i64 al/\wx=W0)
 case first=>
  by_cases hp:0<=par
  .rw [aER hp] at hal;have HAL:=Hq hal;clear hal;go_wp2_with fail;go_meet
   case rel=>exact⟨by rw [<-ah HAL],rfl⟩
  .rw [aEG hp] at hal;have HAL:=Hq hal;clear hal;go_wp2_with fail;go_meet
   case rel=>exact⟨by rw [<-ah HAL,Int.add_zero],rfl⟩
 case rest=>
  obtain⟨rfl,rfl⟩:=hcut;clear hal;obtain⟨c0,c1,c2,c3,c4,c5,c6,_⟩:=nine HB0;by_cases hlen:(seen.length:Int)=al
  case' neg=>
   have hbn:((seen.length:Int) != al)=true:=by simpa using hlen
   have HP:Hid (TT=false):=by rw [ah HD,aEw hlen];rfl
   clear hlen HD xR OI Ev SI HPP HRR;go_wp2_with fail;go_ret;exact⟨aF HP.symm,jC⟩
  have hbn:((seen.length:Int) != al)=false:=by simpa using hlen
  have nD:Hid (TT=gL PP RR seen):=by rw [ah HD,aEy hlen];rfl
  clear hlen HD;go_wp2_with fail;go_loopw [4] (λi wr=>∃k:Nat,k<=seen.length/\i= .int .i64 k/\gL PP RR (seen.take k)=true/\wr.heap[w.heap.size]?=some (.cells (dR ⟨id,par,kids,next,pu,out,seen,old,reqs⟩ ⟨ak,ap,ao,as',ar,ck,cp,co,cs,cr⟩) 53 (0,0))/\aG w wr) (λi _=>seen.length - (intOf i).toNat)
  case atStart=>exact⟨0,aEN _,rfl,rfl,HB0,jC⟩
  case round=>
   open aqX in exact aeH):P:=h
theorem awx(h:P:=by
 have HF:=Hq hf;have ajQ:=Hq (Xc mp mb n0 _ G ⟨pk,qm,qf,qs⟩ w6 hkey hn0 Io.blk Io.map);have Tq:=Hq Io;obtain⟨⟨p0,p1,p2,p3⟩,_⟩:=fG ak2;clear hf Io ak2;go_wp2_with fail;refine ajQ.mono ?_;rintro e w7 ⟨rfl,hm7,hk7⟩;have HP7:=Hq (Tq.turned hk7 hm7);have H6:=Hq (xQ.trans (Dc hk7 Tq.lom (aEA hB xQ.size)));clear hm7 hk7 p0 p1 p2 p3;go_wp2_with fail;go_ret;exact AcJ):P:=h
theorem aqe.AcJ(h:P:=by
 exact⟨H6,.inr ⟨.inr h20,rfl,_,HP7⟩⟩):P:=h
theorem aqf.AcJ(h:P:=by
 exact⟨H6,.inr ⟨.inl HF,rfl,_,HP7⟩⟩):P:=h
theorem awy(h:P:=by
 go_wp2_with fail;rw [J8];go_upto_if 20 with fail;go_cut [3] (λl wx=>l= .int .i64 gI/\W1=wx)
 case first=>
  by_cases hq:pf < most
  .rw [aER hq] at hc;subst hc;have q0:decide (pf < most)=true:=aEy hq;go_wp2_with fail;go_meet
   case rel=>exact⟨rfl,rfl⟩
  .rw [aEG hq] at hc;subst hc;have q0:decide (pf < most)=false:=aEw hq;go_wp2_with fail;go_meet
   case rel=>exact⟨rfl,rfl⟩
 case rest=>
 obtain⟨rfl,rfl⟩:=hcut;clear hc;exact Adh):P:=h
theorem aqg.Adh(h:P:=by
 go_upto_region 5 with fail;go_wp2_with fail;have Oq:=Hq (vL.kc (k:=9) (KC.of_below (au W1 (.cells #[] 104))) Aaa);have vI:=Hq (HB1.trans ((au W1 (.cells #[] 104)).mono HB1.size));refine eB results102 rfl rfl rfl rfl xB (λW' e4 eX=>?_);have HAT:=Hq (λW'' (ho:Out c w W' W'')=>(Oq.kc (k:=9) ((KC.keeps eX (λx hx=>by have:x=w.heap.size+1:=Aad;rw [this];exact aY Aaa)).trans (KC.out H9 ho)) Aaa).rm);have qG:Hid (Below B w W'):=(vI.mono hB).trans (eX.below (λx hx=>by have:x=w.heap.size+1:=Aad;omega) (aEA hB (vI.mono hB).size));have xA:=Hq (Apart.keeps (c:=c) (Apart.of_below vI) (vI.mono hB).size eX (λx hx=>by have:x=w.heap.size+1:=Aad;omega));clear e4 eX;exact⟨A,some ⟨W1.heap.size,0,none⟩,0,rfl,HAT,λW'' _ i hi=>Aau,qG,xA⟩):P:=h
end Go.Proofs.YtfachhcijcjbpaaGreatDoor
