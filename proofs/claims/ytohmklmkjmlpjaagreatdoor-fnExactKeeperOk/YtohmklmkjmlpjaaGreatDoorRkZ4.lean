/-
  Parts of proofs that stand more than once, each said once.
-/
import Derived.Test.YtohmklmkjmlpjaaGreatDoorRkZ3
namespace Go.Proofs.YtohmklmkjmlpjaaGreatDoor
open Go.Proofs.Tryz
set_option maxRecDepth 100000
variable{P:Prop}
theorem auB.AfV(h:P:=by
 generalize gP s 3=E3 at *;generalize gP s 2=E2 at *;generalize gP s 1=E1 at *;rw [ez] at IU;clear ez hs;have HH:=Hq hH;clear hH;go_in
 go_upto_region 4 with fail;refine wp_at (λV0 hV=>?_)
 have hM0:V0.heap[w.heap.size+1]?=some (.cells (bX (s[0].toNat:Int) 0 0 0 0 ⟨#[]⟩ 0) 98 (0,0)):=by
  rw [hV];have h:=heap_alloc_new (w.alloc (.cells (bX 0 0 0 0 0 ⟨#[]⟩ 0) 98)) (.cells (bX (s[0].toNat:Int) 0 0 0 0 ⟨#[]⟩ 0) 98);rwa [show(w.alloc (.cells (bX 0 0 0 0 0 ⟨#[]⟩ 0) 98)).heap.size=w.heap.size+1 by simp] at h
 have hR0:V0.heap[w.heap.size]?=some (.cells (bX 0 0 0 0 0 ⟨#[]⟩ 0) 98 (0,0)):=by rw [hV,Below.heap_alloc _ _ _ Aac];exact heap_alloc_new w _
 have hB0:aI w V0:=by rw [hV];exact((Below.refl _ _).alloc (Nat.le_refl _) _).alloc Aac _
 clear hV hw64 hb0;have HM0:=Hq hM0;have HR0:=Hq hR0;have HB0:=Hq hB0;clear hM0 hR0 hB0;go_wp2_with fail;refine(IU _ (HH.below HB0)).mono ?_;rintro e x1 ⟨rfl,hb1⟩;have gM1:=aN HM0 hb1;have gR1:=aN HR0 hb1;have gB1:=HB0.trans (hb1.mono HB0.size);obtain⟨⟨c0,c1,c2,c3,c4,c5,c6⟩,f0,f1,f2,f3,f4,f5,f6⟩:=eT gM1;have hz1:=dG gM1;have GM1:=Hq gM1;have GR1:=Hq gR1;have GB1:=Hq gB1;clear hb1 HM0 HR0 HB0 gM1 gR1 gB1 IU;go_upto_region 5 with fail;refine wp_at (λV1 hV=>?_);have hM1:V1.heap[w.heap.size+1]?=some (.cells (bX (s[0].toNat:Int) N1 0 0 0 ⟨#[]⟩ 0) 98 (0,0)):=by rw [hV];exact blk_set GM1 1 (.int .i64 N1)
 have hR1:V1.heap[w.heap.size]?=some (.cells (bX 0 0 0 0 0 ⟨#[]⟩ 0) 98 (0,0)):=by rw [hV];exact one_other GR1 Aaa
 have hB1:aI w V1:=by rw [hV];exact GB1.setCell (p:=⟨w.heap.size+1,1,none⟩) (Nat.le_succ _) (.int .i64 N1)
 clear hV GM1 GR1 GB1 c0 c1 c2 c3 c4 c5 c6 f0 f1 f2 f3 f4 f5 f6 hz1;have HM1:=Hq hM1;have HR1:=Hq hR1;have HB1:=Hq hB1;clear hM1 hR1 hB1;go_wp2_with fail;refine(HG2 _ (HH.below HB1)).mono ?_;rintro e x2 ⟨rfl,hb2⟩;have gM2:=aN HM1 hb2;have gR2:=aN HR1 hb2;have gB2:=HB1.trans (hb2.mono HB1.size);obtain⟨⟨c0,c1,c2,c3,c4,c5,c6⟩,f0,f1,f2,f3,f4,f5,f6⟩:=eT gM2;have hz2:=dG gM2;have GM2:=Hq gM2;have GR2:=Hq gR2;have GB2:=Hq gB2;clear hb2 HM1 HR1 HB1 gM2 gR2 gB2 HG2;go_upto_region 6 with fail;refine wp_at (λV2 hV=>?_);have hM2:V2.heap[w.heap.size+1]?=some (.cells (bX (s[0].toNat:Int) N1 N2 0 0 ⟨#[]⟩ 0) 98 (0,0)):=by rw [hV];exact blk_set GM2 2 (.int .i64 N2)
 have hR2:V2.heap[w.heap.size]?=some (.cells (bX 0 0 0 0 0 ⟨#[]⟩ 0) 98 (0,0)):=by rw [hV];exact one_other GR2 Aaa
 have hB2:aI w V2:=by rw [hV];exact GB2.setCell (p:=⟨w.heap.size+1,2,none⟩) (Nat.le_succ _) (.int .i64 N2)
 clear hV GM2 GR2 GB2 c0 c1 c2 c3 c4 c5 c6 f0 f1 f2 f3 f4 f5 f6 hz2;have HM2:=Hq hM2;have HR2:=Hq hR2;have HB2:=Hq hB2;clear hM2 hR2 hB2;go_wp2_with fail;refine(Ea _ (HH.below HB2)).mono ?_;rintro e x3 ⟨rfl,hb3⟩;have gM3:=aN HM2 hb3;have gR3:=aN HR2 hb3;have gB3:=HB2.trans (hb3.mono HB2.size);obtain⟨⟨c0,c1,c2,c3,c4,c5,c6⟩,f0,f1,f2,f3,f4,f5,f6⟩:=eT gM3;have hz3:=dG gM3;have GM3:=Hq gM3;have GR3:=Hq gR3;have GB3:=Hq gB3;clear hb3 HM2 HR2 HB2 gM3 gR3 gB3 Ea;go_upto_region 7 with fail;refine wp_at (λV3 hV=>?_);have hM3:V3.heap[w.heap.size+1]?=some (.cells (bX (s[0].toNat:Int) N1 N2 N3 0 ⟨#[]⟩ 0) 98 (0,0)):=by rw [hV];exact blk_set GM3 3 (.int .i64 N3)
 have hR3:V3.heap[w.heap.size]?=some (.cells (bX 0 0 0 0 0 ⟨#[]⟩ 0) 98 (0,0)):=by rw [hV];exact one_other GR3 Aaa
 have hB3:aI w V3:=by rw [hV];exact GB3.setCell (p:=⟨w.heap.size+1,3,none⟩) (Nat.le_succ _) (.int .i64 N3)
 clear hV GM3 GR3 GB3 c0 c1 c2 c3 c4 c5 c6 f0 f1 f2 f3 f4 f5 f6 hz3;have HM3:=Hq hM3;have HR3:=Hq hR3;have HB3:=Hq hB3;clear hM3 hR3 hB3;go_wp2_with fail;refine(HG4 _ (HH.below HB3)).mono ?_;rintro e x4 ⟨rfl,hb4⟩;have gM4:=aN HM3 hb4;have gR4:=aN HR3 hb4;have gB4:=HB3.trans (hb4.mono HB3.size);obtain⟨⟨c0,c1,c2,c3,c4,c5,c6⟩,f0,f1,f2,f3,f4,f5,f6⟩:=eT gM4;have xW:=dG gM4;have GM4:=Hq gM4;have GR4:=Hq gR4;have GB4:=Hq gB4;clear hb4 HM3 HR3 HB3 gM4 gR4 gB4 HG4;go_upto_region 8 with fail;refine wp_at (λV4 hV=>?_);have hM4:V4.heap[w.heap.size+1]?=some (.cells (bX (s[0].toNat:Int) N1 N2 N3 N4 ⟨#[]⟩ 0) 98 (0,0)):=by rw [hV];exact blk_set GM4 4 (.int .i64 N4)
 have hR4:V4.heap[w.heap.size]?=some (.cells (bX 0 0 0 0 0 ⟨#[]⟩ 0) 98 (0,0)):=by rw [hV];exact one_other GR4 Aaa
 have hB4:aI w V4:=by rw [hV];exact GB4.setCell (p:=⟨w.heap.size+1,4,none⟩) (Nat.le_succ _) (.int .i64 N4)
 clear hV GM4 GR4 GB4 c0 c1 c2 c3 c4 c5 c6 f0 f1 f2 f3 f4 f5 f6 xW;have HM4:=Hq hM4;have HR4:=Hq hR4;have nK:=Hq hB4;clear hM4 hR4 hB4;go_wp2_with fail;refine(vX _ (HH.below nK)).mono ?_;rintro e x5 ⟨rfl,hb5⟩;have gM5:=aN HM4 hb5;have gR5:=aN HR4 hb5;have gB5:=nK.trans (hb5.mono nK.size);obtain⟨⟨c0,c1,c2,c3,c4,c5,c6⟩,f0,f1,f2,f3,f4,f5,f6⟩:=eT gM5;have hz5:=dG gM5;have GM5:=Hq gM5;have GR5:=Hq gR5;have GB5:=Hq gB5;clear hb5 HM4 HR4 nK gM5 gR5 gB5 vX;go_upto_region 9 with fail;refine wp_at (λV5 hV=>?_);have hM5:V5.heap[w.heap.size+1]?=some (.cells (bX (s[0].toNat:Int) N1 N2 N3 N4 TX 0) 98 (0,0)):=by rw [hV];exact blk_set GM5 5 (.string TX)
 have Tf:V5.heap[w.heap.size]?=some (.cells (bX 0 0 0 0 0 ⟨#[]⟩ 0) 98 (0,0)):=by rw [hV];exact one_other GR5 Aaa
 have hB5:aI w V5:=by rw [hV];exact GB5.setCell (p:=⟨w.heap.size+1,5,none⟩) (Nat.le_succ _) (.string TX)
 clear hV GM5 GR5 GB5 c0 c1 c2 c3 c4 c5 c6 f0 f1 f2 f3 f4 f5 f6 hz5;have HM5:=Hq hM5;have R4:=Hq Tf;have gY:=Hq hB5;clear hM5 Tf hB5;go_wp2_with fail;refine(HG6 _ (HH.below gY)).mono ?_;rintro e x6 ⟨rfl,hb6⟩;have gM6:=aN HM5 hb6;have gR6:=aN R4 hb6;have gB6:=gY.trans (hb6.mono gY.size);obtain⟨⟨c0,c1,c2,c3,c4,c5,c6⟩,f0,f1,f2,f3,f4,f5,f6⟩:=eT gM6;have hz6:=dG gM6;have GM6:=Hq gM6;have GR6:=Hq gR6;have GB6:=Hq gB6;clear hb6 HM5 R4 gY gM6 gR6 gB6 HG6;go_upto_region 10 with fail;refine wp_at (λV6 hV=>?_);have hM6:V6.heap[w.heap.size+1]?=some (.cells (bX (s[0].toNat:Int) N1 N2 N3 N4 TX N5) 98 (0,0)):=by rw [hV];exact blk_set GM6 6 (.int .i64 N5)
 have hR6:V6.heap[w.heap.size]?=some (.cells (bX 0 0 0 0 0 ⟨#[]⟩ 0) 98 (0,0)):=by rw [hV];exact one_other GR6 Aaa
 have hB6:aI w V6:=by rw [hV];exact GB6.setCell (p:=⟨w.heap.size+1,6,none⟩) (Nat.le_succ _) (.int .i64 N5)
 clear hV GM6 GR6 GB6 c0 c1 c2 c3 c4 c5 c6 f0 f1 f2 f3 f4 f5 f6 hz6;have hzM:=dG hM6;have hzR:=dG hR6;by_cases hE:E6=(s.size:Int)
 case' neg=>
  have hO:OK=false:=by rw [ah HO,decide_eq_false hE];rfl
  have wS:=Hq (HZ hO)
  have hq:(E6 != (s.size:Int))=true:=Ace
  obtain⟨⟨d0,d1,d2,d3,d4,d5,d6⟩,f0,f1,f2,f3,f4,f5,f6⟩:=eT hR6
  have HR:=Hq hR6
  have HB:=Hq hB6
  have HE:=Hq hE
  clear hO HO HZ HM HP hM6 hR6 hB6 hE
  open awg in exact ag9
 have hq:(E6 != (s.size:Int))=false:=Ace
 obtain⟨q0,q1,q2,q3,q4,q5,q6⟩:=tF hM6;have HR:=Hq hR6;have HB:=Hq hB6;have HMB:=Hq hM6;have HE:=Hq hE;clear hR6 hB6 hM6 hE;open auT in exact agJ):P:=h
theorem agE(h:P:=by
 have hc:s[k].toNat < 256:=s[k].toNat_lt;have aHC:=hv2 hj;have HU:=Hq (hu2 hj);clear hv2 hu2 hv5 hu;obtain⟨hp0,hp1⟩:=afv s[k].toNat v;exact Aey):P:=h
theorem auC.Aey(h:P:=by
 by_cases hb:128<=s[k].toNat
 .have HR:=Hq (Mth.get_more s k _ m _ _ hlt hj hb HG);clear HG;go_wp2
  go_round
  case rel=>exact⟨_,_,_,k+1,HU,JG m _ v hm,Aah,Aah,Aah,by have:=ah HK;omega,HR⟩
  case measure=>simp[intOf];omega
 .by_cases hbig:(4000000000:Int) < (m:Int)+(s[k].toNat:Int) % 128*(v:Int)
  .have HR:=Hq (Mth.get_bad s k _ m _ _ hlt hj hb (.inl (Qj m _ v hb hbig)) HG);clear HG;exact aeC
  .by_cases hz:(s[k].toNat:Int)<=0
   .by_cases hj0:0 < j
    .have HR:=Hq (Mth.get_bad s k _ m _ _ hlt hj hb (.inr ⟨Aaa,hj0⟩) HG);have hik:i < k:=by have:=ah HK;omega
     clear HG;exact aeC
    .have HR:=Hq (Mth.get_hit s k _ m _ _ hlt hj hb (yx m _ v hb hbig) (.inr Aaa) HG);have hik:k<=i:=by have:=ah HK;omega
     clear HG;go_wp2
     go_ret3
     exact⟨Qw HR (Qk m _ v hz) (by have:=ah HK;omega),rfl⟩
   .have HR:=Hq (Mth.get_hit s k _ m _ _ hlt hj hb (yx m _ v hb hbig) (.inl Aaa) HG);have hz':0 < (s[k].toNat:Int):=Aaa
    clear HG;go_wp2
    go_ret3
    exact⟨Qw HR (Ql m _ v hb) (by have:=ah HK;omega),rfl⟩):P:=h
theorem auD.Aey(h:P:=by
 by_cases hb:128<=s[k].toNat
 .have HR:=Hq (Mth.get_more s k _ m _ _ hlt hj hb HG);have HN:=Hq (Yo s i j k m v HK hlt HU0 hb DC);clear HG;go_wp2
  go_round
  case rel=>exact⟨_,_,_,k+1,HU,JG m _ v hm,Aah,Aah,Aah,by have:=ah HK;omega,HN,HR⟩
  case measure=>simp[intOf];omega
 .go_wp2_with fail;generalize hx:((m:Int)+(s[k].toNat:Int) % 128*(v:Int))=x;have hx0:0<=x:=Aaa
  have hx1:x<=34359738368:=Aaa
  have HX:=Hq hx;clear hx hp0 hp1;have hA:(0:Int)<=(k:Int)+1:=Aaa
  have hB:(k:Int)+1<=(s.size:Int):=Aaa
  have hC:(i:Int)<=(k:Int)+1:=Aaa
  have hW:IntKind.i64.wrap ((k:Int)+1)=(k:Int)+1:=IntWalk.i64_in _ ⟨Aaa,Aaa⟩;by_cases hbig:4000000000 < x
  .have HR:=Hq (Mth.get_bad s k _ m _ _ hlt hj hb (.inl (Qj m _ v hb (by rw [ah HX];exact hbig))) HG);have hne:(([]:List UInt8) == (s.extract i (k+1)).toList)=false:=Jy (by rw [zu s i j k (ah HK) hlt];simp);go_region_with (go_at_call 139;refine(uN _ _ (.inr hbig)).mono ?_;rintro e w' ⟨rfl,rfl⟩)
   all_goals
    go_wp2
    go_ret2
    exact⟨get_none HR,(Below.refl _ _).drew⟩
  .have hsm:x<=4000000000:=Aaa
   have HV:Hid (x.toNat=m+s[k].toNat*v):=by have h1:=Ql m s[k].toNat v hb;rw [ah HX] at h1;rw [h1];rfl
   by_cases hbad:s[k].toNat=0/\0 < j
   .have HR:=Hq (Mth.get_bad s k _ m _ _ hlt hj hb (.inr hbad) HG);have hne:(Mth.put x.toNat == (s.extract i (k+1)).toList)=false:=Jy (by rw [ah HV];exact alf s i j k m v HK hlt HU0 hj DC hbad.1 hbad.2);clear hbad;go_region_with (go_at_call 139;refine(vP _ _ hx0 hsm).mono ?_;rintro e w' ⟨rfl,hbel⟩)
    all_goals
     go_wp2
     go_ret2
     exact⟨get_none HR,by first|exact hbel|exact((Below.refl _ _).drew).trans hbel⟩
   .have HR:=Hq (Mth.get_hit s k _ m _ _ hlt hj hb (yx m _ v hb (by rw [ah HX];omega)) Aaa HG);have heq:(Mth.put x.toNat == (s.extract i (k+1)).toList)=true:=Xf (by rw [ah HV];exact aeR s i j k m v HK hlt HU0 hj hb DC (by omega));clear hbad;go_region_with (go_at_call 139;refine(vP _ _ hx0 hsm).mono ?_;rintro e w' ⟨rfl,hbel⟩)
    all_goals
     go_wp2
     go_ret2
     exact⟨get_some HR (by have:=ah HV;omega) (by have:=ah HK;omega),by first|exact hbel|exact((Below.refl _ _).drew).trans hbel⟩):P:=h
theorem aat(h:P:=by
 have hwl:=aA h.blk;obtain⟨K,no,k,nn,⟨mK,mF,mT,mI,mL,mk,mN⟩⟩:=o;dsimp only at *;subst hK;have HW0:=Hq h;clear h;go_in
 go_upto_region 2 with fail;refine wp_at (λW hW=>?_);exact Ac8):P:=h
theorem auE.Ac8(h:P:=by
 obtain⟨_,e2,e3⟩:=iA w (.cells (bY K no k nn 2 mF mT mI mL mk mN) 100) (.cells (bX 2 mF mT mI mL mk mN) 98);open asz in exact aap):P:=h
theorem auF.Ac8(h:P:=by
 obtain⟨_,e2,e3⟩:=iA w (.cells (bY K no k nn 1 mF mT mI mL mk mN) 100) (.cells (bX 1 mF mT mI mL mk mN) 98);open asA in exact aap):P:=h
theorem auG.Ac8(h:P:=by
 obtain⟨_,e2,e3⟩:=iA w (.cells (bY K no k nn 0 mF mT mI mL mk mN) 100) (.cells (bX 0 mF mT mI mL mk mN) 98);open asB in exact aap):P:=h
theorem agF(h:P:=by
 obtain⟨⟨p0,p1,p2,p3,p4,p5,p6,p7,p8,p9,nX⟩,_⟩:=aO HO;obtain⟨c0,c1,c2,c3,c4,c5,c6,c7,c8⟩:=nine HN;have hol:=aA HO;have hnl:=aA HN;go_wp2_with fail;refine(NJ W0 Nh.at.r).mono ?_;rintro e W1 ⟨rfl,hb1⟩;have kK:=Hq (au HN hb1);have WG:=Hq (au HO hb1);have pJ:=Hq (au HR hb1);have HB1:=Hq (HB0.trans (hb1.mono HB0.size));exact AeO):P:=h
theorem auH.AeO(h:P:=by
 clear hb1 c0 c1 c2 c3 c4 c5 c6 c7 c8 p0 p1 p2 p3 p4 p5 p6 p7 p8 p9 nX hnl hol NJ HN HO HR Nh HB0;obtain⟨⟨p0,p1,p2,p3,p4,p5,p6,p7,p8,p9,nX⟩,_⟩:=aO WG;obtain⟨c0,c1,c2,c3,c4,c5,c6,c7,c8⟩:=nine kK;have hol:=aA WG;have hnl:=aA kK;have hrl:=aA pJ;go_upto_region 9 with fail;refine wp_at (λW2 hW2=>?_);have hbw2:=ay W1 (.cells (dZ no k nn 1) 95);have hq2:=heap_alloc_new W1 (.cells (dZ no k nn 1) 95);rw [<-hW2] at hbw2 hq2;have jQ:=Hq (au kK hbw2);have Gn:=Hq (au WG hbw2);have jC:=Hq (au pJ hbw2);have akx:=Hq hq2;have HB2:=Hq (HB1.trans (hbw2.mono HB1.size));have hqb:w.heap.size+2 < W1.heap.size:=hrl;clear hW2 hbw2 hq2 c0 c1 c2 c3 c4 c5 c6 c7 c8 p0 p1 p2 p3 p4 p5 p6 p7 p8 p9 nX kK WG pJ HB1 hnl hol hrl;obtain⟨⟨p0,p1,p2,p3,p4,p5,p6,p7,p8,p9,nX⟩,_⟩:=aO Gn;obtain⟨c0,c1,c2,c3,c4,c5,c6,c7,c8⟩:=nine jQ;have hol:=aA Gn;have hnl:=aA jQ;have hql:=aA akx;go_wp2_with fail;refine(Rt W2 (lI.kc (k:=9) (KC.of_below HB2) Aaa).at.p).mono ?_;rintro e W3 ⟨v3,rfl,alA,hrow3,hb3⟩;obtain⟨av,cv,rfl,_⟩:=GR.own_at (enc:=gB) (sz:=4) aZ hrow3;have HRW:=Hq (LO.own (en:=gB) hrow3);have lJ:=Hq (au jQ hb3);have Kh:=Hq (au Gn hb3);have lK:=Hq (au jC hb3);have RZ:=Hq (au akx hb3);have HB3:=Hq (HB2.trans (hb3.mono HB2.size));clear hb3 alA hrow3 Rt jQ Gn jC akx HB2 c0 c1 c2 c3 c4 c5 c6 c7 c8 p0 p1 p2 p3 p4 p5 p6 p7 p8 p9 nX hnl hol;obtain⟨c0,c1,c2,c3,c4,c5,c6,c7,c8⟩:=nine lJ;obtain⟨q0,q1,q2,q3⟩:=gG RZ;have cf:=aj lJ 4;have qf:=aj RZ 3;exact AaH):P:=h
theorem auI.AeO(h:P:=by
 have yO:=Hq (Nh.kc (k:=9) (KC.of_below hb1) Aaa);clear hb1 c0 c1 c2 c3 c4 c5 c6 c7 c8 p0 p1 p2 p3 p4 p5 p6 p7 p8 p9 nX hnl hol NJ HN HO HR Nh HB0;obtain⟨g,off,e0,hg,q0,q1,q2,q3⟩:=gF.four yO.at.r i hi;rw [ah am0] at q0 q1 q2 q3;clear am0;obtain⟨rno,rk,rn,rs⟩:=rq;exact Kk4):P:=h
theorem Vh(h:P:=by
 clear HNk HYk;go_wp2_with fail;refine(HCk wr HB).mono ?_;rintro e w1 ⟨rfl,hb1⟩;have HB1:=Hq (HB.trans (hb1.mono HB.size));rw [hq];exact AbW):P:=h
theorem auJ.AbW(h:P:=by
 clear hb1 q0 q1 q2;exact ajr):P:=h
theorem auK.AbW(h:P:=by
 clear hb1 q0 q1 q2;exact abg):P:=h
theorem auL.AbW(h:P:=by
 clear hb1 q0 q1 q2 q3;exact ajr):P:=h
theorem auM.AbW(h:P:=by
 clear hb1 q0 q1 q2 q3;go_wp2_with fail;go_ret;exact⟨Aac,HB1⟩):P:=h
theorem agG(h:P:=by
 clear Xu HRW;clear c0 c1 c2 c3 c4 c5 c6 c7 c8 q0 q1 q2 q3 cf qf lJ Kh lK RZ HB3;have HA4:=Hq (lI.kc (k:=9) (KC.of_below nK) Aaa).at.r;obtain⟨c0,c1,c2,c3,c4,c5,c6,c7,c8⟩:=nine AR;obtain⟨⟨p0,p1,p2,p3,p4,p5,p6,p7,p8,p9,nX⟩,_⟩:=aO ad5;have hnl:=aA AR;have hol:=aA ad5;have hile:=wH n.reqs no;go_upto_block 0 with fail;exact AfW):P:=h
theorem auN.AfW(h:P:=by
 go_cut [10] from 11 (λi wx=>i= .int .i64 (dS n.reqs no:Nat)/\Ge W4 wx)
 case first=>
  exact aBk
 case rest=>
  open axZ in exact ahA):P:=h
theorem auO.AfW(h:P:=by
 go_cut [10] from 11 (λi wx=>i= .int .i64 (dS n.reqs no:Nat)/\Ge W4 wx)
 case first=>
  exact aBk
 case rest=>
  open axY in exact ahA):P:=h
theorem agH(h:P:=by
 have q3s:=aeZ (g:=w.heap.size+2) (i:=3) (b0:= .int .i64 n.id) (b1:= .int .i64 n.par) (b2:= .slice a_k n.kids.length aK) (b3:= .int .i64 n.next) (b4:= .slice av RL.length cv) (b5:= .slice dW n.out.length aQ) (b6:= .slice eH n.seen.length aL) (b7:= .int .i64 n.old) (b8:= .slice (some ⟨gv,0,none⟩) (n.reqs.length+1) vc) (show w.heap.size+2≠W1.heap.size by omega) Ry;exact AeY):P:=h
theorem auP.AeY(h:P:=by
 open ao4 in exact Oq):P:=h
theorem auQ.AeY(h:P:=by
 go_simp;refine aH 1 rfl Aab Aad ?_;open ao5 in exact Oq):P:=h
theorem agI(h:P:=by
 have q3s:=aeZ (g:=w.heap.size+2) (i:=3) (b0:= .int .i64 n.id) (b1:= .int .i64 n.par) (b2:= .slice a_k n.kids.length aK) (b3:= .int .i64 n.next) (b4:= .slice av RL.length cv) (b5:= .slice dW n.out.length aQ) (b6:= .slice eH n.seen.length aL) (b7:= .int .i64 IH.no) (b8:= .slice (some ⟨g8,0,none⟩) n.reqs.length Et) (show w.heap.size+2≠W1.heap.size by omega) Ry;exact AfX):P:=h
theorem auR.AfX(h:P:=by
 open ao2 in exact Oq):P:=h
theorem auS.AfX(h:P:=by
 go_simp;refine aH 1 rfl Aab Aad ?_;open ao3 in exact Oq):P:=h
theorem agJ(h:P:=by
 go_wp2_with fail;refine(HP _).mono ?_;rintro e w5 ⟨rfl,hb5⟩;have Tf:=aN HR hb5;have hM5:=aN HMB hb5;have hB5:=HB.trans (hb5.mono HB.size);have aHI:=dG hM5;have aHK:=dG Tf;obtain⟨⟨d0,d1,d2,d3,d4,d5,d6⟩,f0,f1,f2,f3,f4,f5,f6⟩:=eT Tf;have R4:=Hq Tf;have gY:=Hq hB5;clear hb5 HR HMB HB q0 q1 q2 q3 q4 q5 q6 HP hzM hzR;exact Aen):P:=h
theorem auT.Aen(h:P:=by
 cases hp:dw ⟨s[0].toNat,N1,N2,N3,N4,TX,N5⟩
 case' false=>
  have hO:OK=false:=by rw [ah HO,hp];simp
  have wS:=Hq (HZ hO)
  clear hO HO HZ HM hM5 Tf hB5 hp
  open av3 in exact ag5
 have hO:OK=true:=by rw [ah HO,decide_eq_true (ah HE),hp];rfl
 have wS:=Hq (HM hO);obtain⟨q0,q1,q2,q3,q4,q5,q6⟩:=tF hM5;clear hO HO HZ HM hM5 Tf hB5 hp;open avV in exact ag3):P:=h
theorem auU.Aen(h:P:=by
 by_cases hp:jF ⟨s[0].toNat,N1,N2,N3,N4,TX,N5⟩=s
 case' neg=>
  have hO:OK=false:=by rw [ah HO,decide_eq_false hp];simp
  have wS:=Hq (HZ hO)
  have hq:((jF ⟨s[0].toNat,N1,N2,N3,N4,TX,N5⟩).toList == s.toList)=false:=by
   exact ajf
  clear hO HO HZ HM hM5 Tf hB5
  generalize jF ⟨s[0].toNat,N1,N2,N3,N4,TX,N5⟩=pm at *
  have HP:=Hq hp
  clear hp
  open av2 in exact ag5
 have hO:OK=true:=by rw [ah HO,decide_eq_true hE,decide_eq_true hp];rfl
 have wS:=Hq (HM hO);have hq:((jF ⟨s[0].toNat,N1,N2,N3,N4,TX,N5⟩).toList == s.toList)=true:=by rw [hp];simp
 obtain⟨q0,q1,q2,q3,q4,q5,q6⟩:=tF hM5;clear hO HO HZ HM hM5 Tf hB5;have HP:=Hq hp;clear hp;generalize jF ⟨s[0].toNat,N1,N2,N3,N4,TX,N5⟩=pm at *;open avU in exact ag3):P:=h
theorem Vi(h:P:=by
 go_simp;refine⟨Below.refl _ _,?_⟩;refine Ar Aab (λx3 hx3=>?_);have hg3:=Ge.trans (Ge.trans hx hx2) hx3;clear Ry;exact Ab2):P:=h
theorem auV.Ab2(h:P:=by
 have vY:=Hq (au jD hg3);open aEf in exact Zl):P:=h
theorem auW.Ab2(h:P:=by
 have vY:=Hq (au kZ hg3);open aEi in exact Zl):P:=h
theorem auX.Ab2(h:P:=by
 have vY:=Hq (au jD hg3);open aD9 in exact Zl):P:=h
theorem auY.Ab2(h:P:=by
 have vY:=Hq (au kZ hg3);open aEc in exact Zl):P:=h
theorem Ol(h:P:=by
 have hd:((l.length:Int) != (m.length:Int))=true:=Aag
 have HP:=Hq (show¬l=m from λh=>hn (congrArg List.length h));exact Aa6):P:=h
theorem auZ.Aa6(h:P:=by
 clear hn ha hb;go_in
 exact Ov):P:=h
theorem au0.Aa6(h:P:=by
 clear hn ha hb;go_in
 exact Ov):P:=h
theorem au1.Aa6(h:P:=by
 clear hn ha hb;go_in
 exact Ov):P:=h
theorem au2.Aa6(h:P:=by
 clear hn ha hb;go_in
 exact Ov):P:=h
theorem au3.Aa6(h:P:=by
 clear hn ha hb hi;go_in
 exact Ov):P:=h
theorem agK(h:P:=by
 obtain⟨d0,d1,d2,d3,d4,d5,d6,d7,d8⟩:=nine xL;have f0:=aj xL 0;have f1:=aj xL 1;have f2:=aj xL 2;have f3:=aj xL 3;have f4:=aj xL 4;have f5:=aj xL 5;have f6:=aj xL 6;have f7:=aj xL 7;have f8:=aj xL 8;have hrl:=aA xL;exact AdY):P:=h
theorem au4.AdY(h:P:=by
 go_simp;refine aH 4 rfl Aab Aad ?_;go_simp;refine aH 6 rfl Aab Aad ?_;go_simp;refine aH 7 rfl Aab Aad ?_;go_simp;refine wpAny_done Aab ?_;go_simp;clear d0 d1 d2 d3 d4 d5 d6 d7 d8 f0 f1 f2 f3 f4 f5 f6 f7 f8;go_wp2_with fail;refine aW (λW' hW'=>?_)
 obtain⟨SW,hSW,hsz,hk0,e3⟩:∃SW:World,W'=SW.alloc (.cells (bX qK qF qT qI qL qk qN) 98)/\SW.heap.size=z.heap.size/\aC [w.heap.size+1] z SW/\SW.heap[w.heap.size+1]?=some (.cells (fP n.id n.par a_k n.kids.length aK (n.next+1) av RL.length cv a6 (n.out.length+1) c6 eH n.seen.length aL n.old gH n.reqs.length aU) 40 (0,0)):=
  ⟨GR.setW z (w.heap.size+1) 0 (fP n.id n.par a_k n.kids.length aK (n.next+1) av RL.length cv a6 (n.out.length+1) c6 eH n.seen.length aL n.old gH n.reqs.length aU).toList,hW',by simp[GR.setW],aM (fP n.id n.par a_k n.kids.length aK (n.next+1) av RL.length cv a6 (n.out.length+1) c6 eH n.seen.length aL n.old gH n.reqs.length aU).toList z 0,GR.setW_blk (fP n.id n.par a_k n.kids.length aK (n.next+1) av RL.length cv a6 (n.out.length+1) c6 eH n.seen.length aL n.old gH n.reqs.length aU).toList (o:=0) (xs:=gN.toList) xL⟩
 have e4:W'.heap[w.heap.size+1]?=some (.cells (fP n.id n.par a_k n.kids.length aK (n.next+1) av RL.length cv a6 (n.out.length+1) c6 eH n.seen.length aL n.old gH n.reqs.length aU) 40 (0,0)):=by rw [hSW];exact au e3 (ay SW _)
 have gu:aC [w.heap.size+1] z W':=by rw [hSW];exact hk0.trans (aC.of_below (ay SW _))
 have hm:W'.heap[z.heap.size]?=some (.cells (bX qK qF qT qI qL qk qN) 98 (0,0)):=by rw [hSW,<-hsz];exact heap_alloc_new SW _
 have HFI:=Hq (CV W' z.heap.size ((aC.of_below HZ).trans gu) hm (by have:=aA xL;omega));obtain⟨x0,x1,x2,x3,x4,x5,x6,x7,x8⟩:=nine e4;clear hW' e4 gu hm hSW hsz hk0 e3;exact bodyPost_ret (v:= .tuple #[.agg (fP n.id n.par a_k n.kids.length aK (n.next+1) av RL.length cv a6 (n.out.length+1) c6 eH n.seen.length aL n.old gH n.reqs.length aU),.slice (some ⟨z.heap.size,0,none⟩) 1 1,.int .i64 0]) Adb rfl ⟨⟨a_k,av,a6,eH,gH,aK,cv,c6,aL,aU⟩,some ⟨z.heap.size,0,none⟩,1,by rw [ah HNV],HFI.1,HFI.2.1,HFI.2.2.1,HFI.2.2.2⟩):P:=h
theorem au5.AdY(h:P:=by
 refine aH 5 rfl Aab Aad ?_;go_simp;refine aH 6 rfl Aab Aad ?_;go_simp;refine aH 7 rfl Aab Aad ?_;go_simp;refine wpAny_done Aab ?_;go_simp;clear d0 d1 d2 d3 d4 d5 d6 d7 d8 f0 f1 f2 f3 f4 f5 f6 f7 f8 hrl;go_wp2_with fail;refine aW (λW' hW'=>?_)
 have e4:W'.heap[w.heap.size+1]?=some (.cells (fP n.id n.par a_k n.kids.length aK (n.next+1) av RL.length cv a6 (n.out.length+1) c6 eH n.seen.length aL n.old gH n.reqs.length aU) 40 (0,0)):=by
  rw [hW'];exact GR.setW_blk (fP n.id n.par a_k n.kids.length aK (n.next+1) av RL.length cv a6 (n.out.length+1) c6 eH n.seen.length aL n.old gH n.reqs.length aU).toList (o:=0) (xs:=gN.toList) xL
 have gu:aC [w.heap.size+1] z2 W':=by
  rw [hW'];exact aM (fP n.id n.par a_k n.kids.length aK (n.next+1) av RL.length cv a6 (n.out.length+1) c6 eH n.seen.length aL n.old gH n.reqs.length aU).toList z2 0
 have HFI:=Hq (CV W' z.heap.size ((aC.of_below HZ2).trans gu) (gu.obj HM2 (λhm=>by have:z.heap.size=w.heap.size+1:=Aaz;omega)) Aaa);obtain⟨x0,x1,x2,x3,x4,x5,x6,x7,x8⟩:=nine e4;clear hW' e4 gu;exact bodyPost_ret (v:= .tuple #[.agg (fP n.id n.par a_k n.kids.length aK (n.next+1) av RL.length cv a6 (n.out.length+1) c6 eH n.seen.length aL n.old gH n.reqs.length aU),.slice (some ⟨z.heap.size,0,none⟩) 1 1,.int .i64 0]) Adb rfl ⟨⟨a_k,av,a6,eH,gH,aK,cv,c6,aL,aU⟩,some ⟨z.heap.size,0,none⟩,1,by rw [ah HNV],HFI.1,HFI.2.1,HFI.2.2.1,HFI.2.2.2⟩):P:=h
theorem agL(h:P:=by
 have hnl:=aA HN;have hol:=aA HO;go_wp2_with fail;refine(nW W1 HB1).mono ?_;rintro e W2 ⟨rfl,hb2⟩;have jQ:=Hq (au HN hb2);have Gn:=Hq (au HO hb2);have jC:=Hq (au HR hb2);have HB2:=Hq (HB1.trans (hb2.mono HB1.size));clear hb2 c0 c1 c2 c3 c4 c5 c6 c7 c8 p0 p1 p2 p3 p4 p5 p6 p7 p8 p9 nX hnl hol nW HN HO HR HB1;exact Adt):P:=h
theorem au6.Adt(h:P:=by
 obtain⟨⟨p0,p1,p2,p3,p4,p5,p6,p7,p8,p9,nX⟩,_⟩:=aO Gn;have hol:=aA Gn;go_wp2_with fail;refine(Ec W2).mono ?_;rintro e W4 ⟨rfl,hb4⟩;have CY:=Hq (au jQ hb4);have aku:=Hq (au Gn hb4);have yR:=Hq (au jC hb4);have gY:=Hq (HB2.trans (hb4.mono HB2.size));clear hb4 p0 p1 p2 p3 p4 p5 p6 p7 p8 p9 nX hol Ec jQ Gn jC HB2;obtain⟨c0,c1,c2,c3,c4,c5,c6,c7,c8⟩:=nine CY;have hnl:=aA CY;go_wp2_with fail;refine(Ng W4 gY).mono ?_;exact AfJ):P:=h
theorem au7.Adt(h:P:=by
 obtain⟨c0,c1,c2,c3,c4,c5,c6,c7,c8⟩:=nine jQ;have hnl:=aA jQ;go_wp2_with fail;refine(Ng W2 HB2).mono ?_;rintro e W3 ⟨A1,G1,cc,rfl,Zp,hb3,_,_⟩;have lK:=Hq (au jC hb3);have HB3:=Hq (HB2.trans (hb3.mono HB2.size));have lI:=Hq Zp;have hrs:=aA jC;clear hb3 Zp c0 c1 c2 c3 c4 c5 c6 c7 c8 hnl Ng jQ Gn jC;exact aBn):P:=h
theorem agM(h:P:=by
 obtain⟨d0,d1,d2,d3,d4,d5,d6,d7,d8⟩:=nine lK;have f0:=aj lK 0;have f1:=aj lK 1;have f2:=aj lK 2;have f3:=aj lK 3;have f4:=aj lK 4;have f5:=aj lK 5;have f6:=aj lK 6;have f7:=aj lK 7;have f8:=aj lK 8;have hrl:=aA lK;go_wp2_with fail;refine aW (λW' hW'=>?_);exact Aek):P:=h
theorem au8.Aek(h:P:=by
 have e4:W'.heap[w.heap.size+2]?=some (.cells (dH N1 A1) 40 (0,0)):=by
  rw [hW'];exact GR.setW_blk (dH N1 A1).toList (o:=0) (xs:=gN.toList) lK
 have gu:aC [w.heap.size+2] W3 W':=by
  rw [hW'];exact aM (dH N1 A1).toList W3 0
 have HAT:=Hq (λW'' (ho:Out c w W' W'')=>(show RM W'' A1 N1 from(by
  obtain⟨F,hk,hF⟩:=ho
  exact Zv _ ⟨(w.heap.size+2)::F,aC.trans (b:=W') (gu.mono (λx hx=>Aav)) (hk.mono (λx hx=>Aaj)),λy hy=>by
   rcases List.mem_cons.1 hy with h1|h1
   .exact VB
   .exact⟨Nat.lt_of_lt_of_le (hF y h1).1 h02,by rw [fq (hF y h1).1];exact(hF y h1).2⟩⟩)))
 have HMT:=Hq (λW'' (ho:Out c w W' W'')=>(show GR.At lu 7 W'' ma L1 from(by
  obtain⟨F,hk,hF⟩:=ho
  exact adU _ ⟨(w.heap.size+2)::F,aC.trans (b:=W') (gu.mono (λx hx=>Aav)) (hk.mono (λx hx=>Aaj)),λy hy=>by
   rcases List.mem_cons.1 hy with h1|h1
   .exact VB
   .exact⟨Nat.lt_of_lt_of_le (hF y h1).1 h02,by rw [fq (hF y h1).1];exact(hF y h1).2⟩⟩)))
 have ow:Hid (Below B w W'):=HB3.trans (gu.below (λx hx=>by have:x=w.heap.size+2:=Aaf;omega) (Nat.le_trans hB HB3.size));have tq:=Hq (Apart.keeps (c:=c) HK3 HB3.size gu (λx hx=>by have:x=w.heap.size+2:=Aaf;omega));obtain⟨x0,x1,x2,x3,x4,x5,x6,x7,x8⟩:=nine e4;clear hW' e4 gu;exact bodyPost_ret (v:= .tuple #[(fQ N1 A1),.slice ma L1.length mc,.int .i64 Ch]) Abt rfl ⟨A1,ma,mc,rfl,HAT,HMT,ow,tq⟩):P:=h
theorem au9.Aek(h:P:=by
 have e4:W'.heap[w.heap.size+2]?=some (.cells (dH n A1) 40 (0,0)):=by
  rw [hW'];exact GR.setW_blk (dH n A1).toList (o:=0) (xs:=gN.toList) lK
 have hkc:KC cc 0 W3 W':=by
  rw [hW'];exact KC.setW (o:=0) (dH n A1).toList (lI.lo _ hrs)
 have HAT:=Hq (λW'' (ho:Dw w W' W'')=>((lI.kc0 hkc).kc0 (ho.kc (λx hx=>lI.lo x Aaa))).rm)
 have ow:Hid (aI w W'):=by
  rw [hW'];exact GR.setW_below Aaa (dH n A1).toList (o:=0) HB3
 obtain⟨x0,x1,x2,x3,x4,x5,x6,x7,x8⟩:=nine e4;clear hW' e4 hkc;exact bodyPost_ret (v:= .tuple #[(fQ n A1),.slice (some ⟨W0.heap.size,0,none⟩) 0 0,.int .i64 3]) Aay rfl ⟨A1,some ⟨W0.heap.size,0,none⟩,0,rfl,HAT,λW'' _ i hi=>Aat,ow⟩):P:=h
theorem agN(h:P:=by
 obtain⟨d0,d1,d2,d3,d4,d5,d6,d7,d8⟩:=nine jD;have f0:=aj jD 0;have f1:=aj jD 1;have f2:=aj jD 2;have f3:=aj jD 3;have f4:=aj jD 4;have f5:=aj jD 5;have f6:=aj jD 6;have f7:=aj jD 7;have f8:=aj jD 8;have hrl:=aA jD;go_wp2_with fail;refine aW (λW' hW'=>?_);exact Afg):P:=h
theorem ava.Afg(h:P:=by
 have e4:W'.heap[w.heap.size+2]?=some (.cells (dH n A1) 40 (0,0)):=by
  rw [hW'];exact GR.setW_blk (dH n A1).toList (o:=0) (xs:=gN.toList) jD
 have gu:aC [w.heap.size+2] W5 W':=by
  rw [hW'];exact aM (dH n A1).toList W5 0
 have HAT:=Hq (λW'' (ho:Dw w W' W'')=>((RV.kc (k:=9) (KC.keeps gu (λx hx=>by have:x=w.heap.size+2:=Aaf;rw [this];exact Gl)) Aaa).kc (k:=9) (ho.kc (λx hx=>Zz x Aaa)) Aaa).rm);open az1 in exact aib):P:=h
theorem avb.Afg(h:P:=by
 have e4:W'.heap[w.heap.size+2]?=some (.cells (dH N1 A2) 40 (0,0)):=by
  rw [hW'];exact GR.setW_blk (dH N1 A2).toList (o:=0) (xs:=gN.toList) jD
 have gu:aC [w.heap.size+2] W5 W':=by
  rw [hW'];exact aM (dH N1 A2).toList W5 0
 have HAT:=Hq (λW'' (ho:Dw w W' W'')=>Zv W'' (ho.out (c:=c) (gu) hrx Zz));have HMT:=Hq (λW'' (ho:Dw w W' W'')=>adU W'' (ho.out (c:=c) (gu) hrx Zz));open az0 in exact aib):P:=h
theorem agO(h:P:=by
 have hno:∀(listed:Array Bool),qB md ops listed->i∈Region.ready md ops listed->E∉Region.ready md ops listed:=λlisted hcl hr hEr=>by
  have h3:=Ep hcl hEr n i hE
  have h4:=(mem_ready.1 hr).1
  rcases Nat.lt_or_ge i listed.size with h'|h'
  .simp[h'] at h3 h4;rw [h4] at h3;cases h3
  .simp[Array.getElem?_eq_none h'] at h3
 intro fuel;exact AdU):P:=h
theorem avc.AdU(h:P:=by
 induction fuel with
 |zero=>
  intro listed a w hcl _ hr hy H;refine λx hx=>⟨λh=>Abh,λj hj=>⟨λe=>absurd (e▸hj) (hno listed hcl hr),λ_=>?_⟩⟩
  by_cases hji:j=i
  .exact ajS
  .exact Vz
 |succ fuel ih=>
  intro listed a w hcl hfree hr hy H;refine λx hx=>⟨λh=>Abh,λj hj=>⟨λe=>absurd (e▸hj) (hno listed hcl hr),λhjE=>?_⟩⟩
  by_cases hji:j=i
  .exact ajS
  .have h1:=((H x hx).2 j (ready_mono hj hji)).2 hjE;exact aBo):P:=h
theorem avd.AdU(h:P:=by
 induction fuel with
 |zero=>
  intro listed a w hb hcl _ hr hy H;refine λx hx=>⟨λh=>Abh,λj hj=>⟨λe=>absurd (e▸hj) (hno listed hcl hr),λ_=>?_⟩⟩
  by_cases hji:j=i
  .exact ajn
  .exact Vz
 |succ fuel ih=>
  intro listed a w hb hcl hfree hr hy H;refine λx hx=>⟨λh=>Abh,λj hj=>⟨λe=>absurd (e▸hj) (hno listed hcl hr),λhjE=>?_⟩⟩
  by_cases hji:j=i
  .exact ajn
  .have h1:=((H x hx).2 j (ready_mono hj hji)).2 hjE;open aoH in exact akK):P:=h
theorem agP(h:P:=by
 obtain⟨g,off,rfl,hgw,c0,c1,c2,c3⟩:=aG.four (GR.At.below HA cZ) 0 hlt;simp only[Nat.zero_mul,Nat.add_zero] at c0 c1 c2 c3;have hgt:decide ((0:Int) < ((0:Nat):Int))=false:=rfl;have nM:=Hq hat;have iG:=Hq (pR (nQ l) 0);clear hat;generalize l[0]=pu at *;exact AeL):P:=h
theorem ave.AeL(h:P:=by
 cases hpo:iD pu
 .have HO:=Hq (λw1=>oW pu false w1 hpo);have HBAD:=Hq (nS hlt (show nQ l 0=false by rw [ah nM,hpo];rfl));clear nM iG hpo;obtain⟨pk,pm,pf,ps⟩:=pu;dsimp only at c0 c1 c2 c3;open aoo in exact aaO
 .have HO:=Hq (λw1=>oW pu true w1 hpo);have Eb:=Hq (show nQ l 0=true by rw [ah nM,hpo];rfl);clear nM hpo;obtain⟨pk,pm,pf,ps⟩:=pu;dsimp only at c0 c1 c2 c3;open aon in exact aaO):P:=h
theorem avf.AeL(h:P:=by
 obtain⟨pk,pm,pf,ps⟩:=pu;dsimp only at c0 c1 c2 c3 hks;cases hkb:keyOk pk.data.toList
 .have HB:=Hq hkb;have HBAD:=Hq (nS hlt (show nQ l 0=false by rw [ah nM];simp[iD,ah HB]));clear nM iG;have hkb':=ah HB;exact Zk3
 have hkb':=hkb;by_cases h1:0<=pm/\pm<=1000000000
 case' neg=>
  have hA:qy pm=false:=decide_eq_false h1;have g1:decide (xM pm 0 1000000000)=false:=decide_eq_false h1;exact aeF
 have g1:decide (xM pm 0 1000000000)=true:=decide_eq_true h1;have hA1:qy pm=true:=decide_eq_true h1;by_cases h2:0<=pf/\pf<=1000000000
 case' neg=>
  have hA:qy pf=false:=decide_eq_false h2;have g2:decide (xM pf 0 1000000000)=false:=decide_eq_false h2;exact aeF
 have g2:decide (xM pf 0 1000000000)=true:=decide_eq_true h2;have hA2:qy pf=true:=decide_eq_true h2;by_cases h3:0<=ps/\ps<=1000000000
 case' neg=>
  have hA:qy ps=false:=decide_eq_false h3;have g3:decide (xM ps 0 1000000000)=false:=decide_eq_false h3;exact aeF
 open azz in exact ah5):P:=h
theorem agQ(h:P:=by
 obtain⟨d0,d1,d2,d3,d4,d5,d6,d7,d8⟩:=nine Nn;have f0:=aj Nn 0;have f1:=aj Nn 1;have f2:=aj Nn 2;have f3:=aj Nn 3;have f4:=aj Nn 4;have f5:=aj Nn 5;have f6:=aj Nn 6;have f7:=aj Nn 7;have f8:=aj Nn 8;have hrl:=aA Nn;go_simp;exact AdW):P:=h
theorem avg.AdW(h:P:=by
 have hkx:aC [w.heap.size+2] x (GR.setW x (w.heap.size+2) 0 (dH n A1).toList):=aM (dH n A1).toList x 0;refine⟨hkx.below (λx hx=>by have:x=w.heap.size+2:=Aaf;omega) (by have:=aA Nn;omega),?_⟩;have RH:=Hq ((aC.of_below hx).trans hkx);have HR1:=Hq (GR.setW_blk (dH n A1).toList (o:=0) (xs:=gN.toList) Nn);clear hx hkx d0 d1 d2 d3 d4 d5 d6 d7 d8 f0 f1 f2 f3 f4 f5 f6 f7 f8 hrl Nn;refine gL 10 rfl Aab Aad Aae (λy hy=>?_);go_simp;have sW:=Hq (RH.trans (aC.of_below hy));have HR2:=Hq (au HR1 hy);clear hy RH HR1;refine⟨(ay y _).mono (by have:=aA HR2;omega),?_⟩;refine oL Aab (λz hz=>?_);have Jc:=Hq (au (au HR2 (ay y (.cells (bX 0 n.id n.par 0 0 k nn) 98))) hz);have gu:aC [w.heap.size+2] X z:=sW.trans ((aC.of_below (ay y (.cells (bX 0 n.id n.par 0 0 k nn) 98))).trans (aC.of_below hz));have HMZ:=Hq (au (heap_alloc_new y (.cells (bX 0 n.id n.par 0 0 k nn) 98)) hz);have hmb:w.heap.size<=y.heap.size:=by have:=aA HR2;omega
 clear hz sW HR2;open ap4 in exact aAA):P:=h
theorem avh.AdW(h:P:=by
 have gu:aC [w.heap.size+2] y (GR.setW y (w.heap.size+2) 0 (dH n A1).toList):=aM (dH n A1).toList y 0;refine⟨gu.below (λx hx=>by have:x=w.heap.size+2:=Aaf;omega) (by have:=aA Nn;omega),?_⟩;clear gu d0 d1 d2 d3 d4 d5 d6 d7 d8 f0 f1 f2 f3 f4 f5 f6 f7 f8 hrl;refine oL Aab (λz hz=>?_);have Jc:=Hq (au (GR.setW_blk (dH n A1).toList (o:=0) (xs:=gN.toList) Nn) hz);have gu:aC [w.heap.size+2] X z:=(aC.of_below HY).trans ((aM (dH n A1).toList y 0).trans (aC.of_below hz));have HMZ:=Hq (au ((aM (dH n A1).toList y 0).obj HMY (λhm=>by have:x.heap.size=w.heap.size+2:=Aaz;omega)) hz);clear hz HY Nn HMY;have hmb:w.heap.size<=x.heap.size:=Aaa
 open ap5 in exact aAA):P:=h
theorem agR(h:P:=by
 clear hr hc2 hc3;go_in
 go_wp2_with (first|(go_at_call_of 100 F;refine(H1 _).mono ?_;rintro e w1 ⟨rfl,rfl⟩)|(go_at_call_of 100 T;refine(H2 _).mono ?_;rintro e w1 ⟨rfl,rfl⟩)|(go_at_call_of 52 k;refine(Gl _).mono ?_;rintro e w1 ⟨rfl,rfl⟩)|(go_at_call_of 49 N;refine(HC3 _).mono ?_;rintro e w1 ⟨rfl,rfl⟩))
 exact Adu):P:=h
theorem avi.Adu(h:P:=by
 go_ret;exact⟨aF (by first|exact HP.symm|exact he.trans HP.symm),ay w _⟩):P:=h
theorem avj.Adu(h:P:=by
 exact wP):P:=h
theorem agS(h:P:=by
 obtain⟨c0,c1,c2,c3,c4,c5,c6,c7,c8⟩:=nine AO;have k0:=cell_grown' c0;have k1:=cell_grown' c1;have k2:=cell_grown' c2;have k3:=cell_grown' c3;have k4:=cell_grown' c4;have k5:=cell_grown' c5;have k6:=cell_grown' c6;have k7:=cell_grown' c7;have k8:=cell_grown' c8;have m0:=cell_grown' d0;have m1:=cell_grown' d1;have m2:=cell_grown' d2;exact AeP):P:=h
theorem avk.AeP(h:P:=by
 have m3:=cell_grown' d3;have en:IntKind.i64.wrap (old+1)=old+1:=IntWalk.i64_in _ ⟨Aaa,Aaa⟩;go_cut [151] (λr wx=>r= .bool bb/\aI W1 wx)
 case first=>
  rcases CZ with⟨rfl,rfl⟩|⟨j,y,rfl,rfl,q1⟩
  .have hgt:decide ((0:Int) < ((0:Nat):Int))=false:=rfl;open aEo in exact Yk7
  .have hgt:decide ((0:Int) < ((j+1:Nat):Int))=true:=decide_eq_true Aaa;have m9:=cell_grown' q1;open aEn in exact Yk7
 case rest=>
  obtain⟨rfl,hbx⟩:=hcut;open awi in exact Vm):P:=h
theorem avl.AeP(h:P:=by
 go_cut [64] (λr wx=>r= .bool bb/\aI W1 wx)
 case first=>
  rcases CZ with⟨rfl,rfl⟩|⟨j,y,rfl,rfl,q1⟩
  .have hgt:decide ((0:Int) < ((0:Nat):Int))=false:=rfl;open aru in exact aAI
  .have hgt:decide ((0:Int) < ((j+1:Nat):Int))=true:=decide_eq_true Aaa;have m3:=cell_grown' q1;open ars in exact aAI
 case rest=>
  obtain⟨rfl,hbx⟩:=hcut;have HW2:=Hq (au HW1 hbx);open awh in exact Vm):P:=h
theorem agT(h:P:=by
 generalize iw n (L.take k)=m at *;generalize L[k]=oo at *;obtain⟨K,no,kk,nn,⟨mK,mF,mT,mI,mL,mk,mN⟩⟩:=oo;exact AeV):P:=h
theorem avm.AeV(h:P:=by
 dsimp only at s0 s1 s2 s3 s4 s5 s6 s7 s8 s9 s10;go_upto_region 7 with fail;refine wp_at (λV hV=>?_);have hbv:aI wr V:=by rw [hV];exact ay _ _
 have HV:=Hq (show V.heap[wr.heap.size]?=some (.cells (bY K no kk nn mK mF mT mI mL mk mN) 100 (0,0)) by rw [hV];exact heap_alloc_new _ _);have sW:=Hq (HK.step hbv);have afX:=Hq (HDk V W0 wb A2 G2 cc3 _ sW HE0);clear hV hbv HK HDk s0 s1 s2 s3 s4 s5 s6 s7 s8 s9 s10;obtain⟨⟨p0,p1,p2,p3,p4,p5,p6,p7,p8,p9,nX⟩,_⟩:=aO HV;go_wp2_with fail;refine afX.mono ?_;rintro e W3 ⟨rfl,A3,G3,cc4,v3,hK3⟩;have HK3:=Hq hK3;obtain⟨q0,q1,q2,q3,q4,q5,q6,q7,q8,q9⟩:=jH hK3.blk;have f9:=aj hK3.blk 9;clear hK3 afX sW HV p0 p1 p2 p3 p4 p5 p6 p7 p8 p9 nX q0 q1 q2 q3 q4 q5 q6 q7 q8;go_wp2_with fail;go_roundw
 case rel=>exact⟨k+1,Aaa,Aah,A3,G3,cc4,by have h:=HK3.mute;rw [ah HPk] at h;exact h⟩
 case measure=>simp[intOf];omega):P:=h
theorem avn.AeV(h:P:=by
 dsimp only at t0 t1 t2 t3 t4 t5 t6 t7 t8 t9 t10;obtain⟨m',Ms,code⟩:=RR;dsimp only at HPk;unfold jN at aea;dsimp only at aea;have hsz:=HS.siz;obtain⟨c0,c1,c2,c3,c4,c5,c6,c7,c8⟩:=nine HS.blk;have hbl:=aA HS.blk;have u0:=dB (b:=wr.heap.size) hbl c0;have u1:=dB (b:=wr.heap.size) hbl c1;have u2:=dB (b:=wr.heap.size) hbl c2;have u3:=dB (b:=wr.heap.size) hbl c3;have u4:=dB (b:=wr.heap.size) hbl c4;have u5:=dB (b:=wr.heap.size) hbl c5;have u6:=dB (b:=wr.heap.size) hbl c6;have u7:=dB (b:=wr.heap.size) hbl c7;have u8:=dB (b:=wr.heap.size) hbl c8;have x0:=dB (b:=wr.heap.size) hg1 t0;have x1:=dB (b:=wr.heap.size) hg1 t1;have x2:=dB (b:=wr.heap.size) hg1 t2;have x3:=dB (b:=wr.heap.size) hg1 t3;have x4:=dB (b:=wr.heap.size) hg1 t4;have x5:=dB (b:=wr.heap.size) hg1 t5;have x6:=dB (b:=wr.heap.size) hg1 t6;have x7:=dB (b:=wr.heap.size) hg1 t7;have x8:=dB (b:=wr.heap.size) hg1 t8;have x9:=dB (b:=wr.heap.size) hg1 t9;have x10:=dB (b:=wr.heap.size) hg1 t10;clear c0 c1 c2 c3 c4 c5 c6 c7 c8 t0 t1 t2 t3 t4 t5 t6 t7 t8 t9 t10;go_upto_region 6 with fail;go_cut [8] (λq wx=>∃qf A3,q= .pointer (some ⟨qf,0,none⟩)/\wx.heap[qf]?=some (.cells (dH m' A3) 40 (0,0))/\NL (w.heap.size+2) wx A3 m'/\aI wr wx)
 case first=>
  have hwb:wr.heap.size<=wr.heap.size:=Nat.le_refl _;refine mH 13 wr.heap.size Aab ?_;show jg _ _ _ _ _ _ 14 (Array.replicate 14 false) _ _
  refine tk [1,2,3,0,4] ?_;iterate 5 (refine tkB hwb (λK hK=>?_);go_simp;first|refine hK _ ?_|(apply Exists.intro;refine⟨λ_=>?_,hK _ ?_⟩;rfl);clear hK K)
  refine jK ?_;clear hwb u0 u1 u2 u3 u4 u5 u6 u7 u8 x0 x1 x2 x3 x4 x5 x6 x7 x8 x9 x10;have HG0:=Hq (Below.refl wr.heap.size wr);refine jY 5 10 rfl rfl Aab Aad Aad Aae Aae (λx5 hx5=>?_) (λx10 KY=>?_)
  .have HG:=Hq (Ge.trans HG0 hx5);open atu in exact agn
  .have IU:=Hq (Ge.trans HG0 KY);go_simp;refine⟨(ay x10 _).mono IU.size,?_⟩;have hqV:wr.heap.size<=x10.heap.size:=IU.size;have aDv:=Hq (Ge.trans IU (ay x10 (.cells gN 40)));have HQ1:=Hq (heap_alloc_new x10 (.cells gN 40));clear KY;generalize x10.heap.size=qf at *;refine gL 5 rfl Aab Aad Aae (λx5 hx5=>?_);have HG:=Hq (Ge.trans aDv hx5);have HQ:=Hq (au HQ1 hx5);open att in exact agn
 case rest=>
  obtain⟨qf,A3,rfl,hblk,hNL,hbx⟩:=hcut;have HS2:=Hq (HS.step hbx);have HNL:=Hq hNL;have hB:w.heap.size+2<=B:=hsw;obtain⟨c0,c1,c2,c3,c4,c5,c6,c7,c8⟩:=nine hblk;have hql:=aA hblk;clear hblk hNL hbx HS aea u0 u1 u2 u3 u4 u5 u6 u7 u8 x0 x1 x2 x3 x4 x5 x6 x7 x8 x9 x10;obtain⟨d0,d1,d2,d3,d4,d5,d6,d7,d8⟩:=nine HS2.blk;have f0:=aj HS2.blk 0;have f1:=aj HS2.blk 1;have f2:=aj HS2.blk 2;have f3:=aj HS2.blk 3;have f4:=aj HS2.blk 4;have f5:=aj HS2.blk 5;have f6:=aj HS2.blk 6;have f7:=aj HS2.blk 7;have f8:=aj HS2.blk 8;have hnl:=aA HS2.blk;go_wp2_with fail;go_roundw
  case rel=>exact⟨k+1,Aaa,Aah,A3,by rw [ah HPk];exact HS2.put hB HNL⟩
  case measure=>simp[intOf];omega):P:=h
theorem agU(h:P:=by
 clear HR;clear ho hk hn;go_in
 go_wp2_with (first|(go_at_call_of 169 no;refine(HO _).mono ?_;rintro e w1 ⟨rfl,rfl⟩)|(go_at_call_of 204 k;refine(HK _).mono ?_;rintro e w1 ⟨rfl,rfl⟩)|(go_at_call_of 169 n;refine(HN _).mono ?_;rintro e w1 ⟨rfl,rfl⟩))
 exact AdH):P:=h
theorem avo.AdH(h:P:=by
 go_region
 go_upto_region 23 with fail;open axg in exact Vo):P:=h
theorem avp.AdH(h:P:=by
 go_ret;exact⟨aF (by rw [ah HP];simp),by first|exact jy w _ _|exact Below.setNew (jy w _ _) Aaa⟩):P:=h
theorem Vj(h:P:=by
 have hlo:=h.o.lt;have lI:=Hq (h.nine hB);clear h;go_in
 go_upto_region 1 with fail;refine wp_at (λW0 hW=>?_);exact AbL):P:=h
theorem avq.AbL(h:P:=by
 obtain⟨e1,e2,e3⟩:=iA w (.cells (dH n A) 40) (.cells gN 40);open aoV in exact akL):P:=h
theorem avr.AbL(h:P:=by
 obtain⟨e1,e2,e3⟩:=iA w (.cells (dH n A) 40) (.cells gN 40);open axR in exact ahy):P:=h
theorem avs.AbL(h:P:=by
 obtain⟨e1,e2,e3⟩:=iA w (.cells (dH n (⟨a_k,(some ⟨gp,0,none⟩),dW,eH,gH,aK,bJ,aQ,aL,aU⟩:bV)) 40) (.cells gN 40);open aoW in exact akL):P:=h
theorem avt.AbL(h:P:=by
 obtain⟨e1,e2,e3⟩:=iA w (.cells (dH n (⟨a_k,jl,dW,eH,gH,aK,bJ,aQ,aL,aU⟩:bV)) 40) (.cells gN 40);open aoX in exact akL):P:=h
theorem agV(h:P:=by
 have hp0:w1.cell? ⟨w.heap.size,0,none⟩=some (.string pk):=by rw [cell_of_row w1 _ _ _ _ (0,0) (ah yQ)];rfl
 exact Aer):P:=h
theorem avu.Aer(h:P:=by
 go_upto_region 7 with fail;go_cut [51] (λr wx=>r= .bool (found l pk)/\∃q,wx=w1.drewN q)
 case first=>
  by_cases hlt:place l pk < l.length
  .have hf:found l pk=(l[place l pk].k.toList == pk.toList):=by
    unfold found;rw [jA,List.drop_eq_getElem_cons hlt]
   obtain⟨g1,o1,e1,hg1,s0,s1,s2,s3⟩:=aG.four (GR.At.below HA HB1) (place l pk) hlt;open azk in exact ah1
  .have hf:found l pk=false:=by
    unfold found;rw [jA,List.drop_eq_nil_of_le Aaa]
   have HF:=Hq hf;have hpos:decide (0 < l.length - place l pk)=false:=decide_eq_false Aaa;have aGb:l.length - place l pk=0:=Aaa
   clear hf;go_quiet (fail);go_wp2_with fail;go_meet
   case rel=>exact⟨by rw [ah HF],_,Bc w1 _ _⟩
 case rest=>
  obtain⟨rfl,q2,rfl⟩:=hcut;go_upto_if 51 with fail;go_cut [9] (λr wx=>∃(ad':Addr) (cc:Nat),r= .slice (some ad') (kJ l pk).length cc/\aG w1 (some ad') (kJ l pk)/\∃q,wx=w1.drewN q)
  case first=>
   have HA1:=Hq (GR.At.below HA HB1);cases hf:found l pk
   .have Ei:=Hq (tail_not hf);have HAE:=Hq hAe;clear hAe hAd;go_wp2_with fail;go_meet
    case rel=>
     refine⟨ad,cap - place l pk,by rw [ah Ei,List.length_drop],?_,_,rfl⟩;rw [ah Ei];by_cases hlt:place l pk < l.length
     .rw [ah HAE hlt];exact UG HA1 (place l pk)
     .exact UH (List.drop_eq_nil_of_le Aaa)
   .obtain⟨hlt,htl⟩:=tail_found hf;have Ei:=Hq htl;have hae:=hAe hlt;subst hae;clear htl hAe hAd
    obtain⟨ad2,aG3,aFx⟩:∃ad2:Addr,(if cap - place l pk=1 then some (⟨b,off+place l pk*4,none⟩:Addr) else some ⟨b,off+place l pk*4+4,none⟩)=some ad2/\(place l pk+1 < l.length->ad2=⟨b,off+place l pk*4+4,none⟩):=by
     by_cases h:cap - place l pk=1
     .rw [if_pos h];exact⟨_,rfl,λh2=>Aaa⟩
     .rw [if_neg h];exact⟨_,rfl,λ_=>rfl⟩
    have hone:1<=l.length - place l pk:=Aaa
    go_wp2_with fail;go_meet
    case rel=>
     refine⟨ad2,cap - place l pk - 1,by rw [ah Ei,List.length_drop,Nat.sub_sub],?_,_,rfl⟩;rw [ah Ei];by_cases hlt2:place l pk+1 < l.length
     .rw [aFx hlt2];have:=UG HA1 (place l pk+1);rwa [show off+(place l pk+1)*4=off+place l pk*4+4 by omega] at this
     .exact UH (List.drop_eq_nil_of_le Aaa)
  case rest=>
   obtain⟨ad',cc,rfl,hta,q3,rfl⟩:=hcut;obtain⟨i0,hi,hz0,hz1,hz2⟩:=info_parts ET;obtain⟨hpf,hpn⟩:=put_flat l ⟨pk,pm,pf,ps⟩;have htl:(l.take (place l pk)).length=place l pk:=Aag
   have hkt:∀q∈je l ⟨pk,pm,pf,ps⟩,q.k.size<=maxLen:=λq hq=>by
    rcases put_mem' hq with rfl|hq
    .exact hpk
    .exact hk q hq
   go_upto_region 9 with fail;refine Fo.wp_at (λV hV=>?_);have Rx:w.heap.size < V.heap.size:=by rw [hV];exact Fo.lt_of_blk yQ
   have vW:=Hq (show aI w V by rw [hV];exact HB1.trans ⟨rfl,rfl,rfl,Nat.le_refl _,λ_ _=>rfl⟩);have hblk:V.heap[w.heap.size]?=some (.cells (iZ pk pm pf ps) 108 (0,0)):=by rw [hV];exact yQ
   have HTA:=Hq (show aG V (some ad') (kJ l pk) by rw [hV];exact hta);obtain⟨⟨c0,c1,c2,c3⟩,_⟩:=gD hblk;have WE:=Hq (λX (hb:aI V X)=>aG.news (GR.At.below HTA hb));have Nf:=Hq (λX (hb:aI V X)=>LA (some ⟨b,off,none⟩) cap (l.take (place l pk)) X Aaa (λh=>Aau) (GR.At.below (adM (GR.At.below HA vW) _) hb));have HCA:=Hq (λX (hb:aI w X)=>LA (some ⟨b,off,none⟩) cap l X Aaa (λh=>Aau) (GR.At.below HA hb));have HPF:=Hq hpf;have HPN:=Hq hpn;rw [htl] at Nf;have hnw:w.heap.size≠V.heap.size:=Aaa
   have hmw:V.heap.size≠w.heap.size:=Aaa
   have aGY:(kJ l pk).length<=20:=by
    have h3:=tail_len l pk;omega
   clear hV hblk hta hp0 nW yQ htl hAd hAe hpf hpn
   go_region_held_law (λw'=>w'.cell? ⟨w.heap.size,0,none⟩=some (.string pk)/\w'.cell? ⟨w.heap.size,1,none⟩=some (.int .i64 pm)/\w'.cell? ⟨w.heap.size,2,none⟩=some (.int .i64 pf)/\w'.cell? ⟨w.heap.size,3,none⟩=some (.int .i64 ps)) (go_keep)
    (first
     |((go_at_call 80);(refine(Nf _ (by exact⟨rfl,rfl,rfl,Aac,λk hk=>by first|rfl|exact Below.heap_alloc _ _ _ hk⟩)).mono ?_);(rintro e w4 ⟨vc,rfl,hv4,zC,hb4⟩);(have hs4:=hb4.size);(try simp at hs4);(have nK:=Hq (show aI V w4 from Below.trans (b:=_) (by exact⟨rfl,rfl,rfl,Aac,λk hk=>by first|rfl|exact Below.heap_alloc _ _ _ hk⟩) (hb4.mono Aac)));(have HO4:=Hq (own_lower (b':=V.heap.size) zC Aac));(first|(guard_hyp hs4:V.heap.size+1<=w4.heap.size;have HN4:=Hq (Fo.one_block (show Below (V.alloc (.cells (iZ pk pm pf ps) 108)).heap.size (V.alloc (.cells (iZ pk pm pf ps) 108)) w4 from⟨hb4.os,hb4.tape,hb4.output,hb4.size,hb4.block⟩)).1)|skip);(have d0:=(nK.cell (p:=⟨w.heap.size,0,none⟩) Rx).trans c0);(have d1:=(nK.cell (p:=⟨w.heap.size,1,none⟩) Rx).trans c1);(have d2:=(nK.cell (p:=⟨w.heap.size,2,none⟩) Rx).trans c2);(have d3:=(nK.cell (p:=⟨w.heap.size,3,none⟩) Rx).trans c3);(have hn4:w.heap.size≠w4.heap.size:=by omega);(have hm4:w4.heap.size≠w.heap.size:=by omega);(clear hb4 zC hv4))
     |((guard_hyp hs4:V.heap.size+1<=w4.heap.size);(refine oq _ rfl (.tmp 57) (.tmp 59) 35 rfl V.heap.size 108 i0 (.agg (iZ ByteArray.empty 0 0 0)) 4 40 underlying35 hi hz0 hz1 hz2 rfl Aae vc (place l pk) (GR.flat gB (l.take (place l pk))) Aal HO4 ⟨V.heap.size,0,none⟩ 1 1 (gB ⟨pk,pm,pf,ps⟩) Aal rfl (World.news_of_block HN4) (Jk ⟨pk,pm,pf,ps⟩) Aai Aaa nK.size ?_);(intro v5 w5 hown5 hgr5 EJ);(have Nj:=Hq hown5);(have HV5:=Hq (show v5≠ .slice none 0 0 by first|exact EJ|exact λh=>absurd (EJ.1 h).2 Aae));(have gY:=Hq (show aI V w5 from nK.trans (tQ hgr5 (λk e=>(HO4.lt k e).1) nK.size)));(have e0:=(gY.cell (p:=⟨w.heap.size,0,none⟩) Rx).trans c0);(have e1:=(gY.cell (p:=⟨w.heap.size,1,none⟩) Rx).trans c1);(have e2:=(gY.cell (p:=⟨w.heap.size,2,none⟩) Rx).trans c2);(have e3:=(gY.cell (p:=⟨w.heap.size,3,none⟩) Rx).trans c3);(clear hown5 hgr5 EJ))
     |((guard_hyp hs4:V.heap.size<=w4.heap.size);(refine oq _ rfl (.tmp 57) (.tmp 59) 35 rfl V.heap.size 108 i0 (.agg (iZ ByteArray.empty 0 0 0)) 4 40 underlying35 hi hz0 hz1 hz2 rfl Aae vc (place l pk) (GR.flat gB (l.take (place l pk))) Aal (HO4.alloc _) ⟨w4.heap.size,0,none⟩ 1 1 (gB ⟨pk,pm,pf,ps⟩) Aal rfl (World.news_of_block (heap_alloc_new w4 _)) (Jk ⟨pk,pm,pf,ps⟩) Aai Aaa (Nat.le_trans nK.size Aac) ?_);(intro v5 w5 hown5 hgr5 EJ);(have Nj:=Hq hown5);(have HV5:=Hq (show v5≠ .slice none 0 0 by first|exact EJ|exact λh=>absurd (EJ.1 h).2 Aae));(have gY:=Hq (show aI V w5 from(nK.alloc nK.size _).trans (tQ hgr5 (λk e=>(HO4.lt k e).1) (Nat.le_trans nK.size Aac))));(have e0:=(gY.cell (p:=⟨w.heap.size,0,none⟩) Rx).trans c0);(have e1:=(gY.cell (p:=⟨w.heap.size,1,none⟩) Rx).trans c1);(have e2:=(gY.cell (p:=⟨w.heap.size,2,none⟩) Rx).trans c2);(have e3:=(gY.cell (p:=⟨w.heap.size,3,none⟩) Rx).trans c3);(clear hown5 hgr5 EJ))
     |((refine oq _ rfl (.tmp 60) (.tmp 61) 35 rfl V.heap.size 108 i0 (.agg (iZ ByteArray.empty 0 0 0)) 4 40 underlying35 hi hz0 hz1 hz2 rfl Aae v5 (place l pk+1) (GR.flat gB (l.take (place l pk))++gB ⟨pk,pm,pf,ps⟩) Abz Nj ad' (kJ l pk).length cc (GR.flat gB (kJ l pk)) Abz (GR.flat_length gB 4 aZ _) (WE _ gY) (Ew _) Aai Aaa gY.size ?_);(intro v6 w6 hown6 qz Pd);(have wL:=Hq (show aI V w6 from gY.trans (tQ qz (λk e=>(Nj.lt k e).1) gY.size)));(have HV6:=Hq (show v6≠ .slice none 0 0 by first|exact λh=>HV5 (Pd.1 h).1|exact λh=>HV5 (Pd h).1));(rw [ah HPF,ah HPN] at hown6);(obtain⟨a6,cap6,rfl,aCk⟩:=GR.own_at aZ hown6);(have HO6:=Hq hown6);(have HT6:=Hq aCk);(have f0:=(wL.cell (p:=⟨w.heap.size,0,none⟩) Rx).trans c0);(have f1:=(wL.cell (p:=⟨w.heap.size,1,none⟩) Rx).trans c1);(have f2:=(wL.cell (p:=⟨w.heap.size,2,none⟩) Rx).trans c2);(have f3:=(wL.cell (p:=⟨w.heap.size,3,none⟩) Rx).trans c3);(clear hown6 qz Pd aCk))
     |fail)
   all_goals
    have aj5:(je l ⟨pk,pm,pf,ps⟩).length<=1048600:=by have:=ah HPN;omega
    have amE:=Hq (vW.trans (wL.mono Aaa))
    have Z4:=Hq (oJ a6 cap6 (je l ⟨pk,pm,pf,ps⟩) w6 aj5 hkt HT6)
    clear aj5 d0 d1 d2 d3 e0 e1 e2 e3 f0 f1 f2 f3 c0 c1 c2 c3 WE Nf
    go_wp2_with fail
    refine Z4.mono ?_
    rintro e w7 ⟨rfl,uU⟩
    have Dx:=Hq (amE.trans (uU.mono amE.size))
    have HO7:=Hq (own_lower (b':=w.heap.size) (HO6.kept (row:=none) ⟨uU.os,uU.tape,uU.output,uU.size,λk hk _=>uU.block k hk⟩ (acY _)) Aaa)
    clear uU Z4
    cases hps:jh (je l ⟨pk,pm,pf,ps⟩)
    .have HWF:=Hq (show qX l ⟨pk,pm,pf,ps⟩ n=(l,false) by rw [ah HW,hps];rfl);have HCX:=Hq (HCA _ Dx);clear hps HW HCA;go_wp2_with fail;refine HCX.mono ?_;rintro e w8 ⟨v8,rfl,hv8,Pe,GD⟩;have HV8:=Hq hv8;have HO8:=Hq (own_lower (b':=w.heap.size) Pe Dx.size);have J7:=Hq (Dx.trans (GD.mono Dx.size));clear Pe GD hv8;go_wp2_with fail;rw [ah HWF];exact bodyPost_ret (v:= .tuple #[v8,.bool false]) Acy rfl ⟨v8,rfl,HV8,HO8,J7⟩
    .have HWF:=Hq (show qX l ⟨pk,pm,pf,ps⟩ n=(je l ⟨pk,pm,pf,ps⟩,true) by rw [ah HW,hps];rfl);clear hps HW HCA;go_wp2_with fail;rw [ah HWF];exact bodyPost_ret (v:= .tuple #[.slice a6 (je l ⟨pk,pm,pf,ps⟩).length cap6,.bool true]) Acy rfl ⟨_,rfl,HV6,HO7,Dx⟩):P:=h
theorem avv.Aer(h:P:=by
 by_cases hlt:k < l.length
 .obtain⟨g1,o1,e1,hg1,s0,s1,s2,s3⟩:=aG.four (GR.At.below HA HB1) k hlt;open azj in exact ah1
 .open apB in exact xP):P:=h
theorem aau(h:P:=by
 obtain⟨hil,ae7⟩:=(nT n.reqs o.no).1 hf;have hgd:n.reqs.getD (dS n.reqs o.no) default=n.reqs[dS n.reqs o.no]:=by rw [List.getD_eq_getElem?_getD,List.getElem?_eq_getElem hil];rfl
 exact Ab7):P:=h
theorem avw.Ab7(h:P:=by
 rw [hgd] at hs ⊢;open axV in exact aaG):P:=h
theorem avx.Ab7(h:P:=by
 have hR:fU n o.no o.k o.n=(n,if FE n.reqs[dS n.reqs o.no] o.k o.n=true then 0 else 1):=by
  unfold fU;rw [if_neg hc,if_pos hf,hgd]
 have HSQ:=Hq (show FE n.reqs[dS n.reqs o.no] o.k o.n=((n.reqs[dS n.reqs o.no].k.toList == o.k.toList)&&decide (n.reqs[dS n.reqs o.no].n=o.n)&&decide (n.reqs[dS n.reqs o.no].s=0)) by unfold FE;rw [Bool.and_assoc,Bool.and_comm]);have HAD:=Hq hR;generalize fU n o.no o.k o.n=RES at *;have hd:decide (o.no<=n.old)=false:=decide_eq_false hc;open axU in exact aaG):P:=h
theorem avy.Ab7(h:P:=by
 rw [hgd] at hs;open axT in exact aaG):P:=h
theorem agW(h:P:=by
 rw [hL1] at Jr;subst Jr;clear XF Tp EI ab4;refine gL 13 rfl Aab Aad Aae (λx5 hx5=>?_);have Nv:=Hq (ZE.trans (hx5.mono ZE.size));have Pj:wc.heap.size<=x5.heap.size:=Nv.size;have Oe:=Hq (GR.own_below R8 hx5);have NI:=Hq (au ad9 hx5);clear hx5;exact AeA):P:=h
theorem avz.AeA(h:P:=by
 obtain⟨v5,y5,KW,GL,Dg,XH⟩:=fE aS Aaa x5 wc.heap.size 38 38 95 i0 (.agg (dZ 0 ByteArray.empty 0 0)) 40 underlying38 hi hz0 hz1 hz2 rfl (.slice avO (pos+1) cvO) (pos+1) (GR.flat aJ (n.reqs.take pos++[(⟨no,k,nn,1⟩:Rq)])) Oe AD (n.reqs.drop pos) (aU - pos) (GR.At.below HDR Nv) (iM _) Aai Aaa Pj;open av1 in exact ag4):P:=h
theorem avA.AeA(h:P:=by
 obtain⟨v5,y5,KW,GL,Dg,XH⟩:=fE aS Aaa x5 wc.heap.size 38 38 95 i0 (.agg (dZ 0 ByteArray.empty 0 0)) 40 underlying38 hi hz0 hz1 hz2 rfl (.slice avO (pos+1) cvO) (pos+1) (GR.flat aJ (n.reqs.take pos++[(⟨no,k,nn,0⟩:Rq)])) Oe AD (n.reqs.drop pos) (aU - pos) (GR.At.below HDR Nv) (iM _) Aai Aaa Pj;open av0 in exact ag4):P:=h
theorem agX(h:P:=by
 have pz:Hid (Below B w Z9):=by rw [hZ];exact HB9.setCell (p:=⟨w.heap.size,5,none⟩) hB _
 have HKZ:Hid (Apart c w Z9):=by rw [hZ];exact HK9.keeps HB9.size (aC.set _) (λy hy=>by have:y=w.heap.size:=Aas;omega)
 clear hZ HK9 iG WL xJ kZ R6 HB9 c5n s0 s1 s2 s3 c5w f5w hn8 hs8 ru yS Z0 hZ8;exact Aeb):P:=h
theorem avB.Aeb(h:P:=by
 have HNV:Hid (fQ ⟨n.id,n.par,n.kids,n.next+1,RL,n.out++[⟨n.next,dst,key,most⟩],n.seen,n.old,n.reqs⟩ ⟨a_k,av,a6,eH,gH,aK,cv,c6,aL,aU⟩= .agg (fP n.id n.par a_k n.kids.length aK (n.next+1) av RL.length cv a6 (n.out.length+1) c6 eH n.seen.length aL n.old gH n.reqs.length aU)):=by unfold Hid;simp[fQ,dH]
 have Ed:Hid (∀x,Ge Z9 x->Calls prog 149 #[.agg (fP n.id n.par a_k n.kids.length aK (n.next+1) av RL.length cv a6 (n.out.length+1) c6 eH n.seen.length aL n.old gH n.reqs.length aU),.agg (fA n.next dst key most)] x (eO x (mY PM))):=λx hx=>by
  have h1:=MH ⟨n.id,n.par,n.kids,n.next+1,RL,n.out++[⟨n.next,dst,key,most⟩],n.seen,n.old,n.reqs⟩ ⟨a_k,av,a6,eH,gH,aK,cv,c6,aL,aU⟩ ⟨n.next,dst,key,most⟩ x Aag (GR.At.below (Dz Z9 Z9 (aC.refl _ _) Out.refl).at.o hx)
  rw [ah Zi,ah HNV] at h1
  exact h1
 obtain⟨qK,qF,qT,qI,qL,qk,qN⟩:=PM;unfold mY at Ed
 have CV:Hid (∀W' mb,aC [w.heap.size+1] Z9 W'->W'.heap[mb]?=some (.cells (bX qK qF qT qI qL qk qN) 98 (0,0))->w.heap.size<=mb->(∀W'',Out c w W' W''->RM W'' ⟨a_k,av,a6,eH,gH,aK,cv,c6,aL,aU⟩ ⟨n.id,n.par,n.kids,n.next+1,RL,n.out++[⟨n.next,dst,key,most⟩],n.seen,n.old,n.reqs⟩)/\(∀W'',Out c w W' W''->GR.At lu 7 W'' (some ⟨mb,0,none⟩) [⟨qK,qF,qT,qI,qL,qk,qN⟩])/\Below B w W'/\Apart c w W'):=λW' mb hk hm hmb=>by
  refine⟨λW'' ho=>Dz W' W'' hk ho,λW'' ho i hi=>?_,pz.trans (hk.below (λx hx=>by have:x=w.heap.size+1:=Aaf;omega) (Nat.le_trans hB pz.size)),HKZ.keeps pz.size hk (λx hx=>by have:x=w.heap.size+1:=Aaf;omega)⟩
  obtain⟨F,hk2,hF⟩:=ho
  have hm2:=hk2.obj hm (λhx=>by have:=(hF mb hx).1;omega)
  refine⟨mb,0,rfl,aA hm2,λj hj=>?_⟩
  have hi0:i=0:=Abo
  subst hi0
  have h1:=cell_of_row W'' mb (0+(0*7+j)) _ _ (0,0) hm2
  rw [h1]
  simp[lu]
 exact Zk8):P:=h
theorem avC.Aeb(h:P:=by
 have HNV:Hid (fQ ⟨n.id,n.par,n.kids,n.next+1,RL,n.out++[⟨n.next,dst,key,pf⟩],n.seen,n.old,n.reqs⟩ ⟨a_k,av,a6,eH,gH,aK,cv,c6,aL,aU⟩= .agg (fP n.id n.par a_k n.kids.length aK (n.next+1) av RL.length cv a6 (n.out.length+1) c6 eH n.seen.length aL n.old gH n.reqs.length aU)):=by unfold Hid;simp[fQ,dH]
 have Ed:Hid (∀x,Ge Z9 x->Calls prog 149 #[.agg (fP n.id n.par a_k n.kids.length aK (n.next+1) av RL.length cv a6 (n.out.length+1) c6 eH n.seen.length aL n.old gH n.reqs.length aU),.agg (fA n.next dst key pf)] x (eO x (mY PM))):=λx hx=>by
  have h1:=MH ⟨n.id,n.par,n.kids,n.next+1,RL,n.out++[⟨n.next,dst,key,pf⟩],n.seen,n.old,n.reqs⟩ ⟨a_k,av,a6,eH,gH,aK,cv,c6,aL,aU⟩ ⟨n.next,dst,key,pf⟩ x Aag (GR.At.below (Dz Z9 Z9 (aC.refl _ _) Out.refl).at.o hx)
  rw [ah Zi,ah HNV] at h1
  exact h1
 obtain⟨qK,qF,qT,qI,qL,qk,qN⟩:=PM;unfold mY at Ed
 have CV:Hid (∀W' mb,aC [w.heap.size+1] Z9 W'->W'.heap[mb]?=some (.cells (bX qK qF qT qI qL qk qN) 98 (0,0))->w.heap.size<=mb->(∀W'',Out c w W' W''->RM W'' ⟨a_k,av,a6,eH,gH,aK,cv,c6,aL,aU⟩ ⟨n.id,n.par,n.kids,n.next+1,RL,n.out++[⟨n.next,dst,key,pf⟩],n.seen,n.old,n.reqs⟩)/\(∀W'',Out c w W' W''->GR.At lu 7 W'' (some ⟨mb,0,none⟩) [⟨qK,qF,qT,qI,qL,qk,qN⟩])/\Below B w W'/\Apart c w W'):=λW' mb hk hm hmb=>by
  refine⟨λW'' ho=>Dz W' W'' hk ho,λW'' ho i hi=>?_,pz.trans (hk.below (λx hx=>by have:x=w.heap.size+1:=Aaf;omega) (Nat.le_trans hB pz.size)),HKZ.keeps pz.size hk (λx hx=>by have:x=w.heap.size+1:=Aaf;omega)⟩
  obtain⟨F,hk2,hF⟩:=ho
  have hm2:=hk2.obj hm (λhx=>by have:=(hF mb hx).1;omega)
  refine⟨mb,0,rfl,aA hm2,λj hj=>?_⟩
  have hi0:i=0:=Abo
  subst hi0
  have h1:=cell_of_row W'' mb (0+(0*7+j)) _ _ (0,0) hm2
  rw [h1]
  simp[lu]
 exact Zk8):P:=h
theorem agY(h:P:=by
 have ow:Hid (Below B w W'):=uT.trans (gu.below (λx hx=>by have:x=w.heap.size+2:=Aaf;omega) (Nat.le_trans hB uT.size));have tq:=Hq (Apart.keeps (c:=c) HKA uT.size gu (λx hx=>by have:x=w.heap.size+2:=Aaf;omega));obtain⟨x0,x1,x2,x3,x4,x5,x6,x7,x8⟩:=nine e4;clear hW' e4 gu;exact Afb):P:=h
theorem avD.Afb(h:P:=by
 exact bodyPost_ret (v:= .tuple #[(fQ N1 A1),.slice ma L1.length mc,.int .i64 0]) Abt rfl ⟨A1,ma,mc,rfl,HAT,HMT,ow,tq⟩):P:=h
theorem avE.Afb(h:P:=by
 exact bodyPost_ret (v:= .tuple #[.agg (fP n.id n.par A.k n.kids.length A.ck n.next A.p n.pu.length A.cp a (FL n.out.length).length cp A.s n.seen.length A.cs n.old A.r n.reqs.length A.cr),.slice (some ⟨Z.heap.size,0,none⟩) 0 0,.int .i64 0]) Abt rfl ⟨⟨A.k,A.p,a,A.s,A.r,A.ck,A.cp,cp,A.cs,A.cr⟩,some ⟨Z.heap.size,0,none⟩,0,rfl,HAT,λW'' _ i hi=>Aat,ow,tq⟩):P:=h
theorem agZ(h:P:=by
 open ayp in exact aaI):P:=h
theorem avF.AdF(h:P:=by
 exact aBl):P:=h
theorem avG.AdF(h:P:=by
 exact aA3):P:=h
theorem ag0(h:P:=by
 obtain⟨mK,mF,mT,mI,mL,mk,mN⟩:=m;obtain⟨R,hR⟩:∃R,cK ⟨5,no,k,n,⟨mK,mF,mT,mI,mL,mk,mN⟩⟩=R:=⟨_,rfl⟩;rw [hR];have HR:=Hq hR;clear hR;have HP:=Hq (show R=(decide (k.toList=[])&&decide (n=0)&&decide (no=0)&&lQ ⟨mK,mF,mT,mI,mL,mk,mN⟩) by rw [<-ah HR];simp[cK]);clear HR;exact AdD):P:=h
theorem avH.AdD(h:P:=by
 go_in
 go_upto_region 23 with fail;open axf in exact Vo):P:=h
theorem avI.AdD(h:P:=by
 go_in
 go_wp2_with fail
 all_goals
  go_ret
  refine⟨aF ?_,ay w _⟩
  rw [ah HP]
  simp[lQ, *]):P:=h
theorem ag1(h:P:=by
 refine dz Aab ?_;show gT _ _ _ _ 23 (Array.replicate 23 false) _ _
 refine tk [0,1,2,3,4,5,6,7,8,9,10,11,12,13,14,15,16,17,18,19,20,21,22] ?_;iterate 23 (refine AJ (λK hK=>?_);go_simp;refine hK _ ?_;clear hK K)
 refine jK ?_;refine fu Aab (λz hz=>?_);exact Adv):P:=h
theorem avJ.Adv(h:P:=by
 have HZ:=Hq (HW1.step hz);clear hz y1;go_simp;go_wp2_with fail;go_ret;exact⟨rfl,A,G,c,HZ⟩):P:=h
theorem avK.Adv(h:P:=by
 have HZ:=Hq ((ay w (.cells (bX mK mF mT mI mL mk mN) 98)).trans (hz.mono Aac));clear hz y4 z3 z5 z6 x1 hlen;go_simp;go_wp2_with fail;go_ret;exact⟨rfl,HZ⟩):P:=h
theorem Vk(h:P:=by
 have R7:=Hq (λp:Regrown=>hH.below (below_regrown w p.d p.os));have H:=Hq h;obtain⟨c0,c1,f0,f1⟩:=h.two;clear h hs hH hE f0 f1;exact Ab1):P:=h
theorem avL.Ab1(h:P:=by
 generalize jf s i=E at *;generalize jW s i=R at *;go_in
 exact aBr):P:=h
theorem avM.Ab1(h:P:=by
 generalize jf s i=E at *;generalize jW s i=R at *;go_in
 exact aBs):P:=h
theorem avN.Ab1(h:P:=by
 generalize jU s i=E at *;generalize uw s i=R at *;go_in
 exact aBr):P:=h
theorem avP.Ab1(h:P:=by
 generalize jU s i=E at *;generalize uw s i=R at *;go_in
 exact aBs):P:=h
theorem ag2(h:P:=by
 clear hge c0 c1 c2 c3 c4 c5 c6 c7 c8 p0 p1 p2 p3 p4 p5 p6 p7 p8 p9 nX hnl hol AR ad5 NK aky nK HA4;obtain⟨c0,c1,c2,c3,c4,c5,c6,c7,c8⟩:=nine CY;obtain⟨q0,q1,q2,q3⟩:=gG WJ;have hnl:=aA CY;have Pf:=aA WJ;exact Aew):P:=h
theorem avQ.Aew(h:P:=by
 have HIQ:=Hq (show tY n.reqs ⟨no,k,nn,1⟩=n.reqs.take (dS n.reqs no)++⟨no,k,nn,1⟩::n.reqs.drop (dS n.reqs no) from rfl);generalize dS n.reqs no=pos at *;obtain⟨IQ,SY⟩:∃IQ,tY n.reqs ⟨no,k,nn,1⟩=IQ:=⟨_,rfl⟩;rw [SY] at HIQ;have ZH:=Hq SY;clear SY;go_upto_region 16 with fail;go_cut [10] from 11 (λi wx=>i= .int .i64 pos/\∃va vc,(∃g,va=some ⟨g,0,none⟩)/\n.reqs.length+1<=vc/\wx.heap[w.heap.size]?=some (.cells (fP n.id n.par a_k n.kids.length aK n.next (some ⟨gp,0,none⟩) n.pu.length bJ dW n.out.length aQ eH n.seen.length aL n.old va (n.reqs.length+1) vc) 40 (0,0))/\wx.heap[w.heap.size+2]?=some (.cells gN 40 (0,0))/\wx.heap[W1.heap.size]?=some (.cells (dZ no k nn 1) 95 (0,0))/\LO 95 aJ 4 (w.heap.size+3) wx va vc IQ/\aI w wx)
 case first=>
  open aoq in exact aAp
 case rest=>
  clear c0 c1 c2 c3 c4 c5 c6 c7 c8 q0 q1 q2 q3 hnl Pf CY yR WJ gY HA5;obtain⟨rfl,va,vc,⟨gv,rfl⟩,hvc,hN6,hR6,hQ6,hL6,hB6⟩:=hcut;open az3 in exact aic):P:=h
theorem avS.Aew(h:P:=by
 have HIQ:=Hq (show tY n.reqs ⟨no,k,nn,0⟩=n.reqs.take (dS n.reqs no)++⟨no,k,nn,0⟩::n.reqs.drop (dS n.reqs no) from rfl);generalize dS n.reqs no=pos at *;obtain⟨IQ,SY⟩:∃IQ,tY n.reqs ⟨no,k,nn,0⟩=IQ:=⟨_,rfl⟩;rw [SY] at HIQ;have ZH:=Hq SY;clear SY;go_upto_region 16 with fail;go_cut [10] from 11 (λi wx=>i= .int .i64 pos/\∃va vc,(∃g,va=some ⟨g,0,none⟩)/\n.reqs.length+1<=vc/\wx.heap[w.heap.size]?=some (.cells (fP n.id n.par a_k n.kids.length aK n.next av RL.length cv dW n.out.length aQ eH n.seen.length aL n.old va (n.reqs.length+1) vc) 40 (0,0))/\wx.heap[w.heap.size+2]?=some (.cells gN 40 (0,0))/\wx.heap[W1.heap.size]?=some (.cells (dZ no k nn 0) 95 (0,0))/\LO 95 aJ 4 (w.heap.size+3) wx va vc IQ/\LO 108 gB 4 (w.heap.size+3) wx av cv RL/\aI w wx)
 case first=>
  open aop in exact aAp
 case rest=>
  clear c0 c1 c2 c3 c4 c5 c6 c7 c8 q0 q1 q2 q3 hnl Pf CY yR WJ gY HA5 Nk;obtain⟨rfl,va,vc,⟨gv,rfl⟩,hvc,hN6,hR6,hQ6,hL6,hP6,hB6⟩:=hcut;open az2 in exact aic):P:=h
theorem ag3(h:P:=by
 go_wp2_with fail;refine bodyPost_at (λW' hW'=>?_);obtain⟨⟨r0,r1,r2,r3,r4,r5,r6⟩,_⟩:=eT (show W'.heap[w.heap.size]?=some (.cells (bX (s[0].toNat:Int) N1 N2 N3 N4 TX N5) 98 (0,0)) by rw [hW'];exact sJ R4);have hbb:aI w W':=by rw [hW'];exact qW gY (Nat.le_refl _)
 exact Aeh):P:=h
theorem avU.Aeh(h:P:=by
 exact bodyPost_ret (v:= .tuple #[.agg (bX (s[0].toNat:Int) N1 N2 N3 N4 TX N5),.bool true]) Adk rfl ⟨Abl,hbb⟩):P:=h
theorem avV.Aeh(h:P:=by
 exact bodyPost_ret (v:= .tuple #[.agg (bX (s[0].toNat:Int) N1 N2 N3 N4 TX N5),.bool true]) Adj rfl ⟨Abl,hbb⟩):P:=h
theorem Vl(h:P:=by
 have hb0:s[0].toNat < 256:=s[0].toNat_lt;have hw64:wrap64 (s[0].toNat:Int)=(s[0].toNat:Int):=IntWalk.wrap64_in _ ⟨Aaa,Aaa⟩;exact AbK):P:=h
theorem avW.AbK(h:P:=by
 clear h;go_in
 go_upto_region 1 with fail;go_quiet (fail);go_upto_region 4 with fail;refine wp_at (λV hV=>?_);have HRV:Hid (jE V g s 1):=by rw [hV];exact(show jE (w.drewN _) g s 0 from H).set 1
 have HKV:Hid (dR g w V):=by rw [hV];exact(dR.of_below (jm w _)).trans (dR.set _)
 clear hV c0 c1 f0 f1;obtain⟨c0,c1,f0,f1⟩:=HRV.two;go_quiet (fail);go_wp2_with fail;go_ret;exact⟨rfl,aN HRV (jm V _),HKV.trans (dR.of_below (jm V _))⟩):P:=h
theorem avX.AbK(h:P:=by
 go_upto_region 8 with fail;go_region
 go_upto_region 9 with fail;refine wp_at (λV hV=>?_);have hM:V.heap[w5.heap.size+1]?=some (.cells (bY (s[0].toNat:Int) N1 TX N2 mK mF mT mI mL mk mN) 100 (0,0)):=by rw [hV];exact(iA w5 (.cells (bX mK mF mT mI mL mk mN) 98) _).2.1
 have hlt:=dG R4
 have hB:aI w V:=by
  rw [hV];have h1:=(gY.alloc gY.size (.cells (bX mK mF mT mI mL mk mN) 98)).alloc (by have:=gY.size;simp;omega) (.cells (bY (s[0].toNat:Int) N1 TX N2 mK mF mT mI mL mk mN) 100);exact⟨h1.os,h1.tape,h1.output,h1.size,h1.block⟩
 have hR:V.heap[w.heap.size]?=some (.cells (bY 0 0 ⟨#[]⟩ 0 0 0 0 0 0 ⟨#[]⟩ 0) 100 (0,0)):=by
  rw [hV];have h1:=Below.heap_alloc (w5.alloc (.cells (bX mK mF mT mI mL mk mN) 98)) (.cells (bY (s[0].toNat:Int) N1 TX N2 mK mF mT mI mL mk mN) 100) w.heap.size Aag;have h2:=Below.heap_alloc w5 (.cells (bX mK mF mT mI mL mk mN) 98) w.heap.size hlt;exact h1.trans (h2.trans R4)
 clear hV R4 gY hw64 hb0 hlt;have hzM:=dG hM;have hzR:=dG hR;by_cases hE:0<=E
 case' neg=>
  have hO:OK=false:=by rw [ah HO,decide_eq_false hE,Bool.false_and,Bool.false_and]
  have wS:=Hq (HZ hO);have hE2:E < 0:=Aaa
  obtain⟨⟨d0,d1,d2,d3,d4,d5,d6,d7,d8,d9,Zn⟩,f0,f1,f2,f3,f4,f5,f6,f7,f8,f9,f10⟩:=aO hR;have HR:=Hq hR;have HB:=Hq hB;clear hO HO HZ HM HP hM hR hB hE;exact aBD
 have hE2:¬(E < 0):=Aaa
 cases hbd:(decide (B.size=0)||mo)
 case' false=>
  have hO:OK=false:=by rw [ah HO,hbd,Bool.and_false,Bool.false_and]
  have wS:=Hq (HZ hO);simp only[Bool.or_eq_false_iff,decide_eq_false_iff_not] at hbd;obtain⟨hb1,rfl⟩:=hbd;have hbe:=kC B Aaa;obtain⟨⟨d0,d1,d2,d3,d4,d5,d6,d7,d8,d9,Zn⟩,f0,f1,f2,f3,f4,f5,f6,f7,f8,f9,f10⟩:=aO hR;have HR:=Hq hR;have HB:=Hq hB;clear hO HO HZ HM HP hM hR hB hE hb1;exact aBD
 have HBD:=Hq hbd;obtain⟨q0,q1,q2,q3,q4,q5,q6,q7,q8,q9,q10⟩:=(aO hM).1;have HR:=Hq hR;have HB:=Hq hB;have HMB:=Hq hM;clear hR hB hM
 have hcond:((!B.toList.isEmpty)&& !mo)=false:=by
  rcases Bool.or_eq_true_iff.1 hbd with h|h
  .have h1:=eq_empty B (of_decide_eq_true h);subst h1;rw [ByteArray.toList_eq];rfl
  .rw [h];simp
 clear hbd
 have HQ:Hid ((B.toList.isEmpty=true)\/(B.toList.isEmpty=false/\mo=true)):=by
  cases h1:B.toList.isEmpty
  .rw [h1] at hcond;exact .inr ⟨rfl,by simpa using hcond⟩
  .exact .inl rfl
 clear hcond;have HPP:Hid (∀Q:Prop,(B.toList.isEmpty=true->Q)->(B.toList.isEmpty=false->mo=true->Q)->Q):=λQ h1 h2=>HQ.elim h1 (λh=>h2 h.1 h.2)
 clear HQ;refine HPP _ (λhbe=>?_) (λhbe hmo=>?_)
 all_goals
  clear HPP
  go_wp2_with fail
  refine(HP _).mono ?_
  rintro e w7 ⟨rfl,uU⟩
  have HR7:=Hq (aN HR uU)
  have HM7:=Hq (aN HMB uU)
  have Dx:=Hq (HB.trans (uU.mono HB.size))
  have aHJ:=dG HM7
  have aHL:=dG HR7
  clear uU HR HMB HB q0 q1 q2 q3 q4 q5 q6 q7 q8 q9 q10 HP hzM hzR
  obtain⟨⟨d0,d1,d2,d3,d4,d5,d6,d7,d8,d9,Zn⟩,f0,f1,f2,f3,f4,f5,f6,f7,f8,f9,f10⟩:=aO HR7
  by_cases hp:vL ⟨s[0].toNat,N1,TX,N2,⟨mK,mF,mT,mI,mL,mk,mN⟩⟩=s
  case' neg=>
   have hO:OK=false:=by rw [ah HO,decide_eq_false hp,Bool.and_false]
   have wS:=Hq (HZ hO)
   have hq:((vL ⟨s[0].toNat,N1,TX,N2,⟨mK,mF,mT,mI,mL,mk,mN⟩⟩).toList == s.toList)=false:=by
    exact ajf
   clear hO HO HZ HM HBD hp;generalize vL ⟨s[0].toNat,N1,TX,N2,⟨mK,mF,mT,mI,mL,mk,mN⟩⟩=pm at *;go_wp2_with fail;refine iH (λW' hW'=>?_);obtain⟨⟨r0,r1,r2,r3,r4,r5,r6,r7,r8,r9,Zt⟩,_⟩:=aO (show W'.heap[w.heap.size]?=some (.cells (bY 0 0 ⟨#[]⟩ 0 0 0 0 0 0 ⟨#[]⟩ 0) 100 (0,0)) by rw [hW'];exact lq HR7);have hbb:aI w W':=by rw [hW'];exact iJ Dx (Nat.le_refl _)
   exact bodyPost_ret (v:= .tuple #[.agg (bY 0 0 ⟨#[]⟩ 0 0 0 0 0 0 ⟨#[]⟩ 0),.bool false]) Acx rfl ⟨Abl,hbb⟩
  have hO:OK=true:=by rw [ah HO,decide_eq_true hE,ah HBD,decide_eq_true hp];rfl
  have wS:=Hq (HM hO)
  have hq:((vL ⟨s[0].toNat,N1,TX,N2,⟨mK,mF,mT,mI,mL,mk,mN⟩⟩).toList == s.toList)=true:=by rw [hp];simp
  obtain⟨⟨q0,q1,q2,q3,q4,q5,q6,q7,q8,q9,q10⟩,_⟩:=aO HM7
  clear hO HO HZ HM HBD
  have HPX:=Hq hp
  clear hp
  generalize vL ⟨s[0].toNat,N1,TX,N2,⟨mK,mF,mT,mI,mL,mk,mN⟩⟩=pm at *
  go_wp2_with fail
  refine iH (λW' hW'=>?_)
  obtain⟨⟨r0,r1,r2,r3,r4,r5,r6,r7,r8,r9,Zt⟩,_⟩:=aO (show W'.heap[w.heap.size]?=some (.cells (bY (s[0].toNat:Int) N1 TX N2 mK mF mT mI mL mk mN) 100 (0,0)) by rw [hW'];exact lq HR7)
  have hbb:aI w W':=by rw [hW'];exact iJ Dx (Nat.le_refl _)
  exact bodyPost_ret (v:= .tuple #[.agg (bY (s[0].toNat:Int) N1 TX N2 mK mF mT mI mL mk mN),.bool true]) Acx rfl ⟨Abl,hbb⟩):P:=h
theorem avY.AbK(h:P:=by
 go_upto_region 6 with fail;go_region
 go_upto_region 7 with fail;refine wp_at (λV hV=>?_);have hM:V.heap[w3.heap.size]?=some (.cells (bX (s[0].toNat:Int) N1 N2 N3 N4 TX N5) 98 (0,0)):=by rw [hV];exact heap_alloc_new w3 _
 have hlt:=dG HR3
 have hR:V.heap[w.heap.size]?=some (.cells (bX 0 0 0 0 0 ⟨#[]⟩ 0) 98 (0,0)):=by
  rw [hV];show(w3.alloc _).heap[w.heap.size]?=_
  rw [Below.heap_alloc _ _ _ hlt];exact HR3
 have hB:aI w V:=by
  rw [hV];have h1:=HB3.alloc HB3.size (.cells (bX (s[0].toNat:Int) N1 N2 N3 N4 TX N5) 98);exact⟨h1.os,h1.tape,h1.output,h1.size,h1.block⟩
 clear hV HR3 HB3 c0 c1 c2 c3 hg3 HN HT HG hw64 hb0;have hzM:=dG hM;have hzR:=dG hR;by_cases hE:0<=E6
 case' neg=>
  have hO:OK=false:=by rw [ah HO,decide_eq_false hE];rfl
  have wS:=Hq (HZ hO)
  have hE2:E6 < 0:=Aaa
  obtain⟨⟨d0,d1,d2,d3,d4,d5,d6⟩,f0,f1,f2,f3,f4,f5,f6⟩:=eT hR
  have HR:=Hq hR
  have HB:=Hq hB
  clear hO HO HZ HM HP hM hR hB hE
  open awf in exact ag9
 have hE2:¬(E6 < 0):=Aaa
 obtain⟨q0,q1,q2,q3,q4,q5,q6⟩:=tF hM;have HR:=Hq hR;have HB:=Hq hB;have HMB:=Hq hM;clear hR hB hM;open auU in exact agJ):P:=h
theorem avZ.AbK(h:P:=by
 open auB in exact agD):P:=h
theorem ag4(h:P:=by
 rw [XC] at KW GL;refine Lib.wp_append_run x5 (.tmp 101) (.tmp 105) 38 38 rfl _ _ Aal Aal v5 y5 KW ?_;refine⟨(Below.refl _ _).grown Dg Pj (λb hb=>(Oe.lt b hb).1),?_⟩;go_simp;have Wy:=Hq (Nv.grown Dg Pj (λb hb=>(Oe.lt b hb).1));exact AdI):P:=h
theorem av0.AdI(h:P:=by
 have WU:Hid (y5.ownsRow wc.heap.size 95 4 v5 (pos+1+(n.reqs.length - pos)) (GR.flat aJ (n.reqs.take pos++[(⟨no,k,nn,0⟩:Rq)]++n.reqs.drop pos))):=Hq Adf;have amZ:=Hq (show y5.heap[rb]?=some (.cells (dZ no k nn 0) 95 (0,0)) from by rw [Dg.block _ (aA (ah NI)) (λhm=>ah adR _ hm.symm rfl)];exact NI);open ayE in exact aaL):P:=h
theorem av1.AdI(h:P:=by
 have WU:Hid (y5.ownsRow wc.heap.size 95 4 v5 (pos+1+(n.reqs.length - pos)) (GR.flat aJ (n.reqs.take pos++[(⟨no,k,nn,1⟩:Rq)]++n.reqs.drop pos))):=Hq Adf;have amZ:=Hq (show y5.heap[rb]?=some (.cells (dZ no k nn 1) 95 (0,0)) from by rw [Dg.block _ (aA (ah NI)) (λhm=>ah adR _ hm.symm rfl)];exact NI);open ayD in exact aaL):P:=h
theorem ag5(h:P:=by
 go_wp2_with fail;refine bodyPost_at (λW' hW'=>?_);obtain⟨⟨r0,r1,r2,r3,r4,r5,r6⟩,_⟩:=eT (show W'.heap[w.heap.size]?=some (.cells (bX 0 0 0 0 0 ⟨#[]⟩ 0) 98 (0,0)) by rw [hW'];exact sJ R4);have hbb:aI w W':=by rw [hW'];exact qW gY (Nat.le_refl _)
 exact Afy):P:=h
theorem av2.Afy(h:P:=by
 exact aiU):P:=h
theorem av3.Afy(h:P:=by
 exact aiT):P:=h
theorem ag6(h:P:=by
 have hn:=MX (Du (tl s a));have HS:=Hq (λw1=>adr (Du (tl s a)) (Nat.le_trans (FD _ _) Aai) w1);have HCV:=Hq (λw1 g=>Ji w1 g (kE (Du (tl s a))) 4 hn);have HCC:=Hq (λw1 (hb:aI w w1)=>tJ (hc.below hg hb) a 4 4 Aaa);exact Afr):P:=h
theorem av4.Afr(h:P:=by
 have hqq:((mE (kE (Du (tl s a)))).toList == (s.extract a (a+4)).toList)=false:=by
  rw [beq_eq_false_iff_ne];intro h;rw [ByteArray.toList_eq,ByteArray.toList_eq] at h;exact hq (ByteArray.ext (Array.ext' h))
 open an1 in exact aAm):P:=h
theorem av5.Afr(h:P:=by
 have hqq:((mE (kE (Du (tl s a)))).toList == (s.extract a (a+4)).toList)=true:=by
  rw [hq];simp
 open an0 in exact aAm):P:=h
theorem ag7(h:P:=by
 have HS:Hid ((s.data.toList.take (k+1)).all Mth.keyByte=((s.data.toList.take k).all Mth.keyByte&&Mth.keyByte s[k])):=by rw [Mth.take_snoc s k hlt];exact Mth.all_snoc _ _
 have hc:s[k].toNat < 256:=s[k].toNat_lt;exact AeK):P:=h
theorem av6.AeK(h:P:=by
 rcases Mth.byte_cases s[k] with h|h
 .have HK:=Hq (Mth.keyByte_yes _ h);rcases h with⟨h1,h2⟩|⟨h1,h2⟩
  all_goals
   go_wp2_with (go_at_call 18;first|(refine(mW _ _ _ _ ?_ ?_).mono ?_;omega;omega;rintro e w' ⟨rfl,rfl⟩)|(refine(pX _ _ _ _ ?_).mono ?_;omega;rintro e w' ⟨rfl,rfl⟩))
   go_round
   case rel=>exact⟨k+1,Aaa,Aah,Acr⟩
   case measure=>simp[intOf];omega
 .have HK:=Hq (Mth.keyByte_no _ h);have HF:Hid (Mth.keyOk s.data.toList=false):=Mth.keyOk_bad _ (k+1) Acr;rcases h with h1|⟨h1,h2⟩|h1
  all_goals
   go_wp2_with (go_at_call 18;first|(refine(mW _ _ _ _ ?_ ?_).mono ?_;omega;omega;rintro e w' ⟨rfl,rfl⟩)|(refine(pX _ _ _ _ ?_).mono ?_;omega;rintro e w' ⟨rfl,rfl⟩))
   go_ret
   exact⟨aF HF.symm,rfl⟩):P:=h
theorem av7.AeK(h:P:=by
 rcases Mth.byte_cases s[k] with h|h
 .have HK:=Hq (Mth.keyByte_yes _ h);rcases h with⟨h1,h2⟩|⟨h1,h2⟩
  all_goals
   go_wp2_with (first|(go_at_call 231;first|(refine(JV _ _ ?_ ?_).mono ?_;omega;omega;rintro e w' ⟨rfl,rfl⟩)|(refine(QD _ _ ?_).mono ?_;omega;rintro e w' ⟨rfl,rfl⟩))|(go_at_call 232;first|(refine(Jj _ _ ?_ ?_).mono ?_;omega;omega;rintro e w' ⟨rfl,rfl⟩)|(refine(OV _ _ ?_).mono ?_;omega;rintro e w' ⟨rfl,rfl⟩)))
   go_round
   case rel=>exact⟨k+1,Aaa,Aah,Acr⟩
   case measure=>simp[intOf];omega
 .have HK:=Hq (Mth.keyByte_no _ h);have HF:Hid (Mth.keyOk s.data.toList=false):=Mth.keyOk_bad _ (k+1) Acr;rcases h with h1|⟨h1,h2⟩|h1
  all_goals
   go_wp2_with (first|(go_at_call 231;first|(refine(JV _ _ ?_ ?_).mono ?_;omega;omega;rintro e w' ⟨rfl,rfl⟩)|(refine(QD _ _ ?_).mono ?_;omega;rintro e w' ⟨rfl,rfl⟩))|(go_at_call 232;first|(refine(Jj _ _ ?_ ?_).mono ?_;omega;omega;rintro e w' ⟨rfl,rfl⟩)|(refine(OV _ _ ?_).mono ?_;omega;rintro e w' ⟨rfl,rfl⟩)))
   go_ret
   exact⟨aF HF.symm,rfl⟩):P:=h
theorem aav(h:P:=by
 rename_i VJ
 refine VJ _ _ ?_;clear VJ;refine BigFrame.wpList_want Aad (λK hK=>?_);go_simp;refine hK _ _ ?_;clear hK K;exact Ab8):P:=h
theorem av8.Ab8(h:P:=by
 refine wpList_store_mid rfl 100 (.tmp 7) (.tmp 6) rfl (w.heap.size+1+1) 0 (opl x.o).toArray rfl rfl (Ef.there 0 11 Aac) Aab Aab ?_;have HS2:=Hq (Ef.mid 0 (opl x.o));clear Ef;generalize World.setCells _ _ _ _=W1 at *;have c11:W1.cell? ⟨w.heap.size,11,none⟩=some (.int .i64 x.c):=(HS2.cell 11).trans Aab;have f11:=aj HS2.o 11;have o11:W1.cell? ⟨w.heap.size+1+1,11,none⟩=some (.int .i64 0):=(cell_of_row _ _ 11 _ _ (0,0) HS2.o).trans Aab;go_upto_region 4 with fail;refine wp_at (λW hW=>?_);have Eh:=Hq (hW.symm▸(ah HS2).one 11 (.int .i64 x.c));clear hW c11 f11 o11 HS2;obtain⟨L,hL⟩:∃L,L=ig x:=⟨_,rfl⟩;have ZY:Hid (TO 87 120 (ig x) adK w (λ_=>True) L W):=⟨Eh.p,Eh.r,Eh.o.trans (by rw [hL];kernel_rfl),Eh.b,λ_ _=>trivial⟩;have hl:L.length=12:=by rw [hL];rfl
 have h1:L.toArray.all (·.oneCell')=true:=by rw [hL];kernel_rfl
 have HQ:=Hq (show Ending.returned (.agg L.toArray)= .returned (anv x) by rw [hL]);have ht:W.there (w.heap.size+1) 0 12:=ZY.thereR;clear Eh hL;refine wp_region_list ?_;show wpList _ _ _ [_,_] _ _
 refine wpList_load_mid rfl 120 (.tmp 3) rfl (w.heap.size+1+1) 0 rfl L _ ZY.rngO underlying120 rfl Acs ?_;refine wpList_store_mid rfl 120 (.tmp 2) (.tmp 11) rfl (w.heap.size+1) 0 L.toArray rfl rfl (by simpa [hl] using ht) (by simp only[List.size_toArray,hl];kernel_rfl) h1 ?_;have hr:=World.rangeAt_setCells_same W (w.heap.size+1) 0 L (by rw [hl];exact ht);have hb:=ZY.ends.2;go_wp2_with fail;exact bodyPost_ret (v:= .agg L.toArray) (xE rfl _ _ (w.heap.size+1) L _ rfl hr underlying120 rfl Acs) rfl ⟨HQ,hb⟩):P:=h
theorem av9.Ab8(h:P:=by
 refine wpList_store_mid rfl 40 (.tmp 11) (.tmp 10) rfl (w.heap.size+1+1) 9 (dH k.node A2) rfl rfl (Kk.there 9 9 (of_decide_eq_true Aab)) Aab Aab ?_;have HS2:=Hq (Kk.mid 9 (dH k.node A2).toList);clear Kk;generalize World.setCells _ _ _ _=W1 at *;go_upto_region 4 with fail;have c18:World.cell? _ ⟨w.heap.size,18,none⟩=some (.string k.log):=(HS2.cell 18).trans Aab;have f18:=aj HS2.o 18;have o18:World.cell? _ ⟨w.heap.size+1+1,18,none⟩=some (.string ByteArray.empty):=(cell_of_row _ _ 18 _ _ (0,0) HS2.o).trans Aab;go_upto_region 5 with fail;refine wp_at (λW hW=>?_);have Eh:=Hq (hW.symm▸(ah HS2).one 18 (.string k.log));clear hW c18 f18 o18 HS2;have c19:World.cell? _ ⟨w.heap.size,19,none⟩=some (.int .i64 k.safe):=(Eh.cell 19).trans Aab;have f19:=aj Eh.o 19;have o19:World.cell? _ ⟨w.heap.size+1+1,19,none⟩=some (.int .i64 0):=(cell_of_row _ _ 19 _ _ (0,0) Eh.o).trans Aab;go_upto_region 6 with fail;refine wp_at (λW hW=>?_);have ZY:=Hq (hW.symm▸(ah Eh).one 19 (.int .i64 k.safe));clear hW c19 f19 o19 Eh;have c20:World.cell? _ ⟨w.heap.size,20,none⟩=some (.slice A.wa k.wait.length A.wc):=(ZY.cell 20).trans Aab;have f20:=aj ZY.o 20;have o20:World.cell? _ ⟨w.heap.size+1+1,20,none⟩=some (.slice none 0 0):=(cell_of_row _ _ 20 _ _ (0,0) ZY.o).trans Aab;go_wp2_with fail;refine(H3 _ ZY.b).mono ?_;rintro e x20 ⟨rfl,hN,hb⟩;have aCH:=ZY.s;have Kk:=Hq (ZY.step hb (λW'=>GR.At iU 7 W' (some ⟨W.heap.size,0,none⟩) k.wait) (λW' hk=>GR.Blk.at (show GR.Blk iU 98 W' W.heap.size k.wait from hk.obj hN (λhm=>Acm)) dX));clear hN hb ZY H3 c20 f20 o20 aCH;generalize W.heap.size=g20 at *;have c20:World.cell? _ ⟨w.heap.size,20,none⟩=some (.slice A.wa k.wait.length A.wc):=(Kk.cell 20).trans Aab;have f20:=aj Kk.o 20;have o20:World.cell? _ ⟨w.heap.size+1+1,20,none⟩=some (.slice none 0 0):=(cell_of_row _ _ 20 _ _ (0,0) Kk.o).trans Aab;go_upto_region 7 with fail;refine wp_at (λW hW=>?_);have HS5:=Hq (hW.symm▸(ah Kk).one 20 (.slice (some ⟨g20,0,none⟩) k.wait.length k.wait.length));clear hW c20 f20 o20 Kk;have c21:World.cell? _ ⟨w.heap.size,21,none⟩=some (.slice A.aa k.asked.length A.ac):=(HS5.cell 21).trans Aab;have f21:=aj HS5.o 21;have o21:World.cell? _ ⟨w.heap.size+1+1,21,none⟩=some (.slice none 0 0):=(cell_of_row _ _ 21 _ _ (0,0) HS5.o).trans Aab;go_wp2_with fail;refine(H4 _ HS5.b).mono ?_;rintro e x21 ⟨rfl,hN,hb⟩;have aCI:=HS5.s;have Kk:=Hq (HS5.step hb (λW'=>GR.At ig 12 W' (some ⟨W.heap.size,0,none⟩) k.asked) (λW' hk=>GR.Blk.at (show GR.Blk ig 120 W' W.heap.size k.asked from hk.obj hN (λhm=>Acm)) dA));clear hN hb HS5 H4 c21 f21 o21 aCI;generalize W.heap.size=g21 at *;have c21:World.cell? _ ⟨w.heap.size,21,none⟩=some (.slice A.aa k.asked.length A.ac):=(Kk.cell 21).trans Aab;have f21:=aj Kk.o 21;have o21:World.cell? _ ⟨w.heap.size+1+1,21,none⟩=some (.slice none 0 0):=(cell_of_row _ _ 21 _ _ (0,0) Kk.o).trans Aab;go_upto_region 8 with fail;refine wp_at (λW hW=>?_);have HS6:=Hq (hW.symm▸(ah Kk).one 21 (.slice (some ⟨g21,0,none⟩) k.asked.length k.asked.length));clear hW c21 f21 o21 Kk;obtain⟨V,hV⟩:∃V,Rv V k ⟨A1,A2,some ⟨g20,0,none⟩,k.wait.length,some ⟨g21,0,none⟩,k.asked.length⟩:=⟨_,rfl⟩;have HR:=Hq (KR.blk (V:=V) (show W.heap[w.heap.size+1+1]?=some (.cells V.toArray 44 (0,0)) from HS6.o.trans (by rw [show V=_ from hV];kernel_rfl)));have HV:=Hq hV;clear hV;refine wp_region_list ?_;show wpList _ _ _ [_,_] _ _
 refine acy Aad (.tmp 3) rfl (w.heap.size+1+1) rfl V HV.len HR ?_;refine acz Aad (.tmp 2) (.tmp 26) rfl (w.heap.size+1) rfl V rfl HV.len HV.one Aad HS6.r (λW5 hW5 Tf=>?_);have hk:aC [w.heap.size+1,w.heap.size+1+1] W W5:=by rw [hW5];exact(jX _ _ _ _).mono (λx hx=>by simp at hx;simp[hx])
 have hb:aI w W5:=by rw [hW5];exact kW Aaa _ _ _ _ HS6.b
 obtain⟨⟨⟨⟨_,q1⟩,q2⟩,q3⟩,q4⟩:=HS6.m W5 hk;have HP:=Hq (show∃A',Ending.returned (Value.agg V.toArray)= .returned (Zr k A')/\rA W5 A' k/\aI w W5 from⟨_,by rw [(ah HV).agg],⟨q1,q2,q3,q4⟩,hb⟩);clear hW5 hk hb q1 q2 q3 q4 HS6 HR;go_wp2_with fail;exact bodyPost_ret (v:= .agg V.toArray) (xE rfl _ _ (w.heap.size+1) V _ rfl Tf.r underlying44 rfl (by rw [(ah HV).len];kernel_rfl)) rfl HP):P:=h
theorem awc.Ab8(h:P:=by
 refine acz Aad (.tmp 5) (.tmp 16) rfl w4.heap.size rfl V4 rfl HV4.len HV4.one Aad (heap_alloc_new w4 _) (λW5 hW5 Tf=>?_);have hk5:aI w4 W5:=by subst hW5;exact kW (Nat.le_refl _) _ _ _ _ (ay w4 _)
 have HL5:=Hq (Gh.trans (hk5.mono Gh.size));have HK5:=Hq (HK4.below hk5);have HA5:=Hq (HA4.below hk5);have R4:=Hq Tf;clear hW5 Tf hk5 Gh HK4 HA4;generalize w4.heap.size=g4 at *;have HIM:=Hq (λW (h:aI w W) (ha:rA W A4 k)=>HV4.agg▸Lf k A4 E W HZ ha (HE W h).1 (HE W h).2);go_upto_region 7 with fail;refine wp_region_list ?_;show wpList _ _ _ [_,_,_] _ _
 refine acy Aad (.tmp 5) rfl g4 rfl V4 HV4.len R4 ?_;go_wp2_with fail;refine(HIM W5 HL5 HA5).mono ?_;rintro e w6 ⟨⟨r2,rfl,hr2⟩,hb⟩
 have hrr:r2=r1:=by
  have h1:=ah HR1;cases r1<;>cases r2<;>simp_all
 subst hrr;have HL6:=Hq (HL5.trans (hb.mono HL5.size));have Ze:=Hq (HK5.below hb);have HR6:=Hq (R4.below hb);have HA6:=Hq (HA5.below hb);clear hb hr2 HL5 HK5 R4 HA5 HIM HR1 HE;have hne:(r2 != r2)=false:=Aac
 have UJ:=Hq (λW A' V' (hV':Rv V' k A') (ha:rA W A4 k) (hb:rA W A' k)=>show Calls prog 9 #[.agg V4.toArray,.agg V'.toArray] W _ from by rw [<-(ah HV4).agg,<-hV'.agg];exact abz k A4 A' W HZ ha hb);have Gh:=Hq HV4.len;clear HV4;go_upto_region 10 with fail;refine dz Aab ?_;show gT _ _ _ _ 5 (Array.replicate 5 false) _ _
 refine lH 0 rfl Aab Aab Aab (λ_ _ _ _ h=>h) Aad 44 _ rfl g4 0 rfl V4 _ HR6.r HR6.l underlying44 rfl (by rw [ah Gh];kernel_rfl) ?_;refine lH 1 rfl Aab Aab Aab (λ_ _ _ _ h=>h) Aad 32 _ rfl w.heap.size 0 rfl V _ Ze.r Ze.l underlying32 rfl (by rw [ah HV];kernel_rfl) ?_;clear HR6 Ze;refine fT 2 rfl Aab Aad (λx2 hx2=>?_);go_simp;have g2:aI w x2:=Ge.trans (show Ge w w6 from HL6) hx2;refine(Np x2 g2 HZ).mono ?_;rintro e z2 ⟨A7,rfl,ha7,hy2⟩;refine⟨hy2,?_⟩;obtain⟨V7,hV7⟩:∃V,Rv V k A7:=⟨_,rfl⟩;have HV7:=Hq hV7;rw [hV7.agg];have HA7:=Hq ha7;have HG:=Hq (show aI w6 z2 from Ge.trans hx2 hy2);clear ha7 hx2 hy2 g2 Np hV7;refine fT 3 rfl Aab Aad (λx3 hx3=>?_);go_simp;refine(UJ x3 A7 V7 HV7 (HA6.below (Ge.trans (show Ge w6 z2 from HG) hx3)) (HA7.below hx3)).mono ?_;rintro e z3 ⟨rfl,hy3⟩;refine⟨hy3,?_⟩;have HG2:=Hq (show aI w6 z3 from Ge.trans (Ge.trans (show Ge w6 z2 from HG) hx3) hy3);clear hx3 hy3 HG HA7 HA6 UJ HV7;refine aP 4 rfl Aab Aab Aab (λ_ _ _ _ h=>h) (λK hK=>?_);open aEw in exact aej):P:=h
theorem ag8(h:P:=by
 have ZT:=Hq (au akz GH);have aGX:=aA akz;have J8:=Hq (show∀b,(Value.slice (some ⟨x2.heap.size,0,none⟩) 0 0).ownBlock=some b->b≠x1.heap.size from λb hb=>by simp[Value.ownBlock] at hb;omega);have J9:=Hq (uW.trans (GH.mono uW.size));clear GH;exact Afa):P:=h
theorem awd.Afa(h:P:=by
 generalize XJ:x2.alloc (.cells #[] 3)=y2 at *;open awu in exact ahd):P:=h
theorem awe.Afa(h:P:=by
 generalize XJ:x2.alloc (.cells #[] 95)=y2 at *;open awy in exact ahf):P:=h
theorem ag9(h:P:=by
 go_wp2_with fail;refine bodyPost_at (λW' hW'=>?_);obtain⟨⟨r0,r1,r2,r3,r4,r5,r6⟩,_⟩:=eT (show W'.heap[w.heap.size]?=some (.cells (bX 0 0 0 0 0 ⟨#[]⟩ 0) 98 (0,0)) by rw [hW'];exact sJ HR);have hbb:aI w W':=by rw [hW'];exact qW HB (Nat.le_refl _)
 exact AdR):P:=h
theorem awf.AdR(h:P:=by
 exact aiU):P:=h
theorem awg.AdR(h:P:=by
 exact aiT):P:=h
theorem Vm(h:P:=by
 have akk:=Hq (au AO hbx);have CU:=Hq (wM.trans (hbx.mono wM.size));exact Ab4):P:=h
theorem awh.Ab4(h:P:=by
 have HI2:=Hq (GR.At.below HI1 hbx);clear hbx d0 d1 d2 c0 c1 c2 c3 c4 c5 c6 c7 c8 k0 k1 k2 k3 k4 k5 k6 k7 k8 m0 m1 m2 HW1 AO wM HI1 CZ HKI;cases hbv:bb
 case' true=>
  have HP:Hid (TT=false):=ah HBAD (by
   rw [ah iG]
   have h:=ah eZ
   rw [hbv] at h
   unfold uV
   dsimp only
   cases h1:NN fr<;>cases h2:pv<;>cases h3:fK lo<;>cases h4:decide (ids.length<=40)<;>simp_all)
  clear HBAD iG eZ;subst hbv;go_wp2_with fail;go_ret;exact⟨aF HP.symm,CU⟩
 have HGD:Hid (gZ PP RR (seen.take (k+1))=gZ (Bv lo) iN ids):=by
  rw [ah iG];have h:=ah eZ;rw [hbv] at h;unfold uV;dsimp only;cases h1:NN fr<;>cases h2:pv<;>cases h3:fK lo<;>cases h4:decide (ids.length<=40)<;>simp_all
 subst hbv;clear iG eZ;obtain⟨d0,d1,d2⟩:=three HW2;have aHk:=ah CW;go_wp2_with fail;go_loopw [6] (λi wr2=>∃m:Nat,m<=ids.length/\i= .int .i64 m/\gZ (Bv lo) iN (ids.take m)=true/\aI wc wr2) (λi _=>ids.length - (intOf i).toNat)
 case atStart=>exact abe
 case round=>
  obtain⟨m,hm,rfl,hall,hbx⟩:=hrel;have jP:=Hq hbx;have amx:=Hq hall;have HW3:=Hq (au HW2 hbx);obtain⟨d0,d1,d2⟩:=three HW3;clear hall;by_cases hlm:m < ids.length
  case' neg=>
   have hke:m=ids.length:=Aaa
   subst hke
   have hnlt:decide ((ids.length:Int) < (ids.length:Int))=false:=Aac
   have HF:Hid (gZ PP RR (seen.take (k+1))=true):=by
    have h:=ah amx;rw [List.take_length] at h;exact HGD.trans h
   have HB9:=Hq (au akk hbx)
   have HL9:=Hq (CU.trans (hbx.mono CU.size))
   clear hbx
   go_wp2_with fail
   go_roundw
   case rel=>exact⟨k+1,Aaa,Aah,HF,HB9,HL9⟩
   case measure=>simp[intOf];omega
  have HBM:Hid (gZ (Bv lo) iN (ids.take (m+1))=false->TT=false):=λh=>HBAD (HGD.trans (oH _ _ _ _ h))
  have HL9:=Hq (CU.trans (hbx.mono CU.size));have hI3:=GR.At.below HI2 hbx;clear hbx;cases m with
  |zero=>
   obtain⟨g2,off2,rfl,hg2,q0⟩:=bZ.one hI3 0 hlm;rw [Nat.add_zero] at q0;have hgt:decide ((0:Int) < ((0:Nat):Int))=false:=rfl;have iG:Hid (gZ (Bv lo) iN (ids.take (0+1))=Bv lo ids[0]):=rH (Bv lo) iN ids hlm;clear hI3;generalize ids[0]=x at *;cases h1:decide (lo<=x/\x<=1000000000)
   case' false=>
    exact ajY
   have HV:=Hq (show gZ (Bv lo) iN (ids.take (0+1))=true by rw [ah iG];simp[Bv,h1]);open ara in exact akN
  |succ j=>
   obtain⟨g2,off2,e1,hg2,q0⟩:=bZ.one hI3 (j+1) hlm;obtain⟨g3,aHM,e2,hg3,q1⟩:=bZ.one hI3 j Aaa;open ayT in exact ahV):P:=h
theorem awi.Ab4(h:P:=by
 clear hbx d0 d1 d2 d3 c0 c1 c2 c3 c4 c5 c6 c7 c8 k0 k1 k2 k3 k4 k5 k6 k7 k8 m0 m1 m2 m3 HW1 AO wM CZ
 have Av:=Hq (show gZ RQ RR (reqs.take (k+1))= !bb by
  rw [ah iG,<-ah eZ,ah nW]
  simp only[Bool.not_not])
 cases hbv:bb
 .have HG:Hid (gZ RQ RR (reqs.take (k+1))=true):=by rw [ah Av,hbv];exact Hq rfl
  exact aiI
 .exact aiC):P:=h
theorem awj.Ab4(h:P:=by
 clear hbx d0 d1 d2 d3 c0 c1 c2 c3 c4 c5 c6 c7 c8 k0 k1 k2 k3 k4 k5 k6 k7 k8 m0 m1 m2 m3 HW1 AO wM CZ
 have Av:=Hq (show gZ OT RO (out.take (k+1))= !bb by
  rw [ah iG,<-ah eZ,ah nW]
  simp only[Bool.not_not])
 cases hbv:bb
 .have HG:Hid (gZ OT RO (out.take (k+1))=true):=by rw [ah Av,hbv];exact Hq rfl
  exact aiI
 .exact aiC):P:=h
theorem awk.Ab4(h:P:=by
 have HW2:=Hq (au HW1 hbx);clear hbx d0 d1 d2 d3 c0 c1 c2 c3 c4 c5 c6 c7 c8 HW1 AO wM eZ;obtain⟨d0,d1,d2,d3⟩:=gG HW2;cases hbv:bb
 .have HG:=Hq (show gZ KB RR (out.take (k+1))=true by rw [ah Av,hbv];rfl);subst hbv;clear HBAD Av;go_wp2_with fail;go_roundw
  case rel=>exact⟨k+1,si,Aaa,Aah,rfl,Dy.symm,HG,akk,CU⟩
  case measure=>simp[intOf];omega
 .have HP:=Hq (HBAD (by rw [ah Av,hbv];rfl));subst hbv;clear HBAD Av;go_wp2_with fail;go_ret;exact⟨aF HP.symm,CU⟩):P:=h
theorem aha(h:P:=by
 have WE:Hid (NQ W6 B (dP n (n.seen.set i ⟨mF,fJ s0 mL,bg s0 mL⟩)) (⟨a_k,(some ⟨gp,0,none⟩),dW,(some ⟨G.s,0,none⟩),gH,aK,bJ,aQ,aL,aU⟩:bV) ⟨G.k,G.p,G.o,G.s,G.r,sG G.i i gi⟩ (uQ gi (bg s0 mL) (newC w.heap.size 9 c))):=by rw [Zq];exact RV
 exact Ae7):P:=h
theorem awl.Ae7(h:P:=by
 open aDW in exact Yk2):P:=h
theorem awm.Ae7(h:P:=by
 open aDV in exact Yk2):P:=h
theorem aaw(h:P:=by
 go_simp;have AP:=Hq (HG0.trans (hx1.mono HG0.size));have ab3:wc.heap.size<=x1.heap.size:=AP.size;clear hx1;refine⟨(ay x1 _).mono ab3,?_⟩;exact Ac7):P:=h
theorem awn.Ac7(h:P:=by
 have zy:=ay x1 (.cells #[] 95);have aeh:=Hq (show(x1.alloc (.cells #[] 95)).ownsRow wc.heap.size 95 4 (.slice (some ⟨x1.heap.size,0,none⟩) 0 0) 0 (GR.flat aJ []) from World.ownsRow_lit (base:=wc.heap.size) (e:=95) (size:=4) x1 #[] 0 ab3 Aai Aac);have yM:=Hq (AP.trans (zy.mono AP.size));clear zy;generalize Po:x1.alloc (.cells #[] 95)=y1 at *;clear Po;exact AfK):P:=h
theorem awo.Ac7(h:P:=by
 have zy:=ay x1 (.cells (dZ no k nn 1) 95);have ad8:=Hq (heap_alloc_new x1 (.cells (dZ no k nn 1) 95));have yM:=Hq (AP.trans (zy.mono AP.size));clear zy;generalize Po:x1.alloc (.cells (dZ no k nn 1) 95)=y1 at *;open anH in exact aAj):P:=h
theorem awp.Ac7(h:P:=by
 have zy:=ay x1 (.cells (dZ no k nn 0) 95);have ad8:=Hq (heap_alloc_new x1 (.cells (dZ no k nn 0) 95));have yM:=Hq (AP.trans (zy.mono AP.size));clear zy;generalize Po:x1.alloc (.cells (dZ no k nn 0) 95)=y1 at *;open anG in exact aAj):P:=h
theorem ahb(h:P:=by
 obtain⟨d0,d1,d2,d3,d4,d5,d6,d7,d8⟩:=nine mP;have f0:=aj mP 0;have f1:=aj mP 1;have f2:=aj mP 2;have f3:=aj mP 3;have f4:=aj mP 4;have f5:=aj mP 5;have f6:=aj mP 6;have f7:=aj mP 7;have f8:=aj mP 8;exact Aeq):P:=h
theorem awq.Aeq(h:P:=by
 have hrl:=aA mP;go_wp2_with fail;refine aW (λW' hW'=>?_)
 have e4:W'.heap[w.heap.size+2]?=some (.cells (fP n.id n.par A1.k n.kids.length A1.ck n.next pa RL.length pc A1.o n.out.length A1.co A1.s n.seen.length A1.cs n.old A1.r n.reqs.length A1.cr) 40 (0,0)):=by
  rw [hW'];exact GR.setW_blk (fP n.id n.par A1.k n.kids.length A1.ck n.next pa RL.length pc A1.o n.out.length A1.co A1.s n.seen.length A1.cs n.old A1.r n.reqs.length A1.cr).toList (o:=0) (xs:=gN.toList) mP
 have gu:aC [w.heap.size+2] Y W':=by
  rw [hW'];exact aM (fP n.id n.par A1.k n.kids.length A1.ck n.next pa RL.length pc A1.o n.out.length A1.co A1.s n.seen.length A1.cs n.old A1.r n.reqs.length A1.cr).toList Y 0
 have HAT:=Hq (λW'' (ho:Dw w W' W'')=>(show RM W'' ⟨A1.k,pa,A1.o,A1.s,A1.r,A1.ck,pc,A1.co,A1.cs,A1.cr⟩ (setPu n RL) from(by
  have h:=((aDE.kc (k:=9) (KC.keeps gu (λx hx=>by have:x=w.heap.size+2:=Aaf;rw [this];exact Gl)) Aaa).kc (k:=9) (ho.kc (λx hx=>Zz x Aaa)) Aaa)
  obtain⟨F,hk2,hF⟩:=ho
  have hpo:=(dM (dM aDI gu (λx hx=>by have:x=w.heap.size+2:=Aaf;omega)) hk2 (λx hx=>by have:=hF x hx;omega))
  have hp9:∀g',pa.map (λy=>y.block)=some g'->6 < newC X.heap.size 9 c g':=λg' hg'=>by
   have h1:=qb hpo (nR hpo hg')
   rw [bq Aaa]
   omega
  exact NQ.put h HCQ (setPu n RL) ⟨A1.k,pa,A1.o,A1.s,A1.r,A1.ck,pc,A1.co,A1.cs,A1.cr⟩ rfl rfl rfl rfl (GR.own_ati aZ hpo) (λg' hg' _=> .inr (hp9 g' hg')) h.o (λy hy=> .inl (HCQ.co y hy)) h.r (λy hy=> .inl (HCQ.cr y hy))
   (λg' hg' _ h6=>⟨λe=>by have:=HCQ.co g' e;omega,λe=>by have:=HCQ.cr g' e;omega⟩) (λy hy h6 e=>by have:=HCQ.co y hy;omega))))
 have ow:Hid (aI w W'):=Dx.trans (gu.below (λx hx=>by have:x=w.heap.size+2:=Aaf;omega) Dx.size);obtain⟨x0,x1,x2,x3,x4,x5,x6,x7,x8⟩:=nine e4;clear hW' e4 gu;exact bodyPost_ret (v:= .tuple #[.agg (fP n.id n.par A1.k n.kids.length A1.ck n.next pa RL.length pc A1.o n.out.length A1.co A1.s n.seen.length A1.cs n.old A1.r n.reqs.length A1.cr),.slice (some ⟨W0.heap.size,0,none⟩) 0 0,.int .i64 0]) Aay rfl ⟨⟨A1.k,pa,A1.o,A1.s,A1.r,A1.ck,pc,A1.co,A1.cs,A1.cr⟩,some ⟨W0.heap.size,0,none⟩,0,rfl,HAT,λW'' _ i hi=>Aat,ow⟩):P:=h
theorem awr.Aeq(h:P:=by
 have hnl:=aA pE;have hrl:=aA mP;by_cases hm:mI < fJ s0 mL
 .have hd:decide (mI < fJ s0 mL)=true:=decide_eq_true hm;go_wp2_with fail;exact aA6
 .have hd:decide (mI < fJ s0 mL)=false:=decide_eq_false hm;have hb:hasB (bg s0 mL) mI=true:=Adl
  rw [hb] at ZF;go_wp2_with (go_at_call 101;refine(ZF _ adS.at).mono ?_;rintro e wh ⟨rfl,rfl⟩)
  exact aA6):P:=h
theorem ahc(h:P:=by
 generalize AA s=B at *;generalize LH s=E at *;generalize JF s=X at *;generalize uw s (jf s (jU s 1))=N2 at *;generalize jf s (jU s 1)=E2 at *;generalize jW s (jU s 1)=TX at *;generalize uw s 1=N1 at *;generalize jU s 1=E1 at *;obtain⟨mK,mF,mT,mI,mL,mk,mN⟩:=m;exact AfZ):P:=h
theorem aws.AfZ(h:P:=by
 have HH0:=Hq (λW (k:dR g w W)=>HH.keep1 k hg hge);go_in
 go_wp2_with fail;refine(HK _ H).mono ?_;rintro e w1 ⟨rfl,hr1,hk1⟩;have HR1:=Hq (hk1.obj (heap_alloc_new w _) (show w.heap.size≠g by omega));have RH:=Hq ((dR.of_below (ay w _)).trans hk1);have HA1:=Hq hr1;have hz1:w.heap.size < w1.heap.size:=dG HR1;clear hr1 hk1 HK H;go_upto_region 2 with fail;refine wp_at (λV2 hV=>?_)
 have HS:Hid (OS w V2 g w1.heap.size s 1 (bY (s[0].toNat:Int) 0 ⟨#[]⟩ 0 0 0 0 0 0 ⟨#[]⟩ 0)):=by
  rw [hV];exact⟨aN HA1 (ay w1 _),aN HR1 (ay w1 _),heap_alloc_new w1 _,RH.trans (dR.of_below (ay w1 _)),hz1⟩
 clear hV HR1 RH HA1;generalize w1.heap.size=o at *;clear w1;by_cases hE0:0<=E1
 case' neg=>
  have hno:OK=false:=ah lI (λhx=>hE0 (by have:=ah HX hx.1;omega));have HNN:=Hq (aDz V2 HS.rd (HH0 _ HS.keep) Aaa);clear hE0;exact ak6
 have HNY:=Hq (aDA V2 HS.rd (HH0 _ HS.keep) hE0);go_wp2_with fail;refine HNY.mono ?_;rintro e u0 ⟨rfl,hr,hk⟩;have HT:=Hq (HS.step hr hk hg);clear hr hk HNY HS;have hz0:=dG HT.op;obtain⟨⟨c0,c1,c2,c3,c4,c5,c6,c7,c8,c9,c10⟩,f0,f1,f2,f3,f4,f5,f6,f7,f8,f9,f10⟩:=aO HT.op;go_upto_region 3 with fail;refine wp_at (λV3 hV=>?_);have HS:Hid (OS w V3 g o s E1 (bY (s[0].toNat:Int) N1 ⟨#[]⟩ 0 0 0 0 0 0 ⟨#[]⟩ 0)):=by rw [hV];exact HT.set hg 1 (.int .i64 N1)
 clear hV HT hz0 c0 c1 c2 c3 c4 c5 c6 c7 c8 c9 c10 f0 f1 f2 f3 f4 f5 f6 f7 f8 f9 f10 u0 V2;by_cases hE1:0<=E2
 case' neg=>
  have hno:OK=false:=ah lI (λhx=>hE1 (by have:=ah HX hx.1;omega));have HNN:=Hq (aDL V3 HS.rd (HH0 _ HS.keep) Aaa);clear hE1;exact ak6
 have HNY:=Hq (aDM V3 HS.rd (HH0 _ HS.keep) hE1);go_wp2_with fail;refine HNY.mono ?_;rintro e u1 ⟨rfl,hr,hk⟩;have HT:=Hq (HS.step hr hk hg);clear hr hk HNY HS;have hz1:=dG HT.op;obtain⟨⟨c0,c1,c2,c3,c4,c5,c6,c7,c8,c9,c10⟩,f0,f1,f2,f3,f4,f5,f6,f7,f8,f9,f10⟩:=aO HT.op;go_upto_region 4 with fail;refine wp_at (λV4 hV=>?_);have HS:Hid (OS w V4 g o s E2 (bY (s[0].toNat:Int) N1 TX 0 0 0 0 0 0 ⟨#[]⟩ 0)):=by rw [hV];exact HT.set hg 2 (.string TX)
 clear hV HT hz1 c0 c1 c2 c3 c4 c5 c6 c7 c8 c9 c10 f0 f1 f2 f3 f4 f5 f6 f7 f8 f9 f10 u1 V3;by_cases hE2:0<=X
 case' neg=>
  have hno:OK=false:=ah lI (λhx=>hE2 (by have:=ah HX hx.1;omega));have HNN:=Hq (aDB V4 HS.rd (HH0 _ HS.keep) Aaa);clear hE2;exact ak6
 have HNY:=Hq (aDC V4 HS.rd (HH0 _ HS.keep) hE2);go_wp2_with fail;refine HNY.mono ?_;rintro e u2 ⟨rfl,hr,hk⟩;have HT:=Hq (HS.step hr hk hg);clear hr hk HNY HS;have hz2:=dG HT.op;obtain⟨⟨c0,c1,c2,c3,c4,c5,c6,c7,c8,c9,c10⟩,f0,f1,f2,f3,f4,f5,f6,f7,f8,f9,f10⟩:=aO HT.op;go_upto_region 5 with fail;refine wp_at (λV5 hV=>?_);have HS:Hid (OS w V5 g o s X (bY (s[0].toNat:Int) N1 TX N2 0 0 0 0 0 ⟨#[]⟩ 0)):=by rw [hV];exact HT.set hg 3 (.int .i64 N2)
 clear hV HT hz2 c0 c1 c2 c3 c4 c5 c6 c7 c8 c9 c10 f0 f1 f2 f3 f4 f5 f6 f7 f8 f9 f10 u2 V4;have hgl:g < V5.heap.size:=Nat.lt_of_lt_of_le hg HS.keep.size;have HMM:=Hq (HM V5 hgl HS.rd (HH0 _ HS.keep));go_wp2_with fail;refine HMM.mono ?_;rintro e w6 ⟨hcase,hk⟩;have Ze:=Hq hk;clear hk HMM;rcases hcase with⟨hyes,rfl,hr⟩|⟨hnot,p,rfl⟩
 case' inr=>
  have hno:=ah lI hnot;have HKK:=Hq (HS.keep.trans Ze);clear hnot;go_wp2_with fail;exact⟨rfl,.inr ⟨hno,_,rfl⟩,HKK⟩
 have HT:=Hq (HS.step hr Ze hg);have HYE:=Hq hyes;clear hr Ze HS hyes hgl;have hz6:=dG HT.op;obtain⟨⟨c0,c1,c2,c3,c4,c5,c6,c7,c8,c9,c10⟩,f0,f1,f2,f3,f4,f5,f6,f7,f8,f9,f10⟩:=aO HT.op;go_upto_region 6 with fail;refine wp_at (λV6 hV=>?_);have HS:Hid (OS w V6 g o s E (bY (s[0].toNat:Int) N1 TX N2 mK mF mT mI mL mk mN)):=by rw [hV];exact HT.tail hg
 clear hV HT hz6 c0 c1 c2 c3 c4 c5 c6 c7 c8 c9 c10 f0 f1 f2 f3 f4 f5 f6 f7 f8 f9 f10 w6 V5;obtain⟨e0,e1,_,_⟩:=HS.rd.two;obtain⟨⟨c0,c1,c2,c3,c4,c5,c6,c7,c8,c9,c10⟩,f0,f1,f2,f3,f4,f5,f6,f7,f8,f9,f10⟩:=aO HS.op;have hoV:=dG HS.op;have hgV:=dG HS.rd;clear f0 f1 f2 f3 f4 f5 f6 f7 f8 f9 f10;by_cases hEs:E=s.size
 case' neg=>
  have hno:OK=false:=by rw [Bool.eq_false_iff];intro hy;exact hEs (HG.1 hy).1
  have hq:(E == (s.size:Int))=false:=by simpa using hEs
  have hq2:(E != (s.size:Int))=true:=by simpa using hEs
  clear c0 c1 c2 c3 c4 c5 c6 c7 c8 c9 c10;refine wp_region_quiet_lit Aab Aab ?_;repeat (any_goals (first|go_big_quiet_step (fail)|quiet_step (fail)))
  refine wpQuiet_nil ?_;intro _ hw';obtain⟨nq,hw''⟩:=hw';subst hw'';go_wp2_with fail;refine(HF _ (aN HS.rd (jm V6 _))).mono ?_;rintro e w9 ⟨rfl,rfl⟩;go_wp2_with fail;exact⟨rfl,.inr ⟨hno,_,rfl⟩,HS.keep.trans (dR.of_below (jm V6 _))⟩
 have hq:(E == (s.size:Int))=true:=by simpa using hEs
 have hq2:(E != (s.size:Int))=false:=by simpa using hEs
 have HES:=Hq hEs;clear hEs;have x0:=cell_regrown e0;have x1:=cell_regrown e1;open anp in exact Gt):P:=h
theorem awt.AfZ(h:P:=by
 go_in
 go_wp2_with fail;refine(yO _).mono ?_;rintro e w1 ⟨rfl,hb1⟩;have hR1:=aN (heap_alloc_new w _) hb1;have hB1:=(ay w _).trans (hb1.mono Aac);clear hb1 yO;go_wp2_with fail;refine(HT1 _).mono ?_;rintro e w2 ⟨rfl,hb2⟩;have hR2:=aN hR1 hb2;have hB2:=hB1.trans (hb2.mono hB1.size);clear hb2 hR1 hB1 HT1;go_wp2_with fail;refine(Ke _).mono ?_;rintro e w3 ⟨rfl,hb3⟩;have hR3:=aN hR2 hb3;have hB3:=hB2.trans (hb3.mono hB2.size);clear hb3 hR2 hB2 Ke;go_wp2_with fail;refine(HT2 _).mono ?_;rintro e w4 ⟨rfl,hb4⟩;have hR4:=aN hR3 hb4;have hB4:=hB3.trans (hb4.mono hB3.size);clear hb4 hR3 hB3 HT2;go_wp2_with fail;refine(HG _).mono ?_;rintro e w5 ⟨rfl,hb5⟩;have R4:=Hq (aN hR4 hb5);have gY:=Hq (hB4.trans (hb5.mono hB4.size));clear hb5 hR4 hB4 HG;open avX in exact Vl):P:=h
theorem ahd(h:P:=by
 clear XJ;refine gL 4 rfl Aab Aad Aae (λx3 hx3=>?_);have yL:=Hq (J9.trans (hx3.mono J9.size));have Bu:uI.heap.size<=x3.heap.size:=yL.size;have AV:=Hq (GR.own_below Gs hx3);have xK:=Hq (au ZT hx3);clear hx3;exact Ae0):P:=h
theorem awu.Ae0(h:P:=by
 obtain⟨v3,y3,KV,KU,xV,Tq⟩:=fE aX Aaa x3 uI.heap.size 22 22 3 i0 (.int .i64 0) 8 underlying22 hi0 hz0 hz1' hz2 rfl (.slice (some ⟨x2.heap.size,0,none⟩) 0 0) 0 (GR.flat bf ([])) AV (some ⟨gi,0,none⟩) ((bg s0 mL).take pos) OP (GR.At.below Ei yL) (qP _) Aai Aaa Bu;open atg in exact agk):P:=h
theorem awv.Ae0(h:P:=by
 obtain⟨v3,y3,KV,KU,xV,Tq⟩:=fE aX Aaa x3 uI.heap.size 22 22 3 i0 (.int .i64 0) 8 underlying22 hi0 hz0 hz1' hz2 rfl (.slice (some ⟨x1.heap.size,0,none⟩) 0 0) 0 (GR.flat bf ([])) AV (some ⟨gi,0,none⟩) ((bg s0 mL).take pos) OP (GR.At.below Ei yL) (qP _) Aai Aaa Bu;open atf in exact agk):P:=h
theorem ahe(h:P:=by
 have h2I:¬(40:Int)<=(n.out.length:Int):=Aaa
 have q2:decide ((40:Int)<=(n.out.length:Int))=false:=by simpa using h2I
 have q3:decide ((1000000000:Int)<=n.next)=false:=by simpa using h3
 obtain⟨gp,hgp⟩:=hP;subst hgp;obtain⟨i0,hi,hz0,hz1,hz2⟩:=info_parts Lp;exact AdV):P:=h
theorem aww.AdV(h:P:=by
 have HPT:=Hq (λW (ha:aG W (some ⟨gp,0,none⟩) n.pu)=>QV gp 0 bJ n.pu key pf W (Nat.le_trans hz.p Aaa) uJ hz.pk hkey ha);unfold iV at HPT;rw [hu] at HPT;obtain⟨PM,Cj⟩:∃PM,nZ ⟨n.id,n.par,n.kids,n.next+1,RL,n.out++[⟨n.next,dst,key,pf⟩],n.seen,n.old,n.reqs⟩ ⟨n.next,dst,key,pf⟩=PM:=⟨_,rfl⟩;have Zi:=Hq Cj;rw [Cj];clear hz uJ hu Cj;unfold fG;have H9:=Hq h9;clear h9;open aEr in exact Yk9):P:=h
theorem awx.AdV(h:P:=by
 have HPT:=Hq (λW (ha:aG W (some ⟨gp,0,none⟩) n.pu)=>QV gp 0 bJ n.pu key most W (Nat.le_trans hz.p Aaa) uJ hz.pk hkey ha);unfold iV at HPT;rw [hu] at HPT;obtain⟨PM,Cj⟩:∃PM,nZ ⟨n.id,n.par,n.kids,n.next+1,RL,n.out++[⟨n.next,dst,key,most⟩],n.seen,n.old,n.reqs⟩ ⟨n.next,dst,key,most⟩=PM:=⟨_,rfl⟩;have Zi:=Hq Cj;rw [Cj];clear hz uJ hu Cj;unfold fG;have H9:=Hq h9;clear h9;open aEs in exact Yk9):P:=h
theorem ahf(h:P:=by
 clear XJ;refine gL 5 rfl Aab Aad Aae (λx3 hx3=>?_);have yL:=Hq (J9.trans (hx3.mono J9.size));have Bu:wc.heap.size<=x3.heap.size:=yL.size;have AV:=Hq (GR.own_below Gs hx3);have xK:=Hq (au ZT hx3);clear hx3;exact AdE):P:=h
theorem awy.AdE(h:P:=by
 obtain⟨v3,y3,KV,KU,xV,Tq⟩:=fE aS Aaa x3 wc.heap.size 38 38 95 i0 (.agg (dZ 0 ByteArray.empty 0 0)) 40 underlying38 hi hz0 hz1 hz2 rfl (.slice (some ⟨x2.heap.size,0,none⟩) 0 0) 0 (GR.flat aJ ([])) AV (some ⟨gr,0,none⟩) (n.reqs.take pos) aU (GR.At.below Ei yL) (iM _) Aai Aaa Bu;open atO in exact agr):P:=h
theorem awz.AdE(h:P:=by
 obtain⟨v3,y3,KV,KU,xV,Tq⟩:=fE aS Aaa x3 wc.heap.size 38 38 95 i0 (.agg (dZ 0 ByteArray.empty 0 0)) 40 underlying38 hi hz0 hz1 hz2 rfl (.slice (some ⟨x1.heap.size,0,none⟩) 0 0) 0 (GR.flat aJ ([])) AV (some ⟨gr,0,none⟩) (n.reqs.take pos) aU (GR.At.below Ei yL) (iM _) Aai Aaa Bu;open atN in exact agr):P:=h
theorem ahg(h:P:=by
 obtain⟨g,rest,rfl,hBg,hgg⟩:=wG HO Aaa;have HG:=Hq (au hgg cZ);have hkk:=ah RI l[k] (List.getElem_mem hlt);exact Afc):P:=h
theorem awC.Afc(h:P:=by
 have HC:=Hq (fun(W:World) (h:W.heap[g]?=some (.cells (GR.flat ig l++rest).toArray 120 (0,0))) j (hj:j < 12)=>vJ dA h k hlt j hj);clear hgg hBg;generalize l[k]=x at *;obtain⟨⟨K,no,k',n,mK,mF,mT,mI,mL,mk,mN⟩,c⟩:=x;dsimp only at hkk;have q0:wr.cell? ⟨g,k*12,none⟩=some (.int .i64 K):=ah HC wr HG 0 Aaa;have q1:wr.cell? ⟨g,k*12+1,none⟩=some (.int .i64 no):=ah HC wr HG 1 Aaa;have q2:wr.cell? ⟨g,k*12+2,none⟩=some (.string k'):=ah HC wr HG 2 Aaa;have q3:wr.cell? ⟨g,k*12+3,none⟩=some (.int .i64 n):=ah HC wr HG 3 Aaa;have q4:wr.cell? ⟨g,k*12+4,none⟩=some (.int .i64 mK):=ah HC wr HG 4 Aaa;have q5:wr.cell? ⟨g,k*12+5,none⟩=some (.int .i64 mF):=ah HC wr HG 5 Aaa;have q6:wr.cell? ⟨g,k*12+6,none⟩=some (.int .i64 mT):=ah HC wr HG 6 Aaa;have q7:wr.cell? ⟨g,k*12+7,none⟩=some (.int .i64 mI):=ah HC wr HG 7 Aaa;have q8:wr.cell? ⟨g,k*12+8,none⟩=some (.int .i64 mL):=ah HC wr HG 8 Aaa;have q9:wr.cell? ⟨g,k*12+9,none⟩=some (.string mk):=ah HC wr HG 9 Aaa;have q10:wr.cell? ⟨g,k*12+10,none⟩=some (.int .i64 mN):=ah HC wr HG 10 Aaa;go_wp2_with fail;refine(Tv ⟨K,no,k',n,mK,mF,mT,mI,mL,mk,mN⟩ _ hkk.1 hkk.2).mono ?_;rintro e w5 ⟨rfl,hb5⟩;have vX:=Hq (au HG hb5);have fO:=Hq (cZ.trans (hb5.mono cZ.size));clear hb5 q0 q1 q2 q3 q4 q5 q6 q7 q8 q9 q10;have q0:w5.cell? ⟨g,k*12,none⟩=some (.int .i64 K):=ah HC w5 vX 0 Aaa;have q1:w5.cell? ⟨g,k*12+1,none⟩=some (.int .i64 no):=ah HC w5 vX 1 Aaa;have q2:w5.cell? ⟨g,k*12+2,none⟩=some (.string k'):=ah HC w5 vX 2 Aaa;have q3:w5.cell? ⟨g,k*12+3,none⟩=some (.int .i64 n):=ah HC w5 vX 3 Aaa;have q4:w5.cell? ⟨g,k*12+4,none⟩=some (.int .i64 mK):=ah HC w5 vX 4 Aaa;have q5:w5.cell? ⟨g,k*12+5,none⟩=some (.int .i64 mF):=ah HC w5 vX 5 Aaa;have q6:w5.cell? ⟨g,k*12+6,none⟩=some (.int .i64 mT):=ah HC w5 vX 6 Aaa;have q7:w5.cell? ⟨g,k*12+7,none⟩=some (.int .i64 mI):=ah HC w5 vX 7 Aaa;have q8:w5.cell? ⟨g,k*12+8,none⟩=some (.int .i64 mL):=ah HC w5 vX 8 Aaa;have q9:w5.cell? ⟨g,k*12+9,none⟩=some (.string mk):=ah HC w5 vX 9 Aaa;have q10:w5.cell? ⟨g,k*12+10,none⟩=some (.int .i64 mN):=ah HC w5 vX 10 Aaa;have f0:=aj vX (k*12);have f1:=aj vX (k*12+1);have f2:=aj vX (k*12+2);have f3:=aj vX (k*12+3);have f4:=aj vX (k*12+4);have f5:=aj vX (k*12+5);have f6:=aj vX (k*12+6);have f7:=aj vX (k*12+7);have f8:=aj vX (k*12+8);have f9:=aj vX (k*12+9);have f10:=aj vX (k*12+10)
 have HS:=Hq (fO.trans ((OL [.int .i64 K,.int .i64 no,.string k',.int .i64 n,.int .i64 mK,.int .i64 mF,.int .i64 mT,.int .i64 mI,.int .i64 mL,.string mk,.int .i64 mN] (k*12) w5 _ vX (λj u hj=>by
  have h11:j < 11:=(List.getElem?_eq_some_iff.1 hj).1
  have hc:=ah HC w5 vX j Aaa
  rw [hc,<-hj]
  exact(List.getElem?_append_left (l₁:=([.int .i64 K,.int .i64 no,.string k',.int .i64 n,.int .i64 mK,.int .i64 mF,.int .i64 mT,.int .i64 mI,.int .i64 mL,.string mk,.int .i64 mN]:List Value)) (l₂:=([.int .i64 c]:List Value)) (by simpa using h11)))).mono fO.size))
 exact ajs):P:=h
theorem awD.Afc(h:P:=by
 have HC:=Hq (fun(W:World) (h:W.heap[g]?=some (.cells (GR.flat iU l++rest).toArray 98 (0,0))) j (hj:j < 7)=>vJ dX h k hlt j hj);clear hgg hBg;generalize l[k]=x at *;obtain⟨mK,mF,mT,mI,mL,mk,mN⟩:=x;dsimp only at hkk;have q5:wr.cell? ⟨g,k*7+5,none⟩=some (.string mk):=ah HC wr HG 5 Aaa;go_wp2_with fail;refine(clone mk _ Aaa).mono ?_;rintro e w5 ⟨rfl,hb5⟩;have vX:=Hq (au HG hb5);have fO:=Hq (cZ.trans (hb5.mono cZ.size));clear hb5 q5;have q5:w5.cell? ⟨g,k*7+5,none⟩=some (.string mk):=ah HC w5 vX 5 Aaa;have f5:=aj vX (k*7+5);have HS:=Hq (fO.trans ((mQ vX q5).mono fO.size));exact ajs):P:=h
theorem ahh(h:P:=by
 clear hr hc2;go_in
 go_wp2_with (first|(go_at_call_of 100 F;refine(H1 _).mono ?_;rintro e w1 ⟨rfl,rfl⟩)|(go_at_call_of 100 T;refine(H2 _).mono ?_;rintro e w1 ⟨rfl,rfl⟩)|(go_at_call_of 49 I;refine(Gl _).mono ?_;rintro e w1 ⟨rfl,rfl⟩))
 exact AfD):P:=h
theorem awE.AfD(h:P:=by
 go_ret;exact⟨aF (by first|exact HP.symm|exact he.trans HP.symm),ay w _⟩):P:=h
theorem awF.AfD(h:P:=by
 exact wP):P:=h
theorem ahi(h:P:=by
 have jD:=Hq ((hap _ (aA qD) (by rw [ah Gl];omega)).trans qD);have Zv:=Hq hat;have wL:=Hq (OJ jP hb5 hap Zz);have hrx:=aA qD;clear hat hb5 hap c0 c1 c2 c3 c4 c5 c6 c7 c8 p0 p1 p2 p3 p4 p5 p6 p7 p8 p9 nX hnl hol jB iG HOX qD AQ HPR;exact AfU):P:=h
theorem awG.AfU(h:P:=by
 open avb in exact agN):P:=h
theorem awH.AfU(h:P:=by
 have Ni:=Hq (heap_alloc_new W5 (.cells (dH N1 A2) 40));have uP:=Hq (au jD (ay W5 (.cells (dH N1 A2) 40)));have uT:=Hq (wL.trans ((ay W5 (.cells (dH N1 A2) 40)).mono wL.size));obtain⟨c0,c1,c2,c3,c4,c5,c6,c7,c8⟩:=nine Ni;have hnl:=aA Ni;open aoO in exact WW):P:=h
theorem ahj(h:P:=by
 refine Lib.wp_append_run x4 (.tmp 98) (.tmp 100) 38 38 rfl _ _ Aal Aal v4 y4 XF ?_;refine⟨(Below.refl _ _).grown EI Ph (λb hb=>(Oc.lt b hb).1),?_⟩;go_simp;have ZE:=Hq (ZC.grown EI Ph (λb hb=>(Oc.lt b hb).1));exact AfM):P:=h
theorem awI.AfM(h:P:=by
 have R8:Hid (y4.ownsRow wc.heap.size 95 4 v4 (pos+1) (GR.flat aJ (n.reqs.take pos++[(⟨no,k,nn,1⟩:Rq)]))):=Hq Acw;have ad9:=Hq (show y4.heap[rb]?=some (.cells (dZ no k nn 1) 95 (0,0)) from by rw [EI.block _ (aA (ah Ee)) (λhm=>ah Ww _ hm.symm rfl)];exact Ee);open ayb in exact aaH):P:=h
theorem awJ.AfM(h:P:=by
 have R8:Hid (y4.ownsRow wc.heap.size 95 4 v4 (pos+1) (GR.flat aJ (n.reqs.take pos++[(⟨no,k,nn,0⟩:Rq)]))):=Hq Acw;have ad9:=Hq (show y4.heap[rb]?=some (.cells (dZ no k nn 0) 95 (0,0)) from by rw [EI.block _ (aA (ah Ee)) (λhm=>ah Ww _ hm.symm rfl)];exact Ee);open aya in exact aaH):P:=h
theorem ahk(h:P:=by
 have HB9:Hid (aI w W9):=by rw [Tg];exact J7.setCell (p:=⟨w.heap.size,8,none⟩) (Nat.le_refl _) _
 have HL9:Hid (LO 95 aJ 4 (w.heap.size+3) W9 (some ⟨g8,0,none⟩) Et IT):=by rw [Tg];exact((HL8.lower hz7).keeps (aC.set _) (λx hx=>Aak))
 exact Aev):P:=h
theorem awK.Aev(h:P:=by
 have HP9:Hid (LO 108 gB 4 (w.heap.size+3) W9 av cv RL):=by rw [Tg];exact Zh.keeps (aC.set _) (λx hx=>by simp at hx;omega)
 clear Tg k8 kf8 ru yS ad7 J7 HL8 pE mP ZR Dx aeg WL c0 c1 c2 c3 c4 c5 c6 c7 c8 cf hnl Zh HP7;have Xt:IT.length=n.reqs.length:=hIT;clear hIT;obtain⟨c0,c1,c2,c3,c4,c5,c6,c7,c8⟩:=nine xJ;open ant in exact Gt):P:=h
theorem awL.Aev(h:P:=by
 skip
 clear Tg k8 kf8 ru yS ad7 J7 HL8 pE mP ZR Dx aeg WL c0 c1 c2 c3 c4 c5 c6 c7 c8 cf hnl;have Xt:IT.length=n.reqs.length:=hIT;clear hIT;obtain⟨c0,c1,c2,c3,c4,c5,c6,c7,c8⟩:=nine xJ;open anw in exact Gt):P:=h
theorem ahl(h:P:=by
 have mixed:prog.follows .mixedOrders=true:=Aab
 have hw1:IntKind.i64.wrap ((i:Int)+1)=(i:Int)+1:=IntWalk.i64_in _ ⟨Aaa,Aaa⟩;have hb1:(0:Int)<=(i:Int)+1:=Aaa
 have hin:i<=l.length:=Aaa
 have htn:((i:Int)+1).toNat=i+1:=Aaa
 exact AfQ):P:=h
theorem awM.AfQ(h:P:=by
 have hb2:¬(cap=i+1):=Aaa
 have hb3:(i:Int)<=(l.length:Int)+1:=Aaa
 have hb4:¬(cap=i):=Aaa
 have hc63:cap<=9223372036854775807:=Acf
 clear hcs hcl hdl hv hblk htake hcm hr1 abS alv hvr;go_in
 go_wp2_with (simp only[hov])
 go_region_law_o (refine step_copy_runI rfl _ _ 38 38 rfl _ _ Abz Abz (hcp1 _ _ _ _ _ Aaa Aaa) ?_)
 go_wp2_with (at_builtin;refine wpList_copy_runI _ rfl _ _ 38 38 rfl _ _ rfl rfl (hcp2 _ _ _ Aaa) ?_)
 go_ret;exact⟨rfl,hfin.1,hfin.2⟩):P:=h
theorem awN.AfQ(h:P:=by
 have hb3:(i:Int)<=(l.length:Int):=Aaa
 have hGi:¬(G=i):=Aaa
 have hGim:¬(G=i+1):=Aaa
 have hci:¬(cap=i):=Aaa
 have hG63:G<=9223372036854775807:=by unfold maxLen at hGm;omega
 have hz3:(cap:Int) < (l.length:Int)+1:=Aaa
 have hA2:=hA ((w.alloc (.cells R 95)).drew) rfl;have hB2:=hB ((((w.alloc (.cells R 95)).drew).setRow w.heap.size (zY R.toList i q).toArray).drew) rfl;clear hblk hv htake hcell hdl htl hRs hRl hRt hBb hi0 hz0 hz1 hz2 hA hB;go_in
 go_upto_region 10 with(at_builtin;refine Lib.wpList_append_run _ rfl _ _ _ _ rfl _ _ rfl rfl _ _ (hrz _) ?_)
 go_wp2_with (first
  |(at_builtin;refine wpList_copy_runI _ rfl _ _ 38 38 rfl _ _ rfl rfl (hA2 _ _ _ Aaa) ?_))
 go_region_law_o (refine step_copy_runI rfl _ _ 38 38 rfl _ _ Abz Abz (hB2 _ _ _ _ _ Aaa Aaa) ?_)
 go_wp2
 go_ret;obtain⟨f1,f2⟩:=ah CV ((((w.alloc (.cells R 95)).drew).setRow w.heap.size (zY R.toList i q).toArray).drew) rfl rfl rfl rfl;exact⟨G,_,rfl,hGn,hGm,f1,uX,Ob,f2⟩):P:=h
theorem aax(h:P:=by
 have f0:=GR.Blk.free gY (k*4);have f1:=GR.Blk.free gY (k*4+1);have f2:=GR.Blk.free gY (k*4+2);have f3:=GR.Blk.free gY (k*4+3);go_wp2_with fail;exact AcB):P:=h
theorem awO.AcB(h:P:=by
 go_roundw
 case rel=>
  have h:=GR.Blk.set gY aS k Aaa ⟨pno,pk,pn,ps⟩;rw [ah TS] at h;exact⟨k+1,Aaa,Aah,h,GR.setW_below (o:=k*4) (Nat.le_refl w.heap.size) (aJ ⟨pno,pk,pn,ps⟩) fO⟩
 case measure=>simp[intOf];omega):P:=h
theorem awP.AcB(h:P:=by
 go_roundw
 case rel=>
  have h:=GR.Blk.set gY bQ k Aaa ⟨pi,pt,pk,pn⟩;rw [ah TS] at h;exact⟨k+1,Aaa,Aah,h,GR.setW_below (o:=k*4) (Nat.le_refl w.heap.size) (aV ⟨pi,pt,pk,pn⟩) fO⟩
 case measure=>simp[intOf];omega):P:=h
theorem awQ.AcB(h:P:=by
 go_roundw
 case rel=>
  have h:=GR.Blk.set gY aZ k Aaa ⟨pk,pm,pf,ps⟩;rw [ah TS] at h;exact⟨k+1,Aaa,Aah,h,GR.setW_below (o:=k*4) (Nat.le_refl w.heap.size) (gB ⟨pk,pm,pf,ps⟩) fO⟩
 case measure=>simp[intOf];omega):P:=h
theorem Vn(h:P:=by
 obtain⟨c0,c1,c2,c3,c4,c5,c6,c7,c8,c9⟩:=jH HW1.blk;obtain⟨⟨p0,p1,p2,p3,p4,p5,p6,p7,p8,p9,nX⟩,_⟩:=aO yQ;exact AbH):P:=h
theorem awR.AbH(h:P:=by
 have hwl:=aA HW.blk;have hne:wb≠w.heap.size:=Aaa
 exact AaD):P:=h
theorem awS.AbH(h:P:=by
 go_in
 go_upto_region 1 with fail;have y1:=cell_regrown c1;open azZ in exact aaN):P:=h
theorem awT.AbH(h:P:=by
 go_in
 go_upto_region 3 with fail;have y0:=cell_regrown c0;have y1:=cell_regrown c1;open azY in exact aaN):P:=h
theorem awU.AbH(h:P:=by
 have hwl:=aA HW.blk;have hne:wb≠w.heap.size:=Aaa
 go_in
 go_upto_region 1 with fail;have y1:=cell_regrown c1;have y4:=cell_regrown c4;open azX in exact aaN):P:=h
theorem ahm(h:P:=by
 have HR:Hid (textOf s k (some (n,c))=some (s.extract (k+c) (k+c+n),k+c+n)):=by unfold textOf;exact if_neg hbad
 rw [Int.toNat_natCast];have h1:¬1000 < n:=Aaa
 have h2:¬(s.size:Int) - ((k:Int)+(c:Int)) < (n:Int):=Aaa
 exact AdL):P:=h
theorem awV.AdL(h:P:=by
 clear hbad;open ayr in exact aaJ):P:=h
theorem awW.AdL(h:P:=by
 have hz:(s.extract (k+c) (k+c+n)).size<=281474976710656:=by rw [ByteArray.size_extract];omega
 clear hbad;go_in
 go_wp2_with (first|(go_at_call 251;refine(HS _).mono ?_;rintro e w1 ⟨rfl,rfl⟩;simp only[rD])|(go_at_call 67;refine(clone _ _ hz).mono ?_;rintro e w2 ⟨rfl,hb2⟩))
 go_ret3
 exact⟨by rw [ah HR];simp[sU],hb2⟩):P:=h
theorem ahn(h:P:=by
 have ho:=h.own;rw [<-h.len] at ho;obtain⟨a',c',g,e,hW,hg,hgo⟩:=GR.W.of_own (enc:=fV) dK ho;cases e
 rw [h.len] at hgo;have hfe:∀x,x∈fp g l->x∈fp g T2:=λx hx=>by have:=eD hx;rw [this.1];exact eG (by rw [h.len];exact this.2)
 exact Afq):P:=h
theorem awX.Afq(h:P:=by
 refine⟨g,⟨T2,hW,h.len,λi hi=>?_⟩,λx hx=>⟨(hg x (hfe x hx)).1,hgo x (hfe x hx)⟩,λx hx=>?_,?_⟩
 .obtain⟨b,c,e1,e2,_⟩:=h.dn i hi hi;exact⟨b,c,e1,e2⟩
 .obtain⟨i,hi,rfl,hpos⟩:=uo hx;obtain⟨_,_,_,_,e3⟩:=h.dn i hi hi;exact e3 _ (eG hpos)
 .rw [oV];exact λi j hi hj hij h1 h2=>h.nd i j hi hj hij hj h1 h2):P:=h
theorem awY.Afq(h:P:=by
 refine⟨g,⟨⟨T2,hW,h.len,λi hi=>?_⟩,λhp=>?_⟩,λx hx=>(hg x (hfe x hx)).1,λx hx=>?_,?_⟩
 .obtain⟨b,c,e1,e2,_⟩:=h.dn i hi hi;exact⟨b,c,e1,e2⟩
 .have hx:=hgo g (eG (by rw [h.len];exact hp));rcases h.own.2 with⟨_,hn⟩|⟨g',cap,cur,hv,_,hgg,_⟩
  .omega
  .rw [hv] at hx;have e3:g'=g:=Abp
   rw [e3] at hgg;exact⟨cur,hgg⟩
 .obtain⟨i,hi,rfl,hpos⟩:=uo hx;obtain⟨_,_,_,_,e3⟩:=h.dn i hi hi;have q:=e3 _ (eG hpos);exact⟨q.1,q.2.1,λhm=>q.2.2 (hgo _ (hfe _ hm))⟩
 .rw [oV];exact λi j hi hj hij h1 h2=>h.nd i j hi hj hij hj h1 h2):P:=h
theorem aay(h:P:=by
 go_in
 go_wp2_with fail;refine HBS.mono ?_;rintro e w1 ⟨rfl,q,rfl⟩;rw [hf];exact AcU):P:=h
theorem awZ.AcU(h:P:=by
 go_wp2_with fail;go_ret;exact⟨⟨rfl,rfl,rfl,Nat.le_refl _,λ_ _=>rfl⟩,λ_ _ _ _=>rfl,.inl ⟨by first|trivial|rfl,rfl,HH.drewN⟩⟩):P:=h
theorem aw0.AcU(h:P:=by
 clear HBS
 have ZH:=Hq (alT B (.slice a l.length cap) (l.map (·.k)) (place l key) key w.heap.size ((w.drewN q).alloc (.cells #[.string key] 9)) (by rw [List.length_map];exact lZ l key) (by rw [List.length_map];exact hl) Aag
  (World.ownsRow.alloc (w:=w.drewN q) HH.row _) (heap_alloc_new (w.drewN q) _) (λe=>by have:=HR.lt _ e;omega))
 go_wp2_with fail;refine ZH.mono ?_;rintro e w2 ⟨v',rfl,hown,hgr⟩;rw [List.length_map,acr,<-Cq l key] at hown;obtain⟨g',cap',rfl,_,_⟩:=hown.form (by rw [Cq];omega)
 have hlt:∀k,k < w.heap.size->(Value.slice a l.length cap).ownBlock≠some k->w2.heap[k]?=w.heap[k]?:=λk hk hne=>by
  rw [hgr.block k Aag (Ne.symm hne)]
  exact Below.heap_alloc (w.drewN q) _ _ hk
 have hm2:w2.heap[mp]?=some (.cells #[.slice a l.length cap,.map (some mb)] 352 (0,0)):=by rw [hlt mp hmp (own_ne (ah HR) (ah HH).blk Aae)];exact HH.blk
 have hb2:w2.heap[mb]?=w.heap[mb]?:=by
  obtain⟨es,clock,hbk⟩:=HH.map.blk;exact hlt mb hmb (yw HR hbk)
 have hbw:Below B w w2:=by
  refine⟨hgr.os,hgr.tape,hgr.output,Nat.le_trans Aac hgr.size,λk hk=>hlt k Aaa (λe=>?_)⟩;have:=HR.lt _ e;omega
 have HO:=Hq hown;have HM2:=Hq hm2;have HB2:=Hq hb2;have iR:=Hq hbw;have HLT:=Hq hlt;obtain⟨⟨n0,n1⟩,g0,g1⟩:=mD hm2;clear hown hgr hlt hm2 hb2 hbw ZH n1 g1;go_wp2_with fail;go_ret;refine⟨iR.setCell (p:=⟨mp,0,none⟩) HH.lop _,λk hk hne1 hne2=>Fo.one_other (HLT k hk hne2) hne1,.inr (.inr ⟨by first|trivial|rfl,Aaa,rfl,.slice (some ⟨g',0,none⟩) (PO l key).length cap',?_,?_,?_,HH.lop,HH.lom⟩)⟩
 .exact Fo.blk_set HM2 0 _
 .refine HO.kept (w':=w2.setCell ⟨mp,0,none⟩ _) (row:=some mp) ⟨rfl,rfl,rfl,by rw [Fo.setCell_size];exact Nat.le_refl _,λk _ hne=>Fo.one_other rfl (λe=>hne Aao)⟩ (.inr (own_ne HO HM2 Aae))
 .refine HH.map.kept ?_;rw [Fo.one_other (ah HB2) (Ne.symm (ah HH).mpmb)]):P:=h
theorem aw1.AcU(h:P:=by
 go_wp2_with fail;go_ret;exact⟨⟨rfl,rfl,rfl,Nat.le_refl _,λ_ _=>rfl⟩,λ_ _ _ _=>rfl,.inr (.inl ⟨by first|trivial|rfl,H20,rfl⟩)⟩):P:=h
theorem aaz(h:P:=by
 rw [<-hW] at e1 e2 e3 e4;have HN:=Hq e1;have HO:=Hq e2;have HR:=Hq e3;have HB0:=Hq e4;have Nh:=Hq (lI.kc (k:=9) (KC.of_below e4) Aaa);exact Ab9):P:=h
theorem aw2.Ab9(h:P:=by
 clear hW e1 e2 e3 e4 lI;obtain⟨⟨p0,p1,p2,p3,p4,p5,p6,p7,p8,p9,nX⟩,_⟩:=aO HO;have hol:=aA HO;obtain⟨c0,c1,c2,c3,c4,c5,c6,c7,c8⟩:=nine HN;obtain⟨d0,d1,d2,d3,d4,d5,d6,d7,d8⟩:=nine HR;have f0:=aj HR 0;have f1:=aj HR 1;have f2:=aj HR 2;have f3:=aj HR 3;have f4:=aj HR 4;have f5:=aj HR 5;have f6:=aj HR 6;have f7:=aj HR 7;have f8:=aj HR 8;have hnl:=aA HN;have hrl:=aA HR;go_wp2_with fail;refine aW (λW' hW'=>?_)
 have e4:W'.heap[w.heap.size+2]?=some (.cells (dH n A) 40 (0,0)):=by
  rw [hW'];exact GR.setW_blk (dH n A).toList (o:=0) (xs:=gN.toList) HR
 have gu:aC [w.heap.size+2] W0 W':=by
  rw [hW'];exact aM (dH n A).toList W0 0
 have HAT:=Hq (λW'' (ho:Out c w W' W'')=>(Nh.kc (k:=9) ((KC.keeps gu (λx hx=>by have:x=w.heap.size+2:=Aaf;rw [this];exact bq Aaa)).trans (KC.out H9 ho)) Aaa).rm);have ow:Hid (Below B w W'):=(HB0.mono hB).trans (gu.below (λx hx=>by have:x=w.heap.size+2:=Aaf;omega) (Nat.le_trans hB (HB0.mono hB).size));have tq:=Hq (Apart.keeps (c:=c) (Apart.of_below (HB0)) (HB0.mono hB).size gu (λx hx=>by have:x=w.heap.size+2:=Aaf;omega));obtain⟨x0,x1,x2,x3,x4,x5,x6,x7,x8⟩:=nine e4;clear hW' e4 gu;exact bodyPost_ret (v:= .tuple #[(fQ n A),.int .i64 2]) Abk rfl ⟨A,rfl,HAT,ow,tq⟩):P:=h
theorem aw3.Ab9(h:P:=by
 clear hW e1 e2 e3 e4;open auH in exact agF):P:=h
theorem aw4.Ab9(h:P:=by
 clear hW e1 e2 e3 e4 lI;open auI in exact agF):P:=h
theorem aaA(h:P:=by
 have uW:=Hq (yM.trans (hx2.mono yM.size));have vF:wc.heap.size<=x2.heap.size:=uW.size;have Gq:=Hq (GR.own_below aeh hx2);clear hx2;exact AcQ):P:=h
theorem aw5.AcQ(h:P:=by
 refine⟨(ay x2 _).mono vF,?_⟩;have GH:=ay x2 (.cells (dZ no k nn 0) 95);have ZT:=Hq (heap_alloc_new x2 (.cells (dZ no k nn 0) 95));open ase in exact akS):P:=h
theorem aw6.AcQ(h:P:=by
 refine⟨(ay x2 _).mono vF,?_⟩;have GH:=ay x2 (.cells (dZ no k nn 1) 95);have ZT:=Hq (heap_alloc_new x2 (.cells (dZ no k nn 1) 95));open asf in exact akS):P:=h
theorem aw7.AcQ(h:P:=by
 obtain⟨v2,y2,XE,XD,Xz,aCK⟩:=fE aS Aaa x2 wc.heap.size 38 38 95 i0 (.agg (dZ 0 ByteArray.empty 0 0)) 40 underlying38 hi hz0 hz1 hz2 rfl (.slice (some ⟨x1.heap.size,0,none⟩) 0 0) 0 (GR.flat aJ ([])) Gq (some ⟨gr,0,none⟩) (n.reqs.take pos) aU (GR.At.below Ei uW) (iM _) Aai Aaa vF;rw [hlt1] at XE XD;refine Lib.wp_append_run x2 (.tmp 93) (.tmp 97) 38 38 rfl _ _ Aal Aal v2 y2 XE ?_;refine⟨(Below.refl _ _).grown Xz vF (λb hb=>(Gq.lt b hb).1),?_⟩;go_simp;have J9:=Hq (uW.grown Xz vF (λb hb=>(Gq.lt b hb).1));have Gs:Hid (y2.ownsRow wc.heap.size 95 4 v2 (pos) (GR.flat aJ (n.reqs.take pos))):=Hq (by simpa [GR.flat_nil] using XD);obtain⟨avR,cvR,ab1,_⟩:=GR.own_at (enc:=aJ) (sz:=4) (l:=n.reqs.take pos) aS (by rw [hlt1];exact Gs);open ayV in exact ahW):P:=h
theorem aho(h:P:=by
 have y0:=(hcell 0 Aaa).1;rw [Nat.mul_one,Nat.add_zero] at y0;simp only[List.getElem?_cons_zero] at y0;clear hcell;exact Afe):P:=h
theorem aw8.Afe(h:P:=by
 have HUP:=Hq (fun(h:¬(bg s0 mL)[x] < mI)=>adz (l:=bg s0 mL) (x:=mI) hx ZI (λ_=>h))
 have ZK:=Hq (fun(h:(bg s0 mL)[x] < mI)=>show∀y (hy:y < (bg s0 mL).length),y < x+1->(bg s0 mL)[y] < mI from λy hy h2=>by
  by_cases e:y=x
  .subst e;exact h
  .exact ZI y hy Aaa)
 generalize (bg s0 mL)[x]=rn at *;by_cases hcmp:rn < mI
 .go_wp2_with fail;go_quiet (fail);go_wp2_with fail;go_roundw
  case rel=>exact⟨x+1,_,Aaa,Aah,ZK hcmp,rfl⟩
  case measure=>simp[intOf];omega
 .have abR:decide (rn < mI)=false:=decide_eq_false hcmp;have HJ:=Hq (HUP hcmp);exact aiF):P:=h
theorem aw9.Afe(h:P:=by
 subst eb;have hlen:=XK s0 mL k;by_cases hge:fJ s0 mL<=s0.ids[k]
 .have HY:=Hq (XL s0 mL k hlt hge);generalize s0.ids[k]=x at *;have hd:decide (fJ s0 mL<=x)=true:=decide_eq_true hge;go_wp2_with fail;go_quiet (fail);go_wp2_with (at_builtin;refine wpList_append_own _ rfl _ _ 22 rfl W3.heap.size 3 i0 (.int .i64 0) 1 8 underlying22 hi0 hz0 hz1' hz2 rfl Aae _ _ _ rfl (Dn hown) ⟨wr.heap.size,0,none⟩ 1 1 [.int .i64 x] rfl rfl ?c1 ?c2 ?c3 ?c4 ?c5 ?_)
  case c1=>exact cell_one_new _ _ _
  case c2=>intro u hu;simp at hu;subst hu;rfl
  case c3=>unfold maxLen;omega
  case c4=>omega
  case c5=>have:=cZ.size;simp;omega
  intro v' w2 hown' hgrow _;have aDr:=Hq (GR.below_append (wr:=wr.drewN nq) (cZ.trans ⟨rfl,rfl,rfl,Nat.le_refl _,λ_ _=>rfl⟩) cZ.size hown hgrow)
  obtain⟨g',cp',rfl⟩:∃g' cp',v'= .slice (some ⟨g',0,none⟩) ((oC s0 mL k).length+1) cp':=by
   rcases hown'.2 with⟨_,hn⟩|⟨g',cap',cur,hv,_⟩
   .omega
   .exact⟨g',cap',hv⟩
  have Au:=Hq hown';clear hown' hgrow;go_wp2_with fail;go_roundw
  case rel=>exact⟨k+1,g',cp',Aaa,Aah,by rw [ah HY,List.length_append];rfl,by rw [ah HY,List.length_append,GR.flat_append,GR.flat_one];exact Au,λe=>by rw [ah HY] at e;simp at e,aDr⟩
  case measure=>simp[intOf];omega
 .have HY:=Hq (ab8 s0 mL k hlt hge);generalize s0.ids[k]=x at *;have hd:decide (fJ s0 mL<=x)=false:=decide_eq_false hge;go_wp2_with fail;go_quiet (fail);go_wp2_with fail;go_roundw
  case rel=>exact⟨k+1,g,cp,Aaa,Aah,by rw [ah HY],by rw [ah HY];exact hown,by rw [ah HY];exact akn,cZ.trans ⟨rfl,rfl,rfl,Nat.le_refl _,λ_ _=>rfl⟩⟩
  case measure=>simp[intOf];omega):P:=h
theorem ahp(h:P:=by
 go_upto_region 4 with fail;refine wp_region_quiet_below Aab Aab ?_;repeat (first|go_big_quiet_step (fail)|quiet_step (fail))
 refine wpQuiet_nil ?_;intro _ hw';obtain⟨⟨dq,osq⟩,hw''⟩:=hw';subst hw'';exact AfT):P:=h
theorem axa.AfT(h:P:=by
 clear y18;go_wp2_with fail;go_ret;exact .no HP (qC.trans ((below_regrown _ dq osq).mono qC.size))):P:=h
theorem axb.AfT(h:P:=by
 clear y20;go_wp2_with fail;go_ret;exact .no HP (HB2.trans ((below_regrown _ dq osq).mono HB2.size))):P:=h
theorem ahq(h:P:=by
 refine gL 8 rfl Aab Aad Aae (λx4 hx4=>?_);have ZC:=Hq (Wx.trans (hx4.mono Wx.size));have Ph:wc.heap.size<=x4.heap.size:=ZC.size;have Oc:=Hq (GR.own_below WR hx4);have Ee:=Hq (au Gp hx4);clear hx4;exact Afd):P:=h
theorem axc.Afd(h:P:=by
 obtain⟨v4,y4,XF,Tp,EI,ab4⟩:=gJ x4 wc.heap.size 38 38 95 i0 (.agg (dZ 0 ByteArray.empty 0 0)) 4 40 underlying38 hi hz0 hz1 hz2 rfl Aae (.slice avR (pos) cvR) (pos) (GR.flat aJ (n.reqs.take pos)) Oc ⟨rb,0,none⟩ 1 1 (aJ ⟨no,k,nn,1⟩) rfl (World.news_of_block Ee) (oN _) Aai Aaa Ph;open awI in exact ahj):P:=h
theorem axd.Afd(h:P:=by
 obtain⟨v4,y4,XF,Tp,EI,ab4⟩:=gJ x4 wc.heap.size 38 38 95 i0 (.agg (dZ 0 ByteArray.empty 0 0)) 4 40 underlying38 hi hz0 hz1 hz2 rfl Aae (.slice avR (pos) cvR) (pos) (GR.flat aJ (n.reqs.take pos)) Oc ⟨rb,0,none⟩ 1 1 (aJ ⟨no,k,nn,0⟩) rfl (World.news_of_block Ee) (oN _) Aai Aaa Ph;open awJ in exact ahj):P:=h
theorem Vo(h:P:=by
 refine wp_at (λW hW=>?_);have iR:Hid (aI w W):=by rw [hW];first|exact jy w _ _|exact(jy w _ _).drew
 exact AbZ):P:=h
theorem axe.AbZ(h:P:=by
 have hX:W.heap[w.heap.size+1]?=some (.cells (bY 2 no ⟨#[]⟩ 0 0 0 0 0 0 ⟨#[]⟩ 0) 100 (0,0)):=Abv
 have hY:W.heap[w.heap.size]?=some (.cells (bY 2 no k n mK mF mT mI mL mk mN) 100 (0,0)):=Abw
 open ayo in exact aaI):P:=h
theorem axf.AbZ(h:P:=by
 have hX:W.heap[w.heap.size+1]?=some (.cells (bY 5 0 ⟨#[]⟩ 0 0 0 0 0 0 ⟨#[]⟩ 0) 100 (0,0)):=Abv
 have hY:W.heap[w.heap.size]?=some (.cells (bY 5 no k n mK mF mT mI mL mk mN) 100 (0,0)):=Abw
 open avF in exact agZ):P:=h
theorem axg.AbZ(h:P:=by
 have hX:W.heap[w.heap.size+1]?=some (.cells (bY 1 no k n 0 0 0 0 0 ⟨#[]⟩ 0) 100 (0,0)):=Abv
 have hY:W.heap[w.heap.size]?=some (.cells (bY 1 no k n mK mF mT mI mL mk mN) 100 (0,0)):=Abw
 open ayn in exact aaI):P:=h
theorem axh.AbZ(h:P:=by
 exact AcK):P:=h
theorem ahr(h:P:=by
 generalize l[k]=x at *;generalize m[k]=y at *;obtain⟨x0,x1,x2,x3⟩:=x;obtain⟨y0,y1,y2,y3⟩:=y;dsimp only at s0 s1 s2 s3 t0 t1 t2 t3;clear hk2;by_cases hx:x0=y0
 case' neg=>
  have hq:(x0 == y0)=false:=Aaf
  exact abh
 subst hx;exact AeQ):P:=h
theorem axi.AeQ(h:P:=by
 by_cases hx:x1=y1
 case' neg=>
  have hq:(x1 == y1)=false:=Aaf
  exact abh
 subst hx;by_cases hx:x2=y2
 case' neg=>
  have hq:(x2.toList == y2.toList)=false:=BZ hx;have hr:¬x2.toList=y2.toList:=Abn
  exact ak8
 exact aBv):P:=h
theorem axj.AeQ(h:P:=by
 by_cases hx:x1=y1
 case' neg=>
  have hq:(x1.toList == y1.toList)=false:=BZ hx;have hr:¬x1.toList=y1.toList:=Abn
  exact ak8
 exact ajm):P:=h
theorem ahs(h:P:=by
 clear hat hmt hb5;have hwp:wr.heap.size<=y5.heap.size:=HG2.size;refine tk [6,7,8,9] ?_;iterate 4 (refine tkB hwp (λK hK=>?_);go_simp;first|refine hK _ ?_|(apply Exists.intro;refine⟨λ_=>?_,hK _ ?_⟩;rfl);clear hK K)
 refine jK ?_;clear hwp;exact Aec):P:=h
theorem axk.Aec(h:P:=by
 refine gL 10 rfl Aab Aad Aae (λx10 KY=>?_);have Ea:=Hq (Ge.trans HG2 KY);have HD3:=Hq (show Ge y5 x10 from KY);go_simp;refine⟨(ay x10 _).mono Ea.size,?_⟩;have hqd:x10.heap.size < x5.heap.size\/y5.heap.size<=x10.heap.size:= .inr HD3.size;have hqV:wr.heap.size<=x10.heap.size:=Ea.size;have HGf:=Hq (Ge.trans Ea (ay x10 (.cells gN 40)));have HDf:=Hq (Ge.trans HD3 (ay x10 (.cells gN 40)));have HQf:=Hq (heap_alloc_new x10 (.cells gN 40));clear KY Ea HD3;generalize x10.heap.size=qf at *;exact aBj):P:=h
theorem axl.Aec(h:P:=by
 have HGf:=HG2;have HDf:=Hq (Below.refl y5.heap.size y5);have HQf:=HQ2;exact aBj):P:=h
theorem aaB(h:P:=by
 obtain⟨K,no,k,nn,⟨mK,mF,mT,mI,mL,mk,mN⟩⟩:=o;have HW1:=Hq (h.step (ay w (.cells (bY K no k nn mK mF mT mI mL mk mN) 100)));exact AcR):P:=h
theorem axm.AcR(h:P:=by
 have hq2:(n.par == -1)=true:=Abg
 clear h hR HSY hpar;obtain⟨c0,c1,c2,c3,c4,c5,c6,c7,c8,c9⟩:=jH HW1.blk;go_in
 go_wp2_with fail;go_ret;exact⟨rfl,c,v,HW1⟩):P:=h
theorem axn.AcR(h:P:=by
 have hwl:=aA h.blk;have hne:wb≠w.heap.size:=Aaa
 have HBO:=Hq (show Below w0.heap.size w0 (w.alloc (.cells (bY K no k nn mK mF mT mI mL mk mN) 100)) from HW1.keep);have HSA:=Hq (λW c v L' (hW:WK w0 W wb n A G c v L')=>hW.no.at.o);clear h hz;generalize nZ n=PM at *;obtain⟨ak,ap,ao,as',ar,ck,cp,co,cs,cr⟩:=A;obtain⟨c0,c1,c2,c3,c4,c5,c6,c7,c8,c9⟩:=jH HW1.blk;go_in
 go_wp2_with fail;go_loopw [13] (λi wr=>∃(k:Nat) (c':Nat->Nat) (v':Value),k<=n.out.length/\i= .int .i64 k/\WK w0 wr wb n ⟨ak,ap,ao,as',ar,ck,cp,co,cs,cr⟩ G c' v' (L++(n.out.take k).map PM)) (λi _=>n.out.length - (intOf i).toNat)
 case atStart=>exact⟨0,c,v,Nat.zero_le _,rfl,by simpa using ah HW1⟩
 case round=>
  obtain⟨k,cc,vv,hk,rfl,hS⟩:=hrel;have Ef:=Hq hS;clear hS c0 c1 c2 c3 c4 c5 c6 c7 c8 c9;have hwr:=aA Ef.blk;by_cases hlt:k < n.out.length
  .obtain⟨g,off,e0,hg,q0,q1,q2,q3⟩:=SentAt.four (HSA wr cc vv _ Ef) k hlt;have HKk:=Hq (HKK n.out[k] (List.getElem_mem hlt));have HT:=Hq (show L++(n.out.take (k+1)).map PM=L++(n.out.take k).map PM++[PM n.out[k]] by rw [List.take_succ_eq_append_getElem hlt,List.map_append,List.append_assoc];rfl);have akw:=Hq (Ed n.out[k]);generalize n.out[k]=sk at *;generalize PM sk=mk' at *;obtain⟨si,st,sx,sn⟩:=sk;obtain⟨qK,qF,qT,qI,qL,qk,qN⟩:=mk';dsimp only at q0 q1 q2 q3 HKk e0;subst e0;go_upto_region 4 with fail;refine wp_at (λW3 hW3=>?_);have HR3:Hid (W3.heap[wr.heap.size]?=some (.cells (fA si st sx sn) 91 (0,0))):=by rw [hW3];exact heap_alloc_new _ _
   have Eh:Hid (WK w0 W3 wb n ⟨ak,ap,some ⟨g,off,none⟩,as',ar,ck,cp,co,cs,cr⟩ G cc vv (L++(n.out.take k).map PM)):=by rw [hW3];exact Ef.step (ay wr _)
   clear hW3 q0 q1 q2 q3;have aDJ:=Hq (λp:Regrown=>akw (Gr W3 p) (GR.At.below (HSA W3 cc vv _ Eh) (below_regrown W3 p.d p.os)));have hr3:=aA HR3;have hw3:=aA Eh.blk;have hnr:wb≠wr.heap.size:=Aaa
   obtain⟨c0,c1,c2,c3,c4,c5,c6,c7,c8,c9⟩:=jH Eh.blk;obtain⟨d0,d1,d2,d3⟩:=gG HR3;open anm in exact Gt
  .have hke:k=n.out.length:=Aaa
   subst hke;have hnlt:decide ((n.out.length:Int) < (n.out.length:Int))=false:=Aac
   go_wp2_with fail;go_ret;have hS:=ah Ef;rw [List.take_length] at hS;exact⟨rfl,cc,vv,hS⟩):P:=h
theorem axo.AcR(h:P:=by
 have hq2:(n.par == -1)=true:=Abg
 clear h hR Ed hpar;obtain⟨c0,c1,c2,c3,c4,c5,c6,c7,c8,c9⟩:=jH HW1.blk;go_in
 go_upto_region 1 with fail;have y1:=cell_regrown c1;clear c0 c1 c2 c3 c4 c5 c6 c7 c8 c9;refine dz Aab ?_;show gT _ _ _ _ 20 (Array.replicate 20 false) _ _
 refine tk [0,1,2,3,4,5,6,7,8,9,10,11,12,13,14,15,16,17,18,19] ?_;iterate 20 (refine AJ (λK hK=>?_);go_simp;refine hK _ ?_;clear hK K)
 refine jK ?_;refine fu Aab (λz hz=>?_);have HZ:=Hq (HW1.step hz);clear hz y1;exact ajI):P:=h
theorem aht(h:P:=by
 cases hx1:uh x
 case' false=>
  exact aBd
 by_cases hx2:x=id
 case' pos=>
  exact aA8
 have hy2:(x == id)=false:=by simp[hx2]
 by_cases hx3:x=par
 case' pos=>
  exact aA7
 have hy3:(x == par)=false:=by simp[hx3]
 exact Ael):P:=h
theorem axp.Ael(h:P:=by
 by_cases hx4:y < x
 case' neg=>
  have hy4:decide (x<=y)=true:=decide_eq_true Aaa;have HP:=Hq (HBAD (by rw [ah iG];simp[ku,iN,hx4]));clear HBAD iG;exact aez
 have hy4:decide (x<=y)=false:=decide_eq_false Aaa;have HG:=Hq (show gZ (ku id par) iN (kids.take (j+1+1))=true by rw [ah iG];simp[ku,hx1,hx2,hx3,iN,hx4]);clear HBAD iG;open arJ in exact akQ):P:=h
theorem axq.Ael(h:P:=by
 have HG:=Hq (show gZ (ku id par) iN (kids.take (0+1))=true by rw [ah iG];simp[ku,hx1,hx2,hx3]);clear HBAD iG;open arK in exact akQ):P:=h
theorem ahu(h:P:=by
 obtain⟨R,hR⟩:∃R,cK ⟨6,no,k,n,m⟩=R:=⟨_,rfl⟩;rw [hR];have HP:=Hq (show R=(decide (k.toList=[])&&decide (n=0)&&decide (no=0)&&dw m) by rw [<-hR];simp[cK]);clear hR;generalize dw m=OK at *;obtain⟨mK,mF,mT,mI,mL,mk,mN⟩:=m;exact AdN):P:=h
end Go.Proofs.YtohmklmkjmlpjaaGreatDoor
