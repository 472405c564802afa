/-
  Parts of proofs that stand more than once, each said once.
-/
import Derived.Test.YtacgbldlonoaaaaGreatDoorRwZ3
namespace Go.Proofs.YtacgbldlonoaaaaGreatDoor
open Go.Proofs.Tryz
set_option maxRecDepth 100000
variable{P:Prop}
theorem aqO.AcY(h:P:=by
 by_cases hb:128<=s[k].toNat
 .have HR:=Hq (Mth.get_more s k _ m _ _ hlt hj hb HG);clear HG;go_wp2
  go_round
  case rel=>exact⟨_,_,_,k+1,HU,J9 m _ v hm,Aai,Aai,Aai,by have:=ah HK;omega,HR⟩
  case measure=>simp[intOf];omega
 .by_cases hbig:(4000000000:Int) < (m:Int)+(s[k].toNat:Int) % 128*(v:Int)
  .have HR:=Hq (Mth.get_bad s k _ m _ _ hlt hj hb (.inl (Qn m _ v hb hbig)) HG);clear HG;exact adO
  .by_cases hz:(s[k].toNat:Int)<=0
   .by_cases hj0:0 < j
    .have HR:=Hq (Mth.get_bad s k _ m _ _ hlt hj hb (.inr ⟨Aaa,hj0⟩) HG);have hik:i < k:=by have:=ah HK;omega
     clear HG;exact adO
    .have HR:=Hq (Mth.get_hit s k _ m _ _ hlt hj hb (yI m _ v hb hbig) (.inr Aaa) HG);have hik:k<=i:=by have:=ah HK;omega
     clear HG;go_wp2
     go_ret3
     exact⟨Qz HR (Qo m _ v hz) (by have:=ah HK;omega),rfl⟩
   .have HR:=Hq (Mth.get_hit s k _ m _ _ hlt hj hb (yI m _ v hb hbig) (.inl Aaa) HG);have hz':0 < (s[k].toNat:Int):=Aaa
    clear HG;go_wp2
    go_ret3
    exact⟨Qz HR (Qp m _ v hb) (by have:=ah HK;omega),rfl⟩):P:=h
theorem aqP.AcY(h:P:=by
 by_cases hb:128<=s[k].toNat
 .have HR:=Hq (Mth.get_more s k _ m _ _ hlt hj hb HG);have HN:=Hq (Ye s i j k m v HK hlt HU0 hb Ru);clear HG;go_wp2
  go_round
  case rel=>exact⟨_,_,_,k+1,HU,J9 m _ v hm,Aai,Aai,Aai,by have:=ah HK;omega,HN,HR⟩
  case measure=>simp[intOf];omega
 .go_wp2_with fail;generalize hx:((m:Int)+(s[k].toNat:Int) % 128*(v:Int))=x;have hx0:0<=x:=Aaa
  have hx1:x<=34359738368:=Aaa
  have HX:=Hq hx;clear hx hp0 hp1;have hA:(0:Int)<=(k:Int)+1:=Aaa
  have hB:(k:Int)+1<=(s.size:Int):=Aaa
  have hC:(i:Int)<=(k:Int)+1:=Aaa
  have hW:IntKind.i64.wrap ((k:Int)+1)=(k:Int)+1:=IntWalk.i64_in _ ⟨Aaa,Aaa⟩;by_cases hbig:4000000000 < x
  .have HR:=Hq (Mth.get_bad s k _ m _ _ hlt hj hb (.inl (Qn m _ v hb (by rw [ah HX];exact hbig))) HG);have hne:(([]:List UInt8) == (s.extract i (k+1)).toList)=false:=JZ (by rw [zH s i j k (ah HK) hlt];simp);go_region_with (go_at_call 213;refine(vI _ _ (.inr hbig)).mono ?_;rintro e w' ⟨rfl,rfl⟩)
   all_goals
    go_wp2
    go_ret2
    exact⟨get_none HR,(Below.refl _ _).drew⟩
  .have hsm:x<=4000000000:=Aaa
   have HV:Hid (x.toNat=m+s[k].toNat*v):=by have h1:=Qp m s[k].toNat v hb;rw [ah HX] at h1;rw [h1];rfl
   by_cases hbad:s[k].toNat=0/\0 < j
   .have HR:=Hq (Mth.get_bad s k _ m _ _ hlt hj hb (.inr hbad) HG);have hne:(Mth.put x.toNat == (s.extract i (k+1)).toList)=false:=JZ (by rw [ah HV];exact ajh s i j k m v HK hlt HU0 hj Ru hbad.1 hbad.2);clear hbad;go_region_with (go_at_call 213;refine(wH _ _ hx0 hsm).mono ?_;rintro e w' ⟨rfl,hbel⟩)
    all_goals
     go_wp2
     go_ret2
     exact⟨get_none HR,by first|exact hbel|exact((Below.refl _ _).drew).trans hbel⟩
   .have HR:=Hq (Mth.get_hit s k _ m _ _ hlt hj hb (yI m _ v hb (by rw [ah HX];omega)) Aaa HG);have heq:(Mth.put x.toNat == (s.extract i (k+1)).toList)=true:=WQ (by rw [ah HV];exact adZ s i j k m v HK hlt HU0 hj hb Ru (by omega));clear hbad;go_region_with (go_at_call 213;refine(wH _ _ hx0 hsm).mono ?_;rintro e w' ⟨rfl,hbel⟩)
    all_goals
     go_wp2
     go_ret2
     exact⟨get_some HR (by have:=ah HV;omega) (by have:=ah HK;omega),by first|exact hbel|exact((Below.refl _ _).drew).trans hbel⟩):P:=h
theorem Z0(h:P:=by
 have hwl:=aA h.blk;obtain⟨K,no,k,nn,⟨mK,mF,mT,mI,mL,mk,mN⟩⟩:=o;dsimp only at *;subst hK;have HW0:=Hq h;clear h;go_in
 go_upto_region 2 with fail;refine wp_at (λW hW=>?_);exact Ab3):P:=h
theorem aqQ.Ab3(h:P:=by
 obtain⟨_,e2,e3⟩:=iO w (.cells (cu K no k nn 2 mF mT mI mL mk mN) 34) (.cells (cK 2 mF mT mI mL mk mN) 32);open apv in exact aiY):P:=h
theorem aqR.Ab3(h:P:=by
 obtain⟨_,e2,e3⟩:=iO w (.cells (cu K no k nn 1 mF mT mI mL mk mN) 34) (.cells (cK 1 mF mT mI mL mk mN) 32);open apw in exact aiY):P:=h
theorem aqS.Ab3(h:P:=by
 obtain⟨_,e2,e3⟩:=iO w (.cells (cu K no k nn 0 mF mT mI mL mk mN) 34) (.cells (cK 0 mF mT mI mL mk mN) 32);open apx in exact aiY):P:=h
theorem afv(h:P:=by
 obtain⟨⟨p0,p1,p2,p3,p4,p5,p6,p7,p8,p9,oD⟩,_⟩:=aQ HO;obtain⟨c0,c1,c2,c3,c4,c5,c6,c7,c8⟩:=nine HN;have hol:=aA HO;have hnl:=aA HN;go_wp2_with fail;refine(Oe W0 Jv.at.r).mono ?_;rintro e W1 ⟨rfl,hb1⟩;have lC:=Hq (ay HN hb1);have Wo:=Hq (ay HO hb1);have qC:=Hq (ay HR hb1);have HB1:=Hq (HB0.trans (hb1.mono HB0.size));exact AeS):P:=h
theorem aqT.AeS(h:P:=by
 clear hb1 c0 c1 c2 c3 c4 c5 c6 c7 c8 p0 p1 p2 p3 p4 p5 p6 p7 p8 p9 oD hnl hol Oe HN HO HR Jv HB0;obtain⟨⟨p0,p1,p2,p3,p4,p5,p6,p7,p8,p9,oD⟩,_⟩:=aQ Wo;obtain⟨c0,c1,c2,c3,c4,c5,c6,c7,c8⟩:=nine lC;have hol:=aA Wo;have hnl:=aA lC;have hrl:=aA qC;go_upto_region 9 with fail;refine wp_at (λW2 hW2=>?_);have hbw2:=au W1 (.cells (eG no k nn 1) 97);have hq2:=heap_alloc_new W1 (.cells (eG no k nn 1) 97);rw [<-hW2] at hbw2 hq2;have kC:=Hq (ay lC hbw2);have He:=Hq (ay Wo hbw2);have jU:=Hq (ay qC hbw2);have aiG:=Hq hq2;have HB2:=Hq (HB1.trans (hbw2.mono HB1.size));have hqb:w.heap.size+2 < W1.heap.size:=hrl;clear hW2 hbw2 hq2 c0 c1 c2 c3 c4 c5 c6 c7 c8 p0 p1 p2 p3 p4 p5 p6 p7 p8 p9 oD lC Wo qC HB1 hnl hol hrl;obtain⟨⟨p0,p1,p2,p3,p4,p5,p6,p7,p8,p9,oD⟩,_⟩:=aQ He;obtain⟨c0,c1,c2,c3,c4,c5,c6,c7,c8⟩:=nine kC;have hol:=aA He;have hnl:=aA kC;have hql:=aA aiG;go_wp2_with fail;refine(Rv W2 (kS.kc (k:=9) (KC.of_below HB2) Aaa).at.p).mono ?_;rintro e W3 ⟨v3,rfl,ajA,hrow3,hb3⟩;obtain⟨av,cv,rfl,_⟩:=GR.own_at (enc:=fH) (sz:=4) aX hrow3;have HRW:=Hq (LO.own (en:=fH) hrow3);have mJ:=Hq (ay kC hb3);have KP:=Hq (ay He hb3);have mO:=Hq (ay jU hb3);have R5:=Hq (ay aiG hb3);have HB3:=Hq (HB2.trans (hb3.mono HB2.size));clear hb3 ajA hrow3 Rv kC He jU aiG HB2 c0 c1 c2 c3 c4 c5 c6 c7 c8 p0 p1 p2 p3 p4 p5 p6 p7 p8 p9 oD hnl hol;obtain⟨c0,c1,c2,c3,c4,c5,c6,c7,c8⟩:=nine mJ;obtain⟨q0,q1,q2,q3⟩:=gP R5;have cf:=aj mJ 4;have qf:=aj R5 3;exact AaM):P:=h
theorem aqU.AeS(h:P:=by
 have yZ:=Hq (Jv.kc (k:=9) (KC.of_below hb1) Aaa);clear hb1 c0 c1 c2 c3 c4 c5 c6 c7 c8 p0 p1 p2 p3 p4 p5 p6 p7 p8 p9 oD hnl hol Oe HN HO HR Jv HB0;obtain⟨g,off,e0,hg,q0,q1,q2,q3⟩:=jf.four yZ.at.r i hi;rw [ah akU] at q0 q1 q2 q3;clear akU;obtain⟨rno,rk,rn,rs⟩:=rq;exact Kw4):P:=h
theorem Vd(h:P:=by
 clear HNk HYk;go_wp2_with fail;refine(HCk wr HB).mono ?_;rintro e w1 ⟨rfl,hb1⟩;have HB1:=Hq (HB.trans (hb1.mono HB.size));rw [hq];exact AbF):P:=h
theorem aqV.AbF(h:P:=by
 clear hb1 q0 q1 q2;exact ahu):P:=h
theorem aqW.AbF(h:P:=by
 clear hb1 q0 q1 q2;go_wp2_with fail;go_ret;exact⟨rfl,HB1⟩):P:=h
theorem aqX.AbF(h:P:=by
 clear hb1 q0 q1 q2 q3;exact ahu):P:=h
theorem aqY.AbF(h:P:=by
 clear hb1 q0 q1 q2 q3;go_wp2_with fail;go_ret;exact⟨Aac,HB1⟩):P:=h
theorem afw(h:P:=by
 have HPk:=Hq (Zw k hlt);have hki:(k:Int) < (L.length:Int):=Aaa
 generalize O3 (fJ n (L.take k)) L[k]=RR at *;generalize fJ n (L.take k)=m at *;generalize L[k]=oo at *;obtain⟨K,no,kk,nn,⟨mK,mF,mT,mI,mL,mk,mN⟩⟩:=oo;dsimp only at t0 t1 t2 t3 t4 t5 t6 t7 t8 t9 t10;obtain⟨m',Ms,code⟩:=RR;dsimp only at HPk;exact AeW):P:=h
theorem aqZ.AeW(h:P:=by
 unfold j6 at Oo;dsimp only at Oo;have hsz:=HS.siz;open alO in exact awf):P:=h
theorem ara.AeW(h:P:=by
 unfold Bq at Oo;dsimp only at Oo;have hsz:w5.heap.size+1<=wr.heap.size:=aA HS.blk;open alP in exact awf):P:=h
theorem afx(h:P:=by
 clear Rz HRW;clear c0 c1 c2 c3 c4 c5 c6 c7 c8 q0 q1 q2 q3 cf qf mJ KP mO R5 HB3;have HA4:=Hq (kS.kc (k:=9) (KC.of_below lI) Aaa).at.r;obtain⟨c0,c1,c2,c3,c4,c5,c6,c7,c8⟩:=nine BD;obtain⟨⟨p0,p1,p2,p3,p4,p5,p6,p7,p8,p9,oD⟩,_⟩:=aQ adu;have hnl:=aA BD;have hol:=aA adu;have hile:=wV n.reqs no;go_upto_block 0 with fail;exact AdS):P:=h
theorem arb.AdS(h:P:=by
 go_cut [10] from 11 (λi wx=>i= .int .i64 (dZ n.reqs no:Nat)/\Ge W4 wx)
 case first=>
  exact axb
 case rest=>
  open auu in exact agp):P:=h
theorem ard.AdS(h:P:=by
 go_cut [10] from 11 (λi wx=>i= .int .i64 (dZ n.reqs no:Nat)/\Ge W4 wx)
 case first=>
  exact axb
 case rest=>
  open aut in exact agp):P:=h
theorem afy(h:P:=by
 have q3s:=aa9 (g:=w.heap.size+2) (i:=3) (b0:= .int .i64 n.id) (b1:= .int .i64 n.par) (b2:= .slice a_k n.kids.length aL) (b3:= .int .i64 n.next) (b4:= .slice av RL.length cv) (b5:= .slice eD n.out.length aP) (b6:= .slice eO n.seen.length aM) (b7:= .int .i64 n.old) (b8:= .slice (some ⟨gv,0,none⟩) (n.reqs.length+1) vc) (show w.heap.size+2≠W1.heap.size by omega) RH;exact Aeg):P:=h
theorem arf.Aeg(h:P:=by
 open amA in exact OG):P:=h
theorem arh.Aeg(h:P:=by
 go_simp;refine aF 1 rfl Aab Aad ?_;open amC in exact OG):P:=h
theorem afz(h:P:=by
 have q3s:=aa9 (g:=w.heap.size+2) (i:=3) (b0:= .int .i64 n.id) (b1:= .int .i64 n.par) (b2:= .slice a_k n.kids.length aL) (b3:= .int .i64 n.next) (b4:= .slice av RL.length cv) (b5:= .slice eD n.out.length aP) (b6:= .slice eO n.seen.length aM) (b7:= .int .i64 IH.no) (b8:= .slice (some ⟨g8,0,none⟩) n.reqs.length EW) (show w.heap.size+2≠W1.heap.size by omega) RH;exact Ad0):P:=h
theorem ari.Ad0(h:P:=by
 open amy in exact OG):P:=h
theorem arj.Ad0(h:P:=by
 go_simp;refine aF 1 rfl Aab Aad ?_;open amz in exact OG):P:=h
theorem afA(h:P:=by
 go_wp2_with fail;refine(HP _).mono ?_;rintro e w5 ⟨rfl,hb5⟩;have Vv:=aJ HR hb5;have hM5:=aJ HMB hb5;have hB5:=HB.trans (hb5.mono HB.size);have aCW:=bH hM5;have aCY:=bH Vv;obtain⟨⟨d0,d1,d2,d3,d4,d5,d6⟩,f0,f1,f2,f3,f4,f5,f6⟩:=dQ Vv;have BF:=Hq Vv;have iX:=Hq hB5;clear hb5 HR HMB HB q0 q1 q2 q3 q4 q5 q6 HP hzM hzR;exact AeN):P:=h
theorem ark.AeN(h:P:=by
 cases hp:bY ⟨s[0].toNat,N1,N2,N3,N4,TX,N5⟩
 case' false=>
  have hO:OK=false:=by rw [ah HO,hp];simp
  have uz:=Hq (HZ hO)
  clear hO HO HZ HM hM5 Vv hB5 hp
  go_wp2_with fail
  refine bodyPost_at (λW' hW'=>?_)
  obtain⟨⟨r0,r1,r2,r3,r4,r5,r6⟩,_⟩:=dQ (show W'.heap[w.heap.size]?=some (.cells (cK 0 0 0 0 0 ⟨#[]⟩ 0) 32 (0,0)) by rw [hW'];exact ou BF)
  have hbb:aY w W':=Adr
  exact bodyPost_ret (v:= .tuple #[.agg (cK 0 0 0 0 0 ⟨#[]⟩ 0),.bool false]) Ado rfl ⟨Aay,hbb⟩
 have hO:OK=true:=by rw [ah HO,decide_eq_true (ah HE),hp];rfl
 have uz:=Hq (HM hO);obtain⟨q0,q1,q2,q3,q4,q5,q6⟩:=uj hM5;clear hO HO HZ HM hM5 Vv hB5 hp;open asu in exact afT):P:=h
theorem arl.AeN(h:P:=by
 by_cases hp:fA ⟨s[0].toNat,N1,N2,N3,N4,TX,N5⟩=s
 case' neg=>
  have hO:OK=false:=by rw [ah HO,decide_eq_false hp];simp
  have uz:=Hq (HZ hO)
  have hq:((fA ⟨s[0].toNat,N1,N2,N3,N4,TX,N5⟩).toList == s.toList)=false:=by
   exact ahj
  clear hO HO HZ HM hM5 Vv hB5
  generalize fA ⟨s[0].toNat,N1,N2,N3,N4,TX,N5⟩=pm at *
  have HP:=Hq hp
  clear hp
  go_wp2_with fail
  refine bodyPost_at (λW' hW'=>?_)
  obtain⟨⟨r0,r1,r2,r3,r4,r5,r6⟩,_⟩:=dQ (show W'.heap[w.heap.size]?=some (.cells (cK 0 0 0 0 0 ⟨#[]⟩ 0) 32 (0,0)) by rw [hW'];exact ou BF)
  have hbb:aY w W':=Adr
  exact bodyPost_ret (v:= .tuple #[.agg (cK 0 0 0 0 0 ⟨#[]⟩ 0),.bool false]) Adp rfl ⟨Aay,hbb⟩
 have hO:OK=true:=by rw [ah HO,decide_eq_true hE,decide_eq_true hp];rfl
 have uz:=Hq (HM hO);have hq:((fA ⟨s[0].toNat,N1,N2,N3,N4,TX,N5⟩).toList == s.toList)=true:=by rw [hp];simp
 obtain⟨q0,q1,q2,q3,q4,q5,q6⟩:=uj hM5;clear hO HO HZ HM hM5 Vv hB5;have HP:=Hq hp;clear hp;generalize fA ⟨s[0].toNat,N1,N2,N3,N4,TX,N5⟩=pm at *;open asr in exact afT):P:=h
theorem Ve(h:P:=by
 go_simp;refine⟨Below.refl _ _,?_⟩;refine Bd Aab (λx3 hx3=>?_);have hg3:=Ge.trans (Ge.trans hx hx2) hx3;clear RH;exact AbD):P:=h
theorem arn.AbD(h:P:=by
 have wK:=Hq (ay jV hg3);open azC in exact Y6):P:=h
theorem aro.AbD(h:P:=by
 have wK:=Hq (ay lY hg3);open azF in exact Y6):P:=h
theorem arp.AbD(h:P:=by
 have wK:=Hq (ay jV hg3);open azw in exact Y6):P:=h
theorem arq.AbD(h:P:=by
 have wK:=Hq (ay lY hg3);open azz in exact Y6):P:=h
theorem afB(h:P:=by
 obtain⟨d0,d1,d2,d3,d4,d5,d6,d7,d8⟩:=nine xZ;have f0:=aj xZ 0;have f1:=aj xZ 1;have f2:=aj xZ 2;have f3:=aj xZ 3;have f4:=aj xZ 4;have f5:=aj xZ 5;have f6:=aj xZ 6;have f7:=aj xZ 7;have f8:=aj xZ 8;have hrl:=aA xZ;exact AfE):P:=h
theorem ars.AfE(h:P:=by
 go_simp;refine aF 4 rfl Aab Aad ?_;go_simp;refine aF 6 rfl Aab Aad ?_;go_simp;refine aF 7 rfl Aab Aad ?_;go_simp;refine wpAny_done Aab ?_;go_simp;clear d0 d1 d2 d3 d4 d5 d6 d7 d8 f0 f1 f2 f3 f4 f5 f6 f7 f8;go_wp2_with fail;refine aO (λW' hW'=>?_)
 obtain⟨SW,hSW,hsz,hk0,e3⟩:∃SW:World,W'=SW.alloc (.cells (cK qK qF qT qI qL qk qN) 32)/\SW.heap.size=z.heap.size/\aC [w.heap.size+1] z SW/\SW.heap[w.heap.size+1]?=some (.cells (gH n.id n.par a_k n.kids.length aL (n.next+1) av RL.length cv a6 (n.out.length+1) c6 eO n.seen.length aM n.old gN n.reqs.length aV) 30 (0,0)):=
  ⟨GR.setW z (w.heap.size+1) 0 (gH n.id n.par a_k n.kids.length aL (n.next+1) av RL.length cv a6 (n.out.length+1) c6 eO n.seen.length aM n.old gN n.reqs.length aV).toList,hW',by simp[GR.setW],aK (gH n.id n.par a_k n.kids.length aL (n.next+1) av RL.length cv a6 (n.out.length+1) c6 eO n.seen.length aM n.old gN n.reqs.length aV).toList z 0,GR.setW_blk (gH n.id n.par a_k n.kids.length aL (n.next+1) av RL.length cv a6 (n.out.length+1) c6 eO n.seen.length aM n.old gN n.reqs.length aV).toList (o:=0) (xs:=fU.toList) xZ⟩
 have e4:W'.heap[w.heap.size+1]?=some (.cells (gH n.id n.par a_k n.kids.length aL (n.next+1) av RL.length cv a6 (n.out.length+1) c6 eO n.seen.length aM n.old gN n.reqs.length aV) 30 (0,0)):=by rw [hSW];exact ay e3 (au SW _)
 have gL:aC [w.heap.size+1] z W':=by rw [hSW];exact hk0.trans (aC.of_below (au SW _))
 have hm:W'.heap[z.heap.size]?=some (.cells (cK qK qF qT qI qL qk qN) 32 (0,0)):=by rw [hSW,<-hsz];exact heap_alloc_new SW _
 have HFI:=Hq (Dv W' z.heap.size ((aC.of_below HZ).trans gL) hm (by have:=aA xZ;omega));obtain⟨x0,x1,x2,x3,x4,x5,x6,x7,x8⟩:=nine e4;clear hW' e4 gL hm hSW hsz hk0 e3;exact bodyPost_ret (v:= .tuple #[.agg (gH n.id n.par a_k n.kids.length aL (n.next+1) av RL.length cv a6 (n.out.length+1) c6 eO n.seen.length aM n.old gN n.reqs.length aV),.slice (some ⟨z.heap.size,0,none⟩) 1 1,.int .i64 0]) Adn rfl ⟨⟨a_k,av,a6,eO,gN,aL,cv,c6,aM,aV⟩,some ⟨z.heap.size,0,none⟩,1,by rw [ah HNV],HFI.1,HFI.2.1,HFI.2.2.1,HFI.2.2.2⟩):P:=h
theorem aru.AfE(h:P:=by
 refine aF 5 rfl Aab Aad ?_;go_simp;refine aF 6 rfl Aab Aad ?_;go_simp;refine aF 7 rfl Aab Aad ?_;go_simp;refine wpAny_done Aab ?_;go_simp;clear d0 d1 d2 d3 d4 d5 d6 d7 d8 f0 f1 f2 f3 f4 f5 f6 f7 f8 hrl;go_wp2_with fail;refine aO (λW' hW'=>?_)
 have e4:W'.heap[w.heap.size+1]?=some (.cells (gH n.id n.par a_k n.kids.length aL (n.next+1) av RL.length cv a6 (n.out.length+1) c6 eO n.seen.length aM n.old gN n.reqs.length aV) 30 (0,0)):=by
  rw [hW'];exact GR.setW_blk (gH n.id n.par a_k n.kids.length aL (n.next+1) av RL.length cv a6 (n.out.length+1) c6 eO n.seen.length aM n.old gN n.reqs.length aV).toList (o:=0) (xs:=fU.toList) xZ
 have gL:aC [w.heap.size+1] z2 W':=by
  rw [hW'];exact aK (gH n.id n.par a_k n.kids.length aL (n.next+1) av RL.length cv a6 (n.out.length+1) c6 eO n.seen.length aM n.old gN n.reqs.length aV).toList z2 0
 have HFI:=Hq (Dv W' z.heap.size ((aC.of_below HZ2).trans gL) (gL.obj HM2 (λhm=>by have:z.heap.size=w.heap.size+1:=Aau;omega)) Aaa);obtain⟨x0,x1,x2,x3,x4,x5,x6,x7,x8⟩:=nine e4;clear hW' e4 gL;exact bodyPost_ret (v:= .tuple #[.agg (gH n.id n.par a_k n.kids.length aL (n.next+1) av RL.length cv a6 (n.out.length+1) c6 eO n.seen.length aM n.old gN n.reqs.length aV),.slice (some ⟨z.heap.size,0,none⟩) 1 1,.int .i64 0]) Adn rfl ⟨⟨a_k,av,a6,eO,gN,aL,cv,c6,aM,aV⟩,some ⟨z.heap.size,0,none⟩,1,by rw [ah HNV],HFI.1,HFI.2.1,HFI.2.2.1,HFI.2.2.2⟩):P:=h
theorem afC(h:P:=by
 have hnl:=aA HN;have hol:=aA HO;go_wp2_with fail;refine(lD W1 HB1).mono ?_;rintro e W2 ⟨rfl,hb2⟩;have kC:=Hq (ay HN hb2);have He:=Hq (ay HO hb2);have jU:=Hq (ay HR hb2);have HB2:=Hq (HB1.trans (hb2.mono HB1.size));clear hb2 c0 c1 c2 c3 c4 c5 c6 c7 c8 p0 p1 p2 p3 p4 p5 p6 p7 p8 p9 oD hnl hol lD HN HO HR HB1;exact AdI):P:=h
theorem arv.AdI(h:P:=by
 obtain⟨⟨p0,p1,p2,p3,p4,p5,p6,p7,p8,p9,oD⟩,_⟩:=aQ He;have hol:=aA He;go_wp2_with fail;refine(GN W2).mono ?_;rintro e W4 ⟨rfl,hb4⟩;have Dz:=Hq (ay kC hb4);have aiC:=Hq (ay He hb4);have zl:=Hq (ay jU hb4);have iX:=Hq (HB2.trans (hb4.mono HB2.size));clear hb4 p0 p1 p2 p3 p4 p5 p6 p7 p8 p9 oD hol GN kC He jU HB2;obtain⟨c0,c1,c2,c3,c4,c5,c6,c7,c8⟩:=nine Dz;have hnl:=aA Dz;go_wp2_with fail;refine(Du W4 iX).mono ?_;exact Afy):P:=h
theorem arw.AdI(h:P:=by
 obtain⟨c0,c1,c2,c3,c4,c5,c6,c7,c8⟩:=nine kC;have hnl:=aA kC;go_wp2_with fail;refine(Du W2 HB2).mono ?_;rintro e W3 ⟨A1,G1,cc,rfl,Hz,hb3,_,_⟩;have mO:=Hq (ay jU hb3);have HB3:=Hq (HB2.trans (hb3.mono HB2.size));have kS:=Hq Hz;have hrs:=aA jU;clear hb3 Hz c0 c1 c2 c3 c4 c5 c6 c7 c8 hnl Du kC He jU;exact axe):P:=h
theorem afD(h:P:=by
 obtain⟨d0,d1,d2,d3,d4,d5,d6,d7,d8⟩:=nine mO;have f0:=aj mO 0;have f1:=aj mO 1;have f2:=aj mO 2;have f3:=aj mO 3;have f4:=aj mO 4;have f5:=aj mO 5;have f6:=aj mO 6;have f7:=aj mO 7;have f8:=aj mO 8;have hrl:=aA mO;go_wp2_with fail;refine aO (λW' hW'=>?_);exact Ae3):P:=h
theorem arx.Ae3(h:P:=by
 have e4:W'.heap[w.heap.size+2]?=some (.cells (dD N1 A1) 30 (0,0)):=by
  rw [hW'];exact GR.setW_blk (dD N1 A1).toList (o:=0) (xs:=fU.toList) mO
 have gL:aC [w.heap.size+2] W3 W':=by
  rw [hW'];exact aK (dD N1 A1).toList W3 0
 have HAT:=Hq (λW'' (ho:Out c w W' W'')=>(show RM W'' A1 N1 from(by
  obtain⟨F,hk,hF⟩:=ho
  exact Za _ ⟨(w.heap.size+2)::F,aC.trans (b:=W') (gL.mono (λx hx=>Abe)) (hk.mono (λx hx=>Aax)),λy hy=>by
   rcases List.mem_cons.1 hy with h1|h1
   .exact Vn
   .exact⟨Nat.lt_of_lt_of_le (hF y h1).1 h02,by rw [eT (hF y h1).1];exact(hF y h1).2⟩⟩)))
 have HMT:=Hq (λW'' (ho:Out c w W' W'')=>(show GR.At lF 7 W'' ma L1 from(by
  obtain⟨F,hk,hF⟩:=ho
  exact adj _ ⟨(w.heap.size+2)::F,aC.trans (b:=W') (gL.mono (λx hx=>Abe)) (hk.mono (λx hx=>Aax)),λy hy=>by
   rcases List.mem_cons.1 hy with h1|h1
   .exact Vn
   .exact⟨Nat.lt_of_lt_of_le (hF y h1).1 h02,by rw [eT (hF y h1).1];exact(hF y h1).2⟩⟩)))
 have nO:Hid (Below B w W'):=HB3.trans (gL.below (λx hx=>by have:x=w.heap.size+2:=Aag;omega) (Nat.le_trans hB HB3.size));have tZ:=Hq (Apart.keeps (c:=c) HK3 HB3.size gL (λx hx=>by have:x=w.heap.size+2:=Aag;omega));obtain⟨x0,x1,x2,x3,x4,x5,x6,x7,x8⟩:=nine e4;clear hW' e4 gL;exact bodyPost_ret (v:= .tuple #[(fT N1 A1),.slice ma L1.length mc,.int .i64 CU]) Abx rfl ⟨A1,ma,mc,rfl,HAT,HMT,nO,tZ⟩):P:=h
theorem arz.Ae3(h:P:=by
 have e4:W'.heap[w.heap.size+2]?=some (.cells (dD n A1) 30 (0,0)):=by
  rw [hW'];exact GR.setW_blk (dD n A1).toList (o:=0) (xs:=fU.toList) mO
 have hkc:KC cc 0 W3 W':=by
  rw [hW'];exact KC.setW (o:=0) (dD n A1).toList (kS.lo _ hrs)
 have HAT:=Hq (λW'' (ho:Dr w W' W'')=>((kS.kc0 hkc).kc0 (ho.kc (λx hx=>kS.lo x Aaa))).rm)
 have nO:Hid (aY w W'):=by
  rw [hW'];exact GR.setW_below Aaa (dD n A1).toList (o:=0) HB3
 obtain⟨x0,x1,x2,x3,x4,x5,x6,x7,x8⟩:=nine e4;clear hW' e4 hkc;exact bodyPost_ret (v:= .tuple #[(fT n A1),.slice (some ⟨W0.heap.size,0,none⟩) 0 0,.int .i64 3]) Abc rfl ⟨A1,some ⟨W0.heap.size,0,none⟩,0,rfl,HAT,λW'' _ i hi=>Aav,nO⟩):P:=h
theorem afE(h:P:=by
 obtain⟨d0,d1,d2,d3,d4,d5,d6,d7,d8⟩:=nine jV;have f0:=aj jV 0;have f1:=aj jV 1;have f2:=aj jV 2;have f3:=aj jV 3;have f4:=aj jV 4;have f5:=aj jV 5;have f6:=aj jV 6;have f7:=aj jV 7;have f8:=aj jV 8;have hrl:=aA jV;go_wp2_with fail;refine aO (λW' hW'=>?_);exact Afh):P:=h
theorem arA.Afh(h:P:=by
 have e4:W'.heap[w.heap.size+2]?=some (.cells (dD n A1) 30 (0,0)):=by
  rw [hW'];exact GR.setW_blk (dD n A1).toList (o:=0) (xs:=fU.toList) jV
 have gL:aC [w.heap.size+2] W5 W':=by
  rw [hW'];exact aK (dD n A1).toList W5 0
 have HAT:=Hq (λW'' (ho:Dr w W' W'')=>((RZ.kc (k:=9) (KC.keeps gL (λx hx=>by have:x=w.heap.size+2:=Aag;rw [this];exact oI)) Aaa).kc (k:=9) (ho.kc (λx hx=>Zg x Aaa)) Aaa).rm);open avS in exact agT):P:=h
theorem arB.Afh(h:P:=by
 have e4:W'.heap[w.heap.size+2]?=some (.cells (dD N1 A2) 30 (0,0)):=by
  rw [hW'];exact GR.setW_blk (dD N1 A2).toList (o:=0) (xs:=fU.toList) jV
 have gL:aC [w.heap.size+2] W5 W':=by
  rw [hW'];exact aK (dD N1 A2).toList W5 0
 have HAT:=Hq (λW'' (ho:Dr w W' W'')=>Za W'' (ho.out (c:=c) (gL) hrx Zg));have HMT:=Hq (λW'' (ho:Dr w W' W'')=>adj W'' (ho.out (c:=c) (gL) hrx Zg));open avQ in exact agT):P:=h
theorem afF(h:P:=by
 have hno:∀(listed:Array Bool),rC md ops listed->i∈Region.ready md ops listed->E∉Region.ready md ops listed:=λlisted hcl hr hEr=>by
  have h3:=EP hcl hEr n i hE
  have h4:=(mem_ready.1 hr).1
  rcases Nat.lt_or_ge i listed.size with h'|h'
  .simp[h'] at h3 h4;rw [h4] at h3;cases h3
  .simp[Array.getElem?_eq_none h'] at h3
 intro fuel;exact AeV):P:=h
theorem arC.AeV(h:P:=by
 induction fuel with
 |zero=>
  intro listed a w hcl _ hr hy H
  refine λx hx=>⟨λh=>Abn,λj hj=>⟨λe=>absurd (e▸hj) (hno listed hcl hr),λ_=>?_⟩⟩
  by_cases hji:j=i
  .exact ahV
  .exact Vl
 |succ fuel ih=>
  intro listed a w hcl hfree hr hy H
  refine λx hx=>⟨λh=>Abn,λj hj=>⟨λe=>absurd (e▸hj) (hno listed hcl hr),λhjE=>?_⟩⟩
  by_cases hji:j=i
  .exact ahV
  .have h1:=((H x hx).2 j (ready_mono hj hji)).2 hjE;exact axf):P:=h
theorem arD.AeV(h:P:=by
 induction fuel with
 |zero=>
  intro listed a w hb hcl _ hr hy H
  refine λx hx=>⟨λh=>Abn,λj hj=>⟨λe=>absurd (e▸hj) (hno listed hcl hr),λ_=>?_⟩⟩
  by_cases hji:j=i
  .exact ahp
  .exact Vl
 |succ fuel ih=>
  intro listed a w hb hcl hfree hr hy H
  refine λx hx=>⟨λh=>Abn,λj hj=>⟨λe=>absurd (e▸hj) (hno listed hcl hr),λhjE=>?_⟩⟩
  by_cases hji:j=i
  .exact ahp
  .have h1:=((H x hx).2 j (ready_mono hj hji)).2 hjE;open amj in exact aiQ):P:=h
theorem afG(h:P:=by
 clear hz0 hz1;go_wp2_with fail;refine(gM c 12 _ qb.cur Aaa Aaa).mono ?_;rintro e wp ⟨p,rfl,hp0,hp1,hcx,hkx⟩;have HS2:=Hq (qb.draw hcx hkx);clear hcx hkx qb;obtain⟨⟨c0,c1,c2,c3,c4,c5,c6,c7,c8,c9,c10⟩,f0,f1,f2,f3,f4,f5,f6,f7,f8,f9,f10⟩:=aQ HS2.own;have hzg:=bH HS2.own;go_wp2_with fail;exact AfJ):P:=h
theorem arE.AfJ(h:P:=by
 go_meet
 case rel=>exact⟨rfl,⟨2,(1+p),⟨#[]⟩,0,⟨0,0,0,0,0,⟨#[]⟩,0⟩⟩,HS2.far (o':=⟨2,(1+p),⟨#[]⟩,0,⟨0,0,0,0,0,⟨#[]⟩,0⟩⟩) (dw (Below.refl _ _) (Nat.le_refl _)) (gF HS2.own),Aan,Aan⟩):P:=h
theorem arF.AfJ(h:P:=by
 go_meet
 case rel=>exact⟨rfl,⟨1,(1+p),key,(1+y),⟨0,0,0,0,0,⟨#[]⟩,0⟩⟩,HS2.far (o':=⟨1,(1+p),key,(1+y),⟨0,0,0,0,0,⟨#[]⟩,0⟩⟩) (dw (Below.refl _ _) (Nat.le_refl _)) (gF HS2.own),Aan,Aan⟩):P:=h
theorem afH(h:P:=by
 obtain⟨d0,d1,d2,d3,d4,d5,d6,d7,d8⟩:=nine Hg;have f0:=aj Hg 0;have f1:=aj Hg 1;have f2:=aj Hg 2;have f3:=aj Hg 3;have f4:=aj Hg 4;have f5:=aj Hg 5;have f6:=aj Hg 6;have f7:=aj Hg 7;have f8:=aj Hg 8;have hrl:=aA Hg;go_simp;exact Aeo):P:=h
theorem arG.Aeo(h:P:=by
 have hkx:aC [w.heap.size+2] x (GR.setW x (w.heap.size+2) 0 (dD n A1).toList):=aK (dD n A1).toList x 0;refine⟨hkx.below (λx hx=>by have:x=w.heap.size+2:=Aag;omega) (by have:=aA Hg;omega),?_⟩;have Jq:=Hq ((aC.of_below hx).trans hkx);have HR1:=Hq (GR.setW_blk (dD n A1).toList (o:=0) (xs:=fU.toList) Hg);clear hx hkx d0 d1 d2 d3 d4 d5 d6 d7 d8 f0 f1 f2 f3 f4 f5 f6 f7 f8 hrl Hg;refine fC 10 rfl Aab Aad Aae (λy hy=>?_);go_simp;have qY:=Hq (Jq.trans (aC.of_below hy));have HR2:=Hq (ay HR1 hy);clear hy Jq HR1;refine⟨(au y _).mono (by have:=aA HR2;omega),?_⟩;refine nN Aab (λz hz=>?_);have JB:=Hq (ay (ay HR2 (au y (.cells (cK 0 n.id n.par 0 0 k nn) 32))) hz);have gL:aC [w.heap.size+2] X z:=qY.trans ((aC.of_below (au y (.cells (cK 0 n.id n.par 0 0 k nn) 32))).trans (aC.of_below hz));have HMZ:=Hq (ay (heap_alloc_new y (.cells (cK 0 n.id n.par 0 0 k nn) 32)) hz);have hmb:w.heap.size<=y.heap.size:=by have:=aA HR2;omega
 clear hz qY HR2;open ane in exact awr):P:=h
theorem arH.Aeo(h:P:=by
 have gL:aC [w.heap.size+2] y (GR.setW y (w.heap.size+2) 0 (dD n A1).toList):=aK (dD n A1).toList y 0;refine⟨gL.below (λx hx=>by have:x=w.heap.size+2:=Aag;omega) (by have:=aA Hg;omega),?_⟩;clear gL d0 d1 d2 d3 d4 d5 d6 d7 d8 f0 f1 f2 f3 f4 f5 f6 f7 f8 hrl;refine nN Aab (λz hz=>?_);have JB:=Hq (ay (GR.setW_blk (dD n A1).toList (o:=0) (xs:=fU.toList) Hg) hz);have gL:aC [w.heap.size+2] X z:=(aC.of_below HY).trans ((aK (dD n A1).toList y 0).trans (aC.of_below hz));have HMZ:=Hq (ay ((aK (dD n A1).toList y 0).obj HMY (λhm=>by have:x.heap.size=w.heap.size+2:=Aau;omega)) hz);clear hz HY Hg HMY;have hmb:w.heap.size<=x.heap.size:=Aaa
 open anf in exact awr):P:=h
theorem afI(h:P:=by
 obtain⟨c0,c1,c2,c3,c4,c5,c6,c7,c8⟩:=nine Bw;have k0:=cell_grown' c0;have k1:=cell_grown' c1;have k2:=cell_grown' c2;have k3:=cell_grown' c3;have k4:=cell_grown' c4;have k5:=cell_grown' c5;have k6:=cell_grown' c6;have k7:=cell_grown' c7;have k8:=cell_grown' c8;have m0:=cell_grown' d0;have m1:=cell_grown' d1;have m2:=cell_grown' d2;exact Afi):P:=h
theorem arI.Afi(h:P:=by
 have m3:=cell_grown' d3;have en:IntKind.i64.wrap (old+1)=old+1:=IntWalk.i64_in _ ⟨Aaa,Aaa⟩;go_cut [151] (λr wx=>r= .bool bb/\aY W1 wx)
 case first=>
  rcases DC with⟨rfl,rfl⟩|⟨j,y,rfl,rfl,q1⟩
  .have hgt:decide ((0:Int) < ((0:Nat):Int))=false:=rfl;open azL in exact Yw7
  .have hgt:decide ((0:Int) < ((j+1:Nat):Int))=true:=decide_eq_true Aaa;have m9:=cell_grown' q1;open azK in exact Yw7
 case rest=>
  obtain⟨rfl,hbx⟩:=hcut;open ar9 in exact Vg):P:=h
theorem arJ.Afi(h:P:=by
 go_cut [64] (λr wx=>r= .bool bb/\aY W1 wx)
 case first=>
  rcases DC with⟨rfl,rfl⟩|⟨j,y,rfl,rfl,q1⟩
  .have hgt:decide ((0:Int) < ((0:Nat):Int))=false:=rfl;open aot in exact awC
  .have hgt:decide ((0:Int) < ((j+1:Nat):Int))=true:=decide_eq_true Aaa;have m3:=cell_grown' q1;open aos in exact awC
 case rest=>
  obtain⟨rfl,hbx⟩:=hcut;have HW2:=Hq (ay HW1 hbx);open ar8 in exact Vg):P:=h
theorem afJ(h:P:=by
 refine(Oo A2 x5 (Om.step (HS.step HG).bel).bel (HS.step HG).nod).mono ?_;rintro e y5 ⟨A3,G3,c3,v3,rfl,hN3,_,_,hb5⟩;refine⟨hb5.mono HG.size,?_⟩;have hxs:=HG.size;have UL:=Hq (show NL x5.heap.size y5 A3 m' from λF W'' hk hF=>(hN3.kc0 (KC.keeps hk (λx hx=>hN3.lo x (hF x hx)))).at);have HG2:=Hq (Ge.trans HG hb5);exact AeR):P:=h
theorem arK.AeR(h:P:=by
 have HQ2:=Hq (ay HQ hb5);have hqd:qf < x5.heap.size\/y5.heap.size<=qf:= .inl (aA HQ);clear hN3 hb5;exact axv):P:=h
theorem arL.AeR(h:P:=by
 clear hN3 hb5;exact axl):P:=h
theorem Z4(h:P:=by
 have hp0:w1.cell? ⟨w.heap.size,0,none⟩=some (.string pk):=by rw [cell_of_row w1 _ _ _ _ (0,0) (ah xB)];rfl
 exact Ab9):P:=h
theorem arM.Ab9(h:P:=by
 go_upto_region 7 with fail;go_cut [51] (λr wx=>r= .bool (found l pk)/\∃q,wx=w1.drewN q)
 case first=>
  by_cases hlt:place l pk < l.length
  .have hf:found l pk=(l[place l pk].k.toList == pk.toList):=by
    unfold found;rw [jS,List.drop_eq_getElem_cons hlt]
   obtain⟨g1,o1,e1,hg1,s0,s1,s2,s3⟩:=aI.four (GR.At.below HA HB1) (place l pk) hlt;open avg in exact agI
  .have hf:found l pk=false:=by
    unfold found;rw [jS,List.drop_eq_nil_of_le Aaa]
   have HF:=Hq hf;have hpos:decide (0 < l.length - place l pk)=false:=decide_eq_false Aaa;have aBH:l.length - place l pk=0:=Aaa
   clear hf;go_quiet (fail);go_wp2_with fail;go_meet
   case rel=>exact⟨by rw [ah HF],_,sH w1 _ _⟩
 case rest=>
  obtain⟨rfl,q2,rfl⟩:=hcut;go_upto_if 51 with fail;go_cut [9] (λr wx=>∃(ad':Addr) (cc:Nat),r= .slice (some ad') (lu l pk).length cc/\aI w1 (some ad') (lu l pk)/\∃q,wx=w1.drewN q)
  case first=>
   have HA1:=Hq (GR.At.below HA HB1);cases hf:found l pk
   .have Hl:=Hq (tail_not hf);have HAE:=Hq hAe;clear hAe hAd;go_wp2_with fail;go_meet
    case rel=>
     refine⟨ad,cap - place l pk,by rw [ah Hl,List.length_drop],?_,_,rfl⟩;rw [ah Hl];by_cases hlt:place l pk < l.length
     .rw [ah HAE hlt];exact UD HA1 (place l pk)
     .exact UE (List.drop_eq_nil_of_le Aaa)
   .obtain⟨hlt,htl⟩:=tail_found hf;have Hl:=Hq htl;have hae:=hAe hlt;subst hae;clear htl hAe hAd
    obtain⟨ad2,aCc,aAZ⟩:∃ad2:Addr,(if cap - place l pk=1 then some (⟨b,off+place l pk*4,none⟩:Addr) else some ⟨b,off+place l pk*4+4,none⟩)=some ad2/\(place l pk+1 < l.length->ad2=⟨b,off+place l pk*4+4,none⟩):=by
     by_cases h:cap - place l pk=1
     .rw [if_pos h];exact⟨_,rfl,λh2=>Aaa⟩
     .rw [if_neg h];exact⟨_,rfl,λ_=>rfl⟩
    have hone:1<=l.length - place l pk:=Aaa
    go_wp2_with fail;go_meet
    case rel=>
     refine⟨ad2,cap - place l pk - 1,by rw [ah Hl,List.length_drop,Nat.sub_sub],?_,_,rfl⟩;rw [ah Hl];by_cases hlt2:place l pk+1 < l.length
     .rw [aAZ hlt2];have:=UD HA1 (place l pk+1);rwa [show off+(place l pk+1)*4=off+place l pk*4+4 by omega] at this
     .exact UE (List.drop_eq_nil_of_le Aaa)
  case rest=>
   obtain⟨ad',cc,rfl,hta,q3,rfl⟩:=hcut;obtain⟨i0,hi,hz0,hz1,hz2⟩:=info_parts Cm;obtain⟨hpf,hpn⟩:=put_flat l ⟨pk,pm,pf,ps⟩;have htl:(l.take (place l pk)).length=place l pk:=Aaf
   have hkt:∀q∈jq l ⟨pk,pm,pf,ps⟩,q.k.size<=maxLen:=λq hq=>by
    rcases put_mem' hq with rfl|hq
    .exact hpk
    .exact hk q hq
   open ao2 in exact awI):P:=h
theorem arN.Ab9(h:P:=by
 by_cases hlt:k < l.length
 .obtain⟨g1,o1,e1,hg1,s0,s1,s2,s3⟩:=aI.four (GR.At.below HA HB1) k hlt;open avf in exact agI
 .open an3 in exact Hu):P:=h
theorem arO.Ab9(h:P:=by
 go_upto_block 0 with fail;go_cut [8] (λi wx=>i= .int .i64 0/\∃q,wx=w1.drewN q)
 case first=>
  go_wp2_with fail;go_loopw [8] (λi wr=>∃q:Nat,i= .int .i64 0/\wr=w1.drewN q) (λ_ _=>0)
  case atStart=>exact⟨0,rfl,rfl⟩
  case round=>
   obtain⟨q,rfl,rfl⟩:=hrel;go_wp2_with fail;exact ahE
 case rest=>
  obtain⟨rfl,q,rfl⟩:=hcut;go_upto_region 7 with fail;go_cut [51] (λr wx=>r= .bool false/\∃q,wx=w1.drewN q)
  case first=>
   exact ahE
  case rest=>
   obtain⟨rfl,q2,rfl⟩:=hcut;obtain⟨i0,hi,hz0,hz1,hz2⟩:=info_parts Cm;open ao3 in exact awI):P:=h
theorem afK(h:P:=by
 obtain⟨d0,d1,d2,d3,d4,d5,d6,d7,d8⟩:=nine hres;have f0:=aj hres 0;have f1:=aj hres 1;have f2:=aj hres 2;have f3:=aj hres 3;have f4:=aj hres 4;have f5:=aj hres 5;have f6:=aj hres 6;have f7:=aj hres 7;have f8:=aj hres 8;exact Ad3):P:=h
theorem arP.Ad3(h:P:=by
 clear Hz hb2 hres NA yZ HR1 c0 c1 c2 c3 c4 c5 c6 c7 c8;go_wp2_with fail;refine aO (λW' hW'=>?_);have e9:W'.heap[w.heap.size+1]?=some (.cells (dD m A1) 30 (0,0)):=by rw [hW'];exact oL qZ
 obtain⟨r0,r1,r2,r3,r4,r5,r6,r7,r8⟩:=nine e9;have jZ:NO W' w.heap.size m A1 G1 cc1:=by rw [hW'];exact(kS.keepsN hrl kD).base HB1.size
 have hBB:aY w W':=by rw [hW'];exact nU HB2 Aaa
 exact bodyPost_ret (v:=fT m A1) (by simp[results,results23,go_sem,r0,r1,r2,r3,r4,r5,r6,r7,r8]) rfl ⟨A1,G1,cc1,rfl,jZ,hBB⟩):P:=h
theorem arQ.Ad3(h:P:=by
 clear hres;go_wp2_with fail;refine aO (λW' hW'=>?_);have e9:W'.heap[w.heap.size+1]?=some (.cells (dD m A2) 30 (0,0)):=by rw [hW'];exact oL qZ
 obtain⟨r0,r1,r2,r3,r4,r5,r6,r7,r8⟩:=nine e9;have jZ:NO W' w.heap.size m A2 G2 cc3:=by rw [hW'];exact(HK.no.keepsN Aaa kD).base HB.size
 have hBB:aY w W':=by rw [hW'];exact nU (HB.trans (HK.keep.mono HB.size)) Aaa
 exact bodyPost_ret (v:=fT m A2) Aea rfl ⟨A2,G2,cc3,by rw [ah HM],by rw [ah HM];exact jZ,hBB⟩):P:=h
theorem afL(h:P:=by
 clear HR;clear ho hk hn;go_in
 go_wp2_with (first|(go_at_call_of 54 no;refine(HO _).mono ?_;rintro e w1 ⟨rfl,rfl⟩)|(go_at_call_of 131 k;refine(HK _).mono ?_;rintro e w1 ⟨rfl,rfl⟩)|(go_at_call_of 54 n;refine(HN _).mono ?_;rintro e w1 ⟨rfl,rfl⟩))
 exact Aff):P:=h
theorem arR.Aff(h:P:=by
 go_region
 go_upto_region 23 with fail;open atz in exact Vk):P:=h
theorem arS.Aff(h:P:=by
 go_ret;exact⟨aD (by rw [ah HP];simp),by first|exact jR w _ _|exact Below.setNew (jR w _ _) Aaa⟩):P:=h
theorem Z5(h:P:=by
 obtain⟨hil,aec⟩:=(pE n.reqs o.no).1 hf;have hgd:n.reqs.getD (dZ n.reqs o.no) default=n.reqs[dZ n.reqs o.no]:=by rw [List.getD_eq_getElem?_getD,List.getElem?_eq_getElem hil];rfl
 exact AbY):P:=h
theorem arT.AbY(h:P:=by
 rw [hgd] at hs ⊢;open auq in exact aan):P:=h
theorem arU.AbY(h:P:=by
 have hR:gJ n o.no o.k o.n=(n,if Gb n.reqs[dZ n.reqs o.no] o.k o.n=true then 0 else 1):=by
  unfold gJ;rw [if_neg hc,if_pos hf,hgd]
 have HSQ:=Hq (show Gb n.reqs[dZ n.reqs o.no] o.k o.n=((n.reqs[dZ n.reqs o.no].k.toList == o.k.toList)&&decide (n.reqs[dZ n.reqs o.no].n=o.n)&&decide (n.reqs[dZ n.reqs o.no].s=0)) by unfold Gb;rw [Bool.and_assoc,Bool.and_comm]);have HAD:=Hq hR;generalize gJ n o.no o.k o.n=RES at *;have hd:decide (o.no<=n.old)=false:=decide_eq_false hc;open aup in exact aan):P:=h
theorem arV.AbY(h:P:=by
 rw [hgd] at hs;open auo in exact aan):P:=h
theorem afM(h:P:=by
 rw [hL1] at JR;subst JR;clear Xq Tv Fw abG;refine fC 13 rfl Aab Aad Aae (λx5 hx5=>?_);have NH:=Hq (Zk.trans (hx5.mono Zk.size));have Po:wc.heap.size<=x5.heap.size:=NH.size;have Ou:=Hq (GR.own_below Sd hx5);have Oc:=Hq (ay ady hx5);clear hx5;exact Aeh):P:=h
theorem arW.Aeh(h:P:=by
 obtain⟨v5,y5,LD,Ig,DW,Xt⟩:=fK bX Aaa x5 wc.heap.size 28 28 97 i0 (.agg (eG 0 ByteArray.empty 0 0)) 40 underlying28 hi hz0 hz1 hz2 rfl (.slice avO (pos+1) cvO) (pos+1) (GR.flat aN (n.reqs.take pos++[(⟨no,k,nn,1⟩:Rq)])) Ou AD (n.reqs.drop pos) (aV - pos) (GR.At.below HDR NH) (iP _) Aah Aaa Po;open asA in exact afU):P:=h
theorem arX.Aeh(h:P:=by
 obtain⟨v5,y5,LD,Ig,DW,Xt⟩:=fK bX Aaa x5 wc.heap.size 28 28 97 i0 (.agg (eG 0 ByteArray.empty 0 0)) 40 underlying28 hi hz0 hz1 hz2 rfl (.slice avO (pos+1) cvO) (pos+1) (GR.flat aN (n.reqs.take pos++[(⟨no,k,nn,0⟩:Rq)])) Ou AD (n.reqs.drop pos) (aV - pos) (GR.At.below HDR NH) (iP _) Aah Aaa Po;open asz in exact afU):P:=h
theorem Vf(h:P:=by
 have hlo:=h.o.lt;have kS:=Hq (h.nine hB);clear h;go_in
 go_upto_region 1 with fail;refine wp_at (λW0 hW=>?_);exact AbJ):P:=h
theorem arY.AbJ(h:P:=by
 obtain⟨e1,e2,e3⟩:=iO w (.cells (dD n A) 30) (.cells fU 30);open aml in exact aiR):P:=h
theorem arZ.AbJ(h:P:=by
 obtain⟨e1,e2,e3⟩:=iO w (.cells (dD n A) 30) (.cells fU 30);open aum in exact agm):P:=h
theorem ar0.AbJ(h:P:=by
 obtain⟨e1,e2,e3⟩:=iO w (.cells (dD n (⟨a_k,(some ⟨gp,0,none⟩),eD,eO,gN,aL,bE,aP,aM,aV⟩:bC)) 30) (.cells fU 30);open amm in exact aiR):P:=h
theorem ar1.AbJ(h:P:=by
 obtain⟨e1,e2,e3⟩:=iO w (.cells (dD n (⟨a_k,jE,eD,eO,gN,aL,bE,aP,aM,aV⟩:bC)) 30) (.cells fU 30);open amn in exact aiR):P:=h
theorem afN(h:P:=by
 have pQ:Hid (Below B w Z9):=by rw [hZ];exact Zc.setCell (p:=⟨w.heap.size,5,none⟩) hB _
 have HKZ:Hid (Apart c w Z9):=by rw [hZ];exact HK9.keeps Zc.size (aC.set _) (λy hy=>by have:y=w.heap.size:=Aat;omega)
 clear hZ HK9 gU Wt xX lY Sb Zc c5n s0 s1 s2 s3 c5w f5w hn8 hs8 rR zn Om hZ8;exact Ac3):P:=h
theorem ar2.Ac3(h:P:=by
 have HNV:Hid (fT ⟨n.id,n.par,n.kids,n.next+1,RL,n.out++[⟨n.next,dst,key,most⟩],n.seen,n.old,n.reqs⟩ ⟨a_k,av,a6,eO,gN,aL,cv,c6,aM,aV⟩= .agg (gH n.id n.par a_k n.kids.length aL (n.next+1) av RL.length cv a6 (n.out.length+1) c6 eO n.seen.length aM n.old gN n.reqs.length aV)):=by unfold Hid;simp[fT,dD]
 have EI:Hid (∀x,Ge Z9 x->Calls prog 51 #[.agg (gH n.id n.par a_k n.kids.length aL (n.next+1) av RL.length cv a6 (n.out.length+1) c6 eO n.seen.length aM n.old gN n.reqs.length aV),.agg (fI n.next dst key most)] x (fF x (qg PM))):=λx hx=>by
  have h1:=M8 ⟨n.id,n.par,n.kids,n.next+1,RL,n.out++[⟨n.next,dst,key,most⟩],n.seen,n.old,n.reqs⟩ ⟨a_k,av,a6,eO,gN,aL,cv,c6,aM,aV⟩ ⟨n.next,dst,key,most⟩ x Aaf (GR.At.below (Eh Z9 Z9 (aC.refl _ _) Out.refl).at.o hx)
  rw [ah YV,ah HNV] at h1
  exact h1
 obtain⟨qK,qF,qT,qI,qL,qk,qN⟩:=PM;unfold qg at EI
 have Dv:Hid (∀W' mb,aC [w.heap.size+1] Z9 W'->W'.heap[mb]?=some (.cells (cK qK qF qT qI qL qk qN) 32 (0,0))->w.heap.size<=mb->(∀W'',Out c w W' W''->RM W'' ⟨a_k,av,a6,eO,gN,aL,cv,c6,aM,aV⟩ ⟨n.id,n.par,n.kids,n.next+1,RL,n.out++[⟨n.next,dst,key,most⟩],n.seen,n.old,n.reqs⟩)/\(∀W'',Out c w W' W''->GR.At lF 7 W'' (some ⟨mb,0,none⟩) [⟨qK,qF,qT,qI,qL,qk,qN⟩])/\Below B w W'/\Apart c w W'):=λW' mb hk hm hmb=>by
  refine⟨λW'' ho=>Eh W' W'' hk ho,λW'' ho i hi=>?_,pQ.trans (hk.below (λx hx=>by have:x=w.heap.size+1:=Aag;omega) (Nat.le_trans hB pQ.size)),HKZ.keeps pQ.size hk (λx hx=>by have:x=w.heap.size+1:=Aag;omega)⟩
  obtain⟨F,hk2,hF⟩:=ho
  have hm2:=hk2.obj hm (λhx=>by have:=(hF mb hx).1;omega)
  refine⟨mb,0,rfl,aA hm2,λj hj=>?_⟩
  have hi0:i=0:=Abt
  subst hi0
  have h1:=cell_of_row W'' mb (0+(0*7+j)) _ _ (0,0) hm2
  rw [h1]
  simp[lF]
 exact Zw6):P:=h
theorem ar3.Ac3(h:P:=by
 have HNV:Hid (fT ⟨n.id,n.par,n.kids,n.next+1,RL,n.out++[⟨n.next,dst,key,pf⟩],n.seen,n.old,n.reqs⟩ ⟨a_k,av,a6,eO,gN,aL,cv,c6,aM,aV⟩= .agg (gH n.id n.par a_k n.kids.length aL (n.next+1) av RL.length cv a6 (n.out.length+1) c6 eO n.seen.length aM n.old gN n.reqs.length aV)):=by unfold Hid;simp[fT,dD]
 have EI:Hid (∀x,Ge Z9 x->Calls prog 51 #[.agg (gH n.id n.par a_k n.kids.length aL (n.next+1) av RL.length cv a6 (n.out.length+1) c6 eO n.seen.length aM n.old gN n.reqs.length aV),.agg (fI n.next dst key pf)] x (fF x (qg PM))):=λx hx=>by
  have h1:=M8 ⟨n.id,n.par,n.kids,n.next+1,RL,n.out++[⟨n.next,dst,key,pf⟩],n.seen,n.old,n.reqs⟩ ⟨a_k,av,a6,eO,gN,aL,cv,c6,aM,aV⟩ ⟨n.next,dst,key,pf⟩ x Aaf (GR.At.below (Eh Z9 Z9 (aC.refl _ _) Out.refl).at.o hx)
  rw [ah YV,ah HNV] at h1
  exact h1
 obtain⟨qK,qF,qT,qI,qL,qk,qN⟩:=PM;unfold qg at EI
 have Dv:Hid (∀W' mb,aC [w.heap.size+1] Z9 W'->W'.heap[mb]?=some (.cells (cK qK qF qT qI qL qk qN) 32 (0,0))->w.heap.size<=mb->(∀W'',Out c w W' W''->RM W'' ⟨a_k,av,a6,eO,gN,aL,cv,c6,aM,aV⟩ ⟨n.id,n.par,n.kids,n.next+1,RL,n.out++[⟨n.next,dst,key,pf⟩],n.seen,n.old,n.reqs⟩)/\(∀W'',Out c w W' W''->GR.At lF 7 W'' (some ⟨mb,0,none⟩) [⟨qK,qF,qT,qI,qL,qk,qN⟩])/\Below B w W'/\Apart c w W'):=λW' mb hk hm hmb=>by
  refine⟨λW'' ho=>Eh W' W'' hk ho,λW'' ho i hi=>?_,pQ.trans (hk.below (λx hx=>by have:x=w.heap.size+1:=Aag;omega) (Nat.le_trans hB pQ.size)),HKZ.keeps pQ.size hk (λx hx=>by have:x=w.heap.size+1:=Aag;omega)⟩
  obtain⟨F,hk2,hF⟩:=ho
  have hm2:=hk2.obj hm (λhx=>by have:=(hF mb hx).1;omega)
  refine⟨mb,0,rfl,aA hm2,λj hj=>?_⟩
  have hi0:i=0:=Abt
  subst hi0
  have h1:=cell_of_row W'' mb (0+(0*7+j)) _ _ (0,0) hm2
  rw [h1]
  simp[lF]
 exact Zw6):P:=h
theorem afO(h:P:=by
 have nO:Hid (Below B w W'):=vQ.trans (gL.below (λx hx=>by have:x=w.heap.size+2:=Aag;omega) (Nat.le_trans hB vQ.size));have tZ:=Hq (Apart.keeps (c:=c) HKA vQ.size gL (λx hx=>by have:x=w.heap.size+2:=Aag;omega));obtain⟨x0,x1,x2,x3,x4,x5,x6,x7,x8⟩:=nine e4;clear hW' e4 gL;exact Ad9):P:=h
theorem ar4.Ad9(h:P:=by
 exact bodyPost_ret (v:= .tuple #[(fT N1 A1),.slice ma L1.length mc,.int .i64 0]) Abx rfl ⟨A1,ma,mc,rfl,HAT,HMT,nO,tZ⟩):P:=h
theorem ar5.Ad9(h:P:=by
 exact bodyPost_ret (v:= .tuple #[.agg (gH n.id n.par A.k n.kids.length A.ck n.next A.p n.pu.length A.cp a (FL n.out.length).length cp A.s n.seen.length A.cs n.old A.r n.reqs.length A.cr),.slice (some ⟨Z.heap.size,0,none⟩) 0 0,.int .i64 0]) Abx rfl ⟨⟨A.k,A.p,a,A.s,A.r,A.ck,A.cp,cp,A.cs,A.cr⟩,some ⟨Z.heap.size,0,none⟩,0,rfl,HAT,λW'' _ i hi=>Aav,nO,tZ⟩):P:=h
theorem afP(h:P:=by
 open au0 in exact aaq):P:=h
theorem ar6.AcS(h:P:=by
 exact axc):P:=h
theorem ar7.AcS(h:P:=by
 exact awY):P:=h
theorem Vg(h:P:=by
 have ais:=Hq (ay Bw hbx);have KI:=Hq (vL.trans (hbx.mono vL.size));exact AbM):P:=h
theorem ar8.AbM(h:P:=by
 have HI2:=Hq (GR.At.below HI1 hbx);clear hbx d0 d1 d2 c0 c1 c2 c3 c4 c5 c6 c7 c8 k0 k1 k2 k3 k4 k5 k6 k7 k8 m0 m1 m2 HW1 Bw vL HI1 DC HKI;cases hbv:bb
 case' true=>
  have HP:Hid (TT=false):=ah HBAD (by
   rw [ah gU]
   have h:=ah fO
   rw [hbv] at h
   unfold vO
   dsimp only
   cases h1:NN fr<;>cases h2:pv<;>cases h3:fV lo<;>cases h4:decide (ids.length<=40)<;>simp_all)
  clear HBAD gU fO
  subst hbv
  go_wp2_with fail
  go_ret
  exact⟨aD HP.symm,KI⟩
 have HGD:Hid (iB PP RR (seen.take (k+1))=iB (Bp lo) iQ ids):=by
  rw [ah gU];have h:=ah fO;rw [hbv] at h;unfold vO;dsimp only;cases h1:NN fr<;>cases h2:pv<;>cases h3:fV lo<;>cases h4:decide (ids.length<=40)<;>simp_all
 subst hbv;clear gU fO;obtain⟨d0,d1,d2⟩:=three HW2;have aCv:=ah Dx;go_wp2_with fail;go_loopw [6] (λi wr2=>∃m:Nat,m<=ids.length/\i= .int .i64 m/\iB (Bp lo) iQ (ids.take m)=true/\aY wc wr2) (λi _=>ids.length - (intOf i).toNat)
 case atStart=>exact aaO
 case round=>
  obtain⟨m,hm,rfl,hall,hbx⟩:=hrel;have lU:=Hq hbx;have akq:=Hq hall;have HW3:=Hq (ay HW2 hbx);obtain⟨d0,d1,d2⟩:=three HW3;clear hall;by_cases hlm:m < ids.length
  case' neg=>
   have hke:m=ids.length:=Aaa
   subst hke
   have hnlt:decide ((ids.length:Int) < (ids.length:Int))=false:=Aac
   have HF:Hid (iB PP RR (seen.take (k+1))=true):=by
    have h:=ah akq;rw [List.take_length] at h;exact HGD.trans h
   have Zc:=Hq (ay ais hbx)
   have HL9:=Hq (KI.trans (hbx.mono KI.size))
   clear hbx
   go_wp2_with fail
   go_roundw
   case rel=>exact⟨k+1,Aaa,Aai,HF,Zc,HL9⟩
   case measure=>simp[intOf];omega
  have HBM:Hid (iB (Bp lo) iQ (ids.take (m+1))=false->TT=false):=λh=>HBAD (HGD.trans (qd _ _ _ _ h))
  have HL9:=Hq (KI.trans (hbx.mono KI.size));have hI3:=GR.At.below HI2 hbx;clear hbx;cases m with
  |zero=>
   obtain⟨g2,off2,rfl,hg2,q0⟩:=dX.one hI3 0 hlm
   rw [Nat.add_zero] at q0
   have hgt:decide ((0:Int) < ((0:Nat):Int))=false:=rfl
   have gU:Hid (iB (Bp lo) iQ (ids.take (0+1))=Bp lo ids[0]):=sG (Bp lo) iQ ids hlm
   clear hI3
   generalize ids[0]=x at *
   cases h1:decide (lo<=x/\x<=1000000000)
   case' false=>
    have HV:=Hq (HBM (by rw [ah gU];simp[Bp,h1]))
    clear gU HBM
    go_wp2_with fail
    refine wp_region_quiet_lit Aab Aab ?_
    repeat (first|go_big_quiet_step ((first|(go_at_call 63;exact qIn _ _ _ _ h1 _ _)))|quiet_step ((first|(go_at_call 63;exact qIn _ _ _ _ h1 _ _))))
    refine wpQuiet_nil ?_
    intro _ hw'
    obtain⟨nq,hw''⟩:=hw'
    subst hw''
    go_wp2_with fail
    go_ret
    exact⟨aD HV.symm,HL9.trans ⟨rfl,rfl,rfl,Nat.le_refl _,λ_ _=>rfl⟩⟩
   have HV:=Hq (show iB (Bp lo) iQ (ids.take (0+1))=true by rw [ah gU];simp[Bp,h1])
   clear gU HBM
   go_wp2_with fail
   refine wp_region_quiet_lit Aab Aab ?_
   repeat (first|go_big_quiet_step ((first|(go_at_call 63;exact qIn _ _ _ _ h1 _ _)))|quiet_step ((first|(go_at_call 63;exact qIn _ _ _ _ h1 _ _))))
   refine wpQuiet_nil ?_
   intro _ hw'
   obtain⟨nq,hw''⟩:=hw'
   subst hw''
   go_wp2_with fail
   go_roundw
   case rel=>exact⟨0+1,Aaa,Aai,HV,lU.trans ⟨rfl,rfl,rfl,Nat.le_refl _,λ_ _=>rfl⟩⟩
   case measure=>simp[intOf];omega
  |succ j=>
   obtain⟨g2,off2,e1,hg2,q0⟩:=dX.one hI3 (j+1) hlm
   obtain⟨g3,aC1,e2,hg3,q1⟩:=dX.one hI3 j Aaa
   rw [e1] at e2
   injection e2 with e2
   injection e2 with e2 e3
   subst e2 e3 e1
   have hgt:decide ((0:Int) < ((j+1:Nat):Int))=true:=decide_eq_true Aaa
   have gU:Hid (iB (Bp lo) iQ (ids.take (j+1+1))=(Bp lo ids[j+1]&&iQ ids[j] ids[j+1])):=by
    have h:=vV (Bp lo) iQ ids j hlm;rw [ah akq] at h;exact h
   clear hI3
   generalize ids[j]=y at *
   generalize ids[j+1]=x at *
   cases h1:decide (lo<=x/\x<=1000000000)
   case' false=>
    have HV:=Hq (HBM (by rw [ah gU];simp[Bp,h1]))
    clear gU HBM
    go_wp2_with fail
    refine wp_region_quiet_lit Aab Aab ?_
    repeat (first|go_big_quiet_step ((first|(go_at_call 63;exact qIn _ _ _ _ h1 _ _)))|quiet_step ((first|(go_at_call 63;exact qIn _ _ _ _ h1 _ _))))
    refine wpQuiet_nil ?_
    intro _ hw'
    obtain⟨nq,hw''⟩:=hw'
    subst hw''
    go_wp2_with fail
    go_ret
    exact⟨aD HV.symm,HL9.trans ⟨rfl,rfl,rfl,Nat.le_refl _,λ_ _=>rfl⟩⟩
   by_cases h2:y < x
   case' neg=>
    have hy:decide (x<=y)=true:=decide_eq_true Aaa
    have HV:=Hq (HBM (by rw [ah gU];simp[iQ,h2]))
    clear gU HBM
    go_wp2_with fail
    refine wp_region_quiet_lit Aab Aab ?_
    repeat (first|go_big_quiet_step ((first|(go_at_call 63;exact qIn _ _ _ _ h1 _ _)))|quiet_step ((first|(go_at_call 63;exact qIn _ _ _ _ h1 _ _))))
    refine wpQuiet_nil ?_
    intro _ hw'
    obtain⟨nq,hw''⟩:=hw'
    subst hw''
    go_wp2_with fail
    go_ret
    exact⟨aD HV.symm,HL9.trans ⟨rfl,rfl,rfl,Nat.le_refl _,λ_ _=>rfl⟩⟩
   have hy:decide (x<=y)=false:=decide_eq_false Aaa
   have HV:=Hq (show iB (Bp lo) iQ (ids.take (j+1+1))=true by rw [ah gU];simp[Bp,h1,iQ,h2])
   clear gU HBM
   go_wp2_with fail
   refine wp_region_quiet_lit Aab Aab ?_
   repeat (first|go_big_quiet_step ((first|(go_at_call 63;exact qIn _ _ _ _ h1 _ _)))|quiet_step ((first|(go_at_call 63;exact qIn _ _ _ _ h1 _ _))))
   refine wpQuiet_nil ?_
   intro _ hw'
   obtain⟨nq,hw''⟩:=hw'
   subst hw''
   go_wp2_with fail
   go_roundw
   case rel=>exact⟨j+1+1,Aaa,Aai,HV,lU.trans ⟨rfl,rfl,rfl,Nat.le_refl _,λ_ _=>rfl⟩⟩
   case measure=>simp[intOf];omega):P:=h
theorem ar9.AbM(h:P:=by
 clear hbx d0 d1 d2 d3 c0 c1 c2 c3 c4 c5 c6 c7 c8 k0 k1 k2 k3 k4 k5 k6 k7 k8 m0 m1 m2 m3 HW1 Bw vL DC
 have Bh:=Hq (show iB RQ RR (reqs.take (k+1))= !bb by
  rw [ah gU,<-ah fO,ah lD]
  simp only[Bool.not_not])
 cases hbv:bb
 .have HG:Hid (iB RQ RR (reqs.take (k+1))=true):=by rw [ah Bh,hbv];exact Hq rfl
  exact axS
 .exact axN):P:=h
theorem asa.AbM(h:P:=by
 clear hbx d0 d1 d2 d3 c0 c1 c2 c3 c4 c5 c6 c7 c8 k0 k1 k2 k3 k4 k5 k6 k7 k8 m0 m1 m2 m3 HW1 Bw vL DC
 have Bh:=Hq (show iB OT RO (out.take (k+1))= !bb by
  rw [ah gU,<-ah fO,ah lD]
  simp only[Bool.not_not])
 cases hbv:bb
 .have HG:Hid (iB OT RO (out.take (k+1))=true):=by rw [ah Bh,hbv];exact Hq rfl
  exact axS
 .exact axN):P:=h
theorem asb.AbM(h:P:=by
 have HW2:=Hq (ay HW1 hbx);clear hbx d0 d1 d2 d3 c0 c1 c2 c3 c4 c5 c6 c7 c8 HW1 Bw vL fO;obtain⟨d0,d1,d2,d3⟩:=gP HW2;cases hbv:bb
 .have HG:=Hq (show iB KB RR (out.take (k+1))=true by rw [ah Bh,hbv];rfl);subst hbv;clear HBAD Bh;go_wp2_with fail;go_roundw
  case rel=>exact⟨k+1,si,Aaa,Aai,rfl,Ef.symm,HG,ais,KI⟩
  case measure=>simp[intOf];omega
 .have HP:=Hq (HBAD (by rw [ah Bh,hbv];rfl));subst hbv;clear HBAD Bh;go_wp2_with fail;go_ret;exact⟨aD HP.symm,KI⟩):P:=h
theorem afQ(h:P:=by
 obtain⟨mK,mF,mT,mI,mL,mk,mN⟩:=m;obtain⟨R,hR⟩:∃R,bq ⟨5,no,k,n,⟨mK,mF,mT,mI,mL,mk,mN⟩⟩=R:=⟨_,rfl⟩;rw [hR];have HR:=Hq hR;clear hR;have HP:=Hq (show R=(decide (k.toList=[])&&decide (n=0)&&decide (no=0)&&mh ⟨mK,mF,mT,mI,mL,mk,mN⟩) by rw [<-ah HR];simp[bq]);clear HR;exact Ad5):P:=h
theorem ase.Ad5(h:P:=by
 go_in
 go_upto_region 23 with fail;open aty in exact Vk):P:=h
theorem asf.Ad5(h:P:=by
 go_in
 go_wp2_with fail
 all_goals
  go_ret
  refine⟨aD ?_,au w _⟩
  rw [ah HP]
  simp[mh, *]):P:=h
theorem afR(h:P:=by
 refine dz Aab ?_;show iL _ _ _ _ 23 (Array.replicate 23 false) _ _
 refine tk [0,1,2,3,4,5,6,7,8,9,10,11,12,13,14,15,16,17,18,19,20,21,22] ?_;iterate 23 (refine vJ (λK hK=>?_);go_simp;refine hK _ ?_;clear hK K)
 refine jc ?_;refine fE Aab (λz hz=>?_);exact Aep):P:=h
theorem asg.Aep(h:P:=by
 have HZ:=Hq (HW1.step hz);clear hz y1;go_simp;go_wp2_with fail;go_ret;exact⟨rfl,A,G,c,HZ⟩):P:=h
theorem ash.Aep(h:P:=by
 have HZ:=Hq ((au w (.cells (cK mK mF mT mI mL mk mN) 32)).trans (hz.mono Aac));clear hz y4 z3 z5 z6 x1 hlen;go_simp;go_wp2_with fail;go_ret;exact⟨rfl,HZ⟩):P:=h
theorem Vh(h:P:=by
 have Sc:=Hq (λp:Regrown=>hH.below (below_regrown w p.d p.os));have H:=Hq h;obtain⟨c0,c1,f0,f1⟩:=h.two;clear h hs hH hE f0 f1;exact AbO):P:=h
theorem asi.AbO(h:P:=by
 generalize iW s i=E at *;generalize jJ s i=R at *;go_in
 exact axh):P:=h
theorem asj.AbO(h:P:=by
 generalize iW s i=E at *;generalize jJ s i=R at *;go_in
 exact axi):P:=h
theorem asl.AbO(h:P:=by
 generalize iV s i=E at *;generalize tF s i=R at *;go_in
 exact axh):P:=h
theorem asn.AbO(h:P:=by
 generalize iV s i=E at *;generalize tF s i=R at *;go_in
 exact axi):P:=h
theorem afS(h:P:=by
 clear hge c0 c1 c2 c3 c4 c5 c6 c7 c8 p0 p1 p2 p3 p4 p5 p6 p7 p8 p9 oD hnl hol BD adu Og aiH lI HA4;obtain⟨c0,c1,c2,c3,c4,c5,c6,c7,c8⟩:=nine Dz;obtain⟨q0,q1,q2,q3⟩:=gP Ws;have hnl:=aA Dz;have Pk:=aA Ws;exact AeB):P:=h
theorem aso.AeB(h:P:=by
 have HIQ:=Hq (show uH n.reqs ⟨no,k,nn,1⟩=n.reqs.take (dZ n.reqs no)++⟨no,k,nn,1⟩::n.reqs.drop (dZ n.reqs no) from rfl);generalize dZ n.reqs no=pos at *;obtain⟨IQ,Ti⟩:∃IQ,uH n.reqs ⟨no,k,nn,1⟩=IQ:=⟨_,rfl⟩;rw [Ti] at HIQ;have Zm:=Hq Ti;clear Ti;go_upto_region 16 with fail;go_cut [10] from 11 (λi wx=>i= .int .i64 pos/\∃va vc,(∃g,va=some ⟨g,0,none⟩)/\n.reqs.length+1<=vc/\wx.heap[w.heap.size]?=some (.cells (gH n.id n.par a_k n.kids.length aL n.next (some ⟨gp,0,none⟩) n.pu.length bE eD n.out.length aP eO n.seen.length aM n.old va (n.reqs.length+1) vc) 30 (0,0))/\wx.heap[w.heap.size+2]?=some (.cells fU 30 (0,0))/\wx.heap[W1.heap.size]?=some (.cells (eG no k nn 1) 97 (0,0))/\LO 97 aN 4 (w.heap.size+3) wx va vc IQ/\aY w wx)
 case first=>
  open al0 in exact awj
 case rest=>
  clear c0 c1 c2 c3 c4 c5 c6 c7 c8 q0 q1 q2 q3 hnl Pk Dz zl Ws iX HA5;obtain⟨rfl,va,vc,⟨gv,rfl⟩,hvc,Tj,hR6,hQ6,hL6,hB6⟩:=hcut;open avV in exact agU):P:=h
theorem asq.AeB(h:P:=by
 have HIQ:=Hq (show uH n.reqs ⟨no,k,nn,0⟩=n.reqs.take (dZ n.reqs no)++⟨no,k,nn,0⟩::n.reqs.drop (dZ n.reqs no) from rfl);generalize dZ n.reqs no=pos at *;obtain⟨IQ,Ti⟩:∃IQ,uH n.reqs ⟨no,k,nn,0⟩=IQ:=⟨_,rfl⟩;rw [Ti] at HIQ;have Zm:=Hq Ti;clear Ti;go_upto_region 16 with fail;go_cut [10] from 11 (λi wx=>i= .int .i64 pos/\∃va vc,(∃g,va=some ⟨g,0,none⟩)/\n.reqs.length+1<=vc/\wx.heap[w.heap.size]?=some (.cells (gH n.id n.par a_k n.kids.length aL n.next av RL.length cv eD n.out.length aP eO n.seen.length aM n.old va (n.reqs.length+1) vc) 30 (0,0))/\wx.heap[w.heap.size+2]?=some (.cells fU 30 (0,0))/\wx.heap[W1.heap.size]?=some (.cells (eG no k nn 0) 97 (0,0))/\LO 97 aN 4 (w.heap.size+3) wx va vc IQ/\LO 143 fH 4 (w.heap.size+3) wx av cv RL/\aY w wx)
 case first=>
  open alZ in exact awj
 case rest=>
  clear c0 c1 c2 c3 c4 c5 c6 c7 c8 q0 q1 q2 q3 hnl Pk Dz zl Ws iX HA5 Nw;obtain⟨rfl,va,vc,⟨gv,rfl⟩,hvc,Tj,hR6,hQ6,hL6,hP6,hB6⟩:=hcut;open avU in exact agU):P:=h
theorem afT(h:P:=by
 go_wp2_with fail;refine bodyPost_at (λW' hW'=>?_);obtain⟨⟨r0,r1,r2,r3,r4,r5,r6⟩,_⟩:=dQ (show W'.heap[w.heap.size]?=some (.cells (cK (s[0].toNat:Int) N1 N2 N3 N4 TX N5) 32 (0,0)) by rw [hW'];exact ou BF);have hbb:aY w W':=Adr
 exact AcV):P:=h
theorem asr.AcV(h:P:=by
 exact bodyPost_ret (v:= .tuple #[.agg (cK (s[0].toNat:Int) N1 N2 N3 N4 TX N5),.bool true]) Adp rfl ⟨Aay,hbb⟩):P:=h
theorem asu.AcV(h:P:=by
 exact bodyPost_ret (v:= .tuple #[.agg (cK (s[0].toNat:Int) N1 N2 N3 N4 TX N5),.bool true]) Ado rfl ⟨Aay,hbb⟩):P:=h
theorem Vi(h:P:=by
 have hb0:s[0].toNat < 256:=s[0].toNat_lt;have hw64:wrap64 (s[0].toNat:Int)=(s[0].toNat:Int):=IntWalk.wrap64_in _ ⟨Aaa,Aaa⟩;exact AbN):P:=h
theorem asv.AbN(h:P:=by
 clear h;go_in
 go_upto_region 1 with fail;go_quiet (fail);go_upto_region 4 with fail;refine wp_at (λV hV=>?_);have HRV:Hid (jW V g s 1):=by rw [hV];exact(show jW (w.drewN _) g s 0 from H).set 1
 have HKV:Hid (dS g w V):=by rw [hV];exact(dS.of_below (jG w _)).trans (dS.set _)
 clear hV c0 c1 f0 f1;obtain⟨c0,c1,f0,f1⟩:=HRV.two;go_quiet (fail);go_wp2_with fail;go_ret;exact⟨rfl,aJ HRV (jG V _),HKV.trans (dS.of_below (jG V _))⟩):P:=h
theorem asw.AbN(h:P:=by
 go_upto_region 8 with fail;go_region
 go_upto_region 9 with fail;refine wp_at (λV hV=>?_);have hM:V.heap[w5.heap.size+1]?=some (.cells (cu (s[0].toNat:Int) N1 TX N2 mK mF mT mI mL mk mN) 34 (0,0)):=by rw [hV];exact(iO w5 (.cells (cK mK mF mT mI mL mk mN) 32) _).2.1
 have hlt:=bH BF
 have hB:aY w V:=by
  rw [hV];have h1:=(iX.alloc iX.size (.cells (cK mK mF mT mI mL mk mN) 32)).alloc (by have:=iX.size;simp;omega) (.cells (cu (s[0].toNat:Int) N1 TX N2 mK mF mT mI mL mk mN) 34);exact⟨h1.os,h1.tape,h1.output,h1.size,h1.block⟩
 have hR:V.heap[w.heap.size]?=some (.cells (cu 0 0 ⟨#[]⟩ 0 0 0 0 0 0 ⟨#[]⟩ 0) 34 (0,0)):=by
  rw [hV];have h1:=Below.heap_alloc (w5.alloc (.cells (cK mK mF mT mI mL mk mN) 32)) (.cells (cu (s[0].toNat:Int) N1 TX N2 mK mF mT mI mL mk mN) 34) w.heap.size Aaf;have h2:=Below.heap_alloc w5 (.cells (cK mK mF mT mI mL mk mN) 32) w.heap.size hlt;exact h1.trans (h2.trans BF)
 clear hV BF iX hw64 hb0 hlt;have hzM:=bH hM;have hzR:=bH hR;by_cases hE:0<=E
 case' neg=>
  have hO:OK=false:=by rw [ah HO,decide_eq_false hE,Bool.false_and,Bool.false_and]
  have uz:=Hq (HZ hO)
  have hE2:E < 0:=Aaa
  obtain⟨⟨d0,d1,d2,d3,d4,d5,d6,d7,d8,d9,d10⟩,f0,f1,f2,f3,f4,f5,f6,f7,f8,f9,f10⟩:=aQ hR
  have HR:=Hq hR
  have HB:=Hq hB
  clear hO HO HZ HM HP hM hR hB hE
  go_wp2_with fail
  refine iJ (λW' hW'=>?_)
  obtain⟨⟨r0,r1,r2,r3,r4,r5,r6,r7,r8,r9,XY⟩,_⟩:=aQ (show W'.heap[w.heap.size]?=some (.cells (cu 0 0 ⟨#[]⟩ 0 0 0 0 0 0 ⟨#[]⟩ 0) 34 (0,0)) by rw [hW'];exact gF HR)
  have hbb:aY w W':=by rw [hW'];exact dw HB (Nat.le_refl _)
  exact bodyPost_ret (v:= .tuple #[.agg (cu 0 0 ⟨#[]⟩ 0 0 0 0 0 0 ⟨#[]⟩ 0),.bool false]) Acy rfl ⟨Aay,hbb⟩
 have hE2:¬(E < 0):=Aaa
 cases hbd:(decide (B.size=0)||mo)
 case' false=>
  have hO:OK=false:=by rw [ah HO,hbd,Bool.and_false,Bool.false_and]
  have uz:=Hq (HZ hO)
  simp only[Bool.or_eq_false_iff,decide_eq_false_iff_not] at hbd
  obtain⟨hb1,rfl⟩:=hbd
  have hbe:=jT B Aaa
  obtain⟨⟨d0,d1,d2,d3,d4,d5,d6,d7,d8,d9,d10⟩,f0,f1,f2,f3,f4,f5,f6,f7,f8,f9,f10⟩:=aQ hR
  have HR:=Hq hR
  have HB:=Hq hB
  clear hO HO HZ HM HP hM hR hB hE hb1
  go_wp2_with fail
  refine iJ (λW' hW'=>?_)
  obtain⟨⟨r0,r1,r2,r3,r4,r5,r6,r7,r8,r9,XY⟩,_⟩:=aQ (show W'.heap[w.heap.size]?=some (.cells (cu 0 0 ⟨#[]⟩ 0 0 0 0 0 0 ⟨#[]⟩ 0) 34 (0,0)) by rw [hW'];exact gF HR)
  have hbb:aY w W':=by rw [hW'];exact dw HB (Nat.le_refl _)
  exact bodyPost_ret (v:= .tuple #[.agg (cu 0 0 ⟨#[]⟩ 0 0 0 0 0 0 ⟨#[]⟩ 0),.bool false]) Acy rfl ⟨Aay,hbb⟩
 have HBD:=Hq hbd;obtain⟨q0,q1,q2,q3,q4,q5,q6,q7,q8,q9,q10⟩:=(aQ hM).1;have HR:=Hq hR;have HB:=Hq hB;have HMB:=Hq hM;clear hR hB hM
 have hcond:((!B.toList.isEmpty)&& !mo)=false:=by
  rcases Bool.or_eq_true_iff.1 hbd with h|h
  .have h1:=eq_empty B (of_decide_eq_true h);subst h1;rw [ByteArray.toList_eq];rfl
  .rw [h];simp
 clear hbd
 have HQ:Hid ((B.toList.isEmpty=true)\/(B.toList.isEmpty=false/\mo=true)):=by
  cases h1:B.toList.isEmpty
  .rw [h1] at hcond;exact .inr ⟨rfl,by simpa using hcond⟩
  .exact .inl rfl
 clear hcond;have HPP:Hid (∀Q:Prop,(B.toList.isEmpty=true->Q)->(B.toList.isEmpty=false->mo=true->Q)->Q):=λQ h1 h2=>HQ.elim h1 (λh=>h2 h.1 h.2)
 clear HQ;refine HPP _ (λhbe=>?_) (λhbe hmo=>?_)
 all_goals
  clear HPP
  go_wp2_with fail
  refine(HP _).mono ?_
  rintro e w7 ⟨rfl,qE⟩
  have HR7:=Hq (aJ HR qE)
  have HM7:=Hq (aJ HMB qE)
  have ze:=Hq (HB.trans (qE.mono HB.size))
  have aCX:=bH HM7
  have aCZ:=bH HR7
  clear qE HR HMB HB q0 q1 q2 q3 q4 q5 q6 q7 q8 q9 q10 HP hzM hzR
  obtain⟨⟨d0,d1,d2,d3,d4,d5,d6,d7,d8,d9,d10⟩,f0,f1,f2,f3,f4,f5,f6,f7,f8,f9,f10⟩:=aQ HR7
  by_cases hp:iw ⟨s[0].toNat,N1,TX,N2,⟨mK,mF,mT,mI,mL,mk,mN⟩⟩=s
  case' neg=>
   have hO:OK=false:=by rw [ah HO,decide_eq_false hp,Bool.and_false]
   have uz:=Hq (HZ hO)
   have hq:((iw ⟨s[0].toNat,N1,TX,N2,⟨mK,mF,mT,mI,mL,mk,mN⟩⟩).toList == s.toList)=false:=by
    exact ahj
   clear hO HO HZ HM HBD hp
   generalize iw ⟨s[0].toNat,N1,TX,N2,⟨mK,mF,mT,mI,mL,mk,mN⟩⟩=pm at *
   go_wp2_with fail
   refine iJ (λW' hW'=>?_)
   obtain⟨⟨r0,r1,r2,r3,r4,r5,r6,r7,r8,r9,XY⟩,_⟩:=aQ (show W'.heap[w.heap.size]?=some (.cells (cu 0 0 ⟨#[]⟩ 0 0 0 0 0 0 ⟨#[]⟩ 0) 34 (0,0)) by rw [hW'];exact gF HR7)
   have hbb:aY w W':=by rw [hW'];exact dw ze (Nat.le_refl _)
   exact bodyPost_ret (v:= .tuple #[.agg (cu 0 0 ⟨#[]⟩ 0 0 0 0 0 0 ⟨#[]⟩ 0),.bool false]) Acy rfl ⟨Aay,hbb⟩
  have hO:OK=true:=by rw [ah HO,decide_eq_true hE,ah HBD,decide_eq_true hp];rfl
  have uz:=Hq (HM hO)
  have hq:((iw ⟨s[0].toNat,N1,TX,N2,⟨mK,mF,mT,mI,mL,mk,mN⟩⟩).toList == s.toList)=true:=by rw [hp];simp
  obtain⟨⟨q0,q1,q2,q3,q4,q5,q6,q7,q8,q9,q10⟩,_⟩:=aQ HM7
  clear hO HO HZ HM HBD
  have HPX:=Hq hp
  clear hp
  generalize iw ⟨s[0].toNat,N1,TX,N2,⟨mK,mF,mT,mI,mL,mk,mN⟩⟩=pm at *
  go_wp2_with fail
  refine iJ (λW' hW'=>?_)
  obtain⟨⟨r0,r1,r2,r3,r4,r5,r6,r7,r8,r9,XY⟩,_⟩:=aQ (show W'.heap[w.heap.size]?=some (.cells (cu (s[0].toNat:Int) N1 TX N2 mK mF mT mI mL mk mN) 34 (0,0)) by rw [hW'];exact gF HR7)
  have hbb:aY w W':=by rw [hW'];exact dw ze (Nat.le_refl _)
  exact bodyPost_ret (v:= .tuple #[.agg (cu (s[0].toNat:Int) N1 TX N2 mK mF mT mI mL mk mN),.bool true]) Acy rfl ⟨Aay,hbb⟩):P:=h
theorem asx.AbN(h:P:=by
 go_upto_region 6 with fail;go_region
 go_upto_region 7 with fail;refine wp_at (λV hV=>?_);have hM:V.heap[w3.heap.size]?=some (.cells (cK (s[0].toNat:Int) N1 N2 N3 N4 TX N5) 32 (0,0)):=by rw [hV];exact heap_alloc_new w3 _
 have hlt:=bH HR3
 have hR:V.heap[w.heap.size]?=some (.cells (cK 0 0 0 0 0 ⟨#[]⟩ 0) 32 (0,0)):=by
  rw [hV];show(w3.alloc _).heap[w.heap.size]?=_
  rw [Below.heap_alloc _ _ _ hlt];exact HR3
 have hB:aY w V:=by
  rw [hV];have h1:=HB3.alloc HB3.size (.cells (cK (s[0].toNat:Int) N1 N2 N3 N4 TX N5) 32);exact⟨h1.os,h1.tape,h1.output,h1.size,h1.block⟩
 clear hV HR3 HB3 c0 c1 c2 c3 hg3 HN HT HG hw64 hb0;have hzM:=bH hM;have hzR:=bH hR;by_cases hE:0<=E6
 case' neg=>
  have hO:OK=false:=by rw [ah HO,decide_eq_false hE];rfl
  have uz:=Hq (HZ hO)
  have hE2:E6 < 0:=Aaa
  obtain⟨⟨d0,d1,d2,d3,d4,d5,d6⟩,f0,f1,f2,f3,f4,f5,f6⟩:=dQ hR
  have HR:=Hq hR
  have HB:=Hq hB
  clear hO HO HZ HM HP hM hR hB hE
  go_wp2_with fail
  refine bodyPost_at (λW' hW'=>?_)
  obtain⟨⟨r0,r1,r2,r3,r4,r5,r6⟩,_⟩:=dQ (show W'.heap[w.heap.size]?=some (.cells (cK 0 0 0 0 0 ⟨#[]⟩ 0) 32 (0,0)) by rw [hW'];exact ou HR)
  have hbb:aY w W':=by rw [hW'];exact mG HB (Nat.le_refl _)
  exact bodyPost_ret (v:= .tuple #[.agg (cK 0 0 0 0 0 ⟨#[]⟩ 0),.bool false]) Adp rfl ⟨Aay,hbb⟩
 have hE2:¬(E6 < 0):=Aaa
 obtain⟨q0,q1,q2,q3,q4,q5,q6⟩:=uj hM;have HR:=Hq hR;have HB:=Hq hB;have HMB:=Hq hM;clear hR hB hM;open arl in exact afA):P:=h
theorem asy.AbN(h:P:=by
 open aqN in exact afs):P:=h
theorem afU(h:P:=by
 rw [Xn] at LD Ig;refine Lib.wp_append_run x5 (.tmp 101) (.tmp 105) 28 28 rfl _ _ Aaj Aaj v5 y5 LD ?_;refine⟨(Below.refl _ _).grown DW Po (λb hb=>(Ou.lt b hb).1),?_⟩;go_simp;have Wi:=Hq (NH.grown DW Po (λb hb=>(Ou.lt b hb).1));exact Aev):P:=h
theorem asz.Aev(h:P:=by
 have Wx:Hid (y5.ownsRow wc.heap.size 97 4 v5 (pos+1+(n.reqs.length - pos)) (GR.flat aN (n.reqs.take pos++[(⟨no,k,nn,0⟩:Rq)]++n.reqs.drop pos))):=Hq Adq;have akT:=Hq (show y5.heap[rb]?=some (.cells (eG no k nn 0) 97 (0,0)) from by rw [DW.block _ (aA (ah Oc)) (λhm=>ah adg _ hm.symm rfl)];exact Oc);open auT in exact aap):P:=h
theorem asA.Aev(h:P:=by
 have Wx:Hid (y5.ownsRow wc.heap.size 97 4 v5 (pos+1+(n.reqs.length - pos)) (GR.flat aN (n.reqs.take pos++[(⟨no,k,nn,1⟩:Rq)]++n.reqs.drop pos))):=Hq Adq;have akT:=Hq (show y5.heap[rb]?=some (.cells (eG no k nn 1) 97 (0,0)) from by rw [DW.block _ (aA (ah Oc)) (λhm=>ah adg _ hm.symm rfl)];exact Oc);open auS in exact aap):P:=h
theorem afV(h:P:=by
 have hn:=Ey (Dk (tl s a));have HS:=Hq (λw1=>acX (Dk (tl s a)) (Nat.le_trans (Ga _ _) Aah) w1);have HCV:=Hq (λw1 g=>JK w1 g (ig (Dk (tl s a))) 4 hn);have HCC:=Hq (λw1 (hb:aY w w1)=>uo (hc.below hg hb) a 4 4 Aaa);exact AdE):P:=h
theorem asB.AdE(h:P:=by
 have hqq:((iK (ig (Dk (tl s a)))).toList == (s.extract a (a+4)).toList)=false:=by
  rw [beq_eq_false_iff_ne];intro h;rw [ByteArray.toList_eq,ByteArray.toList_eq] at h;exact hq (ByteArray.ext (Array.ext' h))
 open aAy in exact av7):P:=h
theorem asC.AdE(h:P:=by
 have hqq:((iK (ig (Dk (tl s a)))).toList == (s.extract a (a+4)).toList)=true:=by
  rw [hq];simp
 open aAx in exact av7):P:=h
theorem afW(h:P:=by
 have HS:Hid ((s.data.toList.take (k+1)).all Mth.keyByte=((s.data.toList.take k).all Mth.keyByte&&Mth.keyByte s[k])):=by rw [Mth.take_snoc s k hlt];exact Mth.all_snoc _ _
 have hc:s[k].toNat < 256:=s[k].toNat_lt;exact Ae9):P:=h
theorem asD.Ae9(h:P:=by
 rcases Mth.byte_cases s[k] with h|h
 .have HK:=Hq (Mth.keyByte_yes _ h);rcases h with⟨h1,h2⟩|⟨h1,h2⟩
  all_goals
   go_wp2_with (go_at_call 63;first|(refine(qx _ _ _ _ ?_ ?_).mono ?_;omega;omega;rintro e w' ⟨rfl,rfl⟩)|(refine(sW _ _ _ _ ?_).mono ?_;omega;rintro e w' ⟨rfl,rfl⟩))
   go_round
   case rel=>exact⟨k+1,Aaa,Aai,Acz⟩
   case measure=>simp[intOf];omega
 .have HK:=Hq (Mth.keyByte_no _ h);have HF:Hid (Mth.keyOk s.data.toList=false):=Mth.keyOk_bad _ (k+1) Acz;rcases h with h1|⟨h1,h2⟩|h1
  all_goals
   go_wp2_with (go_at_call 63;first|(refine(qx _ _ _ _ ?_ ?_).mono ?_;omega;omega;rintro e w' ⟨rfl,rfl⟩)|(refine(sW _ _ _ _ ?_).mono ?_;omega;rintro e w' ⟨rfl,rfl⟩))
   go_ret
   exact⟨aD HF.symm,rfl⟩):P:=h
theorem asE.Ae9(h:P:=by
 rcases Mth.byte_cases s[k] with h|h
 .have HK:=Hq (Mth.keyByte_yes _ h);rcases h with⟨h1,h2⟩|⟨h1,h2⟩
  all_goals
   go_wp2_with (first|(go_at_call 176;first|(refine(Kq _ _ ?_ ?_).mono ?_;omega;omega;rintro e w' ⟨rfl,rfl⟩)|(refine(QG _ _ ?_).mono ?_;omega;rintro e w' ⟨rfl,rfl⟩))|(go_at_call 177;first|(refine(JL _ _ ?_ ?_).mono ?_;omega;omega;rintro e w' ⟨rfl,rfl⟩)|(refine(OZ _ _ ?_).mono ?_;omega;rintro e w' ⟨rfl,rfl⟩)))
   go_round
   case rel=>exact⟨k+1,Aaa,Aai,Acz⟩
   case measure=>simp[intOf];omega
 .have HK:=Hq (Mth.keyByte_no _ h);have HF:Hid (Mth.keyOk s.data.toList=false):=Mth.keyOk_bad _ (k+1) Acz;rcases h with h1|⟨h1,h2⟩|h1
  all_goals
   go_wp2_with (first|(go_at_call 176;first|(refine(Kq _ _ ?_ ?_).mono ?_;omega;omega;rintro e w' ⟨rfl,rfl⟩)|(refine(QG _ _ ?_).mono ?_;omega;rintro e w' ⟨rfl,rfl⟩))|(go_at_call 177;first|(refine(JL _ _ ?_ ?_).mono ?_;omega;omega;rintro e w' ⟨rfl,rfl⟩)|(refine(OZ _ _ ?_).mono ?_;omega;rintro e w' ⟨rfl,rfl⟩)))
   go_ret
   exact⟨aD HF.symm,rfl⟩):P:=h
theorem afX(h:P:=by
 have Zy:=Hq (ay aiI H6);have aB6:=aA aiI;have KJ:=Hq (show∀b,(Value.slice (some ⟨x2.heap.size,0,none⟩) 0 0).ownBlock=some b->b≠x1.heap.size from λb hb=>by simp[Value.ownBlock] at hb;omega);have KN:=Hq (vT.trans (H6.mono vT.size));clear H6;exact AeD):P:=h
theorem asF.AeD(h:P:=by
 generalize Xu:x2.alloc (.cells #[] 3)=y2 at *;open asQ in exact af2):P:=h
theorem asG.AeD(h:P:=by
 generalize Xu:x2.alloc (.cells #[] 97)=y2 at *;open asU in exact af4):P:=h
theorem afY(h:P:=by
 have GZ:Hid (NQ W6 B (dA n (n.seen.set i ⟨mF,eZ s0 mL,bg s0 mL⟩)) (⟨a_k,(some ⟨gp,0,none⟩),eD,(some ⟨G.s,0,none⟩),gN,aL,bE,aP,aM,aV⟩:bC) ⟨G.k,G.p,G.o,G.s,G.r,lS G.i i gi⟩ (vM gi (bg s0 mL) (newC w.heap.size 9 c))):=by rw [RA];exact RZ
 exact Ad4):P:=h
theorem asH.Ad4(h:P:=by
 open azj in exact Yw2):P:=h
theorem asI.Ad4(h:P:=by
 open azi in exact Yw2):P:=h
theorem aac(h:P:=by
 go_simp;have Bz:=Hq (V7.trans (hx1.mono V7.size));have abE:wc.heap.size<=x1.heap.size:=Bz.size;clear hx1;refine⟨(au x1 _).mono abE,?_⟩;exact AcL):P:=h
theorem asJ.AcL(h:P:=by
 have zK:=au x1 (.cells #[] 97);have adF:=Hq (show(x1.alloc (.cells #[] 97)).ownsRow wc.heap.size 97 4 (.slice (some ⟨x1.heap.size,0,none⟩) 0 0) 0 (GR.flat aN []) from World.ownsRow_lit (base:=wc.heap.size) (e:=97) (size:=4) x1 #[] 0 abE Aah Aac);have zh:=Hq (Bz.trans (zK.mono Bz.size));clear zK;generalize Pq:x1.alloc (.cells #[] 97)=y1 at *;clear Pq;exact Ac7):P:=h
theorem asK.AcL(h:P:=by
 have zK:=au x1 (.cells (eG no k nn 1) 97);have adx:=Hq (heap_alloc_new x1 (.cells (eG no k nn 1) 97));have zh:=Hq (Bz.trans (zK.mono Bz.size));clear zK;generalize Pq:x1.alloc (.cells (eG no k nn 1) 97)=y1 at *;open alp in exact av9):P:=h
theorem asL.AcL(h:P:=by
 have zK:=au x1 (.cells (eG no k nn 0) 97);have adx:=Hq (heap_alloc_new x1 (.cells (eG no k nn 0) 97));have zh:=Hq (Bz.trans (zK.mono Bz.size));clear zK;generalize Pq:x1.alloc (.cells (eG no k nn 0) 97)=y1 at *;open alo in exact av9):P:=h
theorem afZ(h:P:=by
 obtain⟨d0,d1,d2,d3,d4,d5,d6,d7,d8⟩:=nine nT;have f0:=aj nT 0;have f1:=aj nT 1;have f2:=aj nT 2;have f3:=aj nT 3;have f4:=aj nT 4;have f5:=aj nT 5;have f6:=aj nT 6;have f7:=aj nT 7;have f8:=aj nT 8;exact Afv):P:=h
theorem asM.Afv(h:P:=by
 have hrl:=aA nT;go_wp2_with fail;refine aO (λW' hW'=>?_)
 have e4:W'.heap[w.heap.size+2]?=some (.cells (gH n.id n.par A1.k n.kids.length A1.ck n.next pa RL.length pc A1.o n.out.length A1.co A1.s n.seen.length A1.cs n.old A1.r n.reqs.length A1.cr) 30 (0,0)):=by
  rw [hW'];exact GR.setW_blk (gH n.id n.par A1.k n.kids.length A1.ck n.next pa RL.length pc A1.o n.out.length A1.co A1.s n.seen.length A1.cs n.old A1.r n.reqs.length A1.cr).toList (o:=0) (xs:=fU.toList) nT
 have gL:aC [w.heap.size+2] Y W':=by
  rw [hW'];exact aK (gH n.id n.par A1.k n.kids.length A1.ck n.next pa RL.length pc A1.o n.out.length A1.co A1.s n.seen.length A1.cs n.old A1.r n.reqs.length A1.cr).toList Y 0
 have HAT:=Hq (λW'' (ho:Dr w W' W'')=>(show RM W'' ⟨A1.k,pa,A1.o,A1.s,A1.r,A1.ck,pc,A1.co,A1.cs,A1.cr⟩ (setPu n RL) from(by
  have h:=((ayS.kc (k:=9) (KC.keeps gL (λx hx=>by have:x=w.heap.size+2:=Aag;rw [this];exact oI)) Aaa).kc (k:=9) (ho.kc (λx hx=>Zg x Aaa)) Aaa)
  obtain⟨F,hk2,hF⟩:=ho
  have hpo:=(dG (dG ayX gL (λx hx=>by have:x=w.heap.size+2:=Aag;omega)) hk2 (λx hx=>by have:=hF x hx;omega))
  have hp9:∀g',pa.map (λy=>y.block)=some g'->6 < newC X.heap.size 9 c g':=λg' hg'=>by
   have h1:=uQ hpo (nD hpo hg')
   rw [aZ Aaa]
   omega
  exact NQ.put h HCQ (setPu n RL) ⟨A1.k,pa,A1.o,A1.s,A1.r,A1.ck,pc,A1.co,A1.cs,A1.cr⟩ rfl rfl rfl rfl (GR.own_ati aX hpo) (λg' hg' _=> .inr (hp9 g' hg')) h.o (λy hy=> .inl (HCQ.co y hy)) h.r (λy hy=> .inl (HCQ.cr y hy))
   (λg' hg' _ h6=>⟨λe=>by have:=HCQ.co g' e;omega,λe=>by have:=HCQ.cr g' e;omega⟩) (λy hy h6 e=>by have:=HCQ.co y hy;omega))))
 have nO:Hid (aY w W'):=ze.trans (gL.below (λx hx=>by have:x=w.heap.size+2:=Aag;omega) ze.size);obtain⟨x0,x1,x2,x3,x4,x5,x6,x7,x8⟩:=nine e4;clear hW' e4 gL;exact bodyPost_ret (v:= .tuple #[.agg (gH n.id n.par A1.k n.kids.length A1.ck n.next pa RL.length pc A1.o n.out.length A1.co A1.s n.seen.length A1.cs n.old A1.r n.reqs.length A1.cr),.slice (some ⟨W0.heap.size,0,none⟩) 0 0,.int .i64 0]) Abc rfl ⟨⟨A1.k,pa,A1.o,A1.s,A1.r,A1.ck,pc,A1.co,A1.cs,A1.cr⟩,some ⟨W0.heap.size,0,none⟩,0,rfl,HAT,λW'' _ i hi=>Aav,nO⟩):P:=h
theorem asN.Afv(h:P:=by
 have hnl:=aA qB;have hrl:=aA nT;by_cases hm:mI < eZ s0 mL
 .have hd:decide (mI < eZ s0 mL)=true:=decide_eq_true hm;go_wp2_with fail;exact aw2
 .have hd:decide (mI < eZ s0 mL)=false:=decide_eq_false hm;have hb:hasB (bg s0 mL) mI=true:=Ady
  rw [hb] at Zl;go_wp2_with (go_at_call 124;refine(Zl _ adh.at).mono ?_;rintro e wh ⟨rfl,rfl⟩)
  exact aw2):P:=h
theorem af0(h:P:=by
 generalize Ah s=B at *;generalize J4 s=E at *;generalize J8 s=X at *;generalize tF s (iW s (iV s 1))=N2 at *;generalize iW s (iV s 1)=E2 at *;generalize jJ s (iV s 1)=TX at *;generalize tF s 1=N1 at *;generalize iV s 1=E1 at *;obtain⟨mK,mF,mT,mI,mL,mk,mN⟩:=m;exact AcX):P:=h
theorem asO.AcX(h:P:=by
 have HH0:=Hq (λW (k:dS g w W)=>HH.keep1 k hg hge);go_in
 go_wp2_with fail;refine(HK _ H).mono ?_;rintro e w1 ⟨rfl,hr1,hk1⟩;have HR1:=Hq (hk1.obj (heap_alloc_new w _) (show w.heap.size≠g by omega));have Jq:=Hq ((dS.of_below (au w _)).trans hk1);have HA1:=Hq hr1;have hz1:w.heap.size < w1.heap.size:=bH HR1;clear hr1 hk1 HK H;go_upto_region 2 with fail;refine wp_at (λV2 hV=>?_)
 have HS:Hid (OS w V2 g w1.heap.size s 1 (cu (s[0].toNat:Int) 0 ⟨#[]⟩ 0 0 0 0 0 0 ⟨#[]⟩ 0)):=by
  rw [hV];exact⟨aJ HA1 (au w1 _),aJ HR1 (au w1 _),heap_alloc_new w1 _,Jq.trans (dS.of_below (au w1 _)),hz1⟩
 clear hV HR1 Jq HA1;generalize w1.heap.size=o at *;clear w1;by_cases hE0:0<=E1
 case' neg=>
  have hno:OK=false:=ah kS (λhx=>hE0 (by have:=ah HX hx.1;omega))
  have Rp:=Hq (ayM V2 HS.rd (HH0 _ HS.keep) Aaa)
  clear hE0
  go_wp2_with fail
  refine Rp.mono ?_
  rintro e w9 ⟨rfl,Tn⟩
  have HKK:=Hq (HS.keep.trans (dS.of_below Tn))
  clear Tn
  go_wp2_with fail
  exact⟨rfl,.inr ⟨hno,_,rfl⟩,HKK⟩
 have HNY:=Hq (ayN V2 HS.rd (HH0 _ HS.keep) hE0);go_wp2_with fail;refine HNY.mono ?_;rintro e u0 ⟨rfl,hr,hk⟩;have HT:=Hq (HS.step hr hk hg);clear hr hk HNY HS;have hz0:=bH HT.op;obtain⟨⟨c0,c1,c2,c3,c4,c5,c6,c7,c8,c9,c10⟩,f0,f1,f2,f3,f4,f5,f6,f7,f8,f9,f10⟩:=aQ HT.op;go_upto_region 3 with fail;refine wp_at (λV3 hV=>?_);have HS:Hid (OS w V3 g o s E1 (cu (s[0].toNat:Int) N1 ⟨#[]⟩ 0 0 0 0 0 0 ⟨#[]⟩ 0)):=by rw [hV];exact HT.set hg 1 (.int .i64 N1)
 clear hV HT hz0 c0 c1 c2 c3 c4 c5 c6 c7 c8 c9 c10 f0 f1 f2 f3 f4 f5 f6 f7 f8 f9 f10 u0 V2;by_cases hE1:0<=E2
 case' neg=>
  have hno:OK=false:=ah kS (λhx=>hE1 (by have:=ah HX hx.1;omega))
  have Rp:=Hq (ayZ V3 HS.rd (HH0 _ HS.keep) Aaa)
  clear hE1
  go_wp2_with fail
  refine Rp.mono ?_
  rintro e w9 ⟨rfl,Tn⟩
  have HKK:=Hq (HS.keep.trans (dS.of_below Tn))
  clear Tn
  go_wp2_with fail
  exact⟨rfl,.inr ⟨hno,_,rfl⟩,HKK⟩
 have HNY:=Hq (aza V3 HS.rd (HH0 _ HS.keep) hE1);go_wp2_with fail;refine HNY.mono ?_;rintro e u1 ⟨rfl,hr,hk⟩;have HT:=Hq (HS.step hr hk hg);clear hr hk HNY HS;have hz1:=bH HT.op;obtain⟨⟨c0,c1,c2,c3,c4,c5,c6,c7,c8,c9,c10⟩,f0,f1,f2,f3,f4,f5,f6,f7,f8,f9,f10⟩:=aQ HT.op;go_upto_region 4 with fail;refine wp_at (λV4 hV=>?_);have HS:Hid (OS w V4 g o s E2 (cu (s[0].toNat:Int) N1 TX 0 0 0 0 0 0 ⟨#[]⟩ 0)):=by rw [hV];exact HT.set hg 2 (.string TX)
 clear hV HT hz1 c0 c1 c2 c3 c4 c5 c6 c7 c8 c9 c10 f0 f1 f2 f3 f4 f5 f6 f7 f8 f9 f10 u1 V3;by_cases hE2:0<=X
 case' neg=>
  have hno:OK=false:=ah kS (λhx=>hE2 (by have:=ah HX hx.1;omega))
  have Rp:=Hq (ayO V4 HS.rd (HH0 _ HS.keep) Aaa)
  clear hE2
  go_wp2_with fail
  refine Rp.mono ?_
  rintro e w9 ⟨rfl,Tn⟩
  have HKK:=Hq (HS.keep.trans (dS.of_below Tn))
  clear Tn
  go_wp2_with fail
  exact⟨rfl,.inr ⟨hno,_,rfl⟩,HKK⟩
 have HNY:=Hq (ayP V4 HS.rd (HH0 _ HS.keep) hE2);go_wp2_with fail;refine HNY.mono ?_;rintro e u2 ⟨rfl,hr,hk⟩;have HT:=Hq (HS.step hr hk hg);clear hr hk HNY HS;have hz2:=bH HT.op;obtain⟨⟨c0,c1,c2,c3,c4,c5,c6,c7,c8,c9,c10⟩,f0,f1,f2,f3,f4,f5,f6,f7,f8,f9,f10⟩:=aQ HT.op;go_upto_region 5 with fail;refine wp_at (λV5 hV=>?_);have HS:Hid (OS w V5 g o s X (cu (s[0].toNat:Int) N1 TX N2 0 0 0 0 0 ⟨#[]⟩ 0)):=by rw [hV];exact HT.set hg 3 (.int .i64 N2)
 clear hV HT hz2 c0 c1 c2 c3 c4 c5 c6 c7 c8 c9 c10 f0 f1 f2 f3 f4 f5 f6 f7 f8 f9 f10 u2 V4;have hgl:g < V5.heap.size:=Nat.lt_of_lt_of_le hg HS.keep.size;have HMM:=Hq (HM V5 hgl HS.rd (HH0 _ HS.keep));go_wp2_with fail;refine HMM.mono ?_;rintro e w6 ⟨hcase,hk⟩;have HK6:=Hq hk;clear hk HMM;rcases hcase with⟨hyes,rfl,hr⟩|⟨hnot,p,rfl⟩
 case' inr=>
  have hno:=ah kS hnot
  have HKK:=Hq (HS.keep.trans HK6)
  clear hnot
  go_wp2_with fail
  exact⟨rfl,.inr ⟨hno,_,rfl⟩,HKK⟩
 have HT:=Hq (HS.step hr HK6 hg);have HYE:=Hq hyes;clear hr HK6 HS hyes hgl;have hz6:=bH HT.op;obtain⟨⟨c0,c1,c2,c3,c4,c5,c6,c7,c8,c9,c10⟩,f0,f1,f2,f3,f4,f5,f6,f7,f8,f9,f10⟩:=aQ HT.op;go_upto_region 6 with fail;refine wp_at (λV6 hV=>?_);have HS:Hid (OS w V6 g o s E (cu (s[0].toNat:Int) N1 TX N2 mK mF mT mI mL mk mN)):=by rw [hV];exact HT.tail hg
 clear hV HT hz6 c0 c1 c2 c3 c4 c5 c6 c7 c8 c9 c10 f0 f1 f2 f3 f4 f5 f6 f7 f8 f9 f10 w6 V5;obtain⟨e0,e1,_,_⟩:=HS.rd.two;obtain⟨⟨c0,c1,c2,c3,c4,c5,c6,c7,c8,c9,c10⟩,f0,f1,f2,f3,f4,f5,f6,f7,f8,f9,f10⟩:=aQ HS.op;have hoV:=bH HS.op;have hgV:=bH HS.rd;clear f0 f1 f2 f3 f4 f5 f6 f7 f8 f9 f10;by_cases hEs:E=s.size
 case' neg=>
  have hno:OK=false:=by rw [Bool.eq_false_iff];intro hy;exact hEs (HG.1 hy).1
  have hq:(E == (s.size:Int))=false:=by simpa using hEs
  have hq2:(E != (s.size:Int))=true:=by simpa using hEs
  clear c0 c1 c2 c3 c4 c5 c6 c7 c8 c9 c10
  refine wp_region_quiet_lit Aab Aab ?_
  repeat (any_goals (first|go_big_quiet_step (fail)|quiet_step (fail)))
  refine wpQuiet_nil ?_
  intro _ hw'
  obtain⟨nq,hw''⟩:=hw'
  subst hw''
  go_wp2_with fail
  refine(HF _ (aJ HS.rd (jG V6 _))).mono ?_
  rintro e w9 ⟨rfl,rfl⟩
  go_wp2_with fail
  exact⟨rfl,.inr ⟨hno,_,rfl⟩,HS.keep.trans (dS.of_below (jG V6 _))⟩
 have hq:(E == (s.size:Int))=true:=by simpa using hEs
 have hq2:(E != (s.size:Int))=false:=by simpa using hEs
 have HES:=Hq hEs;clear hEs;have x0:=cell_regrown e0;have x1:=cell_regrown e1;open ak9 in exact Ht):P:=h
theorem asP.AcX(h:P:=by
 go_in
 go_wp2_with fail;refine(yZ _).mono ?_;rintro e w1 ⟨rfl,hb1⟩;have hR1:=aJ (heap_alloc_new w _) hb1;have hB1:=(au w _).trans (hb1.mono Aac);clear hb1 yZ;go_wp2_with fail;refine(HT1 _).mono ?_;rintro e w2 ⟨rfl,hb2⟩;have hR2:=aJ hR1 hb2;have hB2:=hB1.trans (hb2.mono hB1.size);clear hb2 hR1 hB1 HT1;go_wp2_with fail;refine(NW _).mono ?_;rintro e w3 ⟨rfl,hb3⟩;have hR3:=aJ hR2 hb3;have hB3:=hB2.trans (hb3.mono hB2.size);clear hb3 hR2 hB2 NW;go_wp2_with fail;refine(HT2 _).mono ?_;rintro e w4 ⟨rfl,hb4⟩;have hR4:=aJ hR3 hb4;have hB4:=hB3.trans (hb4.mono hB3.size);clear hb4 hR3 hB3 HT2;go_wp2_with fail;refine(HG _).mono ?_;rintro e w5 ⟨rfl,hb5⟩;have BF:=Hq (aJ hR4 hb5);have iX:=Hq (hB4.trans (hb5.mono hB4.size));clear hb5 hR4 hB4 HG;open asw in exact Vi):P:=h
theorem af2(h:P:=by
 clear Xu;refine fC 4 rfl Aab Aad Aae (λx3 hx3=>?_);have zf:=Hq (KN.trans (hx3.mono KN.size));have Cg:vw.heap.size<=x3.heap.size:=zf.size;have BI:=Hq (GR.own_below Hr hx3);have xY:=Hq (ay Zy hx3);clear hx3;exact Afu):P:=h
theorem asQ.Afu(h:P:=by
 obtain⟨v3,y3,LC,LA,yu,Tw⟩:=fK aR Aaa x3 vw.heap.size 24 24 3 i0 (.int .i64 0) 8 underlying24 hi0 hz0 hz1' hz2 rfl (.slice (some ⟨x2.heap.size,0,none⟩) 0 0) 0 (GR.flat aS ([])) BI (some ⟨gi,0,none⟩) ((bg s0 mL).take pos) OV (GR.At.below Hl zf) (rF _) Aah Aaa Cg;open apN in exact afc):P:=h
theorem asR.Afu(h:P:=by
 obtain⟨v3,y3,LC,LA,yu,Tw⟩:=fK aR Aaa x3 vw.heap.size 24 24 3 i0 (.int .i64 0) 8 underlying24 hi0 hz0 hz1' hz2 rfl (.slice (some ⟨x1.heap.size,0,none⟩) 0 0) 0 (GR.flat aS ([])) BI (some ⟨gi,0,none⟩) ((bg s0 mL).take pos) OV (GR.At.below Hl zf) (rF _) Aah Aaa Cg;open apM in exact afc):P:=h
theorem af3(h:P:=by
 have h2I:¬(40:Int)<=(n.out.length:Int):=Aaa
 have q2:decide ((40:Int)<=(n.out.length:Int))=false:=by simpa using h2I
 have q3:decide ((1000000000:Int)<=n.next)=false:=by simpa using h3
 obtain⟨gp,hgp⟩:=hP;subst hgp;obtain⟨i0,hi,hz0,hz1,hz2⟩:=info_parts Es;exact Afs):P:=h
theorem asS.Afs(h:P:=by
 have HPT:=Hq (λW (ha:aI W (some ⟨gp,0,none⟩) n.pu)=>QX gp 0 bE n.pu key pf W (Nat.le_trans hz.p Aaa) vC hz.pk hkey ha);unfold iY at HPT;rw [hu] at HPT;obtain⟨PM,Ce⟩:∃PM,pU ⟨n.id,n.par,n.kids,n.next+1,RL,n.out++[⟨n.next,dst,key,pf⟩],n.seen,n.old,n.reqs⟩ ⟨n.next,dst,key,pf⟩=PM:=⟨_,rfl⟩;have YV:=Hq Ce;rw [Ce];clear hz vC hu Ce;unfold fZ;have H9:=Hq h9;clear h9;open azO in exact Yw9):P:=h
theorem asT.Afs(h:P:=by
 have HPT:=Hq (λW (ha:aI W (some ⟨gp,0,none⟩) n.pu)=>QX gp 0 bE n.pu key most W (Nat.le_trans hz.p Aaa) vC hz.pk hkey ha);unfold iY at HPT;rw [hu] at HPT;obtain⟨PM,Ce⟩:∃PM,pU ⟨n.id,n.par,n.kids,n.next+1,RL,n.out++[⟨n.next,dst,key,most⟩],n.seen,n.old,n.reqs⟩ ⟨n.next,dst,key,most⟩=PM:=⟨_,rfl⟩;have YV:=Hq Ce;rw [Ce];clear hz vC hu Ce;unfold fZ;have H9:=Hq h9;clear h9;open azP in exact Yw9):P:=h
theorem af4(h:P:=by
 clear Xu;refine fC 5 rfl Aab Aad Aae (λx3 hx3=>?_);have zf:=Hq (KN.trans (hx3.mono KN.size));have Cg:wc.heap.size<=x3.heap.size:=zf.size;have BI:=Hq (GR.own_below Hr hx3);have xY:=Hq (ay Zy hx3);clear hx3;exact AfI):P:=h
theorem asU.AfI(h:P:=by
 obtain⟨v3,y3,LC,LA,yu,Tw⟩:=fK bX Aaa x3 wc.heap.size 28 28 97 i0 (.agg (eG 0 ByteArray.empty 0 0)) 40 underlying28 hi hz0 hz1 hz2 rfl (.slice (some ⟨x2.heap.size,0,none⟩) 0 0) 0 (GR.flat aN ([])) BI (some ⟨gr,0,none⟩) (n.reqs.take pos) aV (GR.At.below Hl zf) (iP _) Aah Aaa Cg;open aqm in exact afh):P:=h
theorem asV.AfI(h:P:=by
 obtain⟨v3,y3,LC,LA,yu,Tw⟩:=fK bX Aaa x3 wc.heap.size 28 28 97 i0 (.agg (eG 0 ByteArray.empty 0 0)) 40 underlying28 hi hz0 hz1 hz2 rfl (.slice (some ⟨x1.heap.size,0,none⟩) 0 0) 0 (GR.flat aN ([])) BI (some ⟨gr,0,none⟩) (n.reqs.take pos) aV (GR.At.below Hl zf) (iP _) Aah Aaa Cg;open aql in exact afh):P:=h
theorem af5(h:P:=by
 refine(Oo A2 x5 (HS.step HG).nl.at).mono ?_;rintro e y5 ⟨A3,ma,mc,rfl,hat,hmt,hb5⟩;refine⟨hb5.mono HG.size,?_⟩;have hxs:=HG.size;have UL:=Hq (show NL x5.heap.size y5 A3 m' from λF W'' hk hF=>(hat W'' ⟨F,hk,hF⟩).at);have HG2:=Hq (Ge.trans HG hb5);exact AcR):P:=h
theorem asW.AcR(h:P:=by
 have HQ2:=Hq (ay HQ hb5);have hqd:qf < x5.heap.size\/y5.heap.size<=qf:= .inl (aA HQ);clear hat hmt hb5;exact axv):P:=h
theorem asX.AcR(h:P:=by
 clear hat hmt hb5;exact axl):P:=h
theorem af6(h:P:=by
 have jV:=Hq ((hap _ (aA qZ) (by rw [ah oI];omega)).trans qZ);have Za:=Hq hat;have vP:=Hq (OQ lU hb5 hap Zg);have hrx:=aA qZ;clear hat hb5 hap c0 c1 c2 c3 c4 c5 c6 c7 c8 p0 p1 p2 p3 p4 p5 p6 p7 p8 p9 oD hnl hol kR gU HOX qZ BA HPR;exact Ae4):P:=h
theorem asY.Ae4(h:P:=by
 open arB in exact afE):P:=h
theorem asZ.Ae4(h:P:=by
 have KO:=Hq (heap_alloc_new W5 (.cells (dD N1 A2) 30));have rT:=Hq (ay jV (au W5 (.cells (dD N1 A2) 30)));have vQ:=Hq (vP.trans ((au W5 (.cells (dD N1 A2) 30)).mono vP.size));obtain⟨c0,c1,c2,c3,c4,c5,c6,c7,c8⟩:=nine KO;have hnl:=aA KO;open al5 in exact Wz):P:=h
theorem af7(h:P:=by
 refine Lib.wp_append_run x4 (.tmp 98) (.tmp 100) 28 28 rfl _ _ Aaj Aaj v4 y4 Xq ?_;refine⟨(Below.refl _ _).grown Fw Pn (λb hb=>(Oq.lt b hb).1),?_⟩;go_simp;have Zk:=Hq (Zj.grown Fw Pn (λb hb=>(Oq.lt b hb).1));exact AeT):P:=h
theorem as0.AeT(h:P:=by
 have Sd:Hid (y4.ownsRow wc.heap.size 97 4 v4 (pos+1) (GR.flat aN (n.reqs.take pos++[(⟨no,k,nn,1⟩:Rq)]))):=Hq Adj;have ady:=Hq (show y4.heap[rb]?=some (.cells (eG no k nn 1) 97 (0,0)) from by rw [Fw.block _ (aA (ah EJ)) (λhm=>ah VZ _ hm.symm rfl)];exact EJ);open auN in exact aao):P:=h
theorem as1.AeT(h:P:=by
 have Sd:Hid (y4.ownsRow wc.heap.size 97 4 v4 (pos+1) (GR.flat aN (n.reqs.take pos++[(⟨no,k,nn,0⟩:Rq)]))):=Hq Adj;have ady:=Hq (show y4.heap[rb]?=some (.cells (eG no k nn 0) 97 (0,0)) from by rw [Fw.block _ (aA (ah EJ)) (λhm=>ah VZ _ hm.symm rfl)];exact EJ);open auM in exact aao):P:=h
theorem af8(h:P:=by
 have Zc:Hid (aY w W9):=by rw [Tk];exact GY.setCell (p:=⟨w.heap.size,8,none⟩) (Nat.le_refl _) _
 have HL9:Hid (LO 97 aN 4 (w.heap.size+3) W9 (some ⟨g8,0,none⟩) EW IT):=by rw [Tk];exact((HL8.lower hz7).keeps (aC.set _) (λx hx=>Aak))
 exact Aem):P:=h
theorem as3.Aem(h:P:=by
 have HP9:Hid (LO 143 fH 4 (w.heap.size+3) W9 av cv RL):=by rw [Tk];exact YT.keeps (aC.set _) (λx hx=>by simp at hx;omega)
 clear Tk k8 kf8 rR zn adw GY HL8 qB nT Zx ze adE Wt c0 c1 c2 c3 c4 c5 c6 c7 c8 cf hnl YT HP7;have Xg:IT.length=n.reqs.length:=hIT;clear hIT;obtain⟨c0,c1,c2,c3,c4,c5,c6,c7,c8⟩:=nine xX;open ald in exact Ht):P:=h
theorem as4.Aem(h:P:=by
 skip
 clear Tk k8 kf8 rR zn adw GY HL8 qB nT Zx ze adE Wt c0 c1 c2 c3 c4 c5 c6 c7 c8 cf hnl;have Xg:IT.length=n.reqs.length:=hIT;clear hIT;obtain⟨c0,c1,c2,c3,c4,c5,c6,c7,c8⟩:=nine xX;open alf in exact Ht):P:=h
theorem af9(h:P:=by
 have mixed:prog.follows .mixedOrders=true:=Aab
 have hw1:IntKind.i64.wrap ((i:Int)+1)=(i:Int)+1:=IntWalk.i64_in _ ⟨Aaa,Aaa⟩;have hb1:(0:Int)<=(i:Int)+1:=Aaa
 have hin:i<=l.length:=Aaa
 have htn:((i:Int)+1).toNat=i+1:=Aaa
 exact AdG):P:=h
theorem as5.AdG(h:P:=by
 have hb2:¬(cap=i+1):=Aaa
 have hb3:(i:Int)<=(l.length:Int)+1:=Aaa
 have hb4:¬(cap=i):=Aaa
 have hc63:cap<=9223372036854775807:=Acn
 clear hcs hcl hdl hv hblk htake hcm hr1 abu ajs hvr;go_in
 go_wp2_with (simp only[hov])
 go_region_law_o (refine step_copy_runI rfl _ _ 28 28 rfl _ _ Abm Abm (hcp1 _ _ _ _ _ Aaa Aaa) ?_)
 go_wp2_with (at_builtin;refine wpList_copy_runI _ rfl _ _ 28 28 rfl _ _ rfl rfl (hcp2 _ _ _ Aaa) ?_)
 go_ret;exact⟨rfl,hfin.1,hfin.2⟩):P:=h
theorem as6.AdG(h:P:=by
 have hb3:(i:Int)<=(l.length:Int):=Aaa
 have hGi:¬(G=i):=Aaa
 have hGim:¬(G=i+1):=Aaa
 have hci:¬(cap=i):=Aaa
 have hG63:G<=9223372036854775807:=by unfold maxLen at hGm;omega
 have hz3:(cap:Int) < (l.length:Int)+1:=Aaa
 have hA2:=hA ((w.alloc (.cells R 97)).drew) rfl;have hB2:=hB ((((w.alloc (.cells R 97)).drew).setRow w.heap.size (Ap R.toList i q).toArray).drew) rfl;clear hblk hv htake hcell hdl htl hRs hRl hRt hBb hi0 hz0 hz1 hz2 hA hB;go_in
 go_upto_region 10 with(at_builtin;refine Lib.wpList_append_run _ rfl _ _ _ _ rfl _ _ rfl rfl _ _ (hrz _) ?_)
 go_wp2_with (first
  |(at_builtin;refine wpList_copy_runI _ rfl _ _ 28 28 rfl _ _ rfl rfl (hA2 _ _ _ Aaa) ?_))
 go_region_law_o (refine step_copy_runI rfl _ _ 28 28 rfl _ _ Abm Abm (hB2 _ _ _ _ _ Aaa Aaa) ?_)
 go_wp2
 go_ret;obtain⟨f1,f2⟩:=ah Dv ((((w.alloc (.cells R 97)).drew).setRow w.heap.size (Ap R.toList i q).toArray).drew) rfl rfl rfl rfl;exact⟨G,_,rfl,hGn,hGm,f1,JE,UW,f2⟩):P:=h
theorem aad(h:P:=by
 have hke:k=L.length:=Aaa
 subst hke;have hnlt:decide ((L.length:Int) < (L.length:Int))=false:=Aac
 exact Ab2):P:=h
theorem as7.Ab2(h:P:=by
 rw [ah HPE] at HK;obtain⟨m,hm⟩:∃m,fJ n L=m:=⟨_,rfl⟩;rw [hm] at HK;have HM:=Hq hm;clear HD HP HPE hlt hm;obtain⟨c0,c1,c2,c3,c4,c5,c6,c7,c8,c9⟩:=jr HK.blk;have hres:=ay HR HK.keep;have qZ:=Hq hres;have hrl:=aA hres;have hwl:=aA HK.blk;open arQ in exact afK):P:=h
theorem as8.Ab2(h:P:=by
 rw [ah HPE] at HS;obtain⟨m,hm⟩:∃m,fJ n L=m:=⟨_,rfl⟩;rw [hm] at HS;have HM:=Hq hm;clear HSD Zw HPE hlt hm hLl;obtain⟨c0,c1,c2,c3,c4,c5,c6,c7,c8⟩:=nine HS.blk;obtain⟨d0,d1,d2,d3,d4,d5,d6,d7,d8⟩:=nine HS.res;have hnl:=aA HS.blk;have hrl:=aA HS.res;have f0:=aj HS.res 0;have f1:=aj HS.res 1;have f2:=aj HS.res 2;have f3:=aj HS.res 3;have f4:=aj HS.res 4;have f5:=aj HS.res 5;have f6:=aj HS.res 6;have f7:=aj HS.res 7;have f8:=aj HS.res 8;go_wp2_with fail;refine aO (λW' hW'=>?_);have e9:W'.heap[w.heap.size+1]?=some (.cells (dD m A2) 30 (0,0)):=by rw [hW'];exact oL HS.res
 obtain⟨r0,r1,r2,r3,r4,r5,r6,r7,r8⟩:=nine e9;have jZ:NL (w.heap.size+2) W' A2 m:=by rw [hW'];exact HS.nl.keeps kD (λf hf=>by rw [List.mem_singleton.1 hf];omega)
 have hBB:aY w W':=by rw [hW'];exact nU HS.bel Aaa
 exact bodyPost_ret (v:=fT m A2) (by simp[results,results24,go_sem,r0,r1,r2,r3,r4,r5,r6,r7,r8]) rfl ⟨A2,by rw [ah HM],by rw [ah HM];exact jZ.aft,hBB⟩):P:=h
theorem as9.Ab2(h:P:=by
 rw [ah HPE] at HS;have R8:=Hq (Om.step HS.bel);clear RY Zw HPE hlt xA Om;obtain⟨c0,c1,c2,c3,c4,c5,c6,c7,c8⟩:=nine (R8.at 1 rfl);have hbl:=aA (R8.at 1 rfl);open aow in exact awE):P:=h
theorem aga(h:P:=by
 refine fC 8 rfl Aab Aad Aae (λx4 hx4=>?_);have Zj:=Hq (Wh.trans (hx4.mono Wh.size));have Pn:wc.heap.size<=x4.heap.size:=Zj.size;have Oq:=Hq (GR.own_below Ww hx4);have EJ:=Hq (ay Hf hx4);clear hx4;exact AdT):P:=h
theorem ata.AdT(h:P:=by
 obtain⟨v4,y4,Xq,Tv,Fw,abG⟩:=dR x4 wc.heap.size 28 28 97 i0 (.agg (eG 0 ByteArray.empty 0 0)) 4 40 underlying28 hi hz0 hz1 hz2 rfl Aae (.slice avR (pos) cvR) (pos) (GR.flat aN (n.reqs.take pos)) Oq ⟨rb,0,none⟩ 1 1 (aN ⟨no,k,nn,1⟩) rfl (World.news_of_block EJ) (ql _) Aah Aaa Pn;open as0 in exact af7):P:=h
theorem atb.AdT(h:P:=by
 obtain⟨v4,y4,Xq,Tv,Fw,abG⟩:=dR x4 wc.heap.size 28 28 97 i0 (.agg (eG 0 ByteArray.empty 0 0)) 4 40 underlying28 hi hz0 hz1 hz2 rfl Aae (.slice avR (pos) cvR) (pos) (GR.flat aN (n.reqs.take pos)) Oq ⟨rb,0,none⟩ 1 1 (aN ⟨no,k,nn,0⟩) rfl (World.news_of_block EJ) (ql _) Aah Aaa Pn;open as1 in exact af7):P:=h
theorem Vj(h:P:=by
 obtain⟨c0,c1,c2,c3,c4,c5,c6,c7,c8,c9⟩:=jr HW1.blk;obtain⟨⟨p0,p1,p2,p3,p4,p5,p6,p7,p8,p9,oD⟩,_⟩:=aQ xB;exact AbG):P:=h
theorem atc.AbG(h:P:=by
 have hwl:=aA HW.blk;have hne:wb≠w.heap.size:=Aaa
 exact AaB):P:=h
theorem atd.AbG(h:P:=by
 go_in
 go_upto_region 1 with fail;have y1:=cell_regrown c1;open avP in exact aat):P:=h
theorem ate.AbG(h:P:=by
 go_in
 go_upto_region 3 with fail;have y0:=cell_regrown c0;have y1:=cell_regrown c1;open avN in exact aat):P:=h
theorem atf.AbG(h:P:=by
 have hwl:=aA HW.blk;have hne:wb≠w.heap.size:=Aaa
 go_in
 go_upto_region 1 with fail;have y1:=cell_regrown c1;have y4:=cell_regrown c4;open avM in exact aat):P:=h
theorem agb(h:P:=by
 have HR:Hid (textOf s k (some (n,c))=some (s.extract (k+c) (k+c+n),k+c+n)):=by unfold textOf;exact if_neg hbad
 rw [Int.toNat_natCast];have h1:¬1000 < n:=Aaa
 have h2:¬(s.size:Int) - ((k:Int)+(c:Int)) < (n:Int):=Aaa
 exact Afz):P:=h
theorem atg.Afz(h:P:=by
 clear hbad;go_in
 go_wp2_with (go_at_call 181;refine(HS _).mono ?_;rintro e w1 ⟨rfl,hb1⟩;simp only[rU])
 go_ret2
 exact⟨by rw [ah HR];simp[Ez],hb1⟩):P:=h
theorem ath.Afz(h:P:=by
 have hz:(s.extract (k+c) (k+c+n)).size<=281474976710656:=Acf
 clear hbad;go_in
 go_wp2_with (first|(go_at_call 241;refine(HS _).mono ?_;rintro e w1 ⟨rfl,rfl⟩;simp only[rW])|(go_at_call 102;refine(clone _ _ hz).mono ?_;rintro e w2 ⟨rfl,hb2⟩))
 go_ret3
 exact⟨by rw [ah HR];simp[tV],hb2⟩):P:=h
theorem agc(h:P:=by
 have ho:=h.own;rw [<-h.len] at ho;obtain⟨a',c',g,e,hW,hg,hgo⟩:=GR.W.of_own (enc:=eP) eF ho;cases e
 rw [h.len] at hgo;have hfe:∀x,x∈fp g l->x∈fp g T2:=λx hx=>by have:=gV hx;rw [this.1];exact dK (by rw [h.len];exact this.2)
 exact Aey):P:=h
theorem ati.Aey(h:P:=by
 refine⟨g,⟨T2,hW,h.len,λi hi=>?_⟩,λx hx=>⟨(hg x (hfe x hx)).1,hgo x (hfe x hx)⟩,λx hx=>?_,?_⟩
 .obtain⟨b,c,e1,e2,_⟩:=h.dn i hi hi;exact⟨b,c,e1,e2⟩
 .obtain⟨i,hi,rfl,hpos⟩:=uO hx;obtain⟨_,_,_,_,e3⟩:=h.dn i hi hi;exact e3 _ (dK hpos)
 .rw [mq];exact λi j hi hj hij h1 h2=>h.nd i j hi hj hij hj h1 h2):P:=h
theorem atj.Aey(h:P:=by
 refine⟨g,⟨⟨T2,hW,h.len,λi hi=>?_⟩,λhp=>?_⟩,λx hx=>(hg x (hfe x hx)).1,λx hx=>?_,?_⟩
 .obtain⟨b,c,e1,e2,_⟩:=h.dn i hi hi;exact⟨b,c,e1,e2⟩
 .have hx:=hgo g (dK (by rw [h.len];exact hp));rcases h.own.2 with⟨_,hn⟩|⟨g',cap,cur,hv,_,hgg,_⟩
  .omega
  .rw [hv] at hx;have e3:g'=g:=Abo
   rw [e3] at hgg;exact⟨cur,hgg⟩
 .obtain⟨i,hi,rfl,hpos⟩:=uO hx;obtain⟨_,_,_,_,e3⟩:=h.dn i hi hi;have q:=e3 _ (dK hpos);exact⟨q.1,q.2.1,λhm=>q.2.2 (hgo _ (hfe _ hm))⟩
 .rw [mq];exact λi j hi hj hij h1 h2=>h.nd i j hi hj hij hj h1 h2):P:=h
theorem aae(h:P:=by
 go_in
 go_wp2_with fail;refine HBS.mono ?_;rintro e w1 ⟨rfl,q,rfl⟩;rw [hf];exact Ab5):P:=h
theorem atl.Ab5(h:P:=by
 go_wp2_with fail;go_ret;exact⟨⟨rfl,rfl,rfl,Nat.le_refl _,λ_ _=>rfl⟩,λ_ _ _ _=>rfl,.inl ⟨by first|trivial|rfl,rfl,HH.drewN⟩⟩):P:=h
theorem atm.Ab5(h:P:=by
 clear HBS
 have Zm:=Hq (ajN B (.slice a l.length cap) (l.map (·.k)) (place l key) key w.heap.size ((w.drewN q).alloc (.cells #[.string key] 9)) (by rw [List.length_map];exact nG l key) (by rw [List.length_map];exact hl) Aaf
  (World.ownsRow.alloc (w:=w.drewN q) HH.row _) (heap_alloc_new (w.drewN q) _) (λe=>by have:=HR.lt _ e;omega))
 go_wp2_with fail;refine Zm.mono ?_;rintro e w2 ⟨v',rfl,hown,hgr⟩;rw [List.length_map,abS,<-Da l key] at hown;obtain⟨g',cap',rfl,_,_⟩:=hown.form (by rw [Da];omega)
 have hlt:∀k,k < w.heap.size->(Value.slice a l.length cap).ownBlock≠some k->w2.heap[k]?=w.heap[k]?:=λk hk hne=>by
  rw [hgr.block k Aaf (Ne.symm hne)]
  exact Below.heap_alloc (w.drewN q) _ _ hk
 have hm2:w2.heap[mp]?=some (.cells #[.slice a l.length cap,.map (some mb)] 306 (0,0)):=by rw [hlt mp hmp (own_ne (ah HR) (ah HH).blk Aae)];exact HH.blk
 have hb2:w2.heap[mb]?=w.heap[mb]?:=by
  obtain⟨es,clock,hbk⟩:=HH.map.blk;exact hlt mb hmb (yH HR hbk)
 have hbw:Below B w w2:=by
  refine⟨hgr.os,hgr.tape,hgr.output,Nat.le_trans Aac hgr.size,λk hk=>hlt k Aaa (λe=>?_)⟩;have:=HR.lt _ e;omega
 have HO:=Hq hown;have HM2:=Hq hm2;have HB2:=Hq hb2;have iA:=Hq hbw;have HLT:=Hq hlt;obtain⟨⟨n0,n1⟩,g0,g1⟩:=nM hm2;clear hown hgr hlt hm2 hb2 hbw Zm n1 g1;go_wp2_with fail;go_ret;refine⟨iA.setCell (p:=⟨mp,0,none⟩) HH.lop _,λk hk hne1 hne2=>Fo.one_other (HLT k hk hne2) hne1,.inr (.inr ⟨by first|trivial|rfl,Aaa,rfl,.slice (some ⟨g',0,none⟩) (PW l key).length cap',?_,?_,?_,HH.lop,HH.lom⟩)⟩
 .exact Fo.blk_set HM2 0 _
 .refine HO.kept (w':=w2.setCell ⟨mp,0,none⟩ _) (row:=some mp) ⟨rfl,rfl,rfl,by rw [Fo.setCell_size];exact Nat.le_refl _,λk _ hne=>Fo.one_other rfl (λe=>hne Aao)⟩ (.inr (own_ne HO HM2 Aae))
 .refine HH.map.kept ?_;rw [Fo.one_other (ah HB2) (Ne.symm (ah HH).mpmb)]):P:=h
theorem atn.Ab5(h:P:=by
 go_wp2_with fail;go_ret;exact⟨⟨rfl,rfl,rfl,Nat.le_refl _,λ_ _=>rfl⟩,λ_ _ _ _=>rfl,.inr (.inl ⟨by first|trivial|rfl,H20,rfl⟩)⟩):P:=h
theorem aaf(h:P:=by
 rw [<-hW] at e1 e2 e3 e4;have HN:=Hq e1;have HO:=Hq e2;have HR:=Hq e3;have HB0:=Hq e4;have Jv:=Hq (kS.kc (k:=9) (KC.of_below e4) Aaa);exact Ab1):P:=h
theorem ato.Ab1(h:P:=by
 clear hW e1 e2 e3 e4 kS;obtain⟨⟨p0,p1,p2,p3,p4,p5,p6,p7,p8,p9,oD⟩,_⟩:=aQ HO;have hol:=aA HO;obtain⟨c0,c1,c2,c3,c4,c5,c6,c7,c8⟩:=nine HN;obtain⟨d0,d1,d2,d3,d4,d5,d6,d7,d8⟩:=nine HR;have f0:=aj HR 0;have f1:=aj HR 1;have f2:=aj HR 2;have f3:=aj HR 3;have f4:=aj HR 4;have f5:=aj HR 5;have f6:=aj HR 6;have f7:=aj HR 7;have f8:=aj HR 8;have hnl:=aA HN;have hrl:=aA HR;go_wp2_with fail;refine aO (λW' hW'=>?_)
 have e4:W'.heap[w.heap.size+2]?=some (.cells (dD n A) 30 (0,0)):=by
  rw [hW'];exact GR.setW_blk (dD n A).toList (o:=0) (xs:=fU.toList) HR
 have gL:aC [w.heap.size+2] W0 W':=by
  rw [hW'];exact aK (dD n A).toList W0 0
 have HAT:=Hq (λW'' (ho:Out c w W' W'')=>(Jv.kc (k:=9) ((KC.keeps gL (λx hx=>by have:x=w.heap.size+2:=Aag;rw [this];exact aZ Aaa)).trans (KC.out H9 ho)) Aaa).rm);have nO:Hid (Below B w W'):=(HB0.mono hB).trans (gL.below (λx hx=>by have:x=w.heap.size+2:=Aag;omega) (Nat.le_trans hB (HB0.mono hB).size));have tZ:=Hq (Apart.keeps (c:=c) (Apart.of_below (HB0)) (HB0.mono hB).size gL (λx hx=>by have:x=w.heap.size+2:=Aag;omega));obtain⟨x0,x1,x2,x3,x4,x5,x6,x7,x8⟩:=nine e4;clear hW' e4 gL;exact bodyPost_ret (v:= .tuple #[(fT n A),.int .i64 2]) Abs rfl ⟨A,rfl,HAT,nO,tZ⟩):P:=h
theorem atp.Ab1(h:P:=by
 clear hW e1 e2 e3 e4;open aqT in exact afv):P:=h
theorem atq.Ab1(h:P:=by
 clear hW e1 e2 e3 e4 kS;open aqU in exact afv):P:=h
theorem aag(h:P:=by
 have vT:=Hq (zh.trans (hx2.mono zh.size));have vY:wc.heap.size<=x2.heap.size:=vT.size;have Ho:=Hq (GR.own_below adF hx2);clear hx2;exact Ab4):P:=h
theorem atr.Ab4(h:P:=by
 refine⟨(au x2 _).mono vY,?_⟩;have H6:=au x2 (.cells (eG no k nn 0) 97);have Zy:=Hq (heap_alloc_new x2 (.cells (eG no k nn 0) 97));open aoZ in exact aiW):P:=h
theorem att.Ab4(h:P:=by
 refine⟨(au x2 _).mono vY,?_⟩;have H6:=au x2 (.cells (eG no k nn 1) 97);have Zy:=Hq (heap_alloc_new x2 (.cells (eG no k nn 1) 97));open ao0 in exact aiW):P:=h
theorem atu.Ab4(h:P:=by
 obtain⟨v2,y2,Xp,Xo,Xm,ayq⟩:=fK bX Aaa x2 wc.heap.size 28 28 97 i0 (.agg (eG 0 ByteArray.empty 0 0)) 40 underlying28 hi hz0 hz1 hz2 rfl (.slice (some ⟨x1.heap.size,0,none⟩) 0 0) 0 (GR.flat aN ([])) Ho (some ⟨gr,0,none⟩) (n.reqs.take pos) aV (GR.At.below Hl vT) (iP _) Aah Aaa vY;rw [hlt1] at Xp Xo;refine Lib.wp_append_run x2 (.tmp 93) (.tmp 97) 28 28 rfl _ _ Aaj Aaj v2 y2 Xp ?_;refine⟨(Below.refl _ _).grown Xm vY (λb hb=>(Ho.lt b hb).1),?_⟩;go_simp;have KN:=Hq (vT.grown Xm vY (λb hb=>(Ho.lt b hb).1));have Hr:Hid (y2.ownsRow wc.heap.size 97 4 v2 (pos) (GR.flat aN (n.reqs.take pos))):=Hq (by simpa [GR.flat_nil] using Xo);obtain⟨avR,cvR,abC,_⟩:=GR.own_at (enc:=aN) (sz:=4) (l:=n.reqs.take pos) bX (by rw [hlt1];exact Hr);open avd in exact agH):P:=h
theorem agd(h:P:=by
 have y0:=(hcell 0 Aaa).1;rw [Nat.mul_one,Nat.add_zero] at y0;simp only[List.getElem?_cons_zero] at y0;clear hcell;exact AcT):P:=h
theorem atv.AcT(h:P:=by
 have HUP:=Hq (fun(h:¬(bg s0 mL)[x] < mI)=>acY (l:=bg s0 mL) (x:=mI) hx Zo (λ_=>h))
 have Zq:=Hq (fun(h:(bg s0 mL)[x] < mI)=>show∀y (hy:y < (bg s0 mL).length),y < x+1->(bg s0 mL)[y] < mI from λy hy h2=>by
  by_cases e:y=x
  .subst e;exact h
  .exact Zo y hy Aaa)
 generalize (bg s0 mL)[x]=rn at *;by_cases hcmp:rn < mI
 .go_wp2_with fail;go_quiet (fail);go_wp2_with fail;go_roundw
  case rel=>exact⟨x+1,_,Aaa,Aai,Zq hcmp,rfl⟩
  case measure=>simp[intOf];omega
 .have abr:decide (rn < mI)=false:=decide_eq_false hcmp;have HJ:=Hq (HUP hcmp);exact axQ):P:=h
theorem atw.AcT(h:P:=by
 subst eb;have hlen:=Xx s0 mL k;by_cases hge:eZ s0 mL<=s0.ids[k]
 .have HY:=Hq (Xy s0 mL k hlt hge);generalize s0.ids[k]=x at *;have hd:decide (eZ s0 mL<=x)=true:=decide_eq_true hge;go_wp2_with fail;go_quiet (fail);go_wp2_with (at_builtin;refine wpList_append_own _ rfl _ _ 24 rfl W3.heap.size 3 i0 (.int .i64 0) 1 8 underlying24 hi0 hz0 hz1' hz2 rfl Aae _ _ _ rfl (D8 hown) ⟨wr.heap.size,0,none⟩ 1 1 [.int .i64 x] rfl rfl ?c1 ?c2 ?c3 ?c4 ?c5 ?_)
  case c1=>exact cell_one_new _ _ _
  case c2=>intro u hu;simp at hu;subst hu;rfl
  case c3=>unfold maxLen;omega
  case c4=>omega
  case c5=>have:=gI.size;simp;omega
  intro v' w2 hown' hgrow _;have ayF:=Hq (GR.below_append (wr:=wr.drewN nq) (gI.trans ⟨rfl,rfl,rfl,Nat.le_refl _,λ_ _=>rfl⟩) gI.size hown hgrow)
  obtain⟨g',cp',rfl⟩:∃g' cp',v'= .slice (some ⟨g',0,none⟩) ((pX s0 mL k).length+1) cp':=by
   rcases hown'.2 with⟨_,hn⟩|⟨g',cap',cur,hv,_⟩
   .omega
   .exact⟨g',cap',hv⟩
  have HO2:=Hq hown';clear hown' hgrow;go_wp2_with fail;go_roundw
  case rel=>exact⟨k+1,g',cp',Aaa,Aai,by rw [ah HY,List.length_append];rfl,by rw [ah HY,List.length_append,GR.flat_append,GR.flat_one];exact HO2,λe=>by rw [ah HY] at e;simp at e,ayF⟩
  case measure=>simp[intOf];omega
 .have HY:=Hq (abJ s0 mL k hlt hge);generalize s0.ids[k]=x at *;have hd:decide (eZ s0 mL<=x)=false:=decide_eq_false hge;go_wp2_with fail;go_quiet (fail);go_wp2_with fail;go_roundw
  case rel=>exact⟨k+1,g,cp,Aaa,Aai,by rw [ah HY],by rw [ah HY];exact hown,by rw [ah HY];exact aiv,gI.trans ⟨rfl,rfl,rfl,Nat.le_refl _,λ_ _=>rfl⟩⟩
  case measure=>simp[intOf];omega):P:=h
theorem Vk(h:P:=by
 refine wp_at (λW hW=>?_);have iA:Hid (aY w W):=by rw [hW];first|exact jR w _ _|exact(jR w _ _).drew
 exact AbE):P:=h
theorem atx.AbE(h:P:=by
 have hX:W.heap[w.heap.size+1]?=some (.cells (cu 2 no ⟨#[]⟩ 0 0 0 0 0 0 ⟨#[]⟩ 0) 34 (0,0)):=Abz
 have hY:W.heap[w.heap.size]?=some (.cells (cu 2 no k n mK mF mT mI mL mk mN) 34 (0,0)):=Aca
 open auZ in exact aaq):P:=h
theorem aty.AbE(h:P:=by
 have hX:W.heap[w.heap.size+1]?=some (.cells (cu 5 0 ⟨#[]⟩ 0 0 0 0 0 0 ⟨#[]⟩ 0) 34 (0,0)):=Abz
 have hY:W.heap[w.heap.size]?=some (.cells (cu 5 no k n mK mF mT mI mL mk mN) 34 (0,0)):=Aca
 open ar6 in exact afP):P:=h
theorem atz.AbE(h:P:=by
 have hX:W.heap[w.heap.size+1]?=some (.cells (cu 1 no k n 0 0 0 0 0 ⟨#[]⟩ 0) 34 (0,0)):=Abz
 have hY:W.heap[w.heap.size]?=some (.cells (cu 1 no k n mK mF mT mI mL mk mN) 34 (0,0)):=Aca
 open auY in exact aaq):P:=h
theorem atA.AbE(h:P:=by
 exact AbR):P:=h
theorem agf(h:P:=by
 rintro e w1 ⟨rfl,hb1⟩;have xB:=Hq (show w1.heap[w.heap.size]?=some (.cells (iM pk pm pf ps) 143 (0,0)) by rw [hb1.block w.heap.size Aac];exact heap_alloc_new w _);have HB1:=Hq ((dU w _).trans (hb1.mono (dU w _).size));exact Ad1):P:=h
theorem atC.Ad1(h:P:=by
 have hbw:b < w1.heap.size\/l.length=0:=by
  rcases Nat.eq_zero_or_pos l.length with h|h
  .exact .inr h
  .obtain⟨g,o,e,hg,_⟩:=ah HA 0 h;injection e with e
   injection e with e1 e2
   subst e1;exact .inl (Nat.lt_of_lt_of_le hg HB1.size)
 clear hb1;rw [hok];clear hok;go_wp2_with fail;refine(Mh _ _ _ _).mono ?_;rintro e w3 ⟨rfl,rfl⟩;rw [hn2];go_upto_block 0 with fail;go_cut [8] (λi wx=>i= .int .i64 (place l pk:Nat)/\∃q,wx=w1.drewN q)
 case first=>
  go_wp2_with fail;go_loopw [8] (λi wr=>∃k q:Nat,k<=l.length/\i= .int .i64 k/\(∀x∈l.take k,Op.bytesLess x.k.toList pk.toList=true)/\wr=w1.drewN q) (λi _=>l.length - (intOf i).toNat)
  case atStart=>exact⟨0,0,Nat.zero_le _,rfl,λx hx=>by simp at hx,rfl⟩
  case round=>
   obtain⟨k,q,hk1,rfl,hall,rfl⟩:=hrel;have mU:=Hq hall;clear hall;open arN in exact Z4
 case rest=>
  obtain⟨rfl,q,rfl⟩:=hcut;have hpl:=nG l pk
  obtain⟨ad,hAd,hAe⟩:∃ad:Addr,(if cap=place l pk then some (⟨b,off,none⟩:Addr) else some ⟨b,off+place l pk*4,none⟩)=some ad/\(place l pk < l.length->ad=⟨b,off+place l pk*4,none⟩):=by
   by_cases h:cap=place l pk
   .rw [if_pos h];exact⟨_,rfl,λh2=>Aaa⟩
   .rw [if_neg h];exact⟨_,rfl,λ_=>rfl⟩
  open arM in exact Z4):P:=h
theorem atD.Ad1(h:P:=by
 clear hb1;rw [hok];clear hok;go_wp2_with fail;refine(Mh _ _ _ _).mono ?_;rintro e w3 ⟨rfl,rfl⟩;rw [hn2];open arO in exact Z4):P:=h
theorem agh(h:P:=by
 obtain⟨R,hR⟩:∃R,bq ⟨6,no,k,n,m⟩=R:=⟨_,rfl⟩;rw [hR];have HP:=Hq (show R=(decide (k.toList=[])&&decide (n=0)&&decide (no=0)&&bY m) by rw [<-hR];simp[bq]);clear hR;generalize bY m=OK at *;obtain⟨mK,mF,mT,mI,mL,mk,mN⟩:=m;exact AcU):P:=h
theorem atE.AcU(h:P:=by
 have HX:=Hq (heap_alloc_new (w.alloc (.cells (cu 6 no k n mK mF mT mI mL mk mN) 34)) (.cells (cu 6 0 ⟨#[]⟩ 0 0 0 0 0 0 ⟨#[]⟩ 0) 34));have HY:=Hq (aJ (heap_alloc_new w (.cells (cu 6 no k n mK mF mT mI mL mk mN) 34)) (au _ (.cells (cu 6 0 ⟨#[]⟩ 0 0 0 0 0 0 ⟨#[]⟩ 0) 34)));rw [show(w.alloc (.cells (cu 6 no k n mK mF mT mI mL mk mN) 34)).heap.size=w.heap.size+1 by simp] at HX;go_in
 go_wp2_with fail;refine(HM _).mono ?_;rintro e w1 ⟨rfl,hb1⟩;have GU:=Hq (aJ HX hb1);have HY1:=Hq (aJ HY hb1);have HB1:=Hq ((jR w _ _).trans (hb1.mono Aaf));clear hb1 HX HY;obtain⟨x0,x1,x2,x3,x4,x5,x6,x7,x8,x9,x10⟩:=En GU;obtain⟨y0,y1,y2,y3,y4,y5,y6,y7,y8,y9,y10⟩:=En HY1;have f4:=uP GU 4;have f5:=uP GU 5;have f6:=uP GU 6;have f7:=uP GU 7;have f8:=uP GU 8;have f9:=uP GU 9;have f10:=uP GU 10;cases hOK:OK
 .go_wp2_with fail
  all_goals
   go_ret
   refine⟨aD ?_,?_⟩
   .rw [ah HP];simp[hOK]
   .exact aaS
 have HKK:=Hq hOK;clear hOK;by_cases hno:no=0
 case' neg=>
  have hno':¬(0:Int)=no:=λe=>hno e.symm
  go_wp2_with fail
  all_goals
   go_ret
   refine⟨aD ?_,?_⟩
   .rw [ah HP];simp[hno]
   .exact aaS
 subst hno;by_cases hk:k.toList=[]
 case' neg=>
  go_wp2_with fail
  all_goals
   go_ret
   refine⟨aD ?_,?_⟩
   .rw [ah HP];simp[hk]
   .exact aaS
 by_cases hn:n=0
 case' neg=>
  have hn':¬(0:Int)=n:=λe=>hn e.symm
  go_wp2_with fail
  all_goals
   go_ret
   refine⟨aD ?_,?_⟩
   .rw [ah HP];simp[hn,hk]
   .exact aaS
 subst hn;go_wp2_with fail
 all_goals
  go_ret
  refine⟨aD ?_,?_⟩
  .rw [ah HP];simp[hk,ah HKK]
  .exact aaS):P:=h
theorem atF.AcU(h:P:=by
 go_in
 go_wp2_with (go_at_call 113;refine(HM _).mono ?_;rintro e w1 ⟨rfl,hb1⟩;have HB1:=Hq hb1;clear hb1)
 all_goals
  go_ret
  refine⟨aD ?_,by first|exact au w _|exact(au w _).trans (HB1.mono Aac)⟩
  rw [ah HP]
  simp[*]):P:=h
theorem aah(h:P:=by
 obtain⟨K,no,k,nn,⟨mK,mF,mT,mI,mL,mk,mN⟩⟩:=o;have HW1:=Hq (h.step (au w (.cells (cu K no k nn mK mF mT mI mL mk mN) 34)));exact AbP):P:=h
theorem atH.AbP(h:P:=by
 have hq2:(n.par == -1)=true:=Abl
 clear h hR Bg hpar;obtain⟨c0,c1,c2,c3,c4,c5,c6,c7,c8,c9⟩:=jr HW1.blk;go_in
 go_wp2_with fail;go_ret;exact⟨rfl,c,v,HW1⟩):P:=h
theorem atI.AbP(h:P:=by
 have hwl:=aA h.blk;have hne:wb≠w.heap.size:=Aaa
 have HBO:=Hq (show Below w0.heap.size w0 (w.alloc (.cells (cu K no k nn mK mF mT mI mL mk mN) 34)) from HW1.keep);have HSA:=Hq (λW c v L' (hW:WK w0 W wb n A G c v L')=>hW.no.at.o);clear h hz;generalize pU n=PM at *;obtain⟨ak,ap,ao,as',ar,ck,cp,co,cs,cr⟩:=A;obtain⟨c0,c1,c2,c3,c4,c5,c6,c7,c8,c9⟩:=jr HW1.blk;go_in
 go_wp2_with fail;go_loopw [13] (λi wr=>∃(k:Nat) (c':Nat->Nat) (v':Value),k<=n.out.length/\i= .int .i64 k/\WK w0 wr wb n ⟨ak,ap,ao,as',ar,ck,cp,co,cs,cr⟩ G c' v' (L++(n.out.take k).map PM)) (λi _=>n.out.length - (intOf i).toNat)
 case atStart=>exact⟨0,c,v,Nat.zero_le _,rfl,by simpa using ah HW1⟩
 case round=>
  obtain⟨k,cc,vv,hk,rfl,hS⟩:=hrel;have qb:=Hq hS;clear hS c0 c1 c2 c3 c4 c5 c6 c7 c8 c9;have hwr:=aA qb.blk;by_cases hlt:k < n.out.length
  .obtain⟨g,off,e0,hg,q0,q1,q2,q3⟩:=SentAt.four (HSA wr cc vv _ qb) k hlt;have HKk:=Hq (HKK n.out[k] (List.getElem_mem hlt));have HT:=Hq (show L++(n.out.take (k+1)).map PM=L++(n.out.take k).map PM++[PM n.out[k]] by rw [List.take_succ_eq_append_getElem hlt,List.map_append,List.append_assoc];rfl);have aiF:=Hq (EI n.out[k]);generalize n.out[k]=sk at *;generalize PM sk=mk' at *;obtain⟨si,st,sx,sn⟩:=sk;obtain⟨qK,qF,qT,qI,qL,qk,qN⟩:=mk';dsimp only at q0 q1 q2 q3 HKk e0;subst e0;go_upto_region 4 with fail;refine wp_at (λW3 hW3=>?_);have HR3:Hid (W3.heap[wr.heap.size]?=some (.cells (fI si st sx sn) 95 (0,0))):=by rw [hW3];exact heap_alloc_new _ _
   have JC:Hid (WK w0 W3 wb n ⟨ak,ap,some ⟨g,off,none⟩,as',ar,ck,cp,co,cs,cr⟩ G cc vv (L++(n.out.take k).map PM)):=by rw [hW3];exact qb.step (au wr _)
   clear hW3 q0 q1 q2 q3;have ayY:=Hq (λp:Regrown=>aiF (Gr W3 p) (GR.At.below (HSA W3 cc vv _ JC) (below_regrown W3 p.d p.os)));have hr3:=aA HR3;have hw3:=aA JC.blk;have hnr:wb≠wr.heap.size:=Aaa
   obtain⟨c0,c1,c2,c3,c4,c5,c6,c7,c8,c9⟩:=jr JC.blk;obtain⟨d0,d1,d2,d3⟩:=gP HR3;open ak7 in exact Ht
  .have hke:k=n.out.length:=Aaa
   subst hke;have hnlt:decide ((n.out.length:Int) < (n.out.length:Int))=false:=Aac
   go_wp2_with fail;go_ret;have hS:=ah qb;rw [List.take_length] at hS;exact⟨rfl,cc,vv,hS⟩):P:=h
theorem atJ.AbP(h:P:=by
 have hq2:(n.par == -1)=true:=Abl
 clear h hR EI hpar;obtain⟨c0,c1,c2,c3,c4,c5,c6,c7,c8,c9⟩:=jr HW1.blk;go_in
 go_upto_region 1 with fail;have y1:=cell_regrown c1;clear c0 c1 c2 c3 c4 c5 c6 c7 c8 c9;refine dz Aab ?_;show iL _ _ _ _ 20 (Array.replicate 20 false) _ _
 refine tk [0,1,2,3,4,5,6,7,8,9,10,11,12,13,14,15,16,17,18,19] ?_;iterate 20 (refine vJ (λK hK=>?_);go_simp;refine hK _ ?_;clear hK K)
 refine jc ?_;refine fE Aab (λz hz=>?_);have HZ:=Hq (HW1.step hz);clear hz y1;exact ahK):P:=h
theorem aai(h:P:=by
 have HW1:=Hq (h.step (au w (.cells (cK mK mF mT mI mL mk mN) 32)));have xB:=Hq (heap_alloc_new w (.cells (cK mK mF mT mI mL mk mN) 32));exact AcH):P:=h
theorem atK.AcH(h:P:=by
 have hwl:=aA h.blk;have hne:wb≠w.heap.size:=Aaa
 have Sc:=Hq (λp:Regrown=>HW1.no.at.below (below_regrown _ p.d p.os));clear h hp hz;obtain⟨c0,c1,c2,c3,c4,c5,c6,c7,c8,c9⟩:=jr HW1.blk;obtain⟨p0,p1,p2,p3,p4,p5,p6⟩:=jY xB;open ak8 in exact Ht):P:=h
theorem atL.AcH(h:P:=by
 clear h;obtain⟨c0,c1,c2,c3,c4,c5,c6,c7,c8,c9⟩:=jr HW1.blk;have hwl:=aA HW.blk;have hne:wb≠w.heap.size:=Aaa
 go_in
 go_wp2_with fail;refine(HIX w.heap.size _ HW1.no.at.s xB).mono ?_;rintro e w2 ⟨rfl,hb2⟩;have HW2:=Hq (HW1.step hb2);have Bf:=Hq (ay xB hb2);have HJ2:Hid (∀j mm,gQ w j mm->gQ w2 j mm):=λj mm hj=>ay (ay hj (au w _)) hb2
 clear hb2 HW1 xB HIX c0 c1 c2 c3 c4 c5 c6 c7 c8 c9;obtain⟨c0,c1,c2,c3,c4,c5,c6,c7,c8,c9⟩:=jr HW2.blk;obtain⟨g,off,b,cc,e0,hg,q0,q1,q2,Ie⟩:=HW2.no.at.s i hi;rw [ah HS0] at q0 q1 q2 Ie;have EK:=Hq (setOf s0.f s0.l b cc s0.ids w2 adz.2.2.1 (λx hx=>by have:=adz.2.2.2.1 x hx;have:=adz.1;omega) Ie);have ajJ:=aA HW2.blk;have hiI:(i:Int) < (n.seen.length:Int):=Aaa
 clear Ie;rw [e0] at c6;go_wp2_with fail;refine EK.mono ?_;rintro e w3 ⟨sb,mb,rfl,hsb,hmb,hS3,hI3,hb3⟩;have HW3:Hid (rz w0 w3 wb sb mb s0.ids.length n A G (newC w2.heap.size 9 c) v L s0.l s0.ids):=⟨(HW2.recol (c':=newC w2.heap.size 9 c) (λx hx=>eT hx)).step hb3,hS3,hI3,aZ hsb,aZ hmb⟩;have YR:=Hq (ay Bf hb3);have HJ3:Hid (∀j mm,gQ w j mm->gQ w3 j mm):=λj mm hj=>ay (HJ2 j mm hj) hb3
 have aA0:w.heap.size≠sb:=by have:=aA Bf;omega
 have axY:w.heap.size≠mb:=by have:=aA Bf;omega
 clear hS3 hI3 hb3 hsb hmb q0 q1 q2 e0 EK c0 c1 c2 c3 c4 c5 c6 c7 c8 c9;obtain⟨⟨p0,p1,p2,p3,p4,p5,p6⟩,_⟩:=dQ YR;have hpl:=aA YR;go_wp2_with fail;refine(aey sb mb s0.ids.length s0.l mL (eZ s0 mL) s0.ids w3 HMX HW3.bk HW3.si).mono ?_;rintro e w4 ⟨rfl,hS4,hI4,hk4⟩;have xC:=Hq (HW3.lift hS4 hI4 hk4);have Wp:=Hq (hk4.obj YR (by simp[aA0,axY]))
 have HJ4:Hid (∀j mm,gQ w j mm->gQ w4 j mm):=λj mm hj=>hk4.obj (HJ3 j mm hj) (by
  have h1:=TU (HJ3 j mm hj) HW3.bk
  have h2:=HW3.si.far (HJ3 j mm hj)
  simp[h1,h2])
 clear hS4 hI4 hk4 p0 p1 p2 p3 p4 p5 p6 hpl HJ2 HJ3;obtain⟨⟨p0,p1,p2,p3,p4,p5,p6⟩,_⟩:=dQ Wp;have hpl:=aA Wp;go_wp2_with fail;refine(ajr sb mb s0.ids.length (eZ s0 mL) mI (bg s0 mL) w4 hI0 hI1 xC.bk xC.si).mono ?_;rintro e w5 ⟨rfl,hb5⟩;have HW5:=Hq (xC.step hb5);have Nw:=Hq (ay Wp hb5);have HJ5:Hid (∀j mm,gQ w j mm->gQ w5 j mm):=λj mm hj=>ay (HJ4 j mm hj) hb5
 have hhs:(decide (mI < eZ s0 mL)||decide (mI∈bg s0 mL))=sQ s0 mL mI:=by
  unfold sQ;congr 1
  rw [Bool.eq_iff_iff,decide_eq_true_iff,zJ]
 rw [hhs];clear hhs hb5 p0 p1 p2 p3 p4 p5 p6 hpl xC Wp HW3 YR;cases hq:sQ s0 mL mI
 case' true=>
  have HQ:=Hq hq
  clear hq
  go_wp2_with fail
  obtain⟨n',A',G',c',kk,l2,JF,RJ,HLEN,HSL,ZI⟩:∃(n':Nd) (A':bC) (G':bJ) (c':Nat->Nat) (kk:Nat) (l2:List Int),Hid (rz w0 w5 wb sb mb kk n' A' G' c' v L (eZ s0 mL) l2)/\Hid (l2.Pairwise (· < ·))/\Hid (l2.length<=1000)/\Hid (n'.seen.length=n.seen.length)/\Hid (TT=(dA n' (n'.seen.set i ⟨mF,eZ s0 mL,l2⟩),true)):=⟨n,A,G,_,_,_,HW5,Dx.2.2.2.2,Nat.le_trans Dx.2.2.1 Aaa,rfl,HTH HQ⟩
  have fO:=Hq Nw
  have HJW:=Hq HJ5
  clear HTH Sc HTN HGS HGF HQ HW5 Nw HW2 Bf
  obtain⟨c0,c1,c2,c3,c4,c5,c6,c7,c8,c9⟩:=jr JF.wk.blk
  have e0:A'.s=some ⟨G'.s,0,none⟩:=by
   exact adQ
  rw [e0,ah HSL] at c6
  obtain⟨⟨p0,p1,p2,p3,p4,p5,p6⟩,_⟩:=dQ fO
  have hwl:=aA JF.wk.blk
  have hBl:=aA fO
  go_upto_region 5 with fail
  have y6:=cell_regrown c6
  have z1:=cell_regrown p1
  clear c0 c1 c2 c3 c4 c5 c6 c7 c8 c9 p0 p1 p2 p3 p4 p5 p6
  refine bV 11 Aab ?_
  show fD _ _ _ _ _ 12 (Array.replicate 12 false) _ _
  refine tk [0,1,2,3,4,5,6,7,8] ?_
  iterate 9 (refine su (λK hK=>?_);go_simp;refine hK _ ?_;clear hK K)
  refine jc ?_
  clear y6 z1
  refine dM 9 rfl Aab Aad (λx hx=>?_)
  go_simp
  have HX:=Hq (JF.step hx)
  have HJX:Hid (∀j mm,gQ w j mm->gQ x j mm):=λj mm hj=>ay (HJW j mm hj) hx
  have EK:=Hq (wY sb mb kk mF (eZ s0 mL) l2 x HLEN RJ HX.bk HX.si)
  clear hx
  refine EK.mono ?_
  rintro e y ⟨v2,rfl,hrow,hby⟩
  refine⟨hby,?_⟩
  obtain⟨b2,c2,g2,rfl,hW2,hg2,_⟩:=GR.W.of_own (enc:=aS) aR hrow
  have HY:Hid (WK w0 y wb n' A' G' (newC x.heap.size 5 c') v L):=(HX.wk.recol (c':=newC x.heap.size 5 c') (λz hz=>eT hz)).step hby
  have HI2:=Hq hW2
  have HJY:Hid (∀j mm,gQ w j mm->gQ y j mm):=λj mm hj=>ay (HJX j mm hj) hby
  have RV:Hid (∀z∈fp g2 l2,newC x.heap.size 5 c' z=5/\z∉vR G'.i n'.seen):=λz hz=>⟨aZ (hg2 z hz).1,λhm=>by
   have h1:=(jK HX.wk.no.s).2 z hm
   have h2:=(hg2 z hz).1
   omega⟩
  clear hrow hby hW2 hg2 EK HX JF
  refine tk [10] ?_
  (refine su (λK hK=>?_);go_simp;refine hK _ ?_;clear hK K)
  refine jc ?_
  refine bf Aab (λx3 hx3=>?_)
  have YZ:=Hq (HY.step hx3)
  have HI3:=Hq (HI2.below hx3)
  have HJ6:Hid (∀j mm,gQ w j mm->gQ x3 j mm):=λj mm hj=>ay (HJY j mm hj) hx3
  obtain⟨b0,cc0,_,hg0,⟨q0,q1,q2⟩,⟨f0,f1⟩,_⟩:=jw.three YZ.no.s i Aba
  have f2:x3.frozen? ⟨G'.s,i*3+2,none⟩=false:=by
   exact adP
  have R6:=Hq (YZ.seenPut i Aba ⟨mF,eZ s0 mL,l2⟩ b2 c2 g2 HI3 RV)
  have HJF:Hid (∀j mm,gQ w j mm->gQ (GR.setW x3 G'.s (i*3) [.int .i64 mF,.int .i64 (eZ s0 mL),.slice b2 l2.length c2]) j mm):=λj mm hj=>by
   have h3:=ah HJ6 j mm hj
   have hne:=rG h3 q2
   unfold gQ
   rw [GR.setW_other hne]
   exact h3
  clear hx3 HY HI2
  refine aF 11 rfl Aab Aad ?_
  go_simp
  refine wpAny_done Aab ?_
  go_simp
  clear q0 q1 q2 f0 f1 f2
  go_wp2_with fail
  go_ret
  exact⟨Ada,⟨A',_,_,Adb⟩,HJF⟩
 have HQ:=Hq hq;clear hq;obtain⟨⟨p0,p1,p2,p3,p4,p5,p6⟩,_⟩:=dQ Nw;have hpl:=aA Nw;have hnd:(bg s0 mL).Nodup:=Dx.2.2.2.2.imp (λh=>Aaa);have HND:=Hq hnd;clear hnd;by_cases hf:(bg s0 mL).length=40
 case' pos=>
  have HF:=Hq hf
  clear hf
  go_wp2_with fail
  refine(HGF w5 sb mb _ A G _ _ _ HND HF HW5).mono ?_
  rintro e w6 ⟨rfl,hb6⟩
  have fO:=Hq (ay Nw hb6)
  have HJW:Hid (∀j mm,gQ w j mm->gQ w6 j mm):=λj mm hj=>ay (HJ5 j mm hj) hb6
  have lq:Hid (mY n s0 ⟨mK,mF,mT,mI,mL,mk,mN⟩=false):=by
   show mY n s0 ⟨mK,mF,mT,mI,mL,mk,mN⟩=false
   unfold mY;rw [decide_eq_false (by have:=ah HF;dsimp only;omega),Bool.and_false]
  go_wp2_with fail
  obtain⟨n',A',G',c',kk,l2,JF,RJ,HLEN,HSL,ZI⟩:∃(n':Nd) (A':bC) (G':bJ) (c':Nat->Nat) (kk:Nat) (l2:List Int),Hid (rz w0 w6 wb sb mb kk n' A' G' c' v L (eZ s0 mL) l2)/\Hid (l2.Pairwise (· < ·))/\Hid (l2.length<=1000)/\Hid (n'.seen.length=n.seen.length)/\Hid (TT=(dA n' (n'.seen.set i ⟨mF,eZ s0 mL,l2⟩),false)):=⟨n,A,G,_,_,_,HW5.step hb6,Dx.2.2.2.2,Nat.le_trans Dx.2.2.1 Aaa,rfl,HTN HQ lq⟩
  clear hb6 HTH Sc HTN HGS HGF HQ HW5 Nw HW2 Bf lq HF HND p0 p1 p2 p3 p4 p5 p6 hpl
  obtain⟨c0,c1,c2,c3,c4,c5,c6,c7,c8,c9⟩:=jr JF.wk.blk
  have e0:A'.s=some ⟨G'.s,0,none⟩:=by
   exact adQ
  rw [e0,ah HSL] at c6
  obtain⟨⟨p0,p1,p2,p3,p4,p5,p6⟩,_⟩:=dQ fO
  have hwl:=aA JF.wk.blk
  have hBl:=aA fO
  go_upto_region 5 with fail
  have y6:=cell_regrown c6
  have z1:=cell_regrown p1
  clear c0 c1 c2 c3 c4 c5 c6 c7 c8 c9 p0 p1 p2 p3 p4 p5 p6
  refine bV 11 Aab ?_
  show fD _ _ _ _ _ 12 (Array.replicate 12 false) _ _
  refine tk [0,1,2,3,4,5,6,7,8] ?_
  iterate 9 (refine su (λK hK=>?_);go_simp;refine hK _ ?_;clear hK K)
  refine jc ?_
  clear y6 z1
  refine dM 9 rfl Aab Aad (λx hx=>?_)
  go_simp
  have HX:=Hq (JF.step hx)
  have HJX:Hid (∀j mm,gQ w j mm->gQ x j mm):=λj mm hj=>ay (HJW j mm hj) hx
  have EK:=Hq (wY sb mb kk mF (eZ s0 mL) l2 x HLEN RJ HX.bk HX.si)
  clear hx
  refine EK.mono ?_
  rintro e y ⟨v2,rfl,hrow,hby⟩
  refine⟨hby,?_⟩
  obtain⟨b2,c2,g2,rfl,hW2,hg2,_⟩:=GR.W.of_own (enc:=aS) aR hrow
  have HY:Hid (WK w0 y wb n' A' G' (newC x.heap.size 5 c') v L):=(HX.wk.recol (c':=newC x.heap.size 5 c') (λz hz=>eT hz)).step hby
  have HI2:=Hq hW2
  have HJY:Hid (∀j mm,gQ w j mm->gQ y j mm):=λj mm hj=>ay (HJX j mm hj) hby
  have RV:Hid (∀z∈fp g2 l2,newC x.heap.size 5 c' z=5/\z∉vR G'.i n'.seen):=λz hz=>⟨aZ (hg2 z hz).1,λhm=>by
   have h1:=(jK HX.wk.no.s).2 z hm
   have h2:=(hg2 z hz).1
   omega⟩
  clear hrow hby hW2 hg2 EK HX JF
  refine tk [10] ?_
  (refine su (λK hK=>?_);go_simp;refine hK _ ?_;clear hK K)
  refine jc ?_
  refine bf Aab (λx3 hx3=>?_)
  have YZ:=Hq (HY.step hx3)
  have HI3:=Hq (HI2.below hx3)
  have HJ6:Hid (∀j mm,gQ w j mm->gQ x3 j mm):=λj mm hj=>ay (HJY j mm hj) hx3
  obtain⟨b0,cc0,_,hg0,⟨q0,q1,q2⟩,⟨f0,f1⟩,_⟩:=jw.three YZ.no.s i Aba
  have f2:x3.frozen? ⟨G'.s,i*3+2,none⟩=false:=by
   exact adP
  have R6:=Hq (YZ.seenPut i Aba ⟨mF,eZ s0 mL,l2⟩ b2 c2 g2 HI3 RV)
  have HJF:Hid (∀j mm,gQ w j mm->gQ (GR.setW x3 G'.s (i*3) [.int .i64 mF,.int .i64 (eZ s0 mL),.slice b2 l2.length c2]) j mm):=λj mm hj=>by
   have h3:=ah HJ6 j mm hj
   have hne:=rG h3 q2
   unfold gQ
   rw [GR.setW_other hne]
   exact h3
  clear hx3 HY HI2
  refine aF 11 rfl Aab Aad ?_
  go_simp
  refine wpAny_done Aab ?_
  go_simp
  clear q0 q1 q2 f0 f1 f2
  go_wp2_with fail
  go_ret
  exact⟨Ada,⟨A',_,_,Adb⟩,HJF⟩
 have HF:Hid ((bg s0 mL).length < 40):=by
  have:=Dx.2.2.1;show(bg s0 mL).length < 40
  omega
 clear hf;go_wp2_with fail;refine(HGS w5 sb mb _ A G _ _ _ (by have:=adz.2.2.1;omega) HND HF HW5).mono ?_;rintro e w6 ⟨rfl,⟨A1,G1,c1,RA⟩,Lu⟩;have fO:=Hq (Lu w.heap.size _ Aaa axY Nw);have HJW:Hid (∀j mm,gQ w j mm->gQ w6 j mm):=λj mm hj=>Lu j _ (XJ (HJ5 j mm hj) HW5.wk.blk) (HW5.si.far (HJ5 j mm hj)) (HJ5 j mm hj)
 have U9:=Hq RA;clear RA Lu p0 p1 p2 p3 p4 p5 p6 hpl HGS HGF;cases hr:(dJ n.pu mk 0 1 0 mN).2
 case' false=>
  have lq:Hid (mY n s0 ⟨mK,mF,mT,mI,mL,mk,mN⟩=false):=by
   show mY n s0 ⟨mK,mF,mT,mI,mL,mk,mN⟩=false
   unfold mY;rw [hr,Bool.false_and]
  rw [hr] at U9
  clear hr
  go_wp2_with fail
  obtain⟨n',A',G',c',kk,l2,JF,RJ,HLEN,HSL,ZI⟩:∃(n':Nd) (A':bC) (G':bJ) (c':Nat->Nat) (kk:Nat) (l2:List Int),Hid (rz w0 w6 wb sb mb kk n' A' G' c' v L (eZ s0 mL) l2)/\Hid (l2.Pairwise (· < ·))/\Hid (l2.length<=1000)/\Hid (n'.seen.length=n.seen.length)/\Hid (TT=(dA n' (n'.seen.set i ⟨mF,eZ s0 mL,l2⟩),false)):=⟨n,A1,G1,c1,_,_,U9,Dx.2.2.2.2,Nat.le_trans Dx.2.2.1 Aaa,rfl,HTN HQ lq⟩
  clear HTH Sc HTN HQ HW5 Nw HW2 Bf lq HF HND U9
  obtain⟨c0,c1,c2,c3,c4,c5,c6,c7,c8,c9⟩:=jr JF.wk.blk
  have e0:A'.s=some ⟨G'.s,0,none⟩:=by
   exact adQ
  rw [e0,ah HSL] at c6
  obtain⟨⟨p0,p1,p2,p3,p4,p5,p6⟩,_⟩:=dQ fO
  have hwl:=aA JF.wk.blk
  have hBl:=aA fO
  go_upto_region 5 with fail
  have y6:=cell_regrown c6
  have z1:=cell_regrown p1
  clear c0 c1 c2 c3 c4 c5 c6 c7 c8 c9 p0 p1 p2 p3 p4 p5 p6
  refine bV 11 Aab ?_
  show fD _ _ _ _ _ 12 (Array.replicate 12 false) _ _
  refine tk [0,1,2,3,4,5,6,7,8] ?_
  iterate 9 (refine su (λK hK=>?_);go_simp;refine hK _ ?_;clear hK K)
  refine jc ?_
  clear y6 z1
  refine dM 9 rfl Aab Aad (λx hx=>?_)
  go_simp
  have HX:=Hq (JF.step hx)
  have HJX:Hid (∀j mm,gQ w j mm->gQ x j mm):=λj mm hj=>ay (HJW j mm hj) hx
  have EK:=Hq (wY sb mb kk mF (eZ s0 mL) l2 x HLEN RJ HX.bk HX.si)
  clear hx
  refine EK.mono ?_
  rintro e y ⟨v2,rfl,hrow,hby⟩
  refine⟨hby,?_⟩
  obtain⟨b2,c2,g2,rfl,hW2,hg2,_⟩:=GR.W.of_own (enc:=aS) aR hrow
  have HY:Hid (WK w0 y wb n' A' G' (newC x.heap.size 5 c') v L):=(HX.wk.recol (c':=newC x.heap.size 5 c') (λz hz=>eT hz)).step hby
  have HI2:=Hq hW2
  have HJY:Hid (∀j mm,gQ w j mm->gQ y j mm):=λj mm hj=>ay (HJX j mm hj) hby
  have RV:Hid (∀z∈fp g2 l2,newC x.heap.size 5 c' z=5/\z∉vR G'.i n'.seen):=λz hz=>⟨aZ (hg2 z hz).1,λhm=>by
   have h1:=(jK HX.wk.no.s).2 z hm
   have h2:=(hg2 z hz).1
   omega⟩
  clear hrow hby hW2 hg2 EK HX JF
  refine tk [10] ?_
  (refine su (λK hK=>?_);go_simp;refine hK _ ?_;clear hK K)
  refine jc ?_
  refine bf Aab (λx3 hx3=>?_)
  have YZ:=Hq (HY.step hx3)
  have HI3:=Hq (HI2.below hx3)
  have HJ6:Hid (∀j mm,gQ w j mm->gQ x3 j mm):=λj mm hj=>ay (HJY j mm hj) hx3
  obtain⟨b0,cc0,_,hg0,⟨q0,q1,q2⟩,⟨f0,f1⟩,_⟩:=jw.three YZ.no.s i Aba
  have f2:x3.frozen? ⟨G'.s,i*3+2,none⟩=false:=by
   exact adP
  have R6:=Hq (YZ.seenPut i Aba ⟨mF,eZ s0 mL,l2⟩ b2 c2 g2 HI3 RV)
  have HJF:Hid (∀j mm,gQ w j mm->gQ (GR.setW x3 G'.s (i*3) [.int .i64 mF,.int .i64 (eZ s0 mL),.slice b2 l2.length c2]) j mm):=λj mm hj=>by
   have h3:=ah HJ6 j mm hj
   have hne:=rG h3 q2
   unfold gQ
   rw [GR.setW_other hne]
   exact h3
  clear hx3 HY HI2
  refine aF 11 rfl Aab Aad ?_
  go_simp
  refine wpAny_done Aab ?_
  go_simp
  clear q0 q1 q2 f0 f1 f2
  go_wp2_with fail
  go_ret
  exact⟨Ada,⟨A',_,_,Adb⟩,HJF⟩
 have lq:Hid (mY n s0 ⟨mK,mF,mT,mI,mL,mk,mN⟩=true):=by
  show mY n s0 ⟨mK,mF,mT,mI,mL,mk,mN⟩=true
  unfold mY;rw [hr,decide_eq_true (ah HF),Bool.true_and]
 rw [hr] at U9;clear hr;have HNI:=Hq (Vw HQ).2;go_wp2_with fail
 obtain⟨n',A',G',c',kk,l2,JF,RJ,HLEN,HSL,ZI⟩:∃(n':Nd) (A':bC) (G':bJ) (c':Nat->Nat) (kk:Nat) (l2:List Int),Hid (rz w0 w6 wb sb mb kk n' A' G' c' v L (eZ s0 mL) l2)/\Hid (l2.Pairwise (· < ·))/\Hid (l2.length<=1000)/\Hid (n'.seen.length=n.seen.length)/\Hid (TT=(dA n' (n'.seen.set i ⟨mF,eZ s0 mL,l2⟩),true)):=⟨setPu n (dJ n.pu mk 0 1 0 mN).1,A1,G1,c1,_,mQ (bg s0 mL) mI,⟨U9.wk,U9.bk,U9.si.same (λx=>by rw [PV];exact List.mem_cons),U9.cs,U9.cm⟩,PU Dx.2.2.2.2 HNI,(by
  show(mQ (bg s0 mL) mI).length<=1000
  rw [C9]
  have:=ah HF
  omega),rfl,Sc HQ lq⟩
 clear HTH Sc HTN HQ HW5 Nw HW2 Bf lq HF HND U9 HNI;obtain⟨c0,c1,c2,c3,c4,c5,c6,c7,c8,c9⟩:=jr JF.wk.blk
 have e0:A'.s=some ⟨G'.s,0,none⟩:=by
  exact adQ
 rw [e0,ah HSL] at c6;obtain⟨⟨p0,p1,p2,p3,p4,p5,p6⟩,_⟩:=dQ fO;have hwl:=aA JF.wk.blk;have hBl:=aA fO;go_upto_region 5 with fail;have y6:=cell_regrown c6;have z1:=cell_regrown p1;clear c0 c1 c2 c3 c4 c5 c6 c7 c8 c9 p0 p1 p2 p3 p4 p5 p6;refine bV 11 Aab ?_;show fD _ _ _ _ _ 12 (Array.replicate 12 false) _ _
 refine tk [0,1,2,3,4,5,6,7,8] ?_;iterate 9 (refine su (λK hK=>?_);go_simp;refine hK _ ?_;clear hK K)
 refine jc ?_;clear y6 z1;refine dM 9 rfl Aab Aad (λx hx=>?_);go_simp;have HX:=Hq (JF.step hx);have HJX:Hid (∀j mm,gQ w j mm->gQ x j mm):=λj mm hj=>ay (HJW j mm hj) hx
 have EK:=Hq (wY sb mb kk mF (eZ s0 mL) l2 x HLEN RJ HX.bk HX.si);clear hx;refine EK.mono ?_;rintro e y ⟨v2,rfl,hrow,hby⟩;refine⟨hby,?_⟩;obtain⟨b2,c2,g2,rfl,hW2,hg2,_⟩:=GR.W.of_own (enc:=aS) aR hrow;have HY:Hid (WK w0 y wb n' A' G' (newC x.heap.size 5 c') v L):=(HX.wk.recol (c':=newC x.heap.size 5 c') (λz hz=>eT hz)).step hby;have HI2:=Hq hW2;have HJY:Hid (∀j mm,gQ w j mm->gQ y j mm):=λj mm hj=>ay (HJX j mm hj) hby
 have RV:Hid (∀z∈fp g2 l2,newC x.heap.size 5 c' z=5/\z∉vR G'.i n'.seen):=λz hz=>⟨aZ (hg2 z hz).1,λhm=>by
  have h1:=(jK HX.wk.no.s).2 z hm
  have h2:=(hg2 z hz).1
  omega⟩
 clear hrow hby hW2 hg2 EK HX JF;refine tk [10] ?_;(refine su (λK hK=>?_);go_simp;refine hK _ ?_;clear hK K)
 refine jc ?_;refine bf Aab (λx3 hx3=>?_);have YZ:=Hq (HY.step hx3);have HI3:=Hq (HI2.below hx3);have HJ6:Hid (∀j mm,gQ w j mm->gQ x3 j mm):=λj mm hj=>ay (HJY j mm hj) hx3
 obtain⟨b0,cc0,_,hg0,⟨q0,q1,q2⟩,⟨f0,f1⟩,_⟩:=jw.three YZ.no.s i Aba
 have f2:x3.frozen? ⟨G'.s,i*3+2,none⟩=false:=by
  exact adP
 have R6:=Hq (YZ.seenPut i Aba ⟨mF,eZ s0 mL,l2⟩ b2 c2 g2 HI3 RV)
 have HJF:Hid (∀j mm,gQ w j mm->gQ (GR.setW x3 G'.s (i*3) [.int .i64 mF,.int .i64 (eZ s0 mL),.slice b2 l2.length c2]) j mm):=λj mm hj=>by
  have h3:=ah HJ6 j mm hj
  have hne:=rG h3 q2
  unfold gQ
  rw [GR.setW_other hne]
  exact h3
 clear hx3 HY HI2;refine aF 11 rfl Aab Aad ?_;go_simp;refine wpAny_done Aab ?_;go_simp;clear q0 q1 q2 f0 f1 f2;go_wp2_with fail;go_ret;exact⟨Ada,⟨A',_,_,Adb⟩,HJF⟩):P:=h
theorem atM.AcH(h:P:=by
 obtain⟨c0,c1,c2,c3,c4,c5,c6,c7,c8,c9⟩:=jr HW1.wk.blk;obtain⟨⟨p0,p1,p2,p3,p4,p5,p6⟩,_⟩:=dQ xB;obtain⟨⟨d0,d1⟩,_⟩:=nM HW1.bk;have hlen:=aBR HW1.si hnd;have hwl:=aA HW.wk.blk;have hsl:=aA HW.bk;have hne:wb≠w.heap.size:=Aaa
 have hne2:sb≠w.heap.size:=Aaa
 clear h;go_in
 go_upto_region 1 with fail;have y4:=cell_regrown c4;have z3:=cell_regrown p3;have z5:=cell_regrown p5;have z6:=cell_regrown p6;have x1:=cell_regrown d1;clear c0 c1 c2 c3 c4 c5 c6 c7 c8 c9 p0 p1 p2 p3 p4 p5 p6 d0 d1;exact Aei):P:=h
theorem aaj(h:P:=by
 have VZ:=Hq (show∀b,(v3).ownBlock=some b->b≠x1.heap.size from λb hb=>(Tw b hb).elim (λh=>KJ b h) (λh=>by have:=aA xY;omega));exact AcN):P:=h
theorem atN.AcN(h:P:=by
 open avJ in exact agR):P:=h
theorem atO.AcN(h:P:=by
 open aqp in exact Vb):P:=h
theorem atP.AcN(h:P:=by
 open aqr in exact Vb):P:=h
theorem aak(h:P:=by
 have VZ:=Hq (show∀b,(v3).ownBlock=some b->b≠x2.heap.size from λb hb=>(Tw b hb).elim (λh=>KJ b h) (λh=>by have:=aA xY;omega));exact Ab0):P:=h
theorem atQ.Ab0(h:P:=by
 open avI in exact agR):P:=h
theorem atS.Ab0(h:P:=by
 open aqn in exact Vb):P:=h
theorem atT.Ab0(h:P:=by
 open aqo in exact Vb):P:=h
theorem agi(h:P:=by
 have hbw:Below (w.heap.size+1) W w':=⟨hg.os,hg.tape,hg.output,hg.size,λy hy=>hg.block y (by have:=aA h.res;omega) (λe=>by have:=(hrow y e.symm).1;omega)⟩;have hbg:w'.heap[g]?=W.heap[g]?:=hg.block g hgl (λe=>(hrow g e.symm).2 rfl);exact AdZ):P:=h
theorem atU.AdZ(h:P:=by
 have hR:=h.rm.reqs hgl (aA h.res) hv ho' hg hw;rw [hv2] at hrun;refine⟨a',c',w',hrun,hbg,h.far (hbw.trans ((Below.refl _ w').setCell (p:=⟨g,8,none⟩) h.glt _)) ?_ hR.set ?_⟩
 .have e:=aT (hbg.trans h.own) 8 (.slice a' (n.reqs.length+1) c');simpa [dD] using e
 .have hz:=h.sz;refine⟨hz.k,hz.p,hz.o,hz.s,?_,hz.pk,hz.ok,hz.sk,λy hy=>?_⟩
  .show(n.reqs++[x]).length<=1048576
   rw [List.length_append,List.length_singleton];omega
  .rcases List.mem_append.1 hy with h1|h1
   .exact hz.rk y h1
   .rw [List.mem_singleton] at h1;rw [h1];exact hx):P:=h
theorem atV.AdZ(h:P:=by
 have hR:=h.rm.out hgl (aA h.res) hv ho' hg hw;rw [hv2] at hrun;refine⟨a',c',w',hrun,hbg,h.far (hbw.trans ((Below.refl _ w').setCell (p:=⟨g,5,none⟩) h.glt _)) ?_ hR.set ?_⟩
 .have e:=aT (hbg.trans h.own) 5 (.slice a' (n.out.length+1) c');simpa [dD] using e
 .have hz:=h.sz;refine⟨hz.k,hz.p,?_,hz.s,hz.r,hz.pk,λy hy=>?_,hz.sk,hz.rk⟩
  .show(n.out++[x]).length<=1048576
   rw [List.length_append,List.length_singleton];omega
  .rcases List.mem_append.1 hy with h1|h1
   .exact hz.ok y h1
   .rw [List.mem_singleton] at h1;rw [h1];exact hx):P:=h
theorem agj(h:P:=by
 obtain⟨⟨p0,p1,p2,p3,p4,p5,p6,p7,p8,p9,oD⟩,_⟩:=aQ R4;have hpl:=aA R4;go_wp2_with fail;refine(rT z HZ).mono ?_;rintro e w1 ⟨rfl,hb1⟩;have HZ1:=Hq (HZ.step hb1);clear hb1 rT p0 p1 p2 p3 p4 p5 p6 p7 p8 p9 oD HZ R4;exact Ad2):P:=h
theorem atW.Ad2(h:P:=by
 obtain⟨g,hAr,hgw,hgl,⟨q0,q1,q2,q3⟩,qf⟩:=HZ1.reqRow i hil;obtain⟨d0,d1,d2,d3,d4,d5,d6,d7,d8,d9⟩:=jr HZ1.blk;rw [hAr] at d8;have aBN:=aA HZ1.blk;have aBi:(i:Int) < (n.reqs.length:Int):=Aaa
 rw [hs] at q3;go_upto_region 7 with fail;refine wp_at (λW hW=>?_);obtain rfl:=hW;exact Afo):P:=h
theorem atY.Ad2(h:P:=by
 go_wp2_with fail;go_ret;exact⟨rfl,A,G,c,HZ1⟩):P:=h
theorem agk(h:P:=by
 refine bV 20 Aab ?_;show fD _ _ _ _ _ 23 (Array.replicate 23 false) _ _
 refine tk [0,1,2,3,4,5,6,7,8,9,10,11,12,13,14,15,16] ?_;iterate 17 (refine su (λK hK=>?_);go_simp;refine hK _ ?_;clear hK K)
 refine jc ?_;exact Aek):P:=h
theorem atZ.Aek(h:P:=by
 clear y1 y4 z2 z3;refine dM 17 rfl Aab Aad (λx hx=>?_);go_simp;have lU:=Hq ((au w (.cells (cu K no k nn mK mF mT mI mL mk mN) 34)).trans (hx.mono Aac));clear hx;refine(HMI x lU).mono ?_;rintro e y ⟨a,cp,g,hg,rfl,hp,hby⟩;refine⟨hby,?_⟩;have yX:=Hq (lU.trans (hby.mono lU.size));have HST:=Hq (λz (hz:Ge y z)=>VQ (cp:=cp) HW (yX.trans (hz.mono yX.size)) (Nat.le_trans lU.size hg) (hp.below hz));clear hby hg hp HMI;refine tk [18,19] ?_;iterate 2 (refine su (λK hK=>?_);go_simp;refine hK _ ?_;clear hK K)
 refine jc ?_;refine bf Aab (λz hz=>?_);refine aF 20 rfl Aab Aad ?_;go_simp;refine(HST z hz).mono ?_;rintro e z2 ⟨rfl,A',G',c',hZ⟩;have HZ:=Hq hZ;clear hZ HST hz;open au6 in exact agD):P:=h
theorem at6.Aek(h:P:=by
 clear y4 z3 z5 z6 x1;refine dM 17 rfl Aab Aad (λx hx=>?_);go_simp;have lU:=Hq ((au w (.cells (cK mK mF mT mI mL mk mN) 32)).trans (hx.mono Aac));have HXP:=Hq (ay xB hx);clear hx;refine(HGN x lU).mono ?_;rintro e y ⟨a,cp,g,hg,rfl,hp,hby⟩;refine⟨hby,?_⟩;have yX:=Hq (lU.trans (hby.mono lU.size));have HYP:=Hq (ay HXP hby);have HST:=Hq (λz (hz:Ge y z)=>VP (cp:=cp) HW.wk (yX.trans (hz.mono yX.size)) (Nat.le_trans lU.size hg) (hp.below hz));clear hby hg hp HGN;refine tk [18,19] ?_;iterate 2 (refine su (λK hK=>?_);go_simp;refine hK _ ?_;clear hK K)
 refine jc ?_;refine bf Aab (λz hz=>?_);have pQ:=Hq (yX.trans (hz.mono yX.size));have HZP:=Hq (ay HYP hz);refine aF 20 rfl Aab Aad ?_;go_simp;refine(HST z hz).mono ?_;rintro e z2 ⟨rfl,A',G',c',hZ,hko,hcc⟩;have HZ:=Hq (HW.settled pQ hZ hko hcc);have Bf:=Hq (hko w.heap.size _ Aaa HZP);have HKO:Hid (∀j o,j≠wb->w.heap[j]?=some o->z2.heap[j]?=some o):=λj o h1 h2=>hko j o h1 (ay h2 pQ)
 clear hZ hko hcc HST hz pQ HZP HYP yX HXP lU;open au5 in exact agD):P:=h
theorem agl(h:P:=by
 unfold fZ;have H9:=Hq h9;clear h9;have kS:=Hq (h.nine hB);have HGS:=Hq (h.s);have hc4:c G.s=4:=h.c4 G.s (dK Aaa);clear h;go_in
 go_upto_region 1 with fail;refine wp_at (λW0 hW=>?_);exact Ae7):P:=h
theorem at7.Ae7(h:P:=by
 obtain⟨e1,e2,e3,e4⟩:=gD w (.cells (dD n (⟨a_k,jE,eD,eO,gN,aL,bE,aP,aM,aV⟩:bC)) 30) (.cells (cK mK mF mT mI mL mk mN) 32) (.cells fU 30);open aou in exact awD):P:=h
theorem aua.Ae7(h:P:=by
 obtain⟨e1,e2,e3,e4⟩:=gD w (.cells (dD n (⟨a_k,(some ⟨gp,0,none⟩),eD,eO,gN,aL,bE,aP,aM,aV⟩:bC)) 30) (.cells (cK mK mF mT mI mL mk mN) 32) (.cells fU 30);open aov in exact awD):P:=h
theorem aal(h:P:=by
 rcases ho.2 with⟨_,hy⟩|⟨g,cp,cur,hx,hbg,hgg,hnc,hcm,hcs,htk⟩
 .omega
 simp only[Value.slice.injEq] at hx;obtain⟨rfl,_,rfl⟩:=hx;exact AcJ):P:=h
end Go.Proofs.YtacgbldlonoaaaaGreatDoor
