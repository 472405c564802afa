/-
  Parts of proofs that stand more than once, each said once.
-/
import Derived.Test.YtbolgdleijjgfaaGreatDoorRsZ3
namespace Go.Proofs.YtbolgdleijjgfaaGreatDoor
open Go.Proofs.Tryz
set_option maxRecDepth 100000
variable{P:Prop}
theorem asJ.Aa9(h:P:=by
 go_upto_region 6 with fail;go_region
 go_upto_region 7 with fail;refine wp_at (λV hV=>?_);have hM:V.heap[w3.heap.size]?=some (.cells (bQ (s[0].toNat:Int) N1 N2 N3 N4 TX N5) 70 (0,0)):=by rw [hV];exact aEK w3 _
 have hlt:=cK HR3
 have hR:V.heap[w.heap.size]?=some (.cells (bQ 0 0 0 0 0 ⟨#[]⟩ 0) 70 (0,0)):=by
  rw [hV];show(w3.alloc _).heap[w.heap.size]?=_
  rw [aEZ _ _ _ hlt];exact HR3
 have hB:aH w V:=by
  rw [hV];have h1:=HB3.alloc HB3.size (.cells (bQ (s[0].toNat:Int) N1 N2 N3 N4 TX N5) 70);exact⟨h1.os,h1.tape,h1.output,h1.size,h1.block⟩
 clear hV HR3 HB3 c0 c1 c2 c3 hg3 HN HT HG hw64 hb0;have hzM:=cK hM;have hzR:=cK hR;by_cases hE:0<=E6
 case' neg=>
  have hO:OK=false:=by rw [ah HO,aEN hE];rfl
  have xX:=Hq (HZ hO)
  have hE2:E6 < 0:=Aaa
  obtain⟨⟨d0,d1,d2,d3,d4,d5,d6⟩,f0,f1,f2,f3,f4,f5,f6⟩:=eD hR
  have HR:=Hq hR
  have HB:=Hq hB
  clear hO HO HZ HM HP hM hR hB hE
  open asP in exact agK
 have hE2:¬(E6 < 0):=Aaa
 obtain⟨q0,q1,q2,q3,q4,q5,q6⟩:=uF hM;have HR:=Hq hR;have HB:=Hq hB;have HMB:=Hq hM;clear hR hB hM;open arW in exact agx):P:=h
theorem asK.Aa9(h:P:=by
 open arx in exact axe):P:=h
theorem agI(h:P:=by
 obtain⟨mK,mF,mT,mI,mL,mk,mN⟩:=m;obtain⟨R,hR⟩:∃R,bH ⟨5,no,k,n,⟨mK,mF,mT,mI,mL,mk,mN⟩⟩=R:=⟨_,rfl⟩;rw [hR];have HR:=Hq hR;clear hR;have HP:=Hq (show R=(decide (k.toList=[])&&decide (n=0)&&decide (no=0)&&lU ⟨mK,mF,mT,mI,mL,mk,mN⟩) by rw [<-ah HR];simp[bH]);clear HR;exact AdQ):P:=h
theorem asL.AdQ(h:P:=by
 go_in
 go_upto_region 23 with fail;open atT in exact VR):P:=h
theorem asM.AdQ(h:P:=by
 go_in
 go_wp2_with fail
 all_goals
  go_ret
  refine⟨aF ?_,au w _⟩
  rw [ah HP]
  simp[lU, *]):P:=h
theorem agJ(h:P:=by
 go_wp2_with fail;refine bodyPost_at (λW' hW'=>?_);obtain⟨⟨r0,r1,r2,r3,r4,r5,r6⟩,_⟩:=eD (show W'.heap[w.heap.size]?=some (.cells (bQ 0 0 0 0 0 ⟨#[]⟩ 0) 70 (0,0)) by rw [hW'];exact tY XC);have hbb:aH w W':=by rw [hW'];exact rQ gQ (aEM _)
 exact Ac9):P:=h
theorem asN.Ac9(h:P:=by
 exact ah1):P:=h
theorem asO.Ac9(h:P:=by
 exact ah0):P:=h
theorem agK(h:P:=by
 go_wp2_with fail;refine bodyPost_at (λW' hW'=>?_);obtain⟨⟨r0,r1,r2,r3,r4,r5,r6⟩,_⟩:=eD (show W'.heap[w.heap.size]?=some (.cells (bQ 0 0 0 0 0 ⟨#[]⟩ 0) 70 (0,0)) by rw [hW'];exact tY HR);have hbb:aH w W':=by rw [hW'];exact rQ HB (aEM _)
 exact Adv):P:=h
theorem asP.Adv(h:P:=by
 exact ah1):P:=h
theorem asQ.Adv(h:P:=by
 exact ah0):P:=h
theorem agL(h:P:=by
 have hn:=NA (Ei (tl s a));have HS:=Hq (λw1=>adD (Ei (tl s a)) (aEP (Gl _ _) Aaj) w1);have HCV:=Hq (λw1 g=>JU w1 g (kQ (Ei (tl s a))) 4 hn);have HCC:=Hq (λw1 (hb:aH w w1)=>uH (hc.below hg hb) a 4 4 Aaa);exact AeF):P:=h
theorem asR.AeF(h:P:=by
 have hqq:((mJ (kQ (Ei (tl s a)))).toList == (s.extract a (a+4)).toList)=false:=by
  rw [aGm];intro h;rw [aFB,aFB] at h;exact hq (aF3 (Array.ext' h))
 open aBt in exact awx):P:=h
theorem asS.AeF(h:P:=by
 have hqq:((mJ (kQ (Ei (tl s a)))).toList == (s.extract a (a+4)).toList)=true:=by
  rw [hq];simp
 open aBs in exact awx):P:=h
theorem agM(h:P:=by
 have HS:Hid ((s.data.toList.take (k+1)).all Mth.keyByte=((s.data.toList.take k).all Mth.keyByte&&Mth.keyByte s[k])):=by rw [Mth.take_snoc s k hlt];exact Mth.all_snoc _ _
 have hc:s[k].toNat < 256:=s[k].toNat_lt;exact AeB):P:=h
theorem asT.AeB(h:P:=by
 rcases Mth.byte_cases s[k] with h|h
 .have HK:=Hq (Mth.keyByte_yes _ h);rcases h with⟨h1,h2⟩|⟨h1,h2⟩
  all_goals
   go_wp2_with (go_at_call 47;first|(refine(nG _ _ _ _ ?_ ?_).mono ?_;omega;omega;rintro e w' ⟨rfl,rfl⟩)|(refine(qC _ _ _ _ ?_).mono ?_;omega;rintro e w' ⟨rfl,rfl⟩))
   go_round
   case rel=>exact⟨k+1,Aaa,Aaf,Acn⟩
   case measure=>simp[intOf];omega
 .have HK:=Hq (Mth.keyByte_no _ h);have HF:Hid (Mth.keyOk s.data.toList=false):=Mth.keyOk_bad _ (k+1) Acn;rcases h with h1|⟨h1,h2⟩|h1
  all_goals
   go_wp2_with (go_at_call 47;first|(refine(nG _ _ _ _ ?_ ?_).mono ?_;omega;omega;rintro e w' ⟨rfl,rfl⟩)|(refine(qC _ _ _ _ ?_).mono ?_;omega;rintro e w' ⟨rfl,rfl⟩))
   go_ret
   exact⟨aF HF.symm,rfl⟩):P:=h
theorem asU.AeB(h:P:=by
 rcases Mth.byte_cases s[k] with h|h
 .have HK:=Hq (Mth.keyByte_yes _ h);rcases h with⟨h1,h2⟩|⟨h1,h2⟩
  all_goals
   go_wp2_with (first|(go_at_call 207;first|(refine(KO _ _ ?_ ?_).mono ?_;omega;omega;rintro e w' ⟨rfl,rfl⟩)|(refine(Q7 _ _ ?_).mono ?_;omega;rintro e w' ⟨rfl,rfl⟩))|(go_at_call 208;first|(refine(JV _ _ ?_ ?_).mono ?_;omega;omega;rintro e w' ⟨rfl,rfl⟩)|(refine(Ph _ _ ?_).mono ?_;omega;rintro e w' ⟨rfl,rfl⟩)))
   go_round
   case rel=>exact⟨k+1,Aaa,Aaf,Acn⟩
   case measure=>simp[intOf];omega
 .have HK:=Hq (Mth.keyByte_no _ h);have HF:Hid (Mth.keyOk s.data.toList=false):=Mth.keyOk_bad _ (k+1) Acn;rcases h with h1|⟨h1,h2⟩|h1
  all_goals
   go_wp2_with (first|(go_at_call 207;first|(refine(KO _ _ ?_ ?_).mono ?_;omega;omega;rintro e w' ⟨rfl,rfl⟩)|(refine(Q7 _ _ ?_).mono ?_;omega;rintro e w' ⟨rfl,rfl⟩))|(go_at_call 208;first|(refine(JV _ _ ?_ ?_).mono ?_;omega;omega;rintro e w' ⟨rfl,rfl⟩)|(refine(Ph _ _ ?_).mono ?_;omega;rintro e w' ⟨rfl,rfl⟩)))
   go_ret
   exact⟨aF HF.symm,rfl⟩):P:=h
theorem aaF(h:P:=by
 unfold iW;have H9:=Hq h9;clear h9;have mP:=Hq (h.nine hB);clear h;go_in
 go_upto_region 1 with fail;refine wp_at (λW0 hW=>?_);exact Ab4):P:=h
theorem asV.Ab4(h:P:=by
 obtain⟨e1,e2,e3,e4⟩:=gu w (.cells (dH n A) 39) (.cells (bJ K no k nn mK mF mT mI mL mk mN) 73) (.cells kR 39);open atN in exact aaK):P:=h
theorem asW.Ab4(h:P:=by
 obtain⟨e1,e2,e3,e4⟩:=gu w (.cells (dH n (⟨a_k,(some ⟨gp,0,none⟩),je,iU,(some ⟨gr,0,none⟩),dz,fJ,dX,dA,dK⟩:bq)) 39) (.cells (bJ K no k nn mK mF mT mI mL mk mN) 73) (.cells kR 39);open atM in exact aaK):P:=h
theorem asX.Ab4(h:P:=by
 obtain⟨e1,e2,e3,e4⟩:=gu w (.cells (dH n (⟨a_k,rG,je,iU,jq,dz,fJ,dX,dA,dK⟩:bq)) 39) (.cells (bJ K no k nn mK mF mT mI mL mk mN) 73) (.cells kR 39);open atL in exact aaK):P:=h
theorem VO(h:P:=by
 rename_i vU
 refine vU _ _ ?_;clear vU;refine aFx Aad (λK hK=>?_);go_simp;refine hK _ _ ?_;clear hK K;exact AbD):P:=h
theorem asY.AbD(h:P:=by
 refine uQ Aad (.tmp 5) (.tmp 9) rfl w1.heap.size rfl VC rfl Ll.len Ll.one Aad (aEK w1 _) (λW2 hW _=>?_);have hk:aH w1 W2:=by subst hW;exact eU (aEM _) _ _ _ _ (au w1 _)
 have HS2:=Hq (show Ie V VC p r w1.heap.size w w1 W2 from⟨aj wu hk,aj HR1 hk,by
  rw [hW,lH]
  exact KI VC _ (by rw [(ah Ll).len];rfl) (aEK w1 (.cells Sl 43)),HB1.trans (hk.mono Aaa),hk,hpr,hr1,aEM _⟩)
 clear hW hk wu HR1 HB1;generalize w1.heap.size=s1 at *;clear hz ha;go_upto_region 2 with fail;refine aFv ?_;show wpList _ _ _ [_,_,_] _ _
 refine nY Aad (.tmp 1) rfl p rfl V HVL (KR.blk HS2.hp) ?_;go_wp2_with fail;refine(mW W2 HS2.b).mono ?_;rintro e w3 ⟨⟨b,rfl,hb⟩,hy⟩;have wZ:=Hq (HS2.step (hy.mono (aEM _)));have HBO:=Hq hb;clear hb hy HS2 mW;rcases hM with⟨hok,rfl,rfl,rfl⟩|⟨hno,rfl,rfl,rfl⟩
 case' inr=>
  obtain rfl:b=false:=by
   cases b
   .rfl
   .exact absurd (HBO.1 rfl) hno
  clear HBO hno;go_upto_region 3 with fail;refine aFv ?_;show wpList _ _ _ [_,_,_,_,_,_] _ _
  refine nY Aad (.tmp 5) rfl s1 rfl VC Ll.len (KR.blk wZ.ho) ?_;iterate 2 (refine aFx Aad (λK hK=>?_);go_simp;refine hK _ _ ?_;clear hK K)
  have JL:=Hq (wZ.step (fU w3 (.cells #[] 70) (.cells #[] 75)).2.2);refine uQ Aad (.tmp 2) (.tmp 13) rfl r rfl VC rfl Ll.len Ll.one Aad JL.hr (λW9 hW hR=>?_);have hE:=JL.ends;rw [<-hW] at hE;have Xz:=Hq (show∃C x1 c1 x2 c2,Ending.returned (Value.tuple #[.agg VC.toArray,.slice (some ⟨w3.heap.size,0,none⟩) 0 0,.slice (some ⟨w3.heap.size+1,0,none⟩) 0 0])= .returned (.tuple #[I8 c C,.slice x1 ([]:List Mg).length c1,.slice x2 ([]:List An).length c2])/\jo W9 C c/\GR.At gD 7 W9 x1 ([]:List Mg)/\GR.At dQ 12 W9 x2 ([]:List An)/\aH w W9 from⟨A1,_,0,_,0,by rw [<-(ah Ll).agg];rfl,HA1 W9 hE.1,GR.at_nil _ _,GR.at_nil _ _,by show Below (w.heap.size) w _;rw [hp];exact hE.2⟩);have HLL:=Hq Ll.len;clear hE hW;go_wp2_with fail;exact aET (v:= .tuple #[.agg VC.toArray,.slice (some ⟨w3.heap.size,0,none⟩) 0 0,.slice (some ⟨w3.heap.size+1,0,none⟩) 0 0]) (qH rfl _ _ r VC _ rfl hR.r underlying43 rfl (by rw [ah HLL];kernel_rfl) rfl rfl) rfl Xz
 obtain rfl:b=true:=HBO.2 hok;clear HBO hok;have p18:w3.cell? ⟨p,18,none⟩=some (.string k.log):=(wZ.cp 18).trans (by rw [ah HKV];rfl);have o19:w3.cell? ⟨s1,19,none⟩=some (.int .i64 k.safe):=(wZ.co 19).trans Aca;have f19:=aC wZ.ho 19;go_upto_region 5 with fail;refine wp_at (λW4 hW4=>?_);have JL:=Hq (hW4.symm▸(ah wZ).one 19 (.int .i64 k.log.size));clear hW4 wZ p18 o19 f19;have y20:=aEL (show W4.cell? ⟨s1,20,none⟩=some (.slice A1.wa k.wait.length A1.wc) from(JL.co 20).trans Aca);have y21:=aEL (show W4.cell? ⟨s1,21,none⟩=some (.slice A1.aa k.asked.length A1.ac) from(JL.co 21).trans Aca);refine aE0 Aab Aab ?_;repeat (first|go_big_quiet_step (fail)|quiet_step (fail))
 refine aFs ?_;intro _ hw';obtain⟨⟨dq,osq⟩,hw''⟩:=hw';subst hw'';clear y20 y21;have OH:=Hq (JL.step (aFe _ dq osq));clear JL;go_upto_region 6 with fail;refine wp_at (λW5 Wx=>?_);rw [<-Wx] at OH;clear Wx W4;have e20:(W5.alloc (.cells #[] 70)).cell? ⟨s1,20,none⟩=some (.slice A1.wa k.wait.length A1.wc):=((OH.step (au _ _)).co 20).trans Aca;have f20:=aC (OH.step (au W5 (.cells #[] 70))).ho 20;go_upto_region 7 with fail;refine wp_at (λW6 Wy=>?_);have aer:=Hq (Wy.symm▸(OH.step (au W5 (.cells #[] 70))).one 20 (.slice (some ⟨W5.heap.size,0,none⟩) 0 0));clear Wy OH e20 f20;generalize W5.heap.size=a20 at *;have e21:(W6.alloc (.cells #[] 75)).cell? ⟨s1,21,none⟩=some (.slice A1.aa k.asked.length A1.ac):=((aer.step (au _ _)).co 21).trans Aca;have f21:=aC (aer.step (au W6 (.cells #[] 75))).ho 21;go_upto_region 8 with fail;refine wp_at (λW7 Pv=>?_);have amz:=Hq (Pv.symm▸(aer.step (au W6 (.cells #[] 75))).one 21 (.slice (some ⟨W6.heap.size,0,none⟩) 0 0));clear Pv aer e21 f21;generalize W6.heap.size=a21 at *;obtain⟨VD,hVD⟩:∃V,BN V (pR k) {A1 with wa:=some ⟨a20,0,none⟩,wc:=0,aa:=some ⟨a21,0,none⟩,ac:=0}:=⟨_,rfl⟩;have HVD:=Hq hVD
 have XD:=Hq (show Ie V VD p r s1 w w1 W7 from by
  have h:=ah amz
  rwa [show((VC.set 19 (.int .i64 k.log.size)).set 20 (.slice (some ⟨a20,0,none⟩) 0 0)).set 21 (.slice (some ⟨a21,0,none⟩) 0 0)=VD from by rw [show VC=_ from ah Ll,show VD=_ from hVD];kernel_rfl] at h)
 clear amz hVD;refine aFv ?_;show wpList _ _ _ [_,_,_,_,_,_] _ _
 refine nY Aad (.tmp 5) rfl s1 rfl VD HVD.len (KR.blk XD.ho) ?_;iterate 2 (refine aFx Aad (λK hK=>?_);go_simp;refine hK _ _ ?_;clear hK K)
 refine uQ Aad (.tmp 2) (.tmp 28) rfl r rfl VD rfl HVD.len HVD.one Aad XD.hr (λW9 hW hR=>?_);have hE:=XD.ends;rw [<-hW] at hE;have Xz:=Hq (show∃C x1 c1 x2 c2,Ending.returned (Value.tuple #[.agg VD.toArray,.slice A1.wa k.wait.length A1.wc,.slice A1.aa k.asked.length A1.ac])= .returned (.tuple #[I8 (pR k) C,.slice x1 k.wait.length c1,.slice x2 k.asked.length c2])/\jo W9 C (pR k)/\GR.At gD 7 W9 x1 k.wait/\GR.At dQ 12 W9 x2 k.asked/\aH w W9 from⟨{A1 with wa:=some ⟨a20,0,none⟩,wc:=0,aa:=some ⟨a21,0,none⟩,ac:=0},_,_,_,_,by rw [<-(ah HVD).agg],⟨(HA1 W9 hE.1).kb,(HA1 W9 hE.1).kn,GR.at_nil _ _,GR.at_nil _ _⟩,(HA1 W9 hE.1).kw,(HA1 W9 hE.1).ka,by show Below (w.heap.size) w _;rw [hp];exact hE.2⟩);have HLL:=Hq HVD.len;clear hE hW;go_wp2_with fail;exact aET (v:= .tuple #[.agg VD.toArray,.slice A1.wa k.wait.length A1.wc,.slice A1.aa k.asked.length A1.ac]) (qH rfl _ _ r VD _ rfl hR.r underlying43 rfl (by rw [ah HLL];kernel_rfl) rfl rfl) rfl Xz):P:=h
theorem asZ.AbD(h:P:=by
 refine aGN rfl 39 (.tmp 7) (.tmp 6) rfl (w.heap.size+1+1) 0 (dH k.base A1) rfl rfl (Li.there 0 9 (aE5 Aab)) Aab Aab ?_;have zB:=Hq (Li.mid 0 (dH k.base A1).toList);clear Li;generalize World.setCells _ _ _ _=W1 at *;go_upto_region 3 with fail;open apf in exact aeJ):P:=h
theorem as0.AbD(h:P:=by
 refine aGN rfl 39 (.tmp 11) (.tmp 10) rfl (w.heap.size+1+1) 9 (dH k.node A2) rfl rfl (Li.there 9 9 (aE5 Aab)) Aab Aab ?_;have HS2:=Hq (Li.mid 9 (dH k.node A2).toList);clear Li;generalize World.setCells _ _ _ _=W1 at *;go_upto_region 4 with fail;have c18:World.cell? _ ⟨w.heap.size,18,none⟩=some (.string k.log):=(HS2.cell 18).trans Aab;have f18:=aC HS2.o 18;have o18:World.cell? _ ⟨w.heap.size+1+1,18,none⟩=some (.string ByteArray.empty):=(aEW _ _ 18 _ _ (0,0) HS2.o).trans Aab;go_upto_region 5 with fail;refine wp_at (λW hW=>?_);have wZ:=Hq (hW.symm▸(ah HS2).one 18 (.string k.log));clear hW c18 f18 o18 HS2;have c19:World.cell? _ ⟨w.heap.size,19,none⟩=some (.int .i64 k.safe):=(wZ.cell 19).trans Aab;have f19:=aC wZ.o 19;have o19:World.cell? _ ⟨w.heap.size+1+1,19,none⟩=some (.int .i64 0):=(aEW _ _ 19 _ _ (0,0) wZ.o).trans Aab;go_upto_region 6 with fail;refine wp_at (λW hW=>?_);have JL:=Hq (hW.symm▸(ah wZ).one 19 (.int .i64 k.safe));clear hW c19 f19 o19 wZ;have c20:World.cell? _ ⟨w.heap.size,20,none⟩=some (.slice A.wa k.wait.length A.wc):=(JL.cell 20).trans Aab;have f20:=aC JL.o 20;have o20:World.cell? _ ⟨w.heap.size+1+1,20,none⟩=some (.slice none 0 0):=(aEW _ _ 20 _ _ (0,0) JL.o).trans Aab;go_wp2_with fail;refine(H3 _ JL.b).mono ?_;rintro e x20 ⟨rfl,hN,hb⟩;have ayV:=JL.s;have HR3:=Hq (show s2<=W.heap.size from(JL.m _ (aA.refl _ _)).2.2);have Li:=Hq (JL.step hb (λW'=>GR.Blk gD 70 W' W.heap.size k.wait) (λW' hk=>hk.obj hN (λhm=>Acm)));clear hN hb JL H3 c20 f20 o20 ayV;generalize W.heap.size=g20 at *;have c20:World.cell? _ ⟨w.heap.size,20,none⟩=some (.slice A.wa k.wait.length A.wc):=(Li.cell 20).trans Aab;have f20:=aC Li.o 20;have o20:World.cell? _ ⟨w.heap.size+1+1,20,none⟩=some (.slice none 0 0):=(aEW _ _ 20 _ _ (0,0) Li.o).trans Aab;go_upto_region 7 with fail;refine wp_at (λW hW=>?_);have OH:=Hq (hW.symm▸(ah Li).one 20 (.slice (some ⟨g20,0,none⟩) k.wait.length k.wait.length));clear hW c20 f20 o20 Li;have c21:World.cell? _ ⟨w.heap.size,21,none⟩=some (.slice A.aa k.asked.length A.ac):=(OH.cell 21).trans Aab;have f21:=aC OH.o 21;have o21:World.cell? _ ⟨w.heap.size+1+1,21,none⟩=some (.slice none 0 0):=(aEW _ _ 21 _ _ (0,0) OH.o).trans Aab;go_wp2_with fail;refine(H4 _ OH.b).mono ?_;rintro e x21 ⟨rfl,hN,hb⟩;have ayW:=OH.s;have HR4:=Hq (show g20 < W.heap.size from ay (OH.m _ (aA.refl _ _)).2);have Li:=Hq (OH.step hb (λW'=>GR.Blk dQ 75 W' W.heap.size k.asked) (λW' hk=>hk.obj hN (λhm=>Acm)));clear hN hb OH H4 c21 f21 o21 ayW;generalize W.heap.size=g21 at *;have c21:World.cell? _ ⟨w.heap.size,21,none⟩=some (.slice A.aa k.asked.length A.ac):=(Li.cell 21).trans Aab;have f21:=aC Li.o 21;have o21:World.cell? _ ⟨w.heap.size+1+1,21,none⟩=some (.slice none 0 0):=(aEW _ _ 21 _ _ (0,0) Li.o).trans Aab;go_upto_region 8 with fail;refine wp_at (λW hW=>?_);have HS6:=Hq (hW.symm▸(ah Li).one 21 (.slice (some ⟨g21,0,none⟩) k.asked.length k.asked.length));clear hW c21 f21 o21 Li;obtain⟨V,hV⟩:∃V,BN V k ⟨A1,A2,some ⟨g20,0,none⟩,k.wait.length,some ⟨g21,0,none⟩,k.asked.length⟩:=⟨_,rfl⟩;have HR:=Hq (KR.blk (V:=V) (show W.heap[w.heap.size+1+1]?=some (.cells V.toArray 43 (0,0)) from HS6.o.trans (by rw [show V=_ from hV];kernel_rfl)));have HV:=Hq hV;clear hV;refine aFv ?_;show wpList _ _ _ [_,_] _ _
 refine nY Aad (.tmp 3) rfl (w.heap.size+1+1) rfl V HV.len HR ?_;refine uQ Aad (.tmp 2) (.tmp 26) rfl (w.heap.size+1) rfl V rfl HV.len HV.one Aad HS6.r (λW5 Wx Ww=>?_);have hk:aA [w.heap.size+1,w.heap.size+1+1] W W5:=by rw [Wx];exact(eB _ _ _ _).mono (λx hx=>by simp at hx;simp[hx])
 have hb:aH w W5:=by rw [Wx];exact eU Aaa _ _ _ _ HS6.b
 obtain⟨⟨⟨⟨_,q1,z1⟩,q2,z2⟩,q3⟩,q4⟩:=HS6.m W5 hk;have akO:=ah HR3;have aCg:=ah HR4;have aCp:=ay q4;obtain⟨hr2,hw1,hw2⟩:=ah HR2;have hr1:=HR1.1
 have HP:=Hq (show∃A' G1 G2 gw ga,Ending.returned (Value.agg V.toArray)= .returned (I8 k A')/\jo W5 A' k/\Iu w.heap.size W5.heap.size W5 A' k G1 G2 gw ga/\aH w W5 from⟨_,G1,G2,g20,g21,by rw [(ah HV).agg],⟨q1.at,q2.at,GR.Blk.at q3 cZ,GR.Blk.at q4 aQ⟩,
  ⟨q1,q2,HD1,HD2,λx h1 h2=>by have:=hr1 x h1;have:=hr2 x h2;omega,GR.W.of_blk cZ q3,GR.W.of_blk aQ q4,λx hx=>⟨λh1=>by
   have:=hr1 x h1
   rcases aE6.1 hx with hx|hx
   .have:=(cu hx).1;omega
   .have:=(cu hx).1;omega,λh2=>by
   have:=hr2 x h2
   rcases aE6.1 hx with hx|hx
   .have:=(cu hx).1;omega
   .have:=(cu hx).1;omega⟩,λx h1 h2=>by have:=(cu h1).1;have:=(cu h2).1;omega,λx hx=>by
   rcases aE6.1 hx with hx|hx
   .have:=hr1 x hx;omega
   rcases aE6.1 hx with hx|hx
   .have:=hr2 x hx;omega
   rcases aE6.1 hx with hx|hx
   .have:=(cu hx).1;omega
   .have:=(cu hx).1;omega⟩,hb⟩)
 clear Wx hk hb q1 q2 q3 q4 z1 z2 hr1 hr2 hw1 hw2 akO aCg aCp HS6 HR HR1 HR2 HR3 HR4 HD1 HD2;go_wp2_with fail;exact aET (v:= .agg V.toArray) (rZ rfl _ _ (w.heap.size+1) V _ rfl Ww.r underlying43 rfl (by rw [(ah HV).len];kernel_rfl)) rfl HP):P:=h
theorem as1.AbD(h:P:=by
 refine aGN rfl 73 (.tmp 7) (.tmp 6) rfl (w.heap.size+1+1) 0 (opl x.o).toArray rfl rfl (zB.there 0 11 Aac) Aab Aab ?_;have HS2:=Hq (zB.mid 0 (opl x.o));clear zB;generalize World.setCells _ _ _ _=W1 at *;have c11:W1.cell? ⟨w.heap.size,11,none⟩=some (.int .i64 x.c):=(HS2.cell 11).trans Aab;have f11:=aC HS2.o 11;have o11:W1.cell? ⟨w.heap.size+1+1,11,none⟩=some (.int .i64 0):=(aEW _ _ 11 _ _ (0,0) HS2.o).trans Aab;go_upto_region 4 with fail;refine wp_at (λW hW=>?_);have wZ:=Hq (hW.symm▸(ah HS2).one 11 (.int .i64 x.c));clear hW c11 f11 o11 HS2;obtain⟨L,hL⟩:∃L,L=dQ x:=⟨_,rfl⟩;have JL:Hid (TO 90 75 (dQ x) adZ w (λ_=>True) L W):=⟨wZ.p,wZ.r,wZ.o.trans (by rw [hL];kernel_rfl),wZ.b,λ_ _=>trivial⟩;have hl:L.length=12:=by rw [hL];rfl
 have h1:L.toArray.all (·.oneCell')=true:=by rw [hL];kernel_rfl
 have HQ:=Hq (show Ending.returned (.agg L.toArray)= .returned (anv x) by rw [hL]);have ht:W.there (w.heap.size+1) 0 12:=JL.thereR;clear wZ hL;refine aFv ?_;show wpList _ _ _ [_,_] _ _
 refine aGt rfl 75 (.tmp 3) rfl (w.heap.size+1+1) 0 rfl L _ JL.rngO underlying75 rfl Aco ?_;refine aGN rfl 75 (.tmp 2) (.tmp 11) rfl (w.heap.size+1) 0 L.toArray rfl rfl (by simpa [hl] using ht) (by simp only[aFH,hl];kernel_rfl) h1 ?_;have hr:=World.rangeAt_setCells_same W (w.heap.size+1) 0 L (by rw [hl];exact ht);have hb:=JL.ends.2;go_wp2_with fail;exact aET (v:= .agg L.toArray) (rZ rfl _ _ (w.heap.size+1) L _ rfl hr underlying75 rfl Aco) rfl ⟨HQ,hb⟩):P:=h
theorem VP(h:P:=by
 have ajr:=Hq (aj BJ hbx);have zD:=Hq (oF.trans (hbx.mono oF.size));exact AbB):P:=h
theorem as3.AbB(h:P:=by
 have HI2:=Hq (GR.At.below HI1 hbx);clear hbx d0 d1 d2 c0 c1 c2 c3 c4 c5 c6 c7 c8 k0 k1 k2 k3 k4 k5 k6 k7 k8 m0 m1 m2 HW1 BJ oF HI1 DR HKI;cases hbv:bb
 case' true=>
  have HP:Hid (TT=false):=ah HBAD (by
   rw [ah iE]
   have h:=ah eT
   rw [hbv] at h
   unfold vX
   dsimp only
   cases h1:NN fr<;>cases h2:pv<;>cases h3:fH lo<;>cases h4:decide (ids.length<=40)<;>simp_all)
  clear HBAD iE eT;subst hbv;go_wp2_with fail;go_ret;exact⟨aF HP.symm,zD⟩
 have HGD:Hid (gV PP RR (seen.take (k+1))=gV (D7 lo) iL ids):=by
  rw [ah iE];have h:=ah eT;rw [hbv] at h;unfold vX;dsimp only;cases h1:NN fr<;>cases h2:pv<;>cases h3:fH lo<;>cases h4:decide (ids.length<=40)<;>simp_all
 subst hbv;clear iE eT;obtain⟨d0,d1,d2⟩:=three HW2;have aDV:=ah Dz;go_wp2_with fail;go_loopw [6] (λi wr2=>∃m:Nat,m<=ids.length/\i= .int .i64 m/\gV (D7 lo) iL (ids.take m)=true/\aH wc wr2) (λi _=>ids.length - (intOf i).toNat)
 case atStart=>exact abk
 case round=>
  obtain⟨m,hm,rfl,hall,hbx⟩:=hrel;have jI:=Hq hbx;have alU:=Hq hall;have HW3:=Hq (aj HW2 hbx);obtain⟨d0,d1,d2⟩:=three HW3;clear hall;by_cases hlm:m < ids.length
  case' neg=>
   have hke:m=ids.length:=Aaa
   subst hke
   have hnlt:decide ((ids.length:Int) < (ids.length:Int))=false:=Aac
   have HF:Hid (gV PP RR (seen.take (k+1))=true):=by
    have h:=ah alU;rw [aFd] at h;exact HGD.trans h
   have HB9:=Hq (aj ajr hbx)
   have HL9:=Hq (zD.trans (hbx.mono zD.size))
   clear hbx
   go_wp2_with fail
   go_roundw
   case rel=>exact⟨k+1,Aaa,Aaf,HF,HB9,HL9⟩
   case measure=>simp[intOf];omega
  have HBM:Hid (gV (D7 lo) iL (ids.take (m+1))=false->TT=false):=λh=>HBAD (HGD.trans (pV _ _ _ _ h))
  have HL9:=Hq (zD.trans (hbx.mono zD.size));have Sg:=GR.At.below HI2 hbx;clear hbx;cases m with
  |zero=>
   obtain⟨g2,off2,rfl,hg2,q0⟩:=bC.one Sg 0 hlm;rw [aGw] at q0;have hgt:decide ((0:Int) < ((0:Nat):Int))=false:=rfl;have iE:Hid (gV (D7 lo) iL (ids.take (0+1))=D7 lo ids[0]):=sJ (D7 lo) iL ids hlm;clear Sg;generalize ids[0]=x at *;cases h1:decide (lo<=x/\x<=1000000000)
   case' false=>
    exact ai5
   have HV:=Hq (show gV (D7 lo) iL (ids.take (0+1))=true by rw [ah iE];simp[D7,h1]);open aoS in exact aj0
  |succ j=>
   obtain⟨g2,off2,e1,hg2,q0⟩:=bC.one Sg (j+1) hlm;obtain⟨g3,aEo,e2,hg3,q1⟩:=bC.one Sg j Aaa;open avy in exact ahj):P:=h
theorem as4.AbB(h:P:=by
 clear hbx d0 d1 d2 d3 c0 c1 c2 c3 c4 c5 c6 c7 c8 k0 k1 k2 k3 k4 k5 k6 k7 k8 m0 m1 m2 m3 HW1 BJ oF DR
 have BD:=Hq (show gV RQ RR (reqs.take (k+1))= !bb by
  rw [ah iE,<-ah eT,ah mW]
  simp only[Bool.not_not])
 cases hbv:bb
 .have HG:Hid (gV RQ RR (reqs.take (k+1))=true):=by rw [ah BD,hbv];exact Hq rfl
  exact ahS
 .exact ahO):P:=h
theorem as5.AbB(h:P:=by
 clear hbx d0 d1 d2 d3 c0 c1 c2 c3 c4 c5 c6 c7 c8 k0 k1 k2 k3 k4 k5 k6 k7 k8 m0 m1 m2 m3 HW1 BJ oF DR
 have BD:=Hq (show gV OT RO (out.take (k+1))= !bb by
  rw [ah iE,<-ah eT,ah mW]
  simp only[Bool.not_not])
 cases hbv:bb
 .have HG:Hid (gV OT RO (out.take (k+1))=true):=by rw [ah BD,hbv];exact Hq rfl
  exact ahS
 .exact ahO):P:=h
theorem as6.AbB(h:P:=by
 have HW2:=Hq (aj HW1 hbx);clear hbx d0 d1 d2 d3 c0 c1 c2 c3 c4 c5 c6 c7 c8 HW1 BJ oF eT;obtain⟨d0,d1,d2,d3⟩:=iD HW2;cases hbv:bb
 .have HG:=Hq (show gV KB RR (out.take (k+1))=true by rw [ah BD,hbv];rfl);subst hbv;clear HBAD BD;go_wp2_with fail;go_roundw
  case rel=>exact⟨k+1,si,Aaa,Aaf,rfl,zL.symm,HG,ajr,zD⟩
  case measure=>simp[intOf];omega
 .have HP:=Hq (HBAD (by rw [ah BD,hbv];rfl));subst hbv;clear HBAD BD;go_wp2_with fail;go_ret;exact⟨aF HP.symm,zD⟩):P:=h
theorem agN(h:P:=by
 generalize BH s=B at *;generalize MQ s=E at *;generalize Kq s=X at *;generalize vB s (iZ s (jX s 1))=N2 at *;generalize iZ s (jX s 1)=E2 at *;generalize j6 s (jX s 1)=TX at *;generalize vB s 1=N1 at *;generalize jX s 1=E1 at *;obtain⟨mK,mF,mT,mI,mL,mk,mN⟩:=m;exact Aeo):P:=h
theorem as7.Aeo(h:P:=by
 have HH0:=Hq (λW (k:dJ g w W)=>HH.keep1 k hg hge);go_in
 go_wp2_with fail;refine(HK _ H).mono ?_;rintro e w1 ⟨rfl,hr1,hk1⟩;have HR1:=Hq (hk1.obj (aEK w _) (show w.heap.size≠g by omega));have zx:=Hq ((dJ.of_below (au w _)).trans hk1);have HA1:=Hq hr1;have hz1:w.heap.size < w1.heap.size:=cK HR1;clear hr1 hk1 HK H;go_upto_region 2 with fail;refine wp_at (λV2 hV=>?_)
 have HS:Hid (OS w V2 g w1.heap.size s 1 (bJ (s[0].toNat:Int) 0 ⟨#[]⟩ 0 0 0 0 0 0 ⟨#[]⟩ 0)):=by
  rw [hV];exact⟨aI HA1 (au w1 _),aI HR1 (au w1 _),aEK w1 _,zx.trans (dJ.of_below (au w1 _)),hz1⟩
 clear hV HR1 zx HA1;generalize w1.heap.size=o at *;clear w1;by_cases hE0:0<=E1
 case' neg=>
  have hno:OK=false:=ah mP (λhx=>hE0 (by have:=ah HX hx.1;omega));have HNN:=Hq (az6 V2 HS.rd (HH0 _ HS.keep) Aaa);clear hE0;exact akk
 have HNY:=Hq (az7 V2 HS.rd (HH0 _ HS.keep) hE0);go_wp2_with fail;refine HNY.mono ?_;rintro e u0 ⟨rfl,hr,hk⟩;have HT:=Hq (HS.step hr hk hg);clear hr hk HNY HS;have hz0:=cK HT.op;obtain⟨⟨c0,c1,c2,c3,c4,c5,c6,c7,c8,c9,c10⟩,f0,f1,f2,f3,f4,f5,f6,f7,f8,f9,f10⟩:=aJ HT.op;go_upto_region 3 with fail;refine wp_at (λV3 hV=>?_);have HS:Hid (OS w V3 g o s E1 (bJ (s[0].toNat:Int) N1 ⟨#[]⟩ 0 0 0 0 0 0 ⟨#[]⟩ 0)):=by rw [hV];exact HT.set hg 1 (.int .i64 N1)
 clear hV HT hz0 c0 c1 c2 c3 c4 c5 c6 c7 c8 c9 c10 f0 f1 f2 f3 f4 f5 f6 f7 f8 f9 f10 u0 V2;by_cases hE1:0<=E2
 case' neg=>
  have hno:OK=false:=ah mP (λhx=>hE1 (by have:=ah HX hx.1;omega));have HNN:=Hq (aAj V3 HS.rd (HH0 _ HS.keep) Aaa);clear hE1;exact akk
 have HNY:=Hq (aAk V3 HS.rd (HH0 _ HS.keep) hE1);go_wp2_with fail;refine HNY.mono ?_;rintro e u1 ⟨rfl,hr,hk⟩;have HT:=Hq (HS.step hr hk hg);clear hr hk HNY HS;have hz1:=cK HT.op;obtain⟨⟨c0,c1,c2,c3,c4,c5,c6,c7,c8,c9,c10⟩,f0,f1,f2,f3,f4,f5,f6,f7,f8,f9,f10⟩:=aJ HT.op;go_upto_region 4 with fail;refine wp_at (λV4 hV=>?_);have HS:Hid (OS w V4 g o s E2 (bJ (s[0].toNat:Int) N1 TX 0 0 0 0 0 0 ⟨#[]⟩ 0)):=by rw [hV];exact HT.set hg 2 (.string TX)
 clear hV HT hz1 c0 c1 c2 c3 c4 c5 c6 c7 c8 c9 c10 f0 f1 f2 f3 f4 f5 f6 f7 f8 f9 f10 u1 V3;by_cases hE2:0<=X
 case' neg=>
  have hno:OK=false:=ah mP (λhx=>hE2 (by have:=ah HX hx.1;omega));have HNN:=Hq (az8 V4 HS.rd (HH0 _ HS.keep) Aaa);clear hE2;exact akk
 have HNY:=Hq (az9 V4 HS.rd (HH0 _ HS.keep) hE2);go_wp2_with fail;refine HNY.mono ?_;rintro e u2 ⟨rfl,hr,hk⟩;have HT:=Hq (HS.step hr hk hg);clear hr hk HNY HS;have hz2:=cK HT.op;obtain⟨⟨c0,c1,c2,c3,c4,c5,c6,c7,c8,c9,c10⟩,f0,f1,f2,f3,f4,f5,f6,f7,f8,f9,f10⟩:=aJ HT.op;go_upto_region 5 with fail;refine wp_at (λV5 hV=>?_);have HS:Hid (OS w V5 g o s X (bJ (s[0].toNat:Int) N1 TX N2 0 0 0 0 0 ⟨#[]⟩ 0)):=by rw [hV];exact HT.set hg 3 (.int .i64 N2)
 clear hV HT hz2 c0 c1 c2 c3 c4 c5 c6 c7 c8 c9 c10 f0 f1 f2 f3 f4 f5 f6 f7 f8 f9 f10 u2 V4;have hgl:g < V5.heap.size:=aEU hg HS.keep.size;have HMM:=Hq (HM V5 hgl HS.rd (HH0 _ HS.keep));go_wp2_with fail;refine HMM.mono ?_;rintro e w6 ⟨hcase,hk⟩;have HK6:=Hq hk;clear hk HMM;rcases hcase with⟨hyes,rfl,hr⟩|⟨hnot,p,rfl⟩
 case' inr=>
  have hno:=ah mP hnot;have HKK:=Hq (HS.keep.trans HK6);clear hnot;go_wp2_with fail;exact⟨rfl,.inr ⟨hno,_,rfl⟩,HKK⟩
 have HT:=Hq (HS.step hr HK6 hg);have HYE:=Hq hyes;clear hr HK6 HS hyes hgl;have hz6:=cK HT.op;obtain⟨⟨c0,c1,c2,c3,c4,c5,c6,c7,c8,c9,c10⟩,f0,f1,f2,f3,f4,f5,f6,f7,f8,f9,f10⟩:=aJ HT.op;go_upto_region 6 with fail;refine wp_at (λV6 hV=>?_);have HS:Hid (OS w V6 g o s E (bJ (s[0].toNat:Int) N1 TX N2 mK mF mT mI mL mk mN)):=by rw [hV];exact HT.tail hg
 clear hV HT hz6 c0 c1 c2 c3 c4 c5 c6 c7 c8 c9 c10 f0 f1 f2 f3 f4 f5 f6 f7 f8 f9 f10 w6 V5;obtain⟨e0,e1,_,_⟩:=HS.rd.two;obtain⟨⟨c0,c1,c2,c3,c4,c5,c6,c7,c8,c9,c10⟩,f0,f1,f2,f3,f4,f5,f6,f7,f8,f9,f10⟩:=aJ HS.op;have hoV:=cK HS.op;have hgV:=cK HS.rd;clear f0 f1 f2 f3 f4 f5 f6 f7 f8 f9 f10;by_cases hEs:E=s.size
 case' neg=>
  have hno:OK=false:=by rw [aGI];intro hy;exact hEs (HG.1 hy).1
  have hq:(E == (s.size:Int))=false:=by simpa using hEs
  have hq2:(E != (s.size:Int))=true:=by simpa using hEs
  clear c0 c1 c2 c3 c4 c5 c6 c7 c8 c9 c10;refine wp_region_quiet_lit Aab Aab ?_;repeat (any_goals (first|go_big_quiet_step (fail)|quiet_step (fail)))
  refine aFs ?_;intro _ hw';obtain⟨nq,hw''⟩:=hw';subst hw'';go_wp2_with fail;refine(HF _ (aI HS.rd (jv V6 _))).mono ?_;rintro e w9 ⟨rfl,rfl⟩;go_wp2_with fail;exact⟨rfl,.inr ⟨hno,_,rfl⟩,HS.keep.trans (dJ.of_below (jv V6 _))⟩
 have hq:(E == (s.size:Int))=true:=by simpa using hEs
 have hq2:(E != (s.size:Int))=false:=by simpa using hEs
 have HES:=Hq hEs;clear hEs;have x0:=aEL e0;have x1:=aEL e1;open anr in exact XJ):P:=h
theorem as8.Aeo(h:P:=by
 go_in
 go_wp2_with fail;refine(yu _).mono ?_;rintro e w1 ⟨rfl,hb1⟩;have hR1:=aI (aEK w _) hb1;have hB1:=(au w _).trans (hb1.mono Aac);clear hb1 yu;go_wp2_with fail;refine(HT1 _).mono ?_;rintro e w2 ⟨rfl,hb2⟩;have hR2:=aI hR1 hb2;have hB2:=hB1.trans (hb2.mono hB1.size);clear hb2 hR1 hB1 HT1;go_wp2_with fail;refine(Hy _).mono ?_;rintro e w3 ⟨rfl,hb3⟩;have hR3:=aI hR2 hb3;have hB3:=hB2.trans (hb3.mono hB2.size);clear hb3 hR2 hB2 Hy;go_wp2_with fail;refine(HT2 _).mono ?_;rintro e w4 ⟨rfl,hb4⟩;have hR4:=aI hR3 hb4;have hB4:=hB3.trans (hb4.mono hB3.size);clear hb4 hR3 hB3 HT2;go_wp2_with fail;refine(HG _).mono ?_;rintro e w5 ⟨rfl,hb5⟩;have XC:=Hq (aI hR4 hb5);have gQ:=Hq (hB4.trans (hb5.mono hB4.size));clear hb5 hR4 hB4 HG;open asI in exact VN):P:=h
theorem aaG(h:P:=by
 open awr in exact aa0):P:=h
theorem as9.Ab0(h:P:=by
 cases h1:PL
 case' false=>
  have HP:=Hq (show TT=false by rw [ah HD];simp[h1]);clear h1 HD;go_wp2_with fail;go_ret;exact⟨aF HP.symm,uq⟩
 go_wp2_with fail;refine(HPU _ uq).mono ?_;rintro e w2 ⟨rfl,hb1⟩;open ati in exact aaH):P:=h
theorem ata.Ab0(h:P:=by
 go_wp2_with fail;refine(Xz _ _ uq Aaa).mono ?_;rintro e w2 ⟨rfl,hb1⟩;open ath in exact aaH):P:=h
theorem atb.Ab0(h:P:=by
 rcases hcase with rfl|⟨p0,p1,p2,p3⟩
 case' inl=>
  go_wp2_with fail;go_ret;exact⟨-1,rfl,uq,.inl rfl⟩
 have K1:=Hq (And.intro p2 p3);have q3:decide (z1 < 0)=false:=aEN Aaa;clear p2 p3;go_wp2_with fail;refine(HO _ _ uq Aaa Aaa).mono ?_;rintro e w2 ⟨z2,rfl,hb1,hcase⟩;open atg in exact aaH):P:=h
theorem agO(h:P:=by
 obtain⟨g,rest,rfl,hBg,hgg⟩:=xK HO Aaa;have HG:=Hq (aj hgg aY);have hkk:=ah Sr l[k] (aE2 hlt);exact AcU):P:=h
theorem atc.AcU(h:P:=by
 have HC:=Hq (fun(W:World) (h:W.heap[g]?=some (.cells (GR.flat dQ l++rest).toArray 75 (0,0))) j (hj:j < 12)=>wO aQ h k hlt j hj);clear hgg hBg;generalize l[k]=x at *;obtain⟨⟨K,no,k',n,mK,mF,mT,mI,mL,mk,mN⟩,c⟩:=x;dsimp only at hkk;have q0:wr.cell? ⟨g,k*12,none⟩=some (.int .i64 K):=ah HC wr HG 0 Aaa;have q1:wr.cell? ⟨g,k*12+1,none⟩=some (.int .i64 no):=ah HC wr HG 1 Aaa;have q2:wr.cell? ⟨g,k*12+2,none⟩=some (.string k'):=ah HC wr HG 2 Aaa;have q3:wr.cell? ⟨g,k*12+3,none⟩=some (.int .i64 n):=ah HC wr HG 3 Aaa;have q4:wr.cell? ⟨g,k*12+4,none⟩=some (.int .i64 mK):=ah HC wr HG 4 Aaa;have q5:wr.cell? ⟨g,k*12+5,none⟩=some (.int .i64 mF):=ah HC wr HG 5 Aaa;have q6:wr.cell? ⟨g,k*12+6,none⟩=some (.int .i64 mT):=ah HC wr HG 6 Aaa;have q7:wr.cell? ⟨g,k*12+7,none⟩=some (.int .i64 mI):=ah HC wr HG 7 Aaa;have q8:wr.cell? ⟨g,k*12+8,none⟩=some (.int .i64 mL):=ah HC wr HG 8 Aaa;have q9:wr.cell? ⟨g,k*12+9,none⟩=some (.string mk):=ah HC wr HG 9 Aaa;have q10:wr.cell? ⟨g,k*12+10,none⟩=some (.int .i64 mN):=ah HC wr HG 10 Aaa;go_wp2_with fail;refine(Ub ⟨K,no,k',n,mK,mF,mT,mI,mL,mk,mN⟩ _ hkk.1 hkk.2).mono ?_;rintro e w5 ⟨rfl,hb5⟩;have uo:=Hq (aj HG hb5);have fI:=Hq (aY.trans (hb5.mono aY.size));clear hb5 q0 q1 q2 q3 q4 q5 q6 q7 q8 q9 q10;have q0:w5.cell? ⟨g,k*12,none⟩=some (.int .i64 K):=ah HC w5 uo 0 Aaa;have q1:w5.cell? ⟨g,k*12+1,none⟩=some (.int .i64 no):=ah HC w5 uo 1 Aaa;have q2:w5.cell? ⟨g,k*12+2,none⟩=some (.string k'):=ah HC w5 uo 2 Aaa;have q3:w5.cell? ⟨g,k*12+3,none⟩=some (.int .i64 n):=ah HC w5 uo 3 Aaa;have q4:w5.cell? ⟨g,k*12+4,none⟩=some (.int .i64 mK):=ah HC w5 uo 4 Aaa;have q5:w5.cell? ⟨g,k*12+5,none⟩=some (.int .i64 mF):=ah HC w5 uo 5 Aaa;have q6:w5.cell? ⟨g,k*12+6,none⟩=some (.int .i64 mT):=ah HC w5 uo 6 Aaa;have q7:w5.cell? ⟨g,k*12+7,none⟩=some (.int .i64 mI):=ah HC w5 uo 7 Aaa;have q8:w5.cell? ⟨g,k*12+8,none⟩=some (.int .i64 mL):=ah HC w5 uo 8 Aaa;have q9:w5.cell? ⟨g,k*12+9,none⟩=some (.string mk):=ah HC w5 uo 9 Aaa;have q10:w5.cell? ⟨g,k*12+10,none⟩=some (.int .i64 mN):=ah HC w5 uo 10 Aaa;have f0:=aC uo (k*12);have f1:=aC uo (k*12+1);have f2:=aC uo (k*12+2);have f3:=aC uo (k*12+3);have f4:=aC uo (k*12+4);have f5:=aC uo (k*12+5);have f6:=aC uo (k*12+6);have f7:=aC uo (k*12+7);have f8:=aC uo (k*12+8);have f9:=aC uo (k*12+9);have f10:=aC uo (k*12+10)
 have HS:=Hq (fI.trans ((O9 [.int .i64 K,.int .i64 no,.string k',.int .i64 n,.int .i64 mK,.int .i64 mF,.int .i64 mT,.int .i64 mI,.int .i64 mL,.string mk,.int .i64 mN] (k*12) w5 _ uo (λj u hj=>by
  have h11:j < 11:=(aFF.1 hj).1
  have hc:=ah HC w5 uo j Aaa
  rw [hc,<-hj]
  exact(aF8 (l₁:=([.int .i64 K,.int .i64 no,.string k',.int .i64 n,.int .i64 mK,.int .i64 mF,.int .i64 mT,.int .i64 mI,.int .i64 mL,.string mk,.int .i64 mN]:List Value)) (l₂:=([.int .i64 c]:List Value)) (by simpa using h11)))).mono fI.size))
 exact aiE):P:=h
theorem atd.AcU(h:P:=by
 have HC:=Hq (fun(W:World) (h:W.heap[g]?=some (.cells (GR.flat gD l++rest).toArray 70 (0,0))) j (hj:j < 7)=>wO cZ h k hlt j hj);clear hgg hBg;generalize l[k]=x at *;obtain⟨mK,mF,mT,mI,mL,mk,mN⟩:=x;dsimp only at hkk;have q5:wr.cell? ⟨g,k*7+5,none⟩=some (.string mk):=ah HC wr HG 5 Aaa;go_wp2_with fail;refine(clone mk _ Aaa).mono ?_;rintro e w5 ⟨rfl,hb5⟩;have uo:=Hq (aj HG hb5);have fI:=Hq (aY.trans (hb5.mono aY.size));clear hb5 q5;have q5:w5.cell? ⟨g,k*7+5,none⟩=some (.string mk):=ah HC w5 uo 5 Aaa;have f5:=aC uo (k*7+5);have HS:=Hq (fI.trans ((nu uo q5).mono fI.size));exact aiE):P:=h
theorem agP(h:P:=by
 clear hr hc2;go_in
 go_wp2_with (first|(go_at_call_of 121 F;refine(H1 _).mono ?_;rintro e w1 ⟨rfl,rfl⟩)|(go_at_call_of 121 T;refine(H2 _).mono ?_;rintro e w1 ⟨rfl,rfl⟩)|(go_at_call_of 90 I;refine(CY _).mono ?_;rintro e w1 ⟨rfl,rfl⟩))
 exact Aem):P:=h
theorem ate.Aem(h:P:=by
 go_ret;exact⟨aF (by first|exact HP.symm|exact he.trans HP.symm),au w _⟩):P:=h
theorem atf.Aem(h:P:=by
 exact xW):P:=h
theorem aaH(h:P:=by
 have HB2:=Hq (aj HB1 hb1);have HL2:=Hq (uq.trans (hb1.mono uq.size));clear hb1 c0 c1 c2 c3 c4 c5 c6 c7 c8;obtain⟨c0,c1,c2,c3,c4,c5,c6,c7,c8⟩:=nine HB2;exact AcE):P:=h
theorem atg.AcE(h:P:=by
 rcases hcase with rfl|⟨p0,p1,p2,p3⟩
 case' inl=>
  go_wp2_with fail;go_ret;exact⟨-1,rfl,HL2,.inl rfl⟩
 have K2:=Hq (And.intro p2 p3);have q4:decide (z2 < 0)=false:=aEN Aaa;clear p2 p3;go_wp2_with fail;refine(HS _ _ HL2 Aaa Aaa).mono ?_;rintro e w3 ⟨z3,rfl,hb1,hcase⟩;open atQ in exact aaL):P:=h
theorem ath.AcE(h:P:=by
 go_wp2_with fail;refine(HOO _ _ HL2 Aaa).mono ?_;rintro e w3 ⟨rfl,hb1⟩;open atP in exact aaL):P:=h
theorem ati.AcE(h:P:=by
 cases h2:PS
 case' false=>
  have HP:=Hq (show TT=false by rw [ah HD];simp[h2]);clear h2 HD;go_wp2_with fail;go_ret;exact⟨aF HP.symm,HL2⟩
 cases h3:fH next
 case' false=>
  have HP:=Hq (show TT=false by rw [ah HD];simp[h3]);have H3:=Hq (λw1=>aO next false w1 h3);clear h3 HD;go_wp2_with (go_at_call 170;refine(H3 _).mono ?_;rintro e w9 ⟨rfl,rfl⟩)
  go_ret;exact⟨aF HP.symm,HL2⟩
 have H3:=Hq (λw1=>aO next true w1 h3);go_wp2_with (go_at_call 170;refine(H3 _).mono ?_;rintro e w9 ⟨rfl,rfl⟩)
 refine(HOT _ HL2 h1).mono ?_;rintro e w3 ⟨rfl,hb1⟩;open atO in exact aaL):P:=h
theorem agQ(h:P:=by
 have qZ:Hid (Below B w W'):=vT.trans (fq.below (λx hx=>by have:x=w.heap.size+2:=Aag;omega) (aEP hB vT.size));have xS:=Hq (Apart.keeps (c:=c) HKA vT.size fq (λx hx=>by have:x=w.heap.size+2:=Aag;omega));clear e4 fq;exact Aew):P:=h
theorem atj.Aew(h:P:=by
 exact⟨A1,ma,mc,rfl,HAT,ED,qZ,xS⟩):P:=h
theorem atl.Aew(h:P:=by
 exact⟨⟨A.k,A.p,a,A.s,A.r,A.ck,A.cp,cp,A.cs,A.cr⟩,some ⟨Z.heap.size,0,none⟩,0,rfl,HAT,λW'' _ i hi=>Aat,qZ,xS⟩):P:=h
theorem agR(h:P:=by
 have ru:=Hq ((hap _ (ay sD) (by rw [ah CY];omega)).trans sD);have aad:=Hq hat;have yj:=Hq (O7 jI hb5 hap HC9);have hrx:=ay sD;clear hat hb5 hap c0 c1 c2 c3 c4 c5 c6 c7 c8 p0 p1 p2 p3 p4 p5 p6 p7 p8 p9 oD hnl hol jJ iE HOX sD BL HPR;exact Ad1):P:=h
theorem atm.Ad1(h:P:=by
 obtain⟨⟨d0,d1,d2,d3,d4,d5,d6,d7,d8⟩,f0,f1,f2,f3,f4,f5,f6,f7,f8⟩:=iM ru;have hrl:=ay ru;go_wp2_with fail;refine eH (u1:= .slice ma L1.length mc) (u2:= .int .i64 Da) results99 rfl rfl rfl rfl ru (λW' e4 fq=>?_);have HAT:=Hq (λW'' (ho:yh w W' W'')=>aad W'' (ho.out (c:=c) (fq) hrx HC9));have ED:=Hq (λW'' (ho:yh w W' W'')=>aeb W'' (ho.out (c:=c) (fq) hrx HC9));have qZ:Hid (aH w W'):=yj.trans (fq.below (λx hx=>by have:x=w.heap.size+2:=Aag;omega) yj.size);clear e4 fq;exact⟨A2,ma,mc,rfl,HAT,ED,qZ⟩):P:=h
theorem atn.Ad1(h:P:=by
 have N8:=Hq (aEK W5 (.cells (dH N1 A2) 39));have xU:=Hq (aj ru (au W5 (.cells (dH N1 A2) 39)));have vT:=Hq (yj.trans ((au W5 (.cells (dH N1 A2) 39)).mono yj.size));obtain⟨c0,c1,c2,c3,c4,c5,c6,c7,c8⟩:=nine N8;have hnl:=ay N8;obtain⟨⟨d0,d1,d2,d3,d4,d5,d6,d7,d8⟩,f0,f1,f2,f3,f4,f5,f6,f7,f8⟩:=iM xU;have hrl:=ay xU;go_wp2_with fail;refine eH (u1:= .slice (some ⟨w.heap.size+1+1+1,0,none⟩) 0 0) (u2:= .int .i64 Da) results99 rfl rfl rfl rfl xU (λW' e4 fq=>?_);have HAT:=Hq (λW'' (ho:yh w W' W'')=>aad W'' (ho.out (c:=c) ((aA.of_below (au W5 (.cells (dH N1 A2) 39))).trans fq) hrx HC9));have qZ:Hid (aH w W'):=vT.trans (fq.below (λx hx=>by have:x=w.heap.size+2:=Aag;omega) vT.size);clear e4 fq;exact⟨A2,some ⟨w.heap.size+1+1+1,0,none⟩,0,rfl,HAT,λW'' _ i hi=>Aat,qZ⟩):P:=h
theorem agS(h:P:=by
 have mixed:prog.follows .mixedOrders=true:=Aab
 have hw1:IntKind.i64.wrap ((i:Int)+1)=(i:Int)+1:=IntWalk.i64_in _ ⟨Aaa,Aaa⟩;have hb1:(0:Int)<=(i:Int)+1:=Aaa
 have hin:i<=l.length:=Aaa
 have htn:((i:Int)+1).toNat=i+1:=Aaa
 exact Aek):P:=h
theorem ato.Aek(h:P:=by
 have hb2:¬(cap=i+1):=Aaa
 have hb3:(i:Int)<=(l.length:Int)+1:=Aaa
 have hb4:¬(cap=i):=Aaa
 have hc63:cap<=9223372036854775807:=Acb
 clear hcs hcl hdl hv hblk htake hcm hr1 abY akM hvr;go_in
 go_wp2_with (simp only[hov])
 go_region_law_o (refine step_copy_runI rfl _ _ 37 37 rfl _ _ Abs Abs (hcp1 _ _ _ _ _ Aaa Aaa) ?_)
 go_wp2_with (at_builtin;refine wpList_copy_runI _ rfl _ _ 37 37 rfl _ _ rfl rfl (hcp2 _ _ _ Aaa) ?_)
 go_ret;exact⟨rfl,hfin.1,hfin.2⟩):P:=h
theorem atp.Aek(h:P:=by
 have hb3:(i:Int)<=(l.length:Int):=Aaa
 have hGi:¬(G=i):=Aaa
 have hGim:¬(G=i+1):=Aaa
 have hci:¬(cap=i):=Aaa
 have hG63:G<=9223372036854775807:=by unfold maxLen at hGm;omega
 have hz3:(cap:Int) < (l.length:Int)+1:=Aaa
 have hA2:=hA ((w.alloc (.cells R 148)).drew) rfl;have hB2:=hB ((((w.alloc (.cells R 148)).drew).setRow w.heap.size (Bf R.toList i q).toArray).drew) rfl;clear hblk hv htake hcell hdl htl hRs hRl hRt hBb hi0 hz0 hz1 hz2 hA hB;go_in
 go_upto_region 10 with(at_builtin;refine Lib.wpList_append_run _ rfl _ _ _ _ rfl _ _ rfl rfl _ _ (hrz _) ?_)
 go_wp2_with (first
  |(at_builtin;refine wpList_copy_runI _ rfl _ _ 37 37 rfl _ _ rfl rfl (hA2 _ _ _ Aaa) ?_))
 go_region_law_o (refine step_copy_runI rfl _ _ 37 37 rfl _ _ Abs Abs (hB2 _ _ _ _ _ Aaa Aaa) ?_)
 go_wp2
 go_ret;obtain⟨f1,f2⟩:=ah zH ((((w.alloc (.cells R 148)).drew).setRow w.heap.size (Bf R.toList i q).toArray).drew) rfl rfl rfl rfl;exact⟨G,_,rfl,hGn,hGm,f1,wC,OI,f2⟩):P:=h
theorem agT(h:P:=by
 obtain⟨b1,b2,b3,b4,b5,b6,b7,b8⟩:=YW h0 h1 hz;have HS:Hid (sPk s0 n=s0+n.kids.length/\sOk s0 n=sPk s0 n+4*n.pu.length/\QX s0 n=sOk s0 n+4*n.out.length/\sRk s0 n=jd (QX s0 n) n.seen/\dY s0 n=sRk s0 n+4*n.reqs.length):=⟨rfl,rfl,rfl,rfl,rfl⟩;exact Aez):P:=h
theorem atq.Aez(h:P:=by
 rw [show rW s0 n=⟨n.id,n.par,jH mkInt 1 s0 n.kids n.kids.length,n.next,jH fZ 4 (sPk s0 n) n.pu n.pu.length,jH iA 4 (sOk s0 n) n.out n.out.length,kU (QX s0 n) n.seen,n.old,jH jO 4 (sRk s0 n) n.reqs n.reqs.length⟩ from rfl] at ha;have HA:=Hq ha;have HZ:=Hq hz;have HB0:=Hq (aEK w (.cells (dH n A) 39));have pJ:=Hq (au w (.cells (dH n A) 39));clear ha hz;generalize dY s0 n=EN at *;generalize sPk s0 n=s1 at *;generalize sOk s0 n=s2 at *;generalize QX s0 n=s3 at *;generalize sRk s0 n=s4 at *;have HKK:=Hq (λz W (hb:aH w W) (hz:z=(s0:Int))=>Px A.k G.k A.ck n.kids.length s0 z n.kids W hz rfl Aaa Aaa HZ.k (HA.below hb).k);have Xz:=Hq (λz W (hb:aH w W) (hz:z=(s1:Int))=>TU A.p G.p A.cp n.pu.length s1 z n.pu W hz rfl b1 Aaa HZ.p (HA.below hb).p);have HOO:=Hq (λz W (hb:aH w W) (hz:z=(s2:Int))=>Yr A.o G.o A.co n.out.length s2 z n.out W hz rfl b3 Aaa HZ.o (HA.below hb).o);have HSS:=Hq (λz W (hb:aH w W) (hz:z=(s3:Int))=>Yp A.s G.s A.cs n.seen.length s3 z G.i n.seen W hz rfl b5 b6 HZ.s HZ.sk (HA.below hb).s);have HRR:=Hq (λz W (hb:aH w W) (hz:z=(s4:Int))=>ab1 A.r G.r A.cr n.reqs.length s4 z n.reqs W hz rfl b7 Aaa HZ.r (HA.below hb).r);have hzk:=HZ.k;have hzp:=HZ.p;have hzo:=HZ.o;have hzs:=HZ.s;have hzr:=HZ.r;clear HA HZ;open aoc in exact vR):P:=h
theorem atr.Aez(h:P:=by
 have HMN:=Hq (show rW s0 n=⟨n.id,n.par,jH mkInt 1 s0 n.kids n.kids.length,n.next,jH fZ 4 (sPk s0 n) n.pu n.pu.length,jH iA 4 (sOk s0 n) n.out n.out.length,kU (QX s0 n) n.seen,n.old,jH jO 4 (sRk s0 n) n.reqs n.reqs.length⟩ from rfl);unfold aK.all at hnd;simp only[aFW,aE6] at hnd;obtain⟨_,⟨_,⟨_,⟨n4,⟨n5,n6,d6⟩,d5⟩,d4⟩,d3⟩,d2⟩:=hnd;have R6:=Hq (ha.k.below hb0);have HP0:=Hq (ha.p.below hb0);have HO0:=Hq (ha.o.below hb0);have ajK:=Hq (ha.s.below hb0);have Vu:=Hq (ha.r.below hb0);have HB0:=Hq (aEK w (.cells (dH n A) 39));have HL:=Hq (And.intro (XH ha.k) (And.intro (XH ha.p) (And.intro (XH ha.o) (And.intro (aaB ha.s) (XH ha.r)))));have amc:Hid (aA (G.all n) w (w.alloc (.cells (dH n A) 39))):=aA.of_below hb0;have jr:=Hq (λx=>(@aK.mem_all G n x).2);have HZ:=Hq hz;have HD2:=Hq d2;have HD3:=Hq d3;have HD4:=Hq d4;have HD5:=Hq d5;have HD6:=Hq d6;have amg:Hid ((fp G.s n.seen++mX G.i n.seen).Nodup):=aFW.2 ⟨n4,n5,λa ha b hb=>d5 a ha b (.inl hb)⟩;clear ha hz hb0 n4 n5 n6 d2 d3 d4 d5 d6;generalize G.all n=GA at *;generalize rW s0 n=MN at *;generalize dY s0 n=EN at *;generalize sPk s0 n=s1 at *;generalize sOk s0 n=s2 at *;generalize QX s0 n=s3 at *;generalize sRk s0 n=s4 at *;open aod in exact vR):P:=h
theorem aaI(h:P:=by
 have f0:=GR.Blk.free gQ (k*4);have f1:=GR.Blk.free gQ (k*4+1);have f2:=GR.Blk.free gQ (k*4+2);have f3:=GR.Blk.free gQ (k*4+3);go_wp2_with fail;exact AcI):P:=h
theorem att.AcI(h:P:=by
 go_roundw
 case rel=>
  have h:=GR.Blk.set gQ aV k Aaa ⟨pno,pk,pn,ps⟩;rw [ah TS] at h;exact⟨k+1,Aaa,Aaf,h,GR.setW_below (o:=k*4) (aEM w.heap.size) (aL ⟨pno,pk,pn,ps⟩) fI⟩
 case measure=>simp[intOf];omega):P:=h
theorem atu.AcI(h:P:=by
 go_roundw
 case rel=>
  have h:=GR.Blk.set gQ aR k Aaa ⟨pi,pt,pk,pn⟩;rw [ah TS] at h;exact⟨k+1,Aaa,Aaf,h,GR.setW_below (o:=k*4) (aEM w.heap.size) (aM ⟨pi,pt,pk,pn⟩) fI⟩
 case measure=>simp[intOf];omega):P:=h
theorem atv.AcI(h:P:=by
 go_roundw
 case rel=>
  have h:=GR.Blk.set gQ aP k Aaa ⟨pk,pm,pf,ps⟩;rw [ah TS] at h;exact⟨k+1,Aaa,Aaf,h,GR.setW_below (o:=k*4) (aEM w.heap.size) (fu ⟨pk,pm,pf,ps⟩) fI⟩
 case measure=>simp[intOf];omega):P:=h
theorem VQ(h:P:=by
 obtain⟨c0,c1,c2,c3,c4,c5,c6,c7,c8,c9⟩:=jN HW1.blk;obtain⟨⟨p0,p1,p2,p3,p4,p5,p6,p7,p8,p9,oD⟩,_⟩:=aJ wu;exact AbA):P:=h
theorem atw.AbA(h:P:=by
 have hwl:=ay HW.blk;have hne:wb≠w.heap.size:=Aaa
 exact Kk9):P:=h
theorem atx.AbA(h:P:=by
 go_in
 go_upto_region 1 with fail;have y1:=aEL c1;open awk in exact aaY):P:=h
theorem aty.AbA(h:P:=by
 go_in
 go_upto_region 3 with fail;have y0:=aEL c0;have y1:=aEL c1;open awj in exact aaY):P:=h
theorem atz.AbA(h:P:=by
 have hwl:=ay HW.blk;have hne:wb≠w.heap.size:=Aaa
 go_in
 go_upto_region 1 with fail;have y1:=aEL c1;have y4:=aEL c4;open awi in exact aaY):P:=h
theorem agU(h:P:=by
 have HR:Hid (textOf s k (some (n,c))=some (s.extract (k+c) (k+c+n),k+c+n)):=by unfold textOf;exact aEX hbad
 rw [aFS];have h1:¬1000 < n:=Aaa
 have h2:¬(s.size:Int) - ((k:Int)+(c:Int)) < (n:Int):=Aaa
 exact Adz):P:=h
theorem atA.Adz(h:P:=by
 clear hbad;open ava in exact aaV):P:=h
theorem atC.Adz(h:P:=by
 have hz:(s.extract (k+c) (k+c+n)).size<=281474976710656:=by rw [aGq];omega
 clear hbad;go_in
 go_wp2_with (first|(go_at_call 266;refine(HS _).mono ?_;rintro e w1 ⟨rfl,rfl⟩;simp only[rX])|(go_at_call 59;refine(clone _ _ hz).mono ?_;rintro e w2 ⟨rfl,hb2⟩))
 go_ret3
 exact⟨by rw [ah HR];simp[uh],hb2⟩):P:=h
theorem agV(h:P:=by
 have ho:=h.own;rw [<-h.len] at ho;obtain⟨a',c',g,e,hW,hg,hgo⟩:=GR.W.of_own (enc:=eP) bg ho;cases e
 rw [h.len] at hgo;have hfe:∀x,x∈fp g l->x∈fp g T2:=λx hx=>by have:=cu hx;rw [this.1];exact dB (by rw [h.len];exact this.2)
 exact AeG):P:=h
theorem atD.AeG(h:P:=by
 refine⟨g,⟨T2,hW,h.len,λi hi=>?_⟩,λx hx=>⟨(hg x (hfe x hx)).1,hgo x (hfe x hx)⟩,λx hx=>?_,?_⟩
 .obtain⟨b,c,e1,e2,_⟩:=h.dn i hi hi;exact⟨b,c,e1,e2⟩
 .obtain⟨i,hi,rfl,hpos⟩:=rY hx;obtain⟨_,_,_,_,e3⟩:=h.dn i hi hi;exact e3 _ (dB hpos)
 .rw [qh];exact λi j hi hj hij h1 h2=>h.nd i j hi hj hij hj h1 h2):P:=h
theorem atE.AeG(h:P:=by
 refine⟨g,⟨⟨T2,hW,h.len,λi hi=>?_⟩,λhp=>?_⟩,λx hx=>(hg x (hfe x hx)).1,λx hx=>?_,?_⟩
 .obtain⟨b,c,e1,e2,_⟩:=h.dn i hi hi;exact⟨b,c,e1,e2⟩
 .have hx:=hgo g (dB (by rw [h.len];exact hp));rcases h.own.2 with⟨_,hn⟩|⟨g',cap,cur,hv,_,hgg,_⟩
  .omega
  .rw [hv] at hx;have e3:g'=g:=Abl
   rw [e3] at hgg;exact⟨cur,hgg⟩
 .obtain⟨i,hi,rfl,hpos⟩:=rY hx;obtain⟨_,_,_,_,e3⟩:=h.dn i hi hi;have q:=e3 _ (dB hpos);exact⟨q.1,q.2.1,λhm=>q.2.2 (hgo _ (hfe _ hm))⟩
 .rw [qh];exact λi j hi hj hij h1 h2=>h.nd i j hi hj hij hj h1 h2):P:=h
theorem aaJ(h:P:=by
 go_in
 go_wp2_with fail;refine HBS.mono ?_;rintro e w1 ⟨rfl,q,rfl⟩;rw [hf];exact AbW):P:=h
theorem atF.AbW(h:P:=by
 go_wp2_with fail;go_ret;exact⟨⟨rfl,rfl,rfl,aEM _,λ_ _=>rfl⟩,λ_ _ _ _=>rfl,.inl ⟨by first|trivial|rfl,rfl,HH.drewN⟩⟩):P:=h
theorem atH.AbW(h:P:=by
 clear HBS
 have HIN:=Hq (alc B (.slice a l.length cap) (l.map (·.k)) (place l key) key w.heap.size ((w.drewN q).alloc (.cells #[.string key] 9)) (by rw [aFL];exact mh l key) (by rw [aFL];exact hl) Aah
  (World.ownsRow.alloc (w:=w.drewN q) HH.row _) (aEK (w.drewN q) _) (λe=>by have:=HR.lt _ e;omega))
 go_wp2_with fail;refine HIN.mono ?_;rintro e w2 ⟨v',rfl,hown,hgr⟩;rw [aFL,acz,<-Dg l key] at hown;obtain⟨g',cap',rfl,_,_⟩:=hown.form (by rw [Dg];omega)
 have hlt:∀k,k < w.heap.size->(Value.slice a l.length cap).ownBlock≠some k->w2.heap[k]?=w.heap[k]?:=λk hk hne=>by
  rw [hgr.block k Aah (Ne.symm hne)]
  exact aEZ (w.drewN q) _ _ hk
 have hm2:w2.heap[mp]?=some (.cells #[.slice a l.length cap,.map (some mb)] 356 (0,0)):=by rw [hlt mp hmp (own_ne (ah HR) (ah HH).blk Aae)];exact HH.blk
 have hb2:w2.heap[mb]?=w.heap[mb]?:=by
  obtain⟨es,clock,hbk⟩:=HH.map.blk;exact hlt mb hmb (ze HR hbk)
 have hbw:Below B w w2:=by
  refine⟨hgr.os,hgr.tape,hgr.output,aEP Aac hgr.size,λk hk=>hlt k Aaa (λe=>?_)⟩;have:=HR.lt _ e;omega
 have HO:=Hq hown;have Vq:=Hq hm2;have HB2:=Hq hb2;have iK:=Hq hbw;have HLT:=Hq hlt;obtain⟨⟨n0,n1⟩,g0,g1⟩:=mH hm2;clear hown hgr hlt hm2 hb2 hbw HIN n1 g1;go_wp2_with fail;go_ret;refine⟨iK.setCell (p:=⟨mp,0,none⟩) HH.lop _,λk hk hne1 hne2=>Fo.one_other (HLT k hk hne2) hne1,.inr (.inr ⟨by first|trivial|rfl,Aaa,rfl,.slice (some ⟨g',0,none⟩) (Qf l key).length cap',?_,?_,?_,HH.lop,HH.lom⟩)⟩
 .exact Fo.blk_set Vq 0 _
 .refine HO.kept (w':=w2.setCell ⟨mp,0,none⟩ _) (row:=some mp) ⟨rfl,rfl,rfl,by rw [Fo.setCell_size];exact aEM _,λk _ hne=>Fo.one_other rfl (λe=>hne Aap)⟩ (.inr (own_ne HO Vq Aae))
 .refine HH.map.kept ?_;rw [Fo.one_other (ah HB2) (Ne.symm (ah HH).mpmb)]):P:=h
theorem atI.AbW(h:P:=by
 go_wp2_with fail;go_ret;exact⟨⟨rfl,rfl,rfl,aEM _,λ_ _=>rfl⟩,λ_ _ _ _=>rfl,.inr (.inl ⟨by first|trivial|rfl,H20,rfl⟩)⟩):P:=h
theorem agW(h:P:=by
 clear hat hmt hb5;have hwp:wr.heap.size<=y5.heap.size:=HG2.size;refine tk [6,7,8,9] ?_;iterate 4 (refine JD 20 (QS _) (λK hK=>?_);go_simp;first|refine hK _ ?_|(apply Exists.intro;refine⟨λ_=>?_,hK _ ?_⟩;rfl);clear hK K)
 refine jf ?_;clear hwp;exact Adt):P:=h
theorem atJ.Adt(h:P:=by
 refine jc 10 rfl Aab Aad Aae (λx10 Me=>?_);have Ii:=Hq (Ge.trans HG2 Me);have HD3:=Hq (show Ge y5 x10 from Me);go_simp;refine⟨(au x10 _).mono Ii.size,?_⟩;have hqd:x10.heap.size < x5.heap.size\/y5.heap.size<=x10.heap.size:= .inr HD3.size;have hqV:wr.heap.size<=x10.heap.size:=Ii.size;have HGf:=Hq (Ge.trans Ii (au x10 (.cells kR 39)));have HDf:=Hq (Ge.trans HD3 (au x10 (.cells kR 39)));have HQf:=Hq (aEK x10 (.cells kR 39));clear Me Ii HD3;generalize x10.heap.size=qf at *;exact axx):P:=h
theorem atK.Adt(h:P:=by
 have HGf:=HG2;have HDf:=Hq (aEY y5.heap.size y5);have HQf:=HQ2;exact axx):P:=h
theorem aaK(h:P:=by
 rw [<-hW] at e1 e2 e3 e4;have HN:=Hq e1;have HO:=Hq e2;have HR:=Hq e3;have HB0:=Hq e4;have Ik:=Hq (mP.kc (k:=9) (KC.of_below e4) Aaa);exact AcL):P:=h
theorem atL.AcL(h:P:=by
 clear hW e1 e2 e3 e4 mP;open arH in exact axh):P:=h
theorem atM.AcL(h:P:=by
 clear hW e1 e2 e3 e4;open arG in exact axh):P:=h
theorem atN.AcL(h:P:=by
 clear hW e1 e2 e3 e4 mP;obtain⟨⟨p0,p1,p2,p3,p4,p5,p6,p7,p8,p9,oD⟩,_⟩:=aJ HO;have hol:=ay HO;obtain⟨c0,c1,c2,c3,c4,c5,c6,c7,c8⟩:=nine HN;obtain⟨⟨d0,d1,d2,d3,d4,d5,d6,d7,d8⟩,f0,f1,f2,f3,f4,f5,f6,f7,f8⟩:=iM HR;have hnl:=ay HN;have hrl:=ay HR;go_wp2_with fail;refine kC results128 rfl rfl rfl HR (λW' e4 fq=>?_);have HAT:=Hq (λW'' (ho:Out c w W' W'')=>(Ik.kc (k:=9) ((KC.keeps fq (λx hx=>by have:x=w.heap.size+2:=Aag;rw [this];exact aX Aaa)).trans (KC.out H9 ho)) Aaa).rm);have qZ:Hid (Below B w W'):=(HB0.mono hB).trans (fq.below (λx hx=>by have:x=w.heap.size+2:=Aag;omega) (aEP hB (HB0.mono hB).size));have xS:=Hq (Apart.keeps (c:=c) (Apart.of_below (HB0)) (HB0.mono hB).size fq (λx hx=>by have:x=w.heap.size+2:=Aag;omega));clear e4 fq;exact⟨A,rfl,HAT,qZ,xS⟩):P:=h
theorem aaL(h:P:=by
 have HB3:=Hq (aj HB2 hb1);have qX:=Hq (HL2.trans (hb1.mono HL2.size));clear hb1 c0 c1 c2 c3 c4 c5 c6 c7 c8;obtain⟨c0,c1,c2,c3,c4,c5,c6,c7,c8⟩:=nine HB3;exact AbX):P:=h
theorem atO.AbX(h:P:=by
 cases h4:OT
 case' false=>
  have HP:=Hq (show TT=false by rw [ah HD];simp[h4]);clear h4 HD;go_wp2_with fail;go_ret;exact⟨aF HP.symm,qX⟩
 go_wp2_with fail;refine(HSE _ qX h1).mono ?_;rintro e w4 ⟨rfl,hb1⟩;open auw in exact aaR):P:=h
theorem atP.AbX(h:P:=by
 go_wp2_with fail;refine(HSS _ _ qX Aaa).mono ?_;rintro e w4 ⟨rfl,hb1⟩;open auv in exact aaR):P:=h
theorem atQ.AbX(h:P:=by
 rcases hcase with rfl|⟨p0,p1,p2,p3⟩
 case' inl=>
  go_wp2_with fail;go_ret;exact⟨-1,rfl,qX,.inl rfl⟩
 have K3:=Hq (And.intro p2 p3);have q5:decide (z3 < 0)=false:=aEN Aaa;clear p2 p3;go_wp2_with fail;refine(HR _ _ qX Aaa Aaa).mono ?_;rintro e w4 ⟨z4,rfl,hb1,hcase⟩;open auu in exact aaR):P:=h
theorem VR(h:P:=by
 refine wp_at (λW hW=>?_);have iK:Hid (aH w W):=by rw [hW];first|exact jF w _ _|exact(jF w _ _).drew
 exact Aa7):P:=h
theorem atS.Aa7(h:P:=by
 have hX:W.heap[w.heap.size+1]?=some (.cells (bJ 2 no ⟨#[]⟩ 0 0 0 0 0 0 ⟨#[]⟩ 0) 73 (0,0)):=Abo
 have hY:W.heap[w.heap.size]?=some (.cells (bJ 2 no k n mK mF mT mI mL mk mN) 73 (0,0)):=Abp
 open au7 in exact aaU):P:=h
theorem atT.Aa7(h:P:=by
 have hX:W.heap[w.heap.size+1]?=some (.cells (bJ 5 0 ⟨#[]⟩ 0 0 0 0 0 0 ⟨#[]⟩ 0) 73 (0,0)):=Abo
 have hY:W.heap[w.heap.size]?=some (.cells (bJ 5 no k n mK mF mT mI mL mk mN) 73 (0,0)):=Abp
 open asw in exact agG):P:=h
theorem atU.Aa7(h:P:=by
 have hX:W.heap[w.heap.size+1]?=some (.cells (bJ 1 no k n 0 0 0 0 0 ⟨#[]⟩ 0) 73 (0,0)):=Abo
 have hY:W.heap[w.heap.size]?=some (.cells (bJ 1 no k n mK mF mT mI mL mk mN) 73 (0,0)):=Abp
 open au6 in exact aaU):P:=h
theorem atV.Aa7(h:P:=by
 exact AcJ):P:=h
theorem agX(h:P:=by
 generalize l[k]=x at *;generalize m[k]=y at *;obtain⟨x0,x1,x2,x3⟩:=x;obtain⟨y0,y1,y2,y3⟩:=y;dsimp only at s0 s1 s2 s3 t0 t1 t2 t3;clear hk2;by_cases hx:x0=y0
 case' neg=>
  have hq:(x0 == y0)=false:=Aag
  exact abm
 subst hx;exact AcP):P:=h
theorem atW.AcP(h:P:=by
 by_cases hx:x1=y1
 case' neg=>
  have hq:(x1 == y1)=false:=Aag
  exact abm
 subst hx;by_cases hx:x2=y2
 case' neg=>
  have hq:(x2.toList == y2.toList)=false:=CU hx;have hr:¬x2.toList=y2.toList:=Abh
  exact akm
 exact axJ):P:=h
theorem atY.AcP(h:P:=by
 by_cases hx:x1=y1
 case' neg=>
  have hq:(x1.toList == y1.toList)=false:=CU hx;have hr:¬x1.toList=y1.toList:=Abh
  exact akm
 exact aiw):P:=h
theorem agY(h:P:=by
 cases hx1:uV x
 case' false=>
  exact axt
 by_cases hx2:x=id
 case' pos=>
  exact axn
 have hy2:(x == id)=false:=by simp[hx2]
 by_cases hx3:x=par
 case' pos=>
  exact axm
 have hy3:(x == par)=false:=by simp[hx3]
 exact AdE):P:=h
theorem atZ.AdE(h:P:=by
 by_cases hx4:y < x
 case' neg=>
  have hy4:decide (x<=y)=true:=aEO Aaa;have HP:=Hq (HBAD (by rw [ah iE];simp[kE,iL,hx4]));clear HBAD iE;exact aeL
 have hy4:decide (x<=y)=false:=aEN Aaa;have HG:=Hq (show gV (kE id par) iL (kids.take (j+1+1))=true by rw [ah iE];simp[kE,hx1,hx2,hx3,iL,hx4]);clear HBAD iE;open apg in exact aj3):P:=h
theorem at6.AdE(h:P:=by
 have HG:=Hq (show gV (kE id par) iL (kids.take (0+1))=true by rw [ah iE];simp[kE,hx1,hx2,hx3]);clear HBAD iE;open aph in exact aj3):P:=h
theorem agZ(h:P:=by
 obtain⟨R,hR⟩:∃R,bH ⟨6,no,k,n,m⟩=R:=⟨_,rfl⟩;rw [hR];have HP:=Hq (show R=(decide (k.toList=[])&&decide (n=0)&&decide (no=0)&&bV m) by rw [<-hR];simp[bH]);clear hR;generalize bV m=OK at *;obtain⟨mK,mF,mT,mI,mL,mk,mN⟩:=m;exact Aes):P:=h
theorem at7.Aes(h:P:=by
 have HX:=Hq (aEK (w.alloc (.cells (bJ 6 no k n mK mF mT mI mL mk mN) 73)) (.cells (bJ 6 0 ⟨#[]⟩ 0 0 0 0 0 0 ⟨#[]⟩ 0) 73));have HY:=Hq (aI (aEK w (.cells (bJ 6 no k n mK mF mT mI mL mk mN) 73)) (au _ (.cells (bJ 6 0 ⟨#[]⟩ 0 0 0 0 0 0 ⟨#[]⟩ 0) 73)));rw [show(w.alloc (.cells (bJ 6 no k n mK mF mT mI mL mk mN) 73)).heap.size=w.heap.size+1 by simp] at HX;go_in
 go_wp2_with fail;refine(HM _).mono ?_;rintro e w1 ⟨rfl,hb1⟩;have zC:=Hq (aI HX hb1);have VB:=Hq (aI HY hb1);have HB1:=Hq ((jF w _ _).trans (hb1.mono Aah));clear hb1 HX HY;obtain⟨x0,x1,x2,x3,x4,x5,x6,x7,x8,x9,x10⟩:=Eo zC;obtain⟨y0,y1,y2,y3,y4,y5,y6,y7,y8,y9,y10⟩:=Eo VB;have f4:=uZ zC 4;have f5:=uZ zC 5;have f6:=uZ zC 6;have f7:=uZ zC 7;have f8:=uZ zC 8;have f9:=uZ zC 9;have f10:=uZ zC 10;cases hOK:OK
 .go_wp2_with fail
  all_goals
   go_ret
   refine⟨aF ?_,?_⟩
   .rw [ah HP];simp[hOK]
   .exact OU
 have HKK:=Hq hOK;clear hOK;by_cases hno:no=0
 case' neg=>
  have hno':¬(0:Int)=no:=λe=>hno e.symm
  go_wp2_with fail
  all_goals
   go_ret
   refine⟨aF ?_,?_⟩
   .rw [ah HP];simp[hno]
   .exact OU
 subst hno;by_cases hk:k.toList=[]
 case' neg=>
  go_wp2_with fail
  all_goals
   go_ret
   refine⟨aF ?_,?_⟩
   .rw [ah HP];simp[hk]
   .exact OU
 by_cases hn:n=0
 case' neg=>
  have hn':¬(0:Int)=n:=λe=>hn e.symm
  go_wp2_with fail
  all_goals
   go_ret
   refine⟨aF ?_,?_⟩
   .rw [ah HP];simp[hn,hk]
   .exact OU
 subst hn;go_wp2_with fail
 all_goals
  go_ret
  refine⟨aF ?_,?_⟩
  .rw [ah HP];simp[hk,ah HKK]
  .exact OU):P:=h
theorem aua.Aes(h:P:=by
 go_in
 go_wp2_with (go_at_call 152;refine(HM _).mono ?_;rintro e w1 ⟨rfl,hb1⟩;have HB1:=Hq hb1;clear hb1)
 all_goals
  go_ret
  refine⟨aF ?_,by first|exact au w _|exact(au w _).trans (HB1.mono Aac)⟩
  rw [ah HP]
  simp[*]):P:=h
theorem ag0(h:P:=by
 have ku:=Hq (aj mU hb2);have BK:=Hq (aj Sv hb2);have mZ:=Hq (aj BM hb2);have HB2:=Hq (HB1.trans (hb2.mono HB1.size));exact Aec):P:=h
theorem aub.Aec(h:P:=by
 have amh:=Hq (Xw.kc (k:=9) (KC.of_below hb2) Aaa);have amI:=Hq (ajN.below hb2);have hilt:∀x∈fp (G.i i) s0.ids,x < sb:=λx hx=>by rw [<-hsb];exact XH ajN x hx
 rw [hsb] at *;clear hW2 hb2 hs2 u0 u1 u2 c0 c1 c2 c3 c4 c5 c6 c7 c8 hnl mU Sv BM HB1 Xw ajN;obtain⟨m0,m1,m2,m3,m4,m5,m6⟩:=jM BK;obtain⟨s00,s01,s02⟩:=CV XE;have sf:=aC XE 1;have hml:=ay BK;have hsl2:=ay XE;go_upto_if 35 with fail;go_cut [8] from 15 (λp wx=>p= .pointer (some ⟨sb,0,none⟩)/\wx.heap[sb]?=some (.cells #[.int .i64 mF,.int .i64 (fQ s0 mL),.slice bi s0.ids.length ci] 130 (0,0))/\aA [sb] W2 wx)
 case first=>
  by_cases hlow:s0.l < mL
  .have hd:decide (s0.l < mL)=true:=aEO hlow;have HLW:=Hq (show fQ s0 mL=mL from aE7 hlow);go_wp2_with fail;go_meet
   case rel=>exact⟨rfl,by rw [ah HLW];exact aN XE 1 _,aA.set _⟩
  .have hd:decide (s0.l < mL)=false:=aEN hlow;have HLW:=Hq (show fQ s0 mL=s0.l from aEX hlow);go_wp2_with fail;go_meet
   case rel=>exact⟨rfl,by rw [ah HLW];exact XE,aA.refl _ _⟩
 case rest=>
  obtain⟨rfl,hs3,hk3⟩:=hcut;clear m0 m1 m2 m3 m4 m5 m6 s00 s01 s02 sf hml hsl2;go_upto_region 7 with fail;refine wp_at (λW3 hW3=>?_);subst hW3;have aes:=Hq hs3;have sG:=Hq (hk3.obj ku (λhx=>Aak));have Xv:=Hq (hk3.obj BK (λhx=>Aak));have qx:=Hq (hk3.obj mZ (λhx=>Aak));have HB3:=Hq (HB2.trans (hk3.below (B:=w.heap.size) (λx hx=>Aak) HB2.size));have ami:=Hq (amh.kc (k:=9) (KC.keeps hk3 (λx hx=>by have:x=sb:=Aag;rw [this];exact aX Aaa)) Aaa);have amJ:=Hq (amI.keeps hk3 (λx hx hm=>by have h1:=hilt x hx;simp at hm;omega));clear hs3 hk3 ku BK mZ HB2 amh amI XE;have aEa:=ay aes;obtain⟨i0,hi0,hz0,hz1',hz2⟩:=aFm xG;go_upto_block 2 with fail;go_cut [9] from 15 (λv wx=>∃g cp,v= .slice (some ⟨g,0,none⟩) (bX s0 mL).length cp/\wx.ownsRow W3.heap.size 3 1 v (bX s0 mL).length (GR.flat bf (bX s0 mL))/\(bX s0 mL=[]->cp=0)/\aH W3 wx)
  case first=>
   go_wp2_with fail;go_loopw [9,10] (λv j wr=>∃k g cp:Nat,k<=s0.ids.length/\j= .int .i64 k/\v= .slice (some ⟨g,0,none⟩) (pQ s0 mL k).length cp/\wr.ownsRow W3.heap.size 3 1 v (pQ s0 mL k).length (GR.flat bf (pQ s0 mL k))/\(pQ s0 mL k=[]->cp=0)/\aH W3 wr) (λ_ j _=>s0.ids.length - (intOf j).toNat)
   case atStart=>exact⟨0,_,_,aE1 _,rfl,rfl,aFw _ #[] 0 (aEM _) Aae rfl,λ_=>rfl,au _ _⟩
   case round=>
    obtain⟨k,g,cp,hk,rfl,rfl,hown,ayA,hbel⟩:=hrel;have aju:=Hq ayA;clear ayA;have aY:=Hq hbel;obtain⟨_,s31,s32⟩:=CV (aj aes hbel);clear hbel;by_cases hlt:k < s0.ids.length
    .obtain⟨eb,hgb,hcell⟩:=(amJ.below aY) k hlt;open arI in exact agw
    .have hke:k=s0.ids.length:=Aaa
     subst hke;have hd:decide ((s0.ids.length:Int) < (s0.ids.length:Int))=false:=Aac
     rw [Ci] at hown aju;have aEc:(Value.slice (some ⟨g,0,none⟩) (pQ s0 mL s0.ids.length).length cp)= .slice (some ⟨g,0,none⟩) (bX s0 mL).length cp:=by rw [Ci]
     rw [Ci];go_wp2_with fail;go_meet
     case rel=>exact⟨g,cp,rfl,hown,aju,aY⟩
  case rest=>
   obtain⟨gi,Yb,rfl,Al,aCa,hb4⟩:=hcut;have aar:=Hq (aj aes hb4);have DJ:=Hq (aj sG hb4);have ame:=Hq (aj Xv hb4);have SA:=Hq (aj qx hb4);have mQ:=Hq (HB3.trans (hb4.mono HB3.size));have ajA:=Hq (ami.kc (k:=9) (KC.of_below hb4) Aaa);have hgi:W3.heap.size<=gi:=(Al.lt gi rfl).1;have aCi:gi < wc.heap.size:=(Al.lt gi rfl).2
   have aDI:(bX s0 mL).length<=Yb:=by
    rcases Al.2 with⟨h1,_⟩|⟨g1,aDy,aDz,hv1,_,_,aD3,_⟩
    .simp at h1
    .simp only[aFI] at hv1;omega
   have aEb:=ay aar;have hIL:(bX s0 mL).length<=1000:=aEP (aGE _ _) hil;have Wx:WO (wc.setCell ⟨sb,2,none⟩ (.slice (some ⟨gi,0,none⟩) (bX s0 mL).length Yb)) (some ⟨gi,0,none⟩) Yb gi (bX s0 mL):=(WO.of_own (agv aW Al) Al aCa).keeps (aA.set _) (λx hx hm=>by have h1:=(cu hx).1;simp at hm;omega);have BL:=Hq (ajA.kc (k:=9) (w':=wc.setCell ⟨sb,2,none⟩ (.slice (some ⟨gi,0,none⟩) (bX s0 mL).length Yb)) (KC.set (aX Aaa)) Aaa);have Xx:=Hq (BL.seenPut i hi ⟨mF,fQ s0 mL,bX s0 mL⟩ (some ⟨gi,0,none⟩) Yb gi Wx (λx hx=>by rw [(cu hx).1];exact aX Aaa));have aDR:G.s≠w.heap.size:=Aaa
   obtain⟨T,hT,hlT,hrT⟩:=ajA.s;obtain⟨_,_,hcT⟩:=hT i Aaa;open anU in exact awG):P:=h
theorem auc.Aec(h:P:=by
 have Hy:=Hq (yu.kc (k:=9) (KC.of_below hb2) Aaa);clear hb2 Sv BM mU HB1 yu;clear m0 m1 m2 m3 m4 m5 m6 c0 c1 c2 c3 c4 c5 c6 c7 c8 hml hnl R7;obtain⟨m0,m1,m2,m3,m4,m5,m6⟩:=jM BK;exact Kk3):P:=h
theorem aaM(h:P:=by
 obtain⟨K,no,k,nn,⟨mK,mF,mT,mI,mL,mk,mN⟩⟩:=o;have HW1:=Hq (h.step (au w (.cells (bJ K no k nn mK mF mT mI mL mk mN) 73)));exact AbS):P:=h
theorem aud.AbS(h:P:=by
 have hq2:(n.par == -1)=true:=Abg
 clear h hR HSY hpar;obtain⟨c0,c1,c2,c3,c4,c5,c6,c7,c8,c9⟩:=jN HW1.blk;go_in
 go_wp2_with fail;go_ret;exact⟨rfl,c,v,HW1⟩):P:=h
theorem aue.AbS(h:P:=by
 have hwl:=ay h.blk;have hne:wb≠w.heap.size:=Aaa
 have HBO:=Hq (show Below w0.heap.size w0 (w.alloc (.cells (bJ K no k nn mK mF mT mI mL mk mN) 73)) from HW1.keep);have HSA:=Hq (λW c v L' (hW:WK w0 W wb n A G c v L')=>hW.no.at.o);clear h hz;generalize qE n=PM at *;obtain⟨ak,ap,ao,as',ar,ck,cp,co,cs,cr⟩:=A;obtain⟨c0,c1,c2,c3,c4,c5,c6,c7,c8,c9⟩:=jN HW1.blk;go_in
 go_wp2_with fail;go_loopw [13] (λi wr=>∃(k:Nat) (c':Nat->Nat) (v':Value),k<=n.out.length/\i= .int .i64 k/\WK w0 wr wb n ⟨ak,ap,ao,as',ar,ck,cp,co,cs,cr⟩ G c' v' (L++(n.out.take k).map PM)) (λi _=>n.out.length - (intOf i).toNat)
 case atStart=>exact⟨0,c,v,aE1 _,rfl,by simpa using ah HW1⟩
 case round=>
  obtain⟨k,cc,vv,hk,rfl,hS⟩:=hrel;have zB:=Hq hS;clear hS c0 c1 c2 c3 c4 c5 c6 c7 c8 c9;have hwr:=ay zB.blk;by_cases hlt:k < n.out.length
  .obtain⟨g,off,e0,hg,q0,q1,q2,q3⟩:=SentAt.four (HSA wr cc vv _ zB) k hlt;have HKk:=Hq (HKK n.out[k] (aE2 hlt));have HT:=Hq (show L++(n.out.take (k+1)).map PM=L++(n.out.take k).map PM++[PM n.out[k]] by rw [aEV hlt,List.map_append,aFr];rfl);have ajG:=Hq (Iq n.out[k]);generalize n.out[k]=sk at *;generalize PM sk=mk' at *;obtain⟨si,st,sx,sn⟩:=sk;obtain⟨qK,qF,qT,qI,qL,qk,qN⟩:=mk';dsimp only at q0 q1 q2 q3 HKk e0;subst e0;go_upto_region 4 with fail;refine wp_at (λW3 hW3=>?_);have HR3:Hid (W3.heap[wr.heap.size]?=some (.cells (gI si st sx sn) 145 (0,0))):=by rw [hW3];exact aEK _ _
   have wZ:Hid (WK w0 W3 wb n ⟨ak,ap,some ⟨g,off,none⟩,as',ar,ck,cp,co,cs,cr⟩ G cc vv (L++(n.out.take k).map PM)):=by rw [hW3];exact zB.step (au wr _)
   clear hW3 q0 q1 q2 q3;have aAg:=Hq (λp:Regrown=>ajG (Gr W3 p) (GR.At.below (HSA W3 cc vv _ wZ) (aFe W3 p.d p.os)));have hr3:=ay HR3;have hw3:=ay wZ.blk;have hnr:wb≠wr.heap.size:=Aaa
   obtain⟨c0,c1,c2,c3,c4,c5,c6,c7,c8,c9⟩:=jN wZ.blk;obtain⟨d0,d1,d2,d3⟩:=iD HR3;open anp in exact XJ
  .open avA in exact ahk):P:=h
theorem auf.AbS(h:P:=by
 have hq2:(n.par == -1)=true:=Abg
 clear h hR Iq hpar;obtain⟨c0,c1,c2,c3,c4,c5,c6,c7,c8,c9⟩:=jN HW1.blk;go_in
 go_upto_region 1 with fail;have y1:=aEL c1;clear c0 c1 c2 c3 c4 c5 c6 c7 c8 c9;refine I9 20 ?_;refine tk [0,1,2,3,4,5,6,7,8,9,10,11,12,13,14,15,16,17,18,19] ?_;iterate 20 (refine iO (λK hK=>?_);go_simp;refine hK _ ?_;clear hK K)
 refine jf ?_;refine dS Aab (λz hz=>?_);have HZ:=Hq (HW1.step hz);clear hz y1;exact aiU):P:=h
theorem aaN(h:P:=by
 have HW1:=Hq (h.step (au w (.cells (bQ mK mF mT mI mL mk mN) 70)));have wu:=Hq (aEK w (.cells (bQ mK mF mT mI mL mk mN) 70));exact AcN):P:=h
theorem aug.AcN(h:P:=by
 have hwl:=ay h.blk;have hne:wb≠w.heap.size:=Aaa
 have SE:=Hq (λp:Regrown=>HW1.no.at.below (aFe _ p.d p.os));clear h hp hz;obtain⟨c0,c1,c2,c3,c4,c5,c6,c7,c8,c9⟩:=jN HW1.blk;obtain⟨p0,p1,p2,p3,p4,p5,p6⟩:=jM wu;open anq in exact XJ):P:=h
theorem auh.AcN(h:P:=by
 clear h;obtain⟨c0,c1,c2,c3,c4,c5,c6,c7,c8,c9⟩:=jN HW1.blk;have hwl:=ay HW.blk;have hne:wb≠w.heap.size:=Aaa
 go_in
 go_wp2_with fail;refine(HIX w.heap.size _ HW1.no.at.s wu).mono ?_;rintro e w2 ⟨rfl,hb2⟩;have HW2:=Hq (HW1.step hb2);have qY:=Hq (aj wu hb2);have HJ2:Hid (∀j mm,jQ w j mm->jQ w2 j mm):=λj mm hj=>aj (aj hj (au w _)) hb2
 clear hb2 HW1 wu HIX c0 c1 c2 c3 c4 c5 c6 c7 c8 c9;obtain⟨c0,c1,c2,c3,c4,c5,c6,c7,c8,c9⟩:=jN HW2.blk;obtain⟨g,off,b,cc,e0,hg,q0,q1,q2,xY⟩:=HW2.no.at.s i hi;rw [ah H7] at q0 q1 q2 xY;have HSO:=Hq (setOf s0.f s0.l b cc s0.ids w2 aep.2.2.1 (λx hx=>by have:=aep.2.2.2.1 x hx;have:=aep.1;omega) xY);have ak3:=ay HW2.blk;have hiI:(i:Int) < (n.seen.length:Int):=Aaa
 clear xY;rw [e0] at c6;go_wp2_with fail;refine HSO.mono ?_;rintro e w3 ⟨sb,mb,rfl,hsb,hmb,hS3,Sg,hb3⟩;have HW3:Hid (rz w0 w3 wb sb mb s0.ids.length n A G (newC w2.heap.size 9 c) v L s0.l s0.ids):=⟨(HW2.recol (c':=newC w2.heap.size 9 c) (λx hx=>fC hx)).step hb3,hS3,Sg,aX hsb,aX hmb⟩;have Sy:=Hq (aj qY hb3);have HJ3:Hid (∀j mm,jQ w j mm->jQ w3 j mm):=λj mm hj=>aj (HJ2 j mm hj) hb3
 have aB4:w.heap.size≠sb:=by have:=ay qY;omega
 have ayu:w.heap.size≠mb:=by have:=ay qY;omega
 clear hS3 Sg hb3 hsb hmb q0 q1 q2 e0 HSO c0 c1 c2 c3 c4 c5 c6 c7 c8 c9;obtain⟨⟨p0,p1,p2,p3,p4,p5,p6⟩,_⟩:=eD Sy;have hpl:=ay Sy;go_wp2_with fail;refine(afA sb mb s0.ids.length s0.l mL (fQ s0 mL) s0.ids w3 HMX HW3.bk HW3.si).mono ?_;rintro e w4 ⟨rfl,hS4,hI4,hk4⟩;have HW4:=Hq (HW3.lift hS4 hI4 hk4);have Sb:=Hq (hk4.obj Sy (by simp[aB4,ayu]))
 have HJ4:Hid (∀j mm,jQ w j mm->jQ w4 j mm):=λj mm hj=>hk4.obj (HJ3 j mm hj) (by
  have h1:=Ur (HJ3 j mm hj) HW3.bk
  have h2:=HW3.si.far (HJ3 j mm hj)
  simp[h1,h2])
 clear hS4 hI4 hk4 p0 p1 p2 p3 p4 p5 p6 hpl HJ2 HJ3;obtain⟨⟨p0,p1,p2,p3,p4,p5,p6⟩,_⟩:=eD Sb;have hpl:=ay Sb;go_wp2_with fail;refine(akL sb mb s0.ids.length (fQ s0 mL) mI (bX s0 mL) w4 hI0 hI1 HW4.bk HW4.si).mono ?_;rintro e w5 ⟨rfl,hb5⟩;have HW5:=Hq (HW4.step hb5);have JJ:=Hq (aj Sb hb5);have HJ5:Hid (∀j mm,jQ w j mm->jQ w5 j mm):=λj mm hj=>aj (HJ4 j mm hj) hb5
 have hhs:(decide (mI < fQ s0 mL)||decide (mI∈bX s0 mL))=sQ s0 mL mI:=by
  unfold sQ;congr 1
  rw [aF2,aFo,Aj]
 rw [hhs];clear hhs hb5 p0 p1 p2 p3 p4 p5 p6 hpl HW4 Sb HW3 Sy;cases hq:sQ s0 mL mI
 case' true=>
  have HQ:=Hq hq;clear hq;go_wp2_with fail;obtain⟨n',A',G',c',kk,l2,HWS,ad6,HLEN,HSL,HTE⟩:∃(n':Nd) (A':bq) (G':aK) (c':Nat->Nat) (kk:Nat) (l2:List Int),Hid (rz w0 w5 wb sb mb kk n' A' G' c' v L (fQ s0 mL) l2)/\Hid (l2.Pairwise (· < ·))/\Hid (l2.length<=1000)/\Hid (n'.seen.length=n.seen.length)/\Hid (TT=(dU n' (n'.seen.set i ⟨mF,fQ s0 mL,l2⟩),true)):=⟨n,A,G,_,_,_,HW5,Dz.2.2.2.2,aEP Dz.2.2.1 Aaa,rfl,HTH HQ⟩;have eT:=Hq JJ;have HJW:=Hq HJ5;clear HTH SE HTN HGS HGF HQ HW5 JJ HW2 qY;exact Zk1
 have HQ:=Hq hq;clear hq;obtain⟨⟨p0,p1,p2,p3,p4,p5,p6⟩,_⟩:=eD JJ;have hpl:=ay JJ;have hnd:(bX s0 mL).Nodup:=Dz.2.2.2.2.imp (λh=>Aaa);have HND:=Hq hnd;clear hnd;by_cases hf:(bX s0 mL).length=40
 case' pos=>
  have HF:=Hq hf;clear hf;go_wp2_with fail;refine(HGF w5 sb mb _ A G _ _ _ HND HF HW5).mono ?_;rintro e w6 ⟨rfl,hb6⟩;have eT:=Hq (aj JJ hb6);have HJW:Hid (∀j mm,jQ w j mm->jQ w6 j mm):=λj mm hj=>aj (HJ5 j mm hj) hb6
  have kS:Hid (lY n s0 ⟨mK,mF,mT,mI,mL,mk,mN⟩=false):=by
   show lY n s0 ⟨mK,mF,mT,mI,mL,mk,mN⟩=false
   unfold lY;rw [aEN (by have:=ah HF;dsimp only;omega),Bool.and_false]
  go_wp2_with fail;obtain⟨n',A',G',c',kk,l2,HWS,ad6,HLEN,HSL,HTE⟩:∃(n':Nd) (A':bq) (G':aK) (c':Nat->Nat) (kk:Nat) (l2:List Int),Hid (rz w0 w6 wb sb mb kk n' A' G' c' v L (fQ s0 mL) l2)/\Hid (l2.Pairwise (· < ·))/\Hid (l2.length<=1000)/\Hid (n'.seen.length=n.seen.length)/\Hid (TT=(dU n' (n'.seen.set i ⟨mF,fQ s0 mL,l2⟩),false)):=⟨n,A,G,_,_,_,HW5.step hb6,Dz.2.2.2.2,aEP Dz.2.2.1 Aaa,rfl,HTN HQ kS⟩;clear hb6 HTH SE HTN HGS HGF HQ HW5 JJ HW2 qY kS HF HND p0 p1 p2 p3 p4 p5 p6 hpl;exact Zk1
 have HF:Hid ((bX s0 mL).length < 40):=by
  have:=Dz.2.2.1;show(bX s0 mL).length < 40
  omega
 clear hf;go_wp2_with fail;refine(HGS w5 sb mb _ A G _ _ _ (by have:=aep.2.2.1;omega) HND HF HW5).mono ?_;rintro e w6 ⟨rfl,⟨A1,G1,c1,Wy⟩,Sj⟩;have eT:=Hq (Sj w.heap.size _ Aaa ayu JJ);have HJW:Hid (∀j mm,jQ w j mm->jQ w6 j mm):=λj mm hj=>Sj j _ (YQ (HJ5 j mm hj) HW5.wk.blk) (HW5.si.far (HJ5 j mm hj)) (HJ5 j mm hj)
 have Vz:=Hq Wy;clear Wy Sj p0 p1 p2 p3 p4 p5 p6 hpl HGS HGF;cases hr:(dw n.pu mk 0 1 0 mN).2
 case' false=>
  have kS:Hid (lY n s0 ⟨mK,mF,mT,mI,mL,mk,mN⟩=false):=by
   show lY n s0 ⟨mK,mF,mT,mI,mL,mk,mN⟩=false
   unfold lY;rw [hr,Bool.false_and]
  rw [hr] at Vz;clear hr;go_wp2_with fail;obtain⟨n',A',G',c',kk,l2,HWS,ad6,HLEN,HSL,HTE⟩:∃(n':Nd) (A':bq) (G':aK) (c':Nat->Nat) (kk:Nat) (l2:List Int),Hid (rz w0 w6 wb sb mb kk n' A' G' c' v L (fQ s0 mL) l2)/\Hid (l2.Pairwise (· < ·))/\Hid (l2.length<=1000)/\Hid (n'.seen.length=n.seen.length)/\Hid (TT=(dU n' (n'.seen.set i ⟨mF,fQ s0 mL,l2⟩),false)):=⟨n,A1,G1,c1,_,_,Vz,Dz.2.2.2.2,aEP Dz.2.2.1 Aaa,rfl,HTN HQ kS⟩;clear HTH SE HTN HQ HW5 JJ HW2 qY kS HF HND Vz;exact Zk1
 have kS:Hid (lY n s0 ⟨mK,mF,mT,mI,mL,mk,mN⟩=true):=by
  show lY n s0 ⟨mK,mF,mT,mI,mL,mk,mN⟩=true
  unfold lY;rw [hr,aEO (ah HF),Bool.true_and]
 rw [hr] at Vz;clear hr;have HNI:=Hq (Wz HQ).2;go_wp2_with fail
 obtain⟨n',A',G',c',kk,l2,HWS,ad6,HLEN,HSL,HTE⟩:∃(n':Nd) (A':bq) (G':aK) (c':Nat->Nat) (kk:Nat) (l2:List Int),Hid (rz w0 w6 wb sb mb kk n' A' G' c' v L (fQ s0 mL) l2)/\Hid (l2.Pairwise (· < ·))/\Hid (l2.length<=1000)/\Hid (n'.seen.length=n.seen.length)/\Hid (TT=(dU n' (n'.seen.set i ⟨mF,fQ s0 mL,l2⟩),true)):=⟨setPu n (dw n.pu mk 0 1 0 mN).1,A1,G1,c1,_,lq (bX s0 mL) mI,⟨Vz.wk,Vz.bk,Vz.si.same (λx=>by rw [Qe];exact aE8),Vz.cs,Vz.cm⟩,Qd Dz.2.2.2.2 HNI,(by
  show(lq (bX s0 mL) mI).length<=1000
  rw [Df]
  have:=ah HF
  omega),rfl,SE HQ kS⟩
 clear HTH SE HTN HQ HW5 JJ HW2 qY kS HF HND Vz HNI;exact Zk1):P:=h
theorem aui.AcN(h:P:=by
 obtain⟨c0,c1,c2,c3,c4,c5,c6,c7,c8,c9⟩:=jN HW1.wk.blk;obtain⟨⟨p0,p1,p2,p3,p4,p5,p6⟩,_⟩:=eD wu;obtain⟨⟨d0,d1⟩,_⟩:=mH HW1.bk;have hlen:=aCT HW1.si hnd;have hwl:=ay HW.wk.blk;have hsl:=ay HW.bk;have hne:wb≠w.heap.size:=Aaa
 have hne2:sb≠w.heap.size:=Aaa
 clear h;go_in
 go_upto_region 1 with fail;have y4:=aEL c4;have z3:=aEL p3;have z5:=aEL p5;have z6:=aEL p6;have x1:=aEL d1;clear c0 c1 c2 c3 c4 c5 c6 c7 c8 c9 p0 p1 p2 p3 p4 p5 p6 d0 d1;exact Aei):P:=h
theorem ag1(h:P:=by
 obtain⟨⟨p0,p1,p2,p3,p4,p5,p6,p7,p8,p9,oD⟩,_⟩:=aJ Sz;have hpl:=ay Sz;go_wp2_with fail;refine(xU z HZ).mono ?_;rintro e w1 ⟨rfl,hb1⟩;have HZ1:=Hq (HZ.step hb1);clear hb1 xU p0 p1 p2 p3 p4 p5 p6 p7 p8 p9 oD HZ Sz;exact Ad9):P:=h
theorem auj.Ad9(h:P:=by
 obtain⟨g,hAr,hgw,hgl,⟨q0,q1,q2,q3⟩,qf⟩:=HZ1.reqRow i hil;obtain⟨d0,d1,d2,d3,d4,d5,d6,d7,d8,d9⟩:=jN HZ1.blk;rw [hAr] at d8;have aCQ:=ay HZ1.blk;have aCl:(i:Int) < (n.reqs.length:Int):=Aaa
 rw [hs] at q3;go_upto_region 7 with fail;refine wp_at (λW hW=>?_);obtain rfl:=hW;exact AdY):P:=h
theorem auk.Ad9(h:P:=by
 go_wp2_with fail;go_ret;exact⟨rfl,A,G,c,HZ1⟩):P:=h
theorem aaO(h:P:=by
 refine aFv ?_;show wpList _ _ _ [_,_,_,_,_] _ _
 refine aFx Aad (λK hK=>?_);go_simp;refine hK _ _ ?_;clear hK K;exact AcH):P:=h
theorem aul.AcH(h:P:=by
 refine aGt rfl 28 (.tmp 4) rfl w.heap.size 0 rfl (dH k.base A.b).toList _ (H7.rng 0 _ rfl) underlying28 rfl Aab ?_;go_wp2_with fail;refine(H1 _ H7.b).mono ?_;rintro e x ⟨A1,rfl,G1,hN,hS,hb⟩;have hs0:=H7.s;have Li:=Hq (H7.step hb (λW'=>gU W' A1 G1 k.base/\x.heap.size<=W'.heap.size) (λW' hk=>⟨hN.keeps hk (λy hy hm=>by have:=hS.rng y hy;simp at hm;omega),hk.size⟩));have HR1:=Hq (show(∀y∈G1.all k.base,w.heap.size<=y/\y < x.heap.size)/\w.heap.size<=x.heap.size from⟨λy hy=>by have:=hS.rng y hy;omega,by have:=hb.size;omega⟩);have HD1:=Hq hS.nodup;clear hN hS hb hs0 H7 H1;generalize hs1:x.heap.size=s1 at *;clear hs1;open asZ in exact VO):P:=h
theorem aum.AcH(h:P:=by
 refine aGt rfl 39 (.tmp 5) rfl w.heap.size 0 rfl (dH k.base A.b).toList _ hr0 underlying39 rfl Aab ?_;go_wp2_with fail;refine(Xu W0 HB0).mono ?_;exact Aer):P:=h
theorem aun.AcH(h:P:=by
 exact Aa6):P:=h
theorem aaP(h:P:=by
 rcases ho.2 with⟨_,hy⟩|⟨g,cp,cur,hx,hbg,hgg,hnc,hcm,hcs,htk⟩
 .omega
 simp only[aFI] at hx;obtain⟨rfl,_,rfl⟩:=hx;exact AbY):P:=h
theorem auo.AbY(h:P:=by
 by_cases hroom:l.length+1<=cap
 .refine(ME g cap i l q vb w cur hl hi2 hroom hcm (hne g rfl) hgg hcs htk hv).mono ?_;rintro e w' ⟨rfl,hb,hgr⟩;have hcl:(l.length+1)*4<=cur.toList.length:=Acw
  refine⟨some ⟨g,0,none⟩,cap,by rw [hlen],?_,hgr,λx hx=> .inl hx⟩;rw [hlen];refine⟨hfl,.inr ⟨g,cap,_,rfl,hbg,hb,hroom,hcm,?_,?_⟩⟩
  .rw [aFH,adn _ _ _ _ hi2 hcl,show cur.toList.length=cur.size from aFu,hcs]
  .exact Zj cur.toList l i q hi2 hcl htk
 .refine(Qh g cap i l q vb w cur hl hi2 hnc Aaa hgg htk hv).mono ?_;rintro e w' ⟨G,cur',rfl,hG,hGm,hb,hs,ht,hgr⟩;refine⟨some ⟨w.heap.size,0,none⟩,G,by rw [hlen],?_,⟨hgr.os,hgr.tape,hgr.output,hgr.size,λk hk _=>hgr.block k hk Aac⟩,λx hx=> .inr ?_⟩
  .rw [hlen];exact⟨hfl,.inr ⟨w.heap.size,G,cur',rfl,hB,hb,hG,hGm,hs,ht⟩⟩
  .have:w.heap.size=x:=Abl
   omega):P:=h
theorem aup.AbY(h:P:=by
 refine(Yd g cap l w cur h2 hl hnc hcm hgg hcs htk).mono ?_;rintro e w' ⟨rfl,hb,hgr⟩;have hcl:l.length*4<=cur.toList.length:=Acw
 refine⟨some ⟨g,0,none⟩,cap,by rw [hlen],?_,hgr,λx hx=> .inl hx⟩;rw [hlen];refine⟨by rw [gW,hlen],.inr ⟨g,cap,_,rfl,hbg,hb,Aaa,hcm,?_,?_⟩⟩
 .rw [aFH,adp _ _ h2 hcl,show cur.toList.length=cur.size from aFu,hcs]
 .exact Zl cur.toList l h2 hcl):P:=h
theorem auq.AbY(h:P:=by
 have hce:cur=(GR.flat aM l++cur.toList.drop (l.length*4)).toArray:=by
  rw [<-htk,aFE,Array.toArray_toList]
 have hlr:l.length*4+(cur.toList.drop (l.length*4)).length=cap*4:=by
  rw [aFt,show cur.toList.length=cur.size from aFu,hcs];omega
 rw [hce] at hgg;have hlen:(l.eraseIdx (qz l m)).length=l.length - 1:=aFK h;refine(TF g cap l _ B (qz l m) m w hl h hno hnc hcm hlr hB hgg hix).mono ?_;rintro e w' ⟨rfl,⟨r2,hS2,hr2⟩,hgr⟩;refine⟨some ⟨g,0,none⟩,cap,by rw [hlen],?_,hgr,λx hx=>hx⟩;rw [hlen];refine⟨by rw [nD,hlen],.inr ⟨g,cap,_,rfl,hbg,hS2,Aaa,hcm,?_,?_⟩⟩
 .rw [aFH,aER,nD,hlen];exact hr2
 .exact List.take_left' (by rw [nD,hlen])):P:=h
theorem aaQ(h:P:=by
 (refine JD 20 (yg _) (λK hK=>?_);go_simp;first|refine hK _ ?_|(apply Exists.intro;refine⟨λ_=>?_,hK _ ?_⟩;rfl);clear hK K)
 refine jf ?_;exact AbP):P:=h
theorem aur.AbP(h:P:=by
 clear y3;refine zu 3 rfl Aab Aad Aae 39 _ _ rfl (vW n.id n.par a_k n.kids.length dz n.next pa PL.length pc je n.out.length dX iU n.seen.length dA IH.no (some ⟨g8,0,none⟩) n.reqs.length c8') rfl rfl zM rfl Aab Aab (λX fq e4=>?_);refine qc Aab (λX5 hX5=>?_);have e4:=aj e4 hX5;have fq:=fq.trans (aA.of_below hX5);clear hX5;refine an 4 ?_;go_simp;refine ad ?_;go_simp;have uy:=Hq (HB9.trans (fq.below (B:=w.heap.size) (λx hx=>Aak) HB9.size));have HLZ:=Hq (HL9.keeps fq (λx hx=>Aak));have Sz:=Hq (HP9.keeps fq (λx hx=>Aak));obtain⟨x0,x1,x2,x3,x4,x5,x6,x7,x8⟩:=nine e4;clear e4 fq;go_wp2_with fail;refine aET (v:= .tuple #[.agg (vW n.id n.par a_k n.kids.length dz n.next pa PL.length pc je n.out.length dX iU n.seen.length dA IH.no (some ⟨g8,0,none⟩) n.reqs.length c8'),.int .i64 st]) Adh rfl ?_;rw [ah HK];refine⟨⟨a_k,pa,je,iU,(some ⟨g8,0,none⟩),dz,pc,dX,dA,c8'⟩,?_,λW'' ho=>?_,uy.mono hB,Apart.of_below uy⟩
 .simp[gM,dH,eO,oW,setPu,akH]
 .exact axB):P:=h
theorem aus.AbP(h:P:=by
 clear y3;refine zu 3 rfl Aab Aad Aae 39 _ _ rfl (vW n.id n.par a_k n.kids.length dz n.next pa PL.length pc je n.out.length dX iU n.seen.length dA n.old (some ⟨gv,0,none⟩) (n.reqs.length+1) vc) rfl rfl ru rfl Aab Aab (λX fq e4=>?_);refine qc Aab (λX5 hX5=>?_);have e4:=aj e4 hX5;have fq:=fq.trans (aA.of_below hX5);clear hX5;refine an 4 ?_;go_simp;refine ad ?_;go_simp;have uy:=Hq (yj.trans (fq.below (B:=w.heap.size) (λx hx=>Aak) yj.size));have HLZ:=Hq (HL6.keeps fq (λx hx=>Aak));have Sz:=Hq (HP6.keeps fq (λx hx=>Aak));obtain⟨x0,x1,x2,x3,x4,x5,x6,x7,x8⟩:=nine e4;clear e4 fq;go_wp2_with fail;refine aET (v:= .tuple #[.agg (vW n.id n.par a_k n.kids.length dz n.next pa PL.length pc je n.out.length dX iU n.seen.length dA n.old (some ⟨gv,0,none⟩) (n.reqs.length+1) vc),.int .i64 st]) Adh rfl ?_;rw [ah HK];refine⟨⟨a_k,pa,je,iU,(some ⟨gv,0,none⟩),dz,pc,dX,dA,vc⟩,?_,λW'' ho=>?_,uy.mono hB,Apart.of_below uy⟩
 .simp[gM,dH,eO,setPu,ah akH]
 .exact axB):P:=h
theorem aut.AbP(h:P:=by
 exact AdC):P:=h
theorem aaR(h:P:=by
 have mQ:=Hq (aj HB3 hb1);have Ij:=Hq (qX.trans (hb1.mono qX.size));clear hb1 c0 c1 c2 c3 c4 c5 c6 c7 c8;obtain⟨c0,c1,c2,c3,c4,c5,c6,c7,c8⟩:=nine mQ;exact AbV):P:=h
theorem auu.AbV(h:P:=by
 rcases hcase with rfl|⟨p0,p1,p2,p3⟩
 case' inl=>
  go_wp2_with fail;go_ret;exact⟨-1,rfl,Ij,.inl rfl⟩
 have K4:=Hq (And.intro p2 p3);have q6:decide (z4 < 0)=false:=aEN Aaa;clear p2 p3;go_wp2_with fail;go_ret;exact⟨z4,rfl,Ij,.inr ⟨p0,p1,HQ Aaa K1 K2 K3 K4⟩⟩):P:=h
theorem auv.AbV(h:P:=by
 rw [<-ah HQ4];have hn4:decide ((s4:Int) < 0)=false:=aEN Aaa;go_wp2_with fail;refine(HRR _ _ Ij Aaa).mono ?_;open av2 in exact ahu):P:=h
theorem auw.AbV(h:P:=by
 cases h5:TD
 case' false=>
  have HP:=Hq (show TT=false by rw [ah HD];simp[h5]);clear h5 HD;go_wp2_with fail;go_ret;exact⟨aF HP.symm,Ij⟩
 go_wp2_with fail;refine(HRE _ Ij).mono ?_;open av1 in exact ahu):P:=h
theorem OM(h:P:=by
 have y0:=aEL p0;have y1:=aEL p1;have y2:=aEL p2;have y3:=aEL p3;exact Aa5):P:=h
theorem auy.Aa5(h:P:=by
 have y4:=aEL c4;clear HO p0 p1 p2 p3 c4;open aAW in exact SI):P:=h
theorem auz.Aa5(h:P:=by
 have y4:=aEL p4;have y5:=aEL p5;have y6:=aEL p6;exact AaP):P:=h
theorem auA.Aa5(h:P:=by
 clear HO p0 p1 p2 p3;open aAY in exact SI):P:=h
theorem auB.Aa5(h:P:=by
 clear HO p0 p1 p2 p3;open aAX in exact SI):P:=h
theorem auC.Aa5(h:P:=by
 have y4:=aEL c4;clear HO p0 p1 p2 p3 c4;open aA2 in exact SI):P:=h
theorem ag2(h:P:=by
 rw [<-hW] at e1 e2 e3;have HN:=Hq e1;have HR:=Hq e2;have HB0:=Hq e3;have Ik:=Hq (mP.kc (k:=9) (KC.of_below e3) Aaa);clear hW e1 e2 e3 mP hbw0 hlo;obtain⟨c0,c1,c2,c3,c4,c5,c6,c7,c8⟩:=nine HN;have hnl:=ay HN;exact AdI):P:=h
theorem auD.AdI(h:P:=by
 have sD:=Hq HR;obtain⟨⟨d0,d1,d2,d3,d4,d5,d6,d7,d8⟩,f0,f1,f2,f3,f4,f5,f6,f7,f8⟩:=iM sD;have hrl:=ay sD;go_wp2_with fail;refine kC results129 rfl rfl rfl sD (λW' e4 fq=>?_);have HAT:=Hq (λW'' (ho:Out c w W' W'')=>(Ik.kc (k:=9) ((KC.keeps fq (λx hx=>by have:x=w.heap.size+1:=Aag;rw [this];exact aX Aaa)).trans (KC.out H9 ho)) Aaa).rm);have qZ:Hid (Below B w W'):=(HB0.mono hB).trans (fq.below (λx hx=>by have:x=w.heap.size+1:=Aag;omega) (aEP hB (HB0.mono hB).size));have xS:=Hq (Apart.keeps (c:=c) (Apart.of_below (HB0)) (HB0.mono hB).size fq (λx hx=>by have:x=w.heap.size+1:=Aag;omega));clear e4 fq;exact⟨A,rfl,HAT,qZ,xS⟩):P:=h
theorem auE.AdI(h:P:=by
 go_wp2_with fail;refine(Ow W0 Ik.at.r).mono ?_;open avK in exact ahp):P:=h
theorem aaS(h:P:=by
 have xU:=Hq (λw1 (hw:WK w0 w1 wb n A G c v L)=>NK w0 w1 wb n A G c v L o.no hok h0 h1 hw);rw [hf] at xU;have hlen:=(iT hok).2.1;exact AcB):P:=h
theorem auF.AcB(h:P:=by
 clear hR h0 h1 hok hf hgd afj;generalize dW n.reqs o.no=i at *;open aAT in exact Yk9):P:=h
theorem auG.AcB(h:P:=by
 generalize dW n.reqs o.no=i at *;generalize Gp n.reqs[i] o.k o.n=SQ at *;clear hR h0 h1 hok hf hgd;open aAQ in exact Yk9):P:=h
theorem auH.AcB(h:P:=by
 clear hR h0 h1 hok hf hgd afj;generalize dW n.reqs o.no=i at *;have HUN:=Hq (λw1 (hw:WK w0 w1 wb n A G c v L)=>Qb A.p A.cp n.pu n.reqs[i].k n.reqs[i].n E w1 hz.p hz.pk (hz.rk _ (aE2 hil)) hw.no.p.at (he.below hw.keep));unfold jS at HUN;generalize dw n.pu n.reqs[i].k 0 1 (-1) n.reqs[i].n=r at *;open aAN in exact Yk9):P:=h
theorem ag3(h:P:=by
 have hblk:V.heap[wr.heap.size]?=some (.cells (iR pk pm pf ps) 155 (0,0)):=by rw [hV];exact aEK wr _
 exact Aeb):P:=h
theorem auI.Aeb(h:P:=by
 have hPV:=HP.below hbV;have XA:=Hq hPV;have Hu:=Hq hblk;have HVS:=Hq (show V.heap.size=wr.heap.size+1 by rw [hV];simp);have wY:=Hq (aY.trans (hbV.mono aY.size));obtain⟨⟨p0,p1,p2,p3⟩,_⟩:=fP hblk;obtain⟨⟨n0,n1⟩,f0,f1⟩:=mH hPV.blk
 have HRW:=Hq (show V.ownsRow w.heap.size 9 1 (.slice aa k cc) k (((l.take k).map (·.k)).map Value.string) by
  have:=hPV.row
  rw [aFL,aFf,aFU hk] at this
  exact this)
 have HGR:=Hq (show∀w2:World,((V.alloc (.cells #[.string pk] 9)).drew).grownBy w2 (Value.slice aa k cc).ownBlock->
  w2.heap[w1.heap.size+1]?=some (.cells #[.slice aa k cc,.map (some w1.heap.size)] 356 (0,0))/\w2.heap[w1.heap.size]?=V.heap[w1.heap.size]?/\w2.heap[wr.heap.size]?=V.heap[wr.heap.size]?/\Below w.heap.size V w2 by
  intro w2 hg
  have hb:∀q,q < V.heap.size->(Value.slice aa k cc).ownBlock≠some q->w2.heap[q]?=V.heap[q]?:=λq hq hne=>by
   rw [hg.block q (by show q < (V.alloc _).heap.size;simp;omega) (Ne.symm hne)]
   exact aEZ V _ _ hq
  obtain⟨es,clock,hmap⟩:=hPV.map.blk
  refine⟨?_,hb _ hPV.map.lt (ze HRW hmap),hb _ (Fo.lt_of_blk hblk) (own_ne HRW hblk Aae),?_⟩
  .rw [hb _ (Fo.lt_of_blk hPV.blk) (own_ne (ah HRW) hPV.blk Aae)];exact hPV.blk
  .refine⟨hg.os,hg.tape,hg.output,aEP (by show V.heap.size<=(V.alloc _).heap.size;simp) hg.size,λq hq=>hb q (by have:=wY.size;omega) (λe=>?_)⟩;have:=HRW.lt _ e
   omega)
 have n2:(V.alloc (.cells #[.string pk] 9)).cell? ⟨w1.heap.size+1,0,none⟩=some (.slice aa k cc):=by rw [aE4 _ _ _ (Fo.lt_of_blk hPV.blk)];exact n0
 clear hblk hbV hPV hV c0 c1 c2 c3 n1 f1;go_region_law (refine step_append_lies _ rfl (.tmp 24) (.tmp 27) 354 rfl w.heap.size 9 i0 (.string ⟨#[]⟩) 1 16 underlying354 hi hz0 hz1 hz2 rfl Aae (.slice aa k cc) k (((l.take k).map (·.k)).map Value.string) Aao (HRW.alloc _).drew ⟨V.heap.size,0,none⟩ 1 1 [.string pk] Aao rfl (aFA (w:=(V.alloc (.cells #[.string pk] 9)).drew) (aEK V _)) (λu hu=>by rw [aE3.1 hu];rfl) Aaa Aaj Aaa (by have:=wY.size;simp;omega) (V.heap.size+1) Aac ?_;intro g' cap' w2 hown hgrow hat hlt2;have hK2:=ah HGR w2 hgrow;have HOW:=Hq hown;clear hown hgrow hat hlt2;have Vq:=Hq hK2.1;have JN:=Hq hK2;obtain⟨⟨y0,y1⟩,z0,z1⟩:=mH hK2.1;clear hK2 y1 z1)
 all_goals
  go_upto_region 8 with fail
  refine Fo.wp_at (λV3 hV3=>?_)
  obtain⟨hx1,hx2,hx3,hx4⟩:=ah JN
  have aD2:w1.heap.size+1 < wr.heap.size:=Fo.lt_of_blk HP.blk
  have hblk3:V3.heap[w1.heap.size+1]?=some (.cells #[.slice (some ⟨g',0,none⟩) (k+1) cap',.map (some w1.heap.size)] 356 (0,0)):=by rw [hV3];exact Fo.blk_set hx1 0 _
  have ayK:V3.heap[wr.heap.size]?=some (.cells (iR pk pm pf ps) 155 (0,0)):=by
   rw [hV3,Fo.one_other rfl Aaa,hx3];exact Hu
  have ab3:iG V3 w1.heap.size k (aD (l.take k)):=XA.map.kept (by rw [hV3,Fo.one_other rfl Aaa,hx2])
  have hrow3:V3.ownsRow w.heap.size 9 1 (.slice (some ⟨g',0,none⟩) (k+1) cap') (k+1) (((l.take k).map (·.k)).map Value.string++[.string pk]):=by
   rw [hV3];exact HOW.kept (w':=w2.setCell ⟨w1.heap.size+1,0,none⟩ _) (row:=some (w1.heap.size+1)) ⟨rfl,rfl,rfl,by rw [Fo.setCell_size];exact aEM _,λq _ hne=>Fo.one_other rfl (λe=>hne Aap)⟩ (.inr (own_ne HOW hx1 Aae))
  have hkeys:(l.take (k+1)).map (·.k)=(l.take k).map (·.k)++[pk]:=by rw [ah OI];simp
  have aAe:=Hq (show PM V3 w.heap.size (w1.heap.size+1) w1.heap.size k (.slice (some ⟨g',0,none⟩) (k+1) cap') ((l.take (k+1)).map (·.k)) (aD (l.take k)) by
   refine⟨hblk3,?_,ab3,HP.lop,HP.lom⟩
   rw [hkeys,List.map_append,aER,aFL,aFf,aFU hk]
   exact hrow3)
  have HB3:=Hq (show aH w V3 by rw [hV3];exact(wY.trans hx4).setCell (p:=⟨w1.heap.size+1,0,none⟩) HP.lop _)
  have ajF:=Hq (WG (w1.heap.size+1) w1.heap.size k _ (aD (l.take k)) ⟨pk,pm,pf,ps⟩ V3 hkk Aaj hblk3 ab3)
  obtain⟨⟨r0,r1,r2,r3⟩,_⟩:=fP ayK
  clear hx1 hx2 hx3 hx4 hblk3 ayK ab3 hrow3 hkeys hV3 y0 z0 n0 n2 p0 p1 p2 p3 f0
  go_wp2_with fail
  refine ajF.mono ?_
  rintro e w5 ⟨rfl,hm5,hk5⟩
  have JJ:=Hq (aAe.turned hk5 hm5)
  have gQ:=Hq (HB3.trans (Di hk5 HP.lom HB3.size))
  clear hm5 hk5 r0 r1 r2 r3
  go_wp2_with fail
  go_roundw
  case rel=>
   have h:=ah JJ;rw [ah HUP] at h;exact⟨k+1,_,_,Aaa,Aaf,h,gQ⟩
  case measure=>simp[intOf];omega):P:=h
theorem auJ.Aeb(h:P:=by
 have wY:=Hq (show aH w V by rw [hV];exact aY.alloc aY.size _);have hgV:=Fo.lt_of_blk hblk;obtain⟨⟨p0,p1,p2,p3⟩,_⟩:=fP hblk;exact AaM):P:=h
theorem ET(h:P:=by
 iterate 2 (refine iO (λK hK=>?_);go_simp;refine hK _ ?_;clear hK K)
 refine jf ?_;exact AaT):P:=h
theorem auK.AaT(h:P:=by
 refine aU Aab (λz hz=>?_);refine an 20 ?_;go_simp;refine(HST z hz).mono ?_;rintro e z2 ⟨rfl,A',G',c',hZ⟩;have HZ:=Hq hZ;clear hZ HST hz;obtain⟨rl,rb⟩:=r;dsimp only at HZ ⊢;refine an 21 ?_;go_simp;refine an 22 ?_;go_simp;refine ad ?_;go_simp;cases rb
 all_goals
  go_wp2_with fail
  go_ret
  exact⟨rfl,A',G',c',HZ⟩):P:=h
theorem auL.AaT(h:P:=by
 refine aU Aab (λu hu=>?_);refine an 23 ?_;go_simp;refine(HST u hu).mono ?_;rintro e z2 ⟨rfl,A',G',c',hZ2,hA2⟩;have HZ2:=Hq hZ2;have HA2:=Hq (hA2.trans hAr);clear hZ2 HST hu hA2 d0 d1 d2 d3 d4 d5 d6 d7 d8 d9 q0 q1 q2 q3 qf;obtain⟨rl,rb⟩:=r;dsimp only at HZ2 ⊢;refine an 24 ?_;go_simp;refine ad ?_;go_simp;cases rb
 .rw [aEX Aac] at HZ2;obtain⟨g6,hA6,_,hg6,⟨s0,s1,s2,s3⟩,sf⟩:=HZ2.reqRow i hil;rw [ah HA2] at hA6;cases hA6
  rw [hs] at s3;go_wp2_with fail;go_ret;exact⟨rfl,A',G',c',HZ2⟩
 .rw [aE7 rfl] at HZ2;obtain⟨g6,hA6,_,hg6,⟨s0,s1,s2,s3⟩,sf⟩:=HZ2.reqRow i hil;rw [ah HA2] at hA6;cases hA6
  have zH:=Hq (HZ2.reqSet i hil g HA2);clear HZ2 HZ1 HX HW;go_wp2_with fail;go_ret;exact⟨rfl,A',G',c',zH⟩):P:=h
theorem auM.AaT(h:P:=by
 refine aU Aab (λz hz=>?_);have uy:=Hq (JF.trans (hz.mono JF.size));have HZP:=Hq (aj HYP hz);refine an 20 ?_;go_simp;refine(HST z hz).mono ?_;rintro e z2 ⟨rfl,A',G',c',hZ,hko,hcc⟩;have HZ:=Hq (HW.settled uy hZ hko hcc);have qY:=Hq (hko w.heap.size _ Aaa HZP);have HKO:Hid (∀j o,j≠wb->w.heap[j]?=some o->z2.heap[j]?=some o):=λj o h1 h2=>hko j o h1 (aj h2 uy)
 clear hZ hko hcc HST hz uy HZP HYP JF HXP jI;obtain⟨rl,rb⟩:=r;dsimp only at HZ ⊢;refine an 21 ?_;go_simp;refine an 22 ?_;go_simp;refine ad ?_;go_simp;cases rb
 .go_wp2_with fail;go_ret;exact⟨rfl,⟨A',G',c',HZ.wk,HZ.bk,HZ.si.mono (Nat.le_succ k),HZ.cs,HZ.cm⟩,λj o h1 _ h3=>HKO j o h1 h3⟩
 .obtain⟨⟨p0,p1,p2,p3,p4,p5,p6⟩,_⟩:=eD qY;obtain⟨⟨d0,d1⟩,_⟩:=mH HZ.bk;have hsl2:=ay HZ.bk;have ak1:=ay qY;have hI1:fF z2.drew mb k l:=HZ.si.kept rfl;obtain⟨z3,hrun,Sg,hK3⟩:=hI1.store mI hi0 hi1 Aaj;have HR:=Hq (HZ.put Sg (Keeps.trans (b:=z2.drew) (Keeps.of_below (aEY _ _).drew) hK3))
  have HK4:Hid (∀j o,j≠wb->j≠mb->w.heap[j]?=some o->z3.heap[j]?=some o):=λj o h1 h2 h3=>by
   have h4:=ah HKO j o h1 h3
   rw [hK3.block j (ay h4) h2]
   exact h4
  clear hI1 Sg hK3 qY;go_wp2_with fail;go_region
  all_goals
   go_wp2_with fail
   go_ret
   exact⟨rfl,⟨A',G',c',HR⟩,HK4⟩):P:=h
theorem auN.AaT(h:P:=by
 clear y0 y1 y2 y3 y4 y5 y6 y7 y8;refine dG 2 rfl Aab Aad (λx hx=>?_);go_simp;refine(jJ x A1 (BL.at.below hx)).mono ?_;rintro e y ⟨ma,mc,rfl,g,hmw,hml,hby⟩;refine⟨hby,?_⟩;have HY:=Hq (Ge.trans hx hby);have hxs:=hx.size;clear hx hby jJ iE HOX p0 p1 p2 p3 p4 p5 p6 p7 p8 p9 oD hnl hol;refine aU Aab (λz hz=>?_);have HZ:=Hq (Ge.trans HY hz);have HRZ:=Hq (aj sD HZ);have uy:=Hq (jI.trans (HZ.mono jI.size));have Il:=Hq (BL.kc (k:=9) (KC.of_below HZ) Aaa);have LZ:∀x'∈fp g L1,(λq=>if q<=w.heap.size+2 then 9 else 0) x'=0:=λx' hx'=>aEX (by have:=(hml x' hx').1;have:=ay sD;omega)
 have HMW:=Hq ((KC.of_below (c:=λq=>if q<=w.heap.size+2 then 9 else 0) (k:=9) hz).w hmw LZ Aaa);have al4:=Hq LZ;clear hz LZ hmw hml HY HZ BL jI sD;obtain⟨⟨d0,d1,d2,d3,d4,d5,d6,d7,d8⟩,f0,f1,f2,f3,f4,f5,f6,f7,f8⟩:=iM HRZ;have hrl:=ay HRZ;refine an 3 ?_;go_simp;refine an 4 ?_;go_simp;refine an 5 ?_;go_simp;refine ad ?_;go_simp;clear d0 d1 d2 d3 d4 d5 d6 d7 d8 f0 f1 f2 f3 f4 f5 f6 f7 f8 hrl;go_wp2_with fail;refine eH (u1:= .slice ma L1.length mc) (u2:= .int .i64 0) results99 rfl rfl rfl rfl HRZ (λW' e4 fq=>?_);have ED:=Hq ((KC.keeps (c:=λq=>if q<=w.heap.size+2 then 9 else 0) (k:=9) fq (λx hx=>aE7 (by have:x=w.heap.size+2:=(by simpa using hx);omega))).w HMW al4 Aaa);have HAT:=Hq (λW'' (ho:yh w W' W'')=>((Il.kc (k:=9) (KC.keeps fq (λx hx=>by have:x=w.heap.size+2:=Aag;rw [this];exact CY)) Aaa).kc (k:=9) (ho.kc (λx hx=>HC9 x Aaa)) Aaa).rm);have qZ:Hid (aH w W'):=uy.trans (fq.below (λx hx=>by have:x=w.heap.size+2:=Aag;omega) uy.size);clear e4 fq;exact⟨A1,ma,⟨mc,rfl⟩,HAT,λW'' ho=>((ho.kc (c:=λq=>if q<=w.heap.size+2 then 9 else 0) (k:=9) (λx hx=>aE7 Aaa)).w ED al4 Aaa).at,qZ⟩):P:=h
theorem auO.AaT(h:P:=by
 refine dS Aab (λz hz=>?_);have wC:=Hq (HS.below hz hg);clear hz x0 x1 y0 y1 y2 y3 y4 y5 y6 y7 y8 y9 y10 HS mW;go_simp;cases hbo:bo
 .have hno:OK=false:=by rw [aGI];intro hy;have:=(HG.1 hy).2.2;rw [hbo] at this;cases this
  subst hbo;go_wp2_with fail;refine(HF _ wC.rd).mono ?_;rintro e w9 ⟨rfl,rfl⟩;go_wp2_with fail;exact⟨rfl,.inr ⟨hno,_,rfl⟩,wC.keep⟩
 .have hyes:OK=true:=HG.2 ⟨HES,HYE.2,hbo⟩;subst hbo;have aAl:=Hq hyes;clear hyes;have hzo:=cK wC.op;have hlo:=wC.lo;obtain⟨⟨c0,c1,c2,c3,c4,c5,c6,c7,c8,c9,c10⟩,_⟩:=aJ wC.op;obtain⟨⟨d0,d1,d2,d3,d4,d5,d6,d7,d8,d9,d10⟩,f0,f1,f2,f3,f4,f5,f6,f7,f8,f9,f10⟩:=aJ wC.res;go_wp2_with fail;refine iw (λW' hW'=>?_);obtain⟨⟨r0,r1,r2,r3,r4,r5,r6,r7,r8,r9,r10⟩,_⟩:=aJ (show W'.heap[w.heap.size]?=some (.cells (bJ (s[0].toNat:Int) N1 TX N2 mK mF mT mI mL mk mN) 73 (0,0)) by rw [hW'];exact lF wC.res)
  have vU:dJ g w W':=by
   rw [hW'];exact(((((((((((wC.keep.setNew (aEM _)).setNew (aEM _)).setNew (aEM _)).setNew (aEM _)).setNew (aEM _)).setNew (aEM _)).setNew (aEM _)).setNew (aEM _)).setNew (aEM _)).setNew (aEM _)).setNew (aEM _))
  exact aET (v:= .agg (bJ (s[0].toNat:Int) N1 TX N2 mK mF mT mI mL mk mN)) (by simp[results,results212,go_sem,r0,r1,r2,r3,r4,r5,r6,r7,r8,r9,r10]) rfl ⟨.inl ⟨aAl,rfl⟩,vU⟩):P:=h
theorem auP.AaT(h:P:=by
 refine dS Aab (λz hz=>?_);have uy:=Hq (iK.trans (hz.mono iK.size));exact AaD):P:=h
theorem auQ.AaT(h:P:=by
 refine dS Aab (λz hz=>?_);have HZ:=Hq ((au w (.cells (bQ mK mF mT mI mL mk mN) 70)).trans (hz.mono Aac));clear hz y0 y1 y2 y3 y4 y5 y6 y7 y8 z1 z2 SE;go_simp;go_wp2_with fail;go_ret;exact⟨rfl,HZ⟩):P:=h
theorem ag4(h:P:=by
 have HID:Hid ((takeN n o.m).1.id=n.id):=by
  exact axv
 have HSY:=Hq (λW A G c n' (hW:WK w0 W wb n' A G c v L)=>Xp w0 W wb n' A G c v L ⟨2,n'.id,o.m.F,o.m.I,0,ByteArray.empty,0⟩ Aac Aaa hW);rw [ah HR];exact AdP):P:=h
theorem auR.AdP(h:P:=by
 unfold XY;rw [<-ah HID];open anC in exact awF):P:=h
theorem auS.AdP(h:P:=by
 open anD in exact awF):P:=h
theorem ag5(h:P:=by
 refine I9 23 ?_;refine tk [0,1,2,3,4,5,6,7,8,9,10,11,12,13,14,15,16,17,18,19,20,21,22] ?_;iterate 23 (refine iO (λK hK=>?_);go_simp;refine hK _ ?_;clear hK K)
 refine jf ?_;refine dS Aab (λz hz=>?_);exact AdO):P:=h
theorem auT.AdO(h:P:=by
 have HZ:=Hq (HW1.step hz);clear hz y1;go_simp;go_wp2_with fail;go_ret;exact⟨rfl,A,G,c,HZ⟩):P:=h
theorem auU.AdO(h:P:=by
 have HZ:=Hq ((au w (.cells (bQ mK mF mT mI mL mk mN) 70)).trans (hz.mono Aac));clear hz y4 z3 z5 z6 x1 hlen;go_simp;go_wp2_with fail;go_ret;exact⟨rfl,HZ⟩):P:=h
theorem ag6(h:P:=by
 have hlit:(w.alloc (.cells #[] e)).ownsRow w.heap.size e sz (.slice (some ⟨w.heap.size,0,none⟩) 0 0) 0 []:=aFw (base:=w.heap.size) (e:=e) (size:=sz) w #[] 0 (aEM _) Aaj Aac;exact AdT):P:=h
theorem auV.AdT(h:P:=by
 exact⟨some ⟨w.heap.size,0,none⟩,0,w.alloc (.cells #[] e),λty=>oV (w.alloc (.cells #[] e)) w.heap.size t ty e i sz ht hi _ 0 [] hlit a c,hlit,au w _,λ_=>rfl⟩):P:=h
theorem auW.AdT(h:P:=by
 by_cases hl0:l.length=0
 .have hn:l=[]:=aFg hl0;subst hn;refine⟨some ⟨w.heap.size,0,none⟩,0,w.alloc (.cells #[] e),λty=>oV (w.alloc (.cells #[] e)) w.heap.size t ty e i sz ht hi _ 0 [] hlit a c,hlit,au w _,⟨_,rfl⟩,aEM _⟩
 .obtain⟨v',w',hr,ho,hg,_⟩:=qJ (P:=P) hs hz (w.alloc (.cells #[] e)) w.heap.size t 0 e i z bytes ht hi hz0 hsize hby hzs _ 0 [] hlit a l c (GR.At.below ha (au w _)) h1 Aaa (by rw [aFz];exact hbytes) Aac;rw [aFz,aF0] at ho;obtain⟨a',c',rfl,_⟩:=GR.own_at (enc:=enc) (sz:=sz) hs ho;refine⟨a',c',w',λty=>hr,ho,(au w _).grown hg Aac (λk hk=>Acv),?_⟩;rcases ho.2 with⟨_,hn⟩|⟨g,cap,cur,hv,_,_,hnc,_⟩
  .omega
  .grind):P:=h
theorem ag7(h:P:=by
 have HAT:=Hq (λW'' (ho:yh w W' W'')=>((BL.kc (k:=9) (KC.keeps fq (λx hx=>by have:x=w.heap.size+2:=Aag;rw [this];exact CY)) Aaa).kc (k:=9) (ho.kc (λx hx=>HC9 x Aaa)) Aaa).rm);exact AdR):P:=h
theorem auX.AdR(h:P:=by
 have ED:=Hq (λW'' (ho:yh w W' W'')=>Ti (c:=c) (w:=w) HMZ (ho.out0 HC9) hmb);have qZ:Hid (aH w W'):=jI.trans (fq.below (λx hx=>by have:x=w.heap.size+2:=Aag;omega) jI.size);obtain⟨x0,x1,x2,x3,x4,x5,x6,x7,x8⟩:=nine HRZ;clear fq;exact AdJ):P:=h
theorem auY.AdR(h:P:=by
 have qZ:Hid (aH w W'):=jI.trans (fq.below (λx hx=>by have:x=w.heap.size+2:=Aag;omega) jI.size);clear e4 fq;exact⟨A1,some ⟨w.heap.size+1+1+1,0,none⟩,0,rfl,HAT,λW'' _ i hi=>Aat,qZ⟩):P:=h
theorem ag8(h:P:=by
 clear h1 HST zC JN;refine aE0 Aab Aab ?_;repeat (first|go_big_quiet_step ((first|(go_at_call 192;exact cS _ _)))|quiet_step ((first|(go_at_call 192;exact cS _ _))))
 exact Aea):P:=h
theorem auZ.Aea(h:P:=by
 open avN in exact VU):P:=h
theorem au0.Aea(h:P:=by
 exact ahN):P:=h
theorem ag9(h:P:=by
 obtain⟨k,y,hk,rfl,rfl,hy,hall,hblk,hbel⟩:=hrel;have jr:=Hq hall;have HY:=Hq hy;have aY:=Hq hbel;have Hu:=Hq hblk;exact Ady):P:=h
theorem au1.Ady(h:P:=by
 have hy0:0<=y:=by rw [hy];exact HLB k hall
 clear hall hy hblk hbel;by_cases hlt:k < out.length
 case' neg=>
  open aqb in exact aa4
 obtain⟨g,off,e0,hgw,q0,q1,q2,q3⟩:=SentAt.four (HA.below aY).o k hlt;(try dsimp only at e0 q0 q1 q2 q3)
 subst e0;have HBAD:Hid (gV KB RR (out.take (k+1))=false->TT=false):=λh=>mW.trans (yt _ h)
 have iE:Hid (gV KB RR (out.take (k+1))=(KB out[k]&&decide (y < (out[k]).i))):=by
  exact aiN
 have zL:=Hq (zy k hlt);have DC:=Hq (Vp out[k]);clear jJ zy yt Vp HLB;generalize out[k]=sk at *;generalize KB sk=OB at *;obtain⟨si,st,sx,sn⟩:=sk;dsimp only at q0 q1 q2 q3 iE zL DC;obtain⟨bb,hbb⟩:∃bb,(!(decide (y < si)&&decide (si < next)&&NN st&&keyOk sx.data.toList&&fH sn))=bb:=⟨_,rfl⟩;have eT:=Hq hbb
 have BD:Hid (gV KB RR (out.take (k+1))= !bb):=by
  rw [ah iE,<-ah eT,ah DC,Bool.not_not]
  have e1:(decide (1<=si/\si<=next - 1)&&decide (y < si))=(decide (y < si)&&decide (si < next)):=by
   rw [aF2];simp only[aES,aFa];omega
  rw [<-e1];generalize decide (1<=si/\si<=next - 1)=z1;generalize decide (y < si)=z2;generalize NN st=z3;generalize keyOk sx.data.toList=z4;generalize fH sn=z5;cases z1<;>cases z2<;>cases z3<;>cases z4<;>cases z5<;>exact Hq rfl
 clear hbb iE DC;go_upto_region 7 with fail;refine wp_at (λW1 hW1=>?_);have HW1:Hid (W1.heap[wr.heap.size]?=some (.cells (gI si st sx sn) 145 (0,0))):=Abz
 open anB in exact aeG):P:=h
theorem au2.Ady(h:P:=by
 have hy0:old<=y:=by rw [hy];exact HLB k hall
 clear hall hy hblk hbel;by_cases hlt:k < reqs.length
 case' neg=>
  have hke:k=reqs.length:=Aaa
  subst hke;have hnlt:decide ((reqs.length:Int) < (reqs.length:Int))=false:=Aac
  exact akn
 obtain⟨g,off,e0,hgw,q0,q1,q2,q3⟩:=fT.four (HA.below aY).r k hlt;(try dsimp only at e0 q0 q1 q2 q3)
 subst e0;have HBAD:Hid (gV KB RR (reqs.take (k+1))=false->TT=false):=λh=>mW.trans (yt _ h)
 have iE:Hid (gV KB RR (reqs.take (k+1))=(KB reqs[k]&&decide (y < (reqs[k]).no))):=by
  exact aiN
 have zL:=Hq (zy k hlt);have DC:=Hq (Vp reqs[k]);clear jJ zy yt Vp HLB;generalize reqs[k]=sk at *;generalize KB sk=OB at *;obtain⟨si,sx,sn,st⟩:=sk;dsimp only at q0 q1 q2 q3 iE zL DC;obtain⟨bb,hbb⟩:∃bb,(!(decide (y < si)&&rA si&&keyOk sx.data.toList&&fH sn&&decide (0<=st)&&decide (st<=2)))=bb:=⟨_,rfl⟩;have eT:=Hq hbb
 have BD:Hid (gV KB RR (reqs.take (k+1))= !bb):=by
  rw [ah iE,<-ah eT,ah DC,Bool.not_not]
  have e1:(decide (old+1<=si/\si<=1000000000)&&decide (y < si))=(decide (y < si)&&rA si):=by
   rw [aF2];unfold rA;simp only[aES,aFa];omega
  have e2:decide (0<=st/\st<=2)=(decide (0<=st)&&decide (st<=2)):=by
   rw [aF2];simp only[aES,aFa]
  rw [<-e1,e2];generalize decide (old+1<=si/\si<=1000000000)=z1;generalize decide (y < si)=z2;generalize decide (0<=st)=z3;generalize decide (st<=2)=z6;generalize keyOk sx.data.toList=z4;generalize fH sn=z5;cases z1<;>cases z2<;>cases z3<;>cases z4<;>cases z5<;>cases z6<;>exact Hq rfl
 clear hbb iE DC;go_upto_region 7 with fail;refine wp_at (λW1 hW1=>?_);have HW1:Hid (W1.heap[wr.heap.size]?=some (.cells (gT si sx sn st) 148 (0,0))):=Abz
 open anA in exact aeG):P:=h
theorem aaT(h:P:=by
 refine tk [0,1,2,3,4,5,6,7,8,9,10,11,12,13,14,15,16] ?_;iterate 17 (refine iO (λK hK=>?_);go_simp;refine hK _ ?_;clear hK K)
 refine jf ?_;exact AcG):P:=h
theorem au3.AcG(h:P:=by
 clear y1 y4 z2 z3;refine dG 17 rfl Aab Aad (λx hx=>?_);go_simp;have jI:=Hq ((au w (.cells (bJ K no k nn mK mF mT mI mL mk mN) 73)).trans (hx.mono Aac));clear hx;refine(HMI x jI).mono ?_;rintro e y ⟨a,cp,g,hg,rfl,hp,hby⟩;refine⟨hby,?_⟩;have JF:=Hq (jI.trans (hby.mono jI.size));have HST:=Hq (λz (hz:Ge y z)=>Xi (cp:=cp) HW (JF.trans (hz.mono JF.size)) (aEP jI.size hg) (hp.below hz));clear hby hg hp HMI;refine tk [18,19] ?_;open auK in exact ET):P:=h
theorem au4.AcG(h:P:=by
 clear y1 z2 z3;refine aU Aab (λx hx=>?_);have JM:=Hq (Iq x c v (HW1.step hx));clear hx;refine an 17 ?_;go_simp;refine JM.mono ?_;rintro e y ⟨rfl,A',G',c',v',hY⟩;have HY:=Hq hY;clear hY JM;refine an 18 ?_;go_simp;refine an 19 ?_;go_simp;refine ad ?_;go_simp;cases gb
 all_goals
  go_wp2_with fail
  go_ret
  exact⟨rfl,A',G',c',v',HY⟩):P:=h
theorem au5.AcG(h:P:=by
 clear y4 z3 z5 z6 x1;refine dG 17 rfl Aab Aad (λx hx=>?_);go_simp;have jI:=Hq ((au w (.cells (bQ mK mF mT mI mL mk mN) 70)).trans (hx.mono Aac));have HXP:=Hq (aj wu hx);clear hx;refine(HGN x jI).mono ?_;rintro e y ⟨a,cp,g,hg,rfl,hp,hby⟩;refine⟨hby,?_⟩;have JF:=Hq (jI.trans (hby.mono jI.size));have HYP:=Hq (aj HXP hby);have HST:=Hq (λz (hz:Ge y z)=>Xh (cp:=cp) HW.wk (JF.trans (hz.mono JF.size)) (aEP jI.size hg) (hp.below hz));clear hby hg hp HGN;refine tk [18,19] ?_;open auM in exact ET):P:=h
theorem aaU(h:P:=by
 clear hW;obtain⟨x0,x1,x2,x3,x4,x5,x6,x7,x8,x9,x10⟩:=Eo hX;obtain⟨y0,y1,y2,y3,y4,y5,y6,y7,y8,y9,y10⟩:=Eo hY;clear hX hY;exact Ab6):P:=h
theorem au6.Ab6(h:P:=by
 exact Zk7):P:=h
theorem au7.Ab6(h:P:=by
 exact axw):P:=h
theorem au8.Ab6(h:P:=by
 by_cases hno:no=0
 case' neg=>
  have hno':¬(0:Int)=no:=λe=>hno e.symm
  go_wp2_with fail;go_ret;exact⟨aF (by rw [ah HP];simp[lU,hno]),iK⟩
 subst hno;exact AcV):P:=h
theorem aaV(h:P:=by
 go_in
 go_wp2_with (go_at_call 123;refine(HS _).mono ?_;rintro e w1 ⟨rfl,hb1⟩;simp only[wH])
 go_ret2
 exact AbN):P:=h
theorem au9.AbN(h:P:=by
 exact⟨rfl,hb1⟩):P:=h
theorem ava.AbN(h:P:=by
 exact⟨by rw [ah HR];simp[Ev],hb1⟩):P:=h
theorem avb.AbN(h:P:=by
 exact⟨by rw [ah HR];rfl,hb1⟩):P:=h
theorem aha(h:P:=by
 clear HR;clear hk hn;go_in
 go_wp2_with (first|(go_at_call_of 190 k;refine(HK _).mono ?_;rintro e w1 ⟨rfl,rfl⟩)|(go_at_call_of 170 n;refine(HN _).mono ?_;rintro e w1 ⟨rfl,rfl⟩))
 exact Ad2):P:=h
theorem avc.Ad2(h:P:=by
 go_region
 go_upto_region 23 with fail;open atV in exact VR):P:=h
theorem avd.Ad2(h:P:=by
 go_ret;exact⟨aF (by rw [ah HP];simp),by first|exact jF w _ _|exact Below.setNew (jF w _ _) Aaa⟩):P:=h
theorem ahb(h:P:=by
 clear ha he hks hok hb0 hd1 hd2 hd3 hkk;go_in
 go_wp2_with fail;refine HOF.mono ?_;rintro e w1 ⟨mp,mb,v,rfl,Ih,hb1⟩;have HB1:=Hq (Fo.one_block hb1).2.2;exact AdW):P:=h
theorem ave.AdW(h:P:=by
 have ve:=(HE.below HB1).var 2 Aaa;clear hb1 Ih HOF;go_wp2_with (first|(go_at_call 190;refine(HK _).mono ?_;rintro e w2 ⟨rfl,rfl⟩)|(go_at_call 170;refine(Lf _).mono ?_;rintro e w2 ⟨rfl,rfl⟩))
 go_quiet (fail);go_wp2_with fail;go_ret2
 exact⟨HB1.trans ⟨rfl,rfl,rfl,aEM _,λ_ _=>rfl⟩,.inl ⟨by rw [ah HAD],_,Aaa,rfl⟩⟩):P:=h
theorem avf.AdW(h:P:=by
 have ve:=(HE.below HB1).var 1 Aaa;clear hb1 Ih HOF;go_wp2_with (go_at_call 190;refine(HK _).mono ?_;rintro e w2 ⟨rfl,rfl⟩)
 go_quiet (fail);go_wp2_with fail;go_ret2
 exact⟨HB1.trans ⟨rfl,rfl,rfl,aEM _,λ_ _=>rfl⟩,.inl ⟨HAD,_,Aaa,rfl⟩⟩):P:=h
theorem ahc(h:P:=by
 go_in
 go_wp2_with fail;refine HG.mono ?_;rintro e w1 ⟨rfl,hb1⟩;clear hr HG;go_upto_region 7 with fail;refine wp_at (λV hV=>?_);obtain rfl:=hV;have wY:=Hq hb1;clear hb1;exact Ad8):P:=h
theorem avg.Ad8(h:P:=by
 have hcc:=λd os=>HCC (Sort.grow (redrawn V d) os) (Ge.trans wY (aFe V d os))
 refine I9 10 ?_;refine tk [0,1,2,3,6,7] ?_;iterate 6 (refine iO (λK hK=>?_);go_simp;refine hK _ ?_;clear hK K)
 refine jf ?_;refine eZ 4 rfl Aab Aad (λx hx=>?_);go_simp;refine(HS _).mono ?_;rintro e y ⟨g2,rfl,hg2,hblk,hby⟩;refine⟨hby,?_⟩;have JF:=Hq (Ge.trans (Ge.trans wY hx) hby);have hgy:=cK hblk;obtain⟨c0,c1,c2,c3⟩:=LC hblk;have hcv:=λd os=>HCV (Sort.grow (redrawn y d) os) g2 (aEL c0 d os) (aEL c1 d os) (aEL c2 d os) (aEL c3 d os)
 clear hx hby hblk c0 c1 c2 c3 HCV wY HS hcc HCC hg2;refine tk [5,8,9] ?_;iterate 3 (refine iO (λK hK=>?_);go_simp;refine hK _ ?_;clear hK K)
 refine jf ?_;refine dS Aab (λx2 hx=>?_);have uy:=Hq (Ge.trans JF hx);clear hx JF hcv;go_simp;go_wp2_with fail;exact AaG):P:=h
theorem avh.Ad8(h:P:=by
 refine I9 10 ?_;refine tk [0,1,2,3,4,5,6,7,8,9] ?_;iterate 10 (refine iO (λK hK=>?_);go_simp;refine hK _ ?_;clear hK K)
 refine jf ?_;refine dS Aab (λx hx=>?_);have uy:=Hq (Ge.trans wY hx);clear hx wY;go_simp;go_wp2_with fail;exact aET (v:= .tuple #[.string ⟨#[]⟩,.int .i64 (-1)]) Acj rfl ⟨rfl,uy⟩):P:=h
theorem VT(h:P:=by
 subst e0;have ED:=Hq (λz w1 (hz:z=((m+2:Nat):Int))=>kH (m+2) z w1 hz Aaa Aaa);exact AbG):P:=h
theorem avi.AbG(h:P:=by
 have HMU:=Hq (λz w1 (hz:z=((m+9:Nat):Int))=>kH (m+9) z w1 hz Aaa Aaa);clear hm;open aot in exact aeH):P:=h
theorem avj.AbG(h:P:=by
 exact akd):P:=h
theorem avk.AbG(h:P:=by
 have HMU:=Hq (λz w1 (hz:z=((m+9:Nat):Int))=>kH (m+9) z w1 hz Aaa Aaa);have HML:=Hq hml;clear hm hml hfl;open aou in exact aeH):P:=h
theorem avl.AbG(h:P:=by
 open ao9 in exact aeI):P:=h
theorem ahd(h:P:=by
 go_in
 go_wp2_with (first|(go_at_call 121;refine(nQ _ true _ h1).mono ?_;rintro e w1 ⟨rfl,rfl⟩)|(go_at_call 47;refine(yT _ _ _ true _ h2).mono ?_;rintro e w1 ⟨rfl,rfl⟩))
 exact AcX):P:=h
theorem avm.AcX(h:P:=by
 go_loopw [3] (λi wr=>∃k:Nat,k<=kids.length/\i= .int .i64 k/\gV (kE id par) iL (kids.take k)=true/\wr.heap[w.heap.size]?=some (.cells (dH ⟨id,par,kids,next,pu,out,seen,old,reqs⟩ ⟨ak,ap,ao,as',ar,ck,cp,co,cs,cr⟩) 39 (0,0))/\aH w wr) (λi _=>kids.length - (intOf i).toNat)
 case atStart=>exact⟨0,aE1 _,rfl,rfl,aEK w _,au w _⟩
 case round=>
  open aqR in exact aeK):P:=h
theorem avn.AcX(h:P:=by
 exact xW):P:=h
theorem ahe(h:P:=by
 have cO:∀d os,Calls prog 188 #[yc ⟨pk,pm,pf,ps⟩] (Sort.grow (redrawn V d) os) λe w''=>e= .returned (.bool false)/\∃p:Regrown,w''=Sort.grow (redrawn V p.d) p.os:=λd os=>aFk (HO _)
 exact Adl):P:=h
theorem avo.Adl(h:P:=by
 open auA in exact OM):P:=h
theorem avp.Adl(h:P:=by
 exact axH):P:=h
theorem ahf(h:P:=by
 have cO:∀d os,Calls prog 188 #[yc ⟨pk,pm,pf,ps⟩] (Sort.grow (redrawn V d) os) λe w''=>e= .returned (.bool true)/\∃p:Regrown,w''=Sort.grow (redrawn V p.d) p.os:=λd os=>aFk (HO _)
 exact AdL):P:=h
theorem avq.AdL(h:P:=by
 exact AeC):P:=h
theorem avr.AdL(h:P:=by
 open auB in exact OM):P:=h
theorem ahg(h:P:=by
 have hlit:(w.alloc (.cells #[] 155)).ownsRow w.heap.size 155 4 (.slice (some ⟨w.heap.size,0,none⟩) 0 0) 0 []:=aFw (base:=w.heap.size) (e:=155) (size:=4) w #[] 0 (aEM _) Aae rfl;exact Aef):P:=h
theorem avs.Aef(h:P:=by
 cases a with
 |none=>
  have hl0:l=[]:=GR.none_nil ha;subst hl0;clear ha hlit;go_in
  exact Te
 |some x=>
  have HN:=Hq (aG.news (GR.At.below ha (dP w (.cells #[] 155))));clear ha;go_in
  open aqM in exact aw4):P:=h
theorem avt.Aef(h:P:=by
 cases a with
 |none=>
  obtain⟨h1,h2⟩:=hn rfl;have hl0:l=[]:=aFg h1;subst hl0 h2;go_in
  go_wp2_with (at_builtin;refine wpList_append_own_none rfl _ _ 34 rfl w.heap.size 155 i0 4 underlying34 hi _ 0 [] rfl hlit rfl ?_)
  go_ret;exact⟨_,rfl,(by intro h;cases h),hlit,dP w _⟩
 |some x=>
  have HN:=Hq (aG.news (GR.At.below ha (dP w (.cells #[] 155))));clear ha;go_in
  open aqN in exact aw4):P:=h
theorem ahh(h:P:=by
 clear h1 h2;go_in
 go_wp2_with (first|(go_at_call_of 187 F;refine(H1 _).mono ?_;rintro e w1 ⟨rfl,rfl⟩)|(go_at_call_of 187 T;refine(H2 _).mono ?_;rintro e w1 ⟨rfl,rfl⟩))
 exact Adr):P:=h
theorem avu.Adr(h:P:=by
 go_ret;exact⟨aF (by first|exact HP.symm|exact he.trans HP.symm),au w _⟩):P:=h
theorem avv.Adr(h:P:=by
 exact xW):P:=h
theorem ahi(h:P:=by
 refine wp_at (λW1 hW1=>?_);have HW1:Hid (W1.heap[wr.heap.size]?=some (.cells #[.int .i64 fr,.int .i64 lo,.slice b ids.length c] 130 (0,0))):=Abz
 exact Adx):P:=h
theorem avw.Adx(h:P:=by
 open anx in exact aeG):P:=h
theorem avx.Adx(h:P:=by
 have hbw:aH wr W1:=by rw [hW1];exact au wr _
 have al1:=Hq (jI.trans (hbw.mono jI.size));have HI1:=Hq (GR.At.below HI hbw);have p1:=(hbw.cell (p:=⟨g2,off2+k,none⟩) akS).trans p0;have oF:=Hq (aY.trans (hbw.mono aY.size));clear hW1 hbw q0 q1 q2 p0 HI;obtain⟨d0,d1,d2⟩:=three HW1;have m0:=cell_grown' d0;have m1:=cell_grown' d1;have m2:=cell_grown' d2;have m3:=cell_grown' p1;by_cases h1:fr=y
 case' neg=>
  have hb1:(fr != y)=true:=Abc
  have HP:=Hq (show TT=false by rw [ah HD,aEN (ah zC h1)];rfl);clear h1 HST zC JN;refine aE0 Aab Aab ?_;repeat (first|go_big_quiet_step (fail)|quiet_step (fail))
  exact ahN
 have hb1:(fr != y)=false:=Abc
 cases h2:vX ⟨fr,lo,ids⟩
 case' false=>
  have HP:=Hq (show TT=false by rw [ah HD,ah JN h2];simp)
  have cS:=aji ⟨fr,lo,ids⟩ b c false W1 xY HI1 h2
  open au0 in exact ag8
 have HG:=Hq (HST h1 h2);have cS:=aji ⟨fr,lo,ids⟩ b c true W1 xY HI1 h2;open auZ in exact ag8):P:=h
theorem ahj(h:P:=by
 rw [e1] at e2;injection e2 with e2
 injection e2 with e2 e3
 subst e2 e3 e1;have hgt:decide ((0:Int) < ((j+1:Nat):Int))=true:=aEO Aaa;exact Ac8):P:=h
theorem avy.Ac8(h:P:=by
 have iE:Hid (gV (D7 lo) iL (ids.take (j+1+1))=(D7 lo ids[j+1]&&iL ids[j] ids[j+1])):=by
  have h:=wD (D7 lo) iL ids j hlm;rw [ah alU] at h;exact h
 clear Sg;generalize ids[j]=y at *;generalize ids[j+1]=x at *;cases h1:decide (lo<=x/\x<=1000000000)
 case' false=>
  exact ai5
 by_cases h2:y < x
 case' neg=>
  have hy:decide (x<=y)=true:=aEO Aaa;have HV:=Hq (HBM (by rw [ah iE];simp[iL,h2]));exact axC
 have hy:decide (x<=y)=false:=aEN Aaa;have HV:=Hq (show gV (D7 lo) iL (ids.take (j+1+1))=true by rw [ah iE];simp[D7,h1,iL,h2]);open aoR in exact aj0):P:=h
theorem avz.Ac8(h:P:=by
 have iE:Hid (gV (kE id par) iL (kids.take (j+1+1))=(kE id par kids[j+1]&&iL kids[j] kids[j+1])):=by
  have h:=ah Ey j hlt;rw [ah jr] at h;exact h
 clear Oo Ey yt;generalize kids[j]=y at *;generalize kids[j+1]=x at *;open atZ in exact agY):P:=h
theorem ahk(h:P:=by
 have hke:k=n.out.length:=Aaa
 subst hke;have hnlt:decide ((n.out.length:Int) < (n.out.length:Int))=false:=Aac
 exact Adw):P:=h
theorem avA.Adw(h:P:=by
 go_wp2_with fail;go_ret;have hS:=ah zB;rw [aFd] at hS;exact⟨rfl,cc,vv,hS⟩):P:=h
theorem avB.Adw(h:P:=by
 have qx:=Hq (aj mZ iK);have HN3:=Hq (Hy.kc (k:=9) (KC.of_below iK) Aaa);have HB3:=Hq (HB2.trans (iK.mono HB2.size));have h2r:=ay mZ;clear hlt hk HNK HFS HFN HF0 pJ iK ku BK mZ Hy HB2;have f5n:=aC sG 5;go_upto_region 14 with fail;refine wp_at (λZ hZ=>?_);have DJ:Hid (Z.heap[w.heap.size]?=some (.cells (vW n.id n.par A.k n.kids.length A.ck n.next A.p n.pu.length A.cp a (FL n.out.length).length cp A.s n.seen.length A.cs n.old A.r n.reqs.length A.cr) 39 (0,0))):=by rw [hZ];exact Dl sG
 have SA:Hid (Z.heap[w.heap.size+2]?=some (.cells kR 39 (0,0))):=by rw [hZ];exact jg qx Aaa
 have HN4:Hid (NQ Z B n A G (newC w.heap.size 9 c)):=by rw [hZ];exact HN3.kc (k:=9) (KC.set (aX (aEM _))) Aaa
 have HO4:Hid (Z.ownsRow W2.heap.size 145 4 (.slice a (FL n.out.length).length cp) (FL n.out.length).length (GR.flat aM (FL n.out.length))):=by rw [hZ];exact dD HO (aA.set _) (λy hy=>by have:y=w.heap.size:=Aar;omega)
 have mQ:Hid (Below B w Z):=by rw [hZ];exact(HB3.mono hB).setCell (p:=⟨w.heap.size,5,none⟩) hB _
 have HK4:Hid (Apart c w Z):=by rw [hZ];exact(Apart.of_below HB3).keeps HB3.size (aA.set _) (λy hy=>by have:y=w.heap.size:=Aar;omega)
 clear hZ f5n c0 c1 c2 c3 c4 c5 c6 c7 c8 m0 m1 m2 m3 m4 m5 m6 hml hnl sG Xv qx HN3 HB3 HO;have xU:=Hq (aj SA (au Z (.cells #[] 70)));have vT:=Hq (mQ.trans ((au Z (.cells #[] 70)).mono (aEP hB mQ.size)));have HKA:=Hq (HK4.step mQ.size (au Z (.cells #[] 70)));have N8:=Hq (HN4.kc (k:=9) (KC.of_below (au Z (.cells #[] 70))) Aaa);have HOA:=Hq (GR.own_below HO4 (au Z (.cells #[] 70)));obtain⟨c0,c1,c2,c3,c4,c5,c6,c7,c8⟩:=nine DJ;obtain⟨⟨d0,d1,d2,d3,d4,d5,d6,d7,d8⟩,f0,f1,f2,f3,f4,f5,f6,f7,f8⟩:=iM xU;have hnl:=ay DJ;have hrl:=ay xU;go_wp2_with fail;refine eH (u1:= .slice (some ⟨Z.heap.size,0,none⟩) 0 0) (u2:= .int .i64 0) results131 rfl rfl rfl rfl xU (λW' e4 fq=>?_)
 have HAT:=Hq (λW'' (ho:Out c w W' W'')=>(show RM W'' ⟨A.k,A.p,a,A.s,A.r,A.ck,A.cp,cp,A.cs,A.cr⟩ (setOut n (FL n.out.length)) from by
  have kF:KC (newC w.heap.size 9 c) 9 (Z.alloc (.cells #[] 70)) W'':=(KC.keeps fq (λy hy=>by have:y=w.heap.size+2:=Aar;rw [this];exact aX Aaa)).trans (KC.out H9 ho)
  have hoF:W''.ownsRow W2.heap.size 145 4 (.slice a (FL n.out.length).length cp) (FL n.out.length).length (GR.flat aM (FL n.out.length)):=by
   obtain⟨F,hk,hF⟩:=ho;exact(dD (dD HOA fq (λy hy=>by have:y=w.heap.size+2:=Aar;omega)) hk (λy hy=>by have:=(hF y hy).1;omega))
  have h5:=N8.kc (k:=9) kF Aaa
  exact NQ.put h5 h5 (setOut n (FL n.out.length)) ⟨A.k,A.p,a,A.s,A.r,A.ck,A.cp,cp,A.cs,A.cr⟩ rfl rfl rfl rfl h5.p.at (λg' hg' hp'=> .inl (h5.cpB h5 g' hg' hp')) hoF (λy hy=> .inr (by have h1:=vw hoF hy;rw [aX Aaa];omega)) h5.r (λy hy=> .inl (h5.cr y hy))
   (λg' hg' hp' h6=>by have:=h5.cpB h5 g' hg' hp';omega) (λy hy h6 e=>by have:=h5.cr y e;omega)))
 open atl in exact agQ):P:=h
theorem ahl(h:P:=by
 rw [Mth.take_all s k hlt] at HA;have HF:Hid (Mth.keyOk s.data.toList=decide (1<=s.data.toList.length/\s.data.toList.length<=10)):=Mth.keyOk_all _ HA;rw [aZ s] at HF;exact Ad7):P:=h
theorem avC.Ad7(h:P:=by
 by_cases hin:(1:Int)<=(s.size:Int)/\(s.size:Int)<=10
 .obtain⟨hi1,hi2⟩:=hin;exact ahB
 .exact ahB):P:=h
theorem avD.Ad7(h:P:=by
 go_wp2
 go_ret;exact⟨aF (by rw [ah HF];simp;omega),rfl⟩):P:=h
theorem ahm(h:P:=by
 generalize l[k]=pu at *;have mW:=Hq (λw1=>FJ pu w1 hkk);clear hkk;obtain⟨pk,pm,pf,ps⟩:=pu;exact AeA):P:=h
theorem avE.AeA(h:P:=by
 dsimp only at c0 c1 c2 c3 hf;go_wp2_with fail;refine(mW _).mono ?_;rintro e w1 ⟨rfl,hb1⟩;have hb2:=aY.trans ((Below.mono (Fo.one_block hb1).2.2 aY.size));have hB:w1.heap[w.heap.size]?=some (.cells (iR ⟨#[]⟩ 0 0 0) 155 (0,0)):=by rw [(Fo.one_block hb1).2.2.block _ afk];exact Hu
 have HB:=Hq hB;have HB2:=Hq hb2;obtain⟨⟨r0,r1,r2,r3⟩,s0,s1,s2,s3⟩:=fP hB;clear hB hb1 hb2;go_wp2_with fail;clear r0 r1 r2 r3;refine Fo.bodyPost_at (λW' hW'=>?_);obtain⟨⟨r0,r1,r2,r3⟩,_⟩:=fP (show W'.heap[w.heap.size]?=some (.cells (iR pk pm pf ps) 155 (0,0)) by rw [hW'];exact Fo.four_set HB);have hbb:aH w W':=by rw [hW'];exact Fo.four_below HB2 (aEM _)
 refine aET (v:= .agg (iR pk pm pf ps)) (by simp[results,results244,go_sem,r0,r1,r2,r3]) rfl ⟨by rw [ah HX],hbb⟩):P:=h
theorem avF.AeA(h:P:=by
 dsimp only at q0 q1 q2 q3;go_wp2_with fail;refine(mW _).mono ?_;rintro e w5 ⟨rfl,hb5⟩;obtain⟨_,_,hb6⟩:=Fo.one_block hb5;have gQ:=Hq (xV.below HB hb6);have fI:=Hq (aY.trans (hb6.mono aY.size));clear hb5 hb6 q0 q1 q2 q3;obtain⟨_,aDT,⟨s0,s1,s2,s3⟩,f0,f1,f2,f3⟩:=xV.four gQ k hlt;go_wp2_with fail;go_roundw
 case rel=>
  have h:=xV.set gQ k ⟨pk,pm,pf,ps⟩ hlt;rw [ah HSE] at h;exact⟨k+1,Aaa,Aaf,h,GR.setW_below (o:=k*4) hg (fu ⟨pk,pm,pf,ps⟩) fI⟩
 case measure=>simp[intOf];omega):P:=h
theorem ahn(h:P:=by
 have HK:=Hq ((dJ.of_below (au w _)).trans hk1);have HR1:=Hq hr1;have HH1:=Hq (PG HH HK hg hge);clear hr1 hk1;go_wp2_with fail;refine(HGM _ HH1).mono ?_;rintro e w2 ⟨rfl,hb2⟩;exact AdA):P:=h
theorem avG.AdA(h:P:=by
 have HR2:=Hq (aI HR hb2);have HA2:=Hq (aI HR1 hb2);have oH:=Hq (HK.trans (dJ.of_below hb2));have hz2:=cK HR2;have hz3:=cK HA2;clear hb2 HR HK HR1 HH1;go_upto_region 7 with fail;refine wp_at (λV hV=>?_);have HMV:Hid (V.heap[w2.heap.size]?=some (.cells (bQ mK mF mT mI mL mk mN) 70 (0,0))):=by rw [hV];exact aEK w2 _
 have HRV:Hid (V.heap[w.heap.size]?=some (.cells (bQ 0 0 0 0 0 ⟨#[]⟩ 0) 70 (0,0))):=by rw [hV];exact aI HR2 (au w2 _)
 have HAV:Hid (jK V g s E):=by rw [hV];exact aI HA2 (au w2 _)
 have HKV:Hid (dJ g w V):=by rw [hV];exact oH.trans (dJ.of_below (au w2 _))
 clear hV HR2 HA2 oH;have BF:=cK HMV;obtain⟨q0,q1,q2,q3,q4,q5,q6⟩:=uF HMV;obtain⟨⟨d0,d1,d2,d3,d4,d5,d6⟩,f0,f1,f2,f3,f4,f5,f6⟩:=eD HRV;go_wp2_with fail;refine iw (λW' hW'=>?_);obtain⟨⟨r0,r1,r2,r3,r4,r5,r6⟩,_⟩:=eD (show W'.heap[w.heap.size]?=some (.cells (bQ mK mF mT mI mL mk mN) 70 (0,0)) by rw [hW'];exact tY HRV);have vU:dJ g w W':=by rw [hW'];exact Dn HKV
 have hRR:jK W' g s E:=by rw [hW'];exact Bj (Ne.symm hg2) HAV
 exact aET (v:= .agg (bQ mK mF mT mI mL mk mN)) Adi rfl ⟨rfl,hRR,vU⟩):P:=h
theorem avH.AdA(h:P:=by
 have HR2:=Hq (aI (aI HR1 hb2) (au w2 (.cells (bQ 0 0 0 0 0 ⟨#[]⟩ 0) 70)));have oH:=Hq (HK.trans (dJ.of_below ((hb2.trans ((au w2 (.cells (bQ 0 0 0 0 0 ⟨#[]⟩ 0) 70)).mono hb2.size)))));clear hb2;go_wp2_with fail;refine(HF _ HR2).mono ?_;rintro e w3 ⟨rfl,rfl⟩;go_wp2_with fail;exact⟨rfl,⟨_,rfl⟩,oH⟩):P:=h
theorem aho(h:P:=by
 have e2:b=g1:=by injection e1 with e1;injection e1 with e1 e2
 have e3:off=o1:=by injection e1 with e1;injection e1 with e1 e2
 subst e2 e3;exact Ac1):P:=h
theorem avI.Ac1(h:P:=by
 have HT:=Hq (aEV hlt);have N9:=Hq (λh2=>(place_at l pk k Aaa jr h2).1);clear s1 s2 s3 e1;cases hbl:Op.bytesLess l[k].k.toList pk.toList with
 |true=>
  clear N9;generalize l[k]=pu at *;obtain⟨qk,qm,qf,qs⟩:=pu;dsimp only at s0 hbl;go_wp2_with fail;go_quiet (fail);go_wp2
  go_roundw
  case rel=>
   refine⟨k+1,_,Aaa,Aaf,?_,rfl⟩;intro x hx;rw [ah HT] at hx;rcases aE6.1 hx with hx|hx
   .exact jr x hx
   .rw [aE3] at hx;subst hx;exact hbl
  case measure=>simp[intOf];omega
 |false=>
  have Sc:=Hq (N9 (λ_=>hbl));clear N9 HT;generalize l[k]=pu at *;obtain⟨qk,qm,qf,qs⟩:=pu;dsimp only at s0 hbl;exact aik):P:=h
theorem avJ.Ac1(h:P:=by
 have hae:=hAe hlt;subst hae;have HF:=Hq hf;have hpos:decide (0 < l.length - place l pk)=true:=aEO Aaa;have aCK:0 < l.length - place l pk:=Aaa
 clear s1 s2 s3 e1 hf hAe hAd;generalize l[place l pk]=pu at *;obtain⟨qk,qm,qf,qs⟩:=pu;dsimp only at s0 HF;cases heq:qk.toList == pk.toList
 all_goals
  go_quiet (fail)
  go_wp2_with fail
  go_meet
  case rel=>exact⟨by rw [ah HF,heq],_,BU w1 _ _⟩):P:=h
theorem ahp(h:P:=by
 rintro e W1 ⟨rfl,hb1⟩;have mU:=Hq (aj HN hb1);have sD:=Hq (aj HR hb1);have HB1:=Hq (HB0.trans (hb1.mono HB0.size));have yu:=Hq (Ik.kc (k:=9) (KC.of_below hb1) Aaa);exact Aep):P:=h
theorem avK.Aep(h:P:=by
 clear hb1 c0 c1 c2 c3 c4 c5 c6 c7 c8 hnl Ow HN HR Ik HB0;exact AbU):P:=h
theorem avL.Aep(h:P:=by
 clear hb1 c0 c1 c2 c3 c4 c5 c6 c7 c8 hnl JK HN HR Ik HB0;exact Ad5):P:=h
theorem VU(h:P:=by
 refine aFs ?_;intro _ hw';obtain⟨⟨dq,osq⟩,hw''⟩:=hw';subst hw'';go_wp2_with fail;exact AbC):P:=h
theorem avM.AbC(h:P:=by
 go_roundw
 case rel=>exact⟨k+1,Aaa,Aaf,aY.trans ((aFe _ dq osq).mono aY.size)⟩
 case measure=>simp[intOf];omega):P:=h
theorem avN.AbC(h:P:=by
 go_roundw
 case rel=>exact⟨k+1,Aaa,Aaf,HG.1,HG.2,al1.trans ((aFe _ dq osq).mono al1.size)⟩
 case measure=>simp[intOf];omega):P:=h
theorem avP.AbC(h:P:=by
 go_ret;exact⟨aF HP.symm,oF.trans ((aFe _ dq osq).mono oF.size)⟩):P:=h
theorem avQ.AbC(h:P:=by
 go_meet
 case rel=>exact yK):P:=h
theorem ahq(h:P:=by
 have HO:=Hq (show w1.ownsRow w.heap.size 155 4 v' l.length (GR.flat fu l) by simpa using hown');have hb:aH w w1:=(dP w _).grown hgrow Aac (λk hk=>Acv);exact Ad4):P:=h
theorem avS.Ad4(h:P:=by
 clear hown' hgrow hlit hnil;go_wp2
 go_ret;exact⟨_,rfl,HNN,HO,hb⟩):P:=h
theorem avU.Ad4(h:P:=by
 clear hown' hgrow hlit;go_wp2
 go_ret;exact⟨_,rfl,HO,hb⟩):P:=h
theorem ahr(h:P:=by
 have g3:decide (yJ ps 0 1000000000)=true:=aEO h3;have hA3:rA ps=true:=aEO h3;have e4:IntKind.i64.wrap (pf+ps)=pf+ps:=IntWalk.i64_in _ ⟨Aaa,Aaa⟩;exact AcS):P:=h
theorem avV.AcS(h:P:=by
 by_cases h4:0<=(pf+ps)/\(pf+ps)<=1000000000
 case' neg=>
  have hA:rA (pf+ps)=false:=aEN h4;have g4:decide (yJ (pf+ps) 0 1000000000)=false:=aEN h4;have g5:=g4;rw [<-e4] at g4;exact aeS
 have g4:decide (yJ (pf+ps) 0 1000000000)=true:=aEO h4;have hA4:rA (pf+ps)=true:=aEO h4;have g5:=g4;rw [<-e4] at g4;have Ez:=Hq (show og l 0=true by rw [ah nU];simp[iB,hkb,hA1,hA2,hA3,hA4]);clear nU hA1 hA2 hA3 hA4;open aBq in exact ajU):P:=h
theorem avW.AcS(h:P:=by
 by_cases h4:0<=(pf+ps)/\(pf+ps)<=1000000000
 case' neg=>
  have hA:rA (pf+ps)=false:=aEN h4;have g4:decide (yJ (pf+ps) 0 1000000000)=false:=aEN h4;have g5:=g4;rw [<-e4] at g4;exact aeR
 have g4:decide (yJ (pf+ps) 0 1000000000)=true:=aEO h4;have hA4:rA (pf+ps)=true:=aEO h4;have g5:=g4;rw [<-e4] at g4;have Ez:=Hq (show og l (j+1)=true by rw [ah nU];simp[iB,hkb,hA1,hA2,hA3,hA4,ah hsl]);clear nU hA1 hA2 hA3 hA4;open aBp in exact ajU):P:=h
theorem ahs(h:P:=by
 go_wp2_with fail;refine(Oc _).mono ?_;rintro e w5 ⟨rfl,hb5⟩;have gQ:=Hq (GR.Blk.stepW HB hb5);have fI:=Hq (aY.trans (hb5.mono aY.size));exact Adp):P:=h
theorem avX.Adp(h:P:=by
 clear hb5 q0 q1 q2 q3 q4 q5 q6;obtain⟨s0,s1,s2,s3,s4,s5,s6⟩:=Lr gQ k Aaa;have f0:=GR.Blk.free gQ (k*7);have f1:=GR.Blk.free gQ (k*7+1);have f2:=GR.Blk.free gQ (k*7+2);have f3:=GR.Blk.free gQ (k*7+3);have f4:=GR.Blk.free gQ (k*7+4);have f5:=GR.Blk.free gQ (k*7+5);have f6:=GR.Blk.free gQ (k*7+6);go_wp2_with fail;go_roundw
 case rel=>
  have h:=GR.Blk.set gQ cZ k Aaa ⟨mK,mF,mT,mI,mL,mk,mN⟩;rw [ah TS] at h;exact⟨k+1,Aaa,Aaf,h,GR.setW_below (o:=k*7) (aEM w.heap.size) (gD ⟨mK,mF,mT,mI,mL,mk,mN⟩) fI⟩
 case measure=>simp[intOf];omega):P:=h
theorem avY.Adp(h:P:=by
 clear hb5 q0 q1 q2 q3 q4 q5 q6 q7 q8 q9 q10 q11;obtain⟨s0,s1,s2,s3,s4,s5,s6,s7,s8,s9,s10,s11⟩:=Dy gQ k Aaa;have f0:=GR.Blk.free gQ (k*12);have f1:=GR.Blk.free gQ (k*12+1);have f2:=GR.Blk.free gQ (k*12+2);have f3:=GR.Blk.free gQ (k*12+3);have f4:=GR.Blk.free gQ (k*12+4);have f5:=GR.Blk.free gQ (k*12+5);have f6:=GR.Blk.free gQ (k*12+6);have f7:=GR.Blk.free gQ (k*12+7);have f8:=GR.Blk.free gQ (k*12+8);have f9:=GR.Blk.free gQ (k*12+9);have f10:=GR.Blk.free gQ (k*12+10);have f11:=GR.Blk.free gQ (k*12+11);go_wp2_with fail;go_roundw
 case rel=>
  have h:=GR.Blk.set gQ aQ k Aaa ⟨⟨oK,Qx,ok,on,⟨mK,mF,mT,mI,mL,mk,mN⟩⟩,ac⟩;rw [ah TS] at h;exact⟨k+1,Aaa,Aaf,h,GR.setW_below (o:=k*12) (aEM w.heap.size) (dQ ⟨⟨oK,Qx,ok,on,⟨mK,mF,mT,mI,mL,mk,mN⟩⟩,ac⟩) fI⟩
 case measure=>simp[intOf];omega):P:=h
theorem aht(h:P:=by
 have hl:=World.lt_of_cell h;have HG:=Hq (show Handle (w.alloc (.cells #[.int .i64 0] 289)) from h.below ((aEY _ _).alloc (aEM _) _));clear h;go_in
 exact AdF):P:=h
theorem avZ.AdF(h:P:=by
 go_wp2_with (go_at_call 268;refine(Po _ w.heap.size (.int .i64 0) _ ⟨_,rfl⟩ (λtg t a old w h1 h2 h3=>akr p tg t a old w h1 h2 h3) HG ?_ ?_).mono ?_;(simp);(simp);rintro e w' ⟨rfl,hbel⟩)
 go_ret;exact⟨rfl,((aEY _ _).alloc (aEM _) _).trans hbel⟩):P:=h
theorem av0.AdF(h:P:=by
 go_wp2_with (go_at_call 268;refine(Po _ w.heap.size (.int .i64 0) _ ⟨_,rfl⟩ (λtg t a old w h1 h2 h3=>akq p tg t a old w h1 h2 h3) HG ?_ ?_).mono ?_;(simp);(simp);rintro e w' ⟨rfl,hbel⟩)
 go_ret;exact⟨rfl,((aEY _ _).alloc (aEM _) _).trans hbel⟩):P:=h
theorem ahu(h:P:=by
 rintro e w5 ⟨rfl,hb1⟩;have gQ:=Hq (aj mQ hb1);have HL5:=Hq (Ij.trans (hb1.mono Ij.size));clear hb1 c0 c1 c2 c3 c4 c5 c6 c7 c8;obtain⟨c0,c1,c2,c3,c4,c5,c6,c7,c8⟩:=nine gQ;exact Ac4):P:=h
theorem av1.Ac4(h:P:=by
 have HP:=Hq (show TT=RQ by rw [ah HD];simp[h1,h2,h3,h4,h5]);clear h1 h2 h3 h4 h5 HD;go_wp2_with fail;go_ret;exact⟨aF HP.symm,HL5⟩):P:=h
theorem av2.Ac4(h:P:=by
 go_wp2_with fail;go_ret;exact⟨mD Aaa,HL5⟩):P:=h
theorem aaW(h:P:=by
 generalize l[k]=pu at *;obtain⟨pk,pm,pf,ps⟩:=pu;dsimp only at c0 c1 c2 c3 hf;go_wp2_with fail;exact Ab3):P:=h
theorem av3.Ab3(h:P:=by
 refine aET (v:= .agg (iR pk pm pf ps)) (by simp[results,results159,go_sem]) rfl ⟨by rw [ah HX],?_⟩;exact(aEY _ _).alloc (aEM _) _):P:=h
theorem av4.Ab3(h:P:=by
 go_roundw
 case rel=>exact⟨k+1,Aaa,Aaf,HX,by first|rfl|trivial⟩
 case measure=>simp[intOf];omega):P:=h
theorem av5.Ab3(h:P:=by
 go_roundw
 case rel=>exact⟨k+1,Aaa,Aaf,HX,by first|exact aY.alloc aY.size _|exact aY,by first|(rw [aEZ _ _ _ afk];exact Hu)|exact Hu⟩
 case measure=>simp[intOf];omega):P:=h
theorem OO(h:P:=by
 have q0:(mT != n.id)=false:=Abc
 have q0':(mT == n.id)=true:=Abc
 clear h1;exact AaZ):P:=h
theorem av6.AaZ(h:P:=by
 subst h3;have q4:(mF == n.par)=false:=by simpa using h4
 clear h4;open awv in exact ahz):P:=h
theorem av7.AaZ(h:P:=by
 subst h3;have q4:(mF == n.par)=true:=by simp[h4]
 clear h4;unfold gH;have H9:=Hq h9;clear h9;have HMO:=Hq (λW=>kN ⟨0,mF,mT,mI,mL,mk,mN⟩ W Aal);open anN in exact aa1):P:=h
theorem av8.AaZ(h:P:=by
 unfold gH;have H9:=Hq h9;clear h9;have HMO:=Hq (λW=>kN ⟨mK,mF,mT,mI,mL,mk,mN⟩ W Aal);open anO in exact aa1):P:=h
theorem av9.AaZ(h:P:=by
 subst h3;obtain⟨FL,hFL⟩:∃FL:Nat->List jC,∀k,FL k=(n.out.take k).filter (λs=> !iQ ⟨2,mF,mT,mI,mL,mk,mN⟩ s):=⟨_,λ_=>rfl⟩;have HFE:Hid (n.out.filter (λs=> !iQ ⟨2,mF,mT,mI,mL,mk,mN⟩ s)=FL n.out.length):=by unfold Hid;rw [hFL,aFd]
 rw [ah HFE];have HF0:Hid (FL 0=[]):=by unfold Hid;rw [hFL];rfl
 have HFS:Hid (∀k (hk:k < n.out.length),FL (k+1)=if n.out[k].i=mI/\n.out[k].t=mF then FL k else FL k++[n.out[k]]):=λk hk=>by
  rw [hFL,hFL,aEV hk,List.filter_append]
  by_cases e:n.out[k].i=mI/\n.out[k].t=mF
  .rw [aE7 e];have e2:(!iQ ⟨2,mF,mT,mI,mL,mk,mN⟩ n.out[k])=false:=by unfold iQ;rw [aEO e];rfl
   rw [List.filter_cons,e2];simp
  .rw [aEX e];have e2:(!iQ ⟨2,mF,mT,mI,mL,mk,mN⟩ n.out[k])=true:=by unfold iQ;rw [aEN e];rfl
   rw [List.filter_cons,e2];simp
 have HFN:Hid (∀k,(FL k).length<=n.out.length):=λk=>by
  rw [hFL]
  exact aEP (aGE _ _) Abk
 clear hFL HFE;obtain⟨i0,hi,hz0,hz1,hz2⟩:=aFm Mx;have HI:=Hq (And.intro hi (And.intro hz0 (And.intro hz1 hz2)));clear hi hz0 hz1 hz2;unfold gH;have H9:=Hq h9;clear h9;have HMO:=Hq (λW=>kN ⟨2,mF,mT,mI,mL,mk,mN⟩ W Aal);open anP in exact aa1):P:=h
theorem awc.AaZ(h:P:=by
 subst h3;open awu in exact ahz):P:=h
theorem aaX(h:P:=by
 have e1:(m:Int)+1+1=m+2:=Aaa
 have e3:(m:Int)+2+1=m+3:=Aaa
 (try simp only[e1,e3] at HB1 ⊢)
 exact AbR):P:=h
theorem awd.AbR(h:P:=by
 have hB:=GR.C.below h0 HB1;have h1:=GR.C.set hB (k*4) (.string (fZ m).k);have h2:=GR.C.set h1 (k*4+1) (.int .i64 (fZ m).m);have h3:=GR.C.set h2 (k*4+2) (.int .i64 (fZ m).f);have h4:=GR.C.set h3 (k*4+3) (.int .i64 (fZ m).s);have hf:=GR.flat_set fu 4 aP (jH fZ 4 s l k) k (fZ m) Abq;have h5:=GR.C.toW (enc:=fu) (l:=(jH fZ 4 s l k).set k (fZ m)) aP Aaa (by rw [<-hf];exact h4);have hmk:fZ m=fZ (s+4*k):=Abf
 rw [hmk,xI fZ 4 s l k hlt,<-hmk] at h5;refine⟨k+1,m+4,Aaa,Aaf,Aaf,by have:=ah HM;omega,h5,?_⟩;exact(((((HK.trans (aA.of_below HB1)).trans (dx (aA.set _) hpos)).trans (dx (aA.set _) hpos)).trans (dx (aA.set _) hpos)).trans (dx (aA.set _) hpos))):P:=h
theorem awe.AbR(h:P:=by
 have h1:=GR.C.set h0 (k*4) (.int .i64 (iA m).i);have h2:=GR.C.set h1 (k*4+1) (.int .i64 (iA m).t);have hB:=GR.C.below h2 HB1;have h3:=GR.C.set hB (k*4+2) (.string (iA m).k);have h4:=GR.C.set h3 (k*4+3) (.int .i64 (iA m).n);have hf:=GR.flat_set aM 4 aR (jH iA 4 s l k) k (iA m) Abq;have h5:=GR.C.toW (enc:=aM) (l:=(jH iA 4 s l k).set k (iA m)) aR Aaa (by rw [<-hf];exact h4);have hmk:iA m=iA (s+4*k):=Abf
 rw [hmk,xI iA 4 s l k hlt,<-hmk] at h5;refine⟨k+1,m+4,Aaa,Aaf,Aaf,by have:=ah HM;omega,h5,?_⟩;exact(((((HK.trans (dx (aA.set _) hpos)).trans (dx (aA.set _) hpos)).trans (aA.of_below HB1)).trans (dx (aA.set _) hpos)).trans (dx (aA.set _) hpos))):P:=h
end Go.Proofs.YtbolgdleijjgfaaGreatDoor
