/-
  Parts of proofs that stand more than once, each said once.
-/
import Derived.Test.YtohmklmkjmlpjaaGreatDoorRkZ4
namespace Go.Proofs.YtohmklmkjmlpjaaGreatDoor
open Go.Proofs.Tryz
set_option maxRecDepth 100000
variable{P:Prop}
theorem axr.AdN(h:P:=by
 have HX:=Hq (heap_alloc_new (w.alloc (.cells (bY 6 no k n mK mF mT mI mL mk mN) 100)) (.cells (bY 6 0 ⟨#[]⟩ 0 0 0 0 0 0 ⟨#[]⟩ 0) 100));have HY:=Hq (aN (heap_alloc_new w (.cells (bY 6 no k n mK mF mT mI mL mk mN) 100)) (ay _ (.cells (bY 6 0 ⟨#[]⟩ 0 0 0 0 0 0 ⟨#[]⟩ 0) 100)));rw [show(w.alloc (.cells (bY 6 no k n mK mF mT mI mL mk mN) 100)).heap.size=w.heap.size+1 by simp] at HX;go_in
 go_wp2_with fail;refine(HM _).mono ?_;rintro e w1 ⟨rfl,hb1⟩;have AY:=Hq (aN HX hb1);have HY1:=Hq (aN HY hb1);have HB1:=Hq ((jy w _ _).trans (hb1.mono Aag));clear hb1 HX HY;obtain⟨x0,x1,x2,x3,x4,x5,x6,x7,x8,x9,x10⟩:=DK AY;obtain⟨y0,y1,y2,y3,y4,y5,y6,y7,y8,y9,y10⟩:=DK HY1;have f4:=uq AY 4;have f5:=uq AY 5;have f6:=uq AY 6;have f7:=uq AY 7;have f8:=uq AY 8;have f9:=uq AY 9;have f10:=uq AY 10;cases hOK:OK
 .go_wp2_with fail
  all_goals
   go_ret
   refine⟨aF ?_,?_⟩
   .rw [ah HP];simp[hOK]
   .exact Ow
 have HKK:=Hq hOK;clear hOK;by_cases hno:no=0
 case' neg=>
  have hno':¬(0:Int)=no:=λe=>hno e.symm
  go_wp2_with fail
  all_goals
   go_ret
   refine⟨aF ?_,?_⟩
   .rw [ah HP];simp[hno]
   .exact Ow
 subst hno;by_cases hk:k.toList=[]
 case' neg=>
  go_wp2_with fail
  all_goals
   go_ret
   refine⟨aF ?_,?_⟩
   .rw [ah HP];simp[hk]
   .exact Ow
 by_cases hn:n=0
 case' neg=>
  have hn':¬(0:Int)=n:=λe=>hn e.symm
  go_wp2_with fail
  all_goals
   go_ret
   refine⟨aF ?_,?_⟩
   .rw [ah HP];simp[hn,hk]
   .exact Ow
 subst hn;go_wp2_with fail
 all_goals
  go_ret
  refine⟨aF ?_,?_⟩
  .rw [ah HP];simp[hk,ah HKK]
  .exact Ow):P:=h
theorem axt.AdN(h:P:=by
 go_in
 go_wp2_with (go_at_call 144;refine(HM _).mono ?_;rintro e w1 ⟨rfl,hb1⟩;have HB1:=Hq hb1;clear hb1)
 all_goals
  go_ret
  refine⟨aF ?_,by first|exact ay w _|exact(ay w _).trans (HB1.mono Aac)⟩
  rw [ah HP]
  simp[*]):P:=h
theorem aaC(h:P:=by
 have HW1:=Hq (h.step (ay w (.cells (bX mK mF mT mI mL mk mN) 98)));have yQ:=Hq (heap_alloc_new w (.cells (bX mK mF mT mI mL mk mN) 98));exact AcT):P:=h
theorem axu.AcT(h:P:=by
 have hwl:=aA h.blk;have hne:wb≠w.heap.size:=Aaa
 have R7:=Hq (λp:Regrown=>HW1.no.at.below (below_regrown _ p.d p.os));clear h hp hz;obtain⟨c0,c1,c2,c3,c4,c5,c6,c7,c8,c9⟩:=jH HW1.blk;obtain⟨p0,p1,p2,p3,p4,p5,p6⟩:=jG yQ;open ano in exact Gt):P:=h
theorem axv.AcT(h:P:=by
 clear h;obtain⟨c0,c1,c2,c3,c4,c5,c6,c7,c8,c9⟩:=jH HW1.blk;have hwl:=aA HW.blk;have hne:wb≠w.heap.size:=Aaa
 go_in
 go_wp2_with fail;refine(HIX w.heap.size _ HW1.no.at.s yQ).mono ?_;rintro e w2 ⟨rfl,hb2⟩;have HW2:=Hq (HW1.step hb2);have rz:=Hq (au yQ hb2);have HJ2:Hid (∀j mm,jL w j mm->jL w2 j mm):=λj mm hj=>au (au hj (ay w _)) hb2
 clear hb2 HW1 yQ HIX c0 c1 c2 c3 c4 c5 c6 c7 c8 c9;obtain⟨c0,c1,c2,c3,c4,c5,c6,c7,c8,c9⟩:=jH HW2.blk;obtain⟨g,off,b,cc,e0,hg,q0,q1,q2,GK⟩:=HW2.no.at.s i hi;rw [ah N9] at q0 q1 q2 GK;have Z4:=Hq (setOf s0.f s0.l b cc s0.ids w2 aeb.2.2.1 (λx hx=>by have:=aeb.2.2.2.1 x hx;have:=aeb.1;omega) GK);have alJ:=aA HW2.blk;have hiI:(i:Int) < (n.seen.length:Int):=Aaa
 clear GK;rw [e0] at c6;go_wp2_with fail;refine Z4.mono ?_;rintro e w3 ⟨sb,mb,rfl,hsb,hmb,hS3,hI3,hb3⟩;have HW3:Hid (qx w0 w3 wb sb mb s0.ids.length n A G (newC w2.heap.size 9 c) v L s0.l s0.ids):=⟨(HW2.recol (c':=newC w2.heap.size 9 c) (λx hx=>fq hx)).step hb3,hS3,hI3,bq hsb,bq hmb⟩;have Zg:=Hq (au rz hb3);have HJ3:Hid (∀j mm,jL w j mm->jL w3 j mm):=λj mm hj=>au (HJ2 j mm hj) hb3
 have aFy:w.heap.size≠sb:=by have:=aA rz;omega
 have aCg:w.heap.size≠mb:=by have:=aA rz;omega
 clear hS3 hI3 hb3 hsb hmb q0 q1 q2 e0 Z4 c0 c1 c2 c3 c4 c5 c6 c7 c8 c9;obtain⟨⟨p0,p1,p2,p3,p4,p5,p6⟩,_⟩:=eT Zg;have hpl:=aA Zg;go_wp2_with fail;refine(afn sb mb s0.ids.length s0.l mL (fJ s0 mL) s0.ids w3 HMX HW3.bk HW3.si).mono ?_;rintro e w4 ⟨rfl,hS4,hI4,hk4⟩;have HW4:=Hq (HW3.lift hS4 hI4 hk4);have WH:=Hq (hk4.obj Zg (by simp[aFy,aCg]))
 have HJ4:Hid (∀j mm,jL w j mm->jL w4 j mm):=λj mm hj=>hk4.obj (HJ3 j mm hj) (by
  have h1:=TQ (HJ3 j mm hj) HW3.bk
  have h2:=HW3.si.far (HJ3 j mm hj)
  simp[h1,h2])
 clear hS4 hI4 hk4 p0 p1 p2 p3 p4 p5 p6 hpl HJ2 HJ3;obtain⟨⟨p0,p1,p2,p3,p4,p5,p6⟩,_⟩:=eT WH;have hpl:=aA WH;go_wp2_with fail;refine(alu sb mb s0.ids.length (fJ s0 mL) mI (bg s0 mL) w4 hI0 hI1 HW4.bk HW4.si).mono ?_;rintro e w5 ⟨rfl,hb5⟩;have HW5:=Hq (HW4.step hb5);have Nk:=Hq (au WH hb5);have HJ5:Hid (∀j mm,jL w j mm->jL w5 j mm):=λj mm hj=>au (HJ4 j mm hj) hb5
 have hhs:(decide (mI < fJ s0 mL)||decide (mI∈bg s0 mL))=rM s0 mL mI:=by
  unfold rM;congr 1
  rw [Bool.eq_iff_iff,decide_eq_true_iff,zx]
 rw [hhs];clear hhs hb5 p0 p1 p2 p3 p4 p5 p6 hpl HW4 WH HW3 Zg;cases hq:rM s0 mL mI
 case' true=>
  have HQ:=Hq hq;clear hq;go_wp2_with fail;obtain⟨n',A',G',c',kk,l2,HWS,adO,HLEN,HSL,HTE⟩:∃(n':Nd) (A':bV) (G':aY) (c':Nat->Nat) (kk:Nat) (l2:List Int),Hid (qx w0 w5 wb sb mb kk n' A' G' c' v L (fJ s0 mL) l2)/\Hid (l2.Pairwise (· < ·))/\Hid (l2.length<=1000)/\Hid (n'.seen.length=n.seen.length)/\Hid (TT=(dP n' (n'.seen.set i ⟨mF,fJ s0 mL,l2⟩),true)):=⟨n,A,G,_,_,_,HW5,CW.2.2.2.2,Nat.le_trans CW.2.2.1 Aaa,rfl,HTH HQ⟩;have eZ:=Hq Nk;have HJW:=Hq HJ5;clear HTH R7 HTN HGS HGF HQ HW5 Nk HW2 rz;exact Zk5
 have HQ:=Hq hq;clear hq;obtain⟨⟨p0,p1,p2,p3,p4,p5,p6⟩,_⟩:=eT Nk;have hpl:=aA Nk;have hnd:(bg s0 mL).Nodup:=CW.2.2.2.2.imp (λh=>Aaa);have HND:=Hq hnd;clear hnd;by_cases hf:(bg s0 mL).length=40
 case' pos=>
  have HF:=Hq hf;clear hf;go_wp2_with fail;refine(HGF w5 sb mb _ A G _ _ _ HND HF HW5).mono ?_;rintro e w6 ⟨rfl,hb6⟩;have eZ:=Hq (au Nk hb6);have HJW:Hid (∀j mm,jL w j mm->jL w6 j mm):=λj mm hj=>au (HJ5 j mm hj) hb6
  have kH:Hid (lW n s0 ⟨mK,mF,mT,mI,mL,mk,mN⟩=false):=by
   show lW n s0 ⟨mK,mF,mT,mI,mL,mk,mN⟩=false
   unfold lW;rw [decide_eq_false (by have:=ah HF;dsimp only;omega),Bool.and_false]
  go_wp2_with fail;obtain⟨n',A',G',c',kk,l2,HWS,adO,HLEN,HSL,HTE⟩:∃(n':Nd) (A':bV) (G':aY) (c':Nat->Nat) (kk:Nat) (l2:List Int),Hid (qx w0 w6 wb sb mb kk n' A' G' c' v L (fJ s0 mL) l2)/\Hid (l2.Pairwise (· < ·))/\Hid (l2.length<=1000)/\Hid (n'.seen.length=n.seen.length)/\Hid (TT=(dP n' (n'.seen.set i ⟨mF,fJ s0 mL,l2⟩),false)):=⟨n,A,G,_,_,_,HW5.step hb6,CW.2.2.2.2,Nat.le_trans CW.2.2.1 Aaa,rfl,HTN HQ kH⟩;clear hb6 HTH R7 HTN HGS HGF HQ HW5 Nk HW2 rz kH HF HND p0 p1 p2 p3 p4 p5 p6 hpl;exact Zk5
 have HF:Hid ((bg s0 mL).length < 40):=by
  have:=CW.2.2.1;show(bg s0 mL).length < 40
  omega
 clear hf;go_wp2_with fail;refine(HGS w5 sb mb _ A G _ _ _ (by have:=aeb.2.2.1;omega) HND HF HW5).mono ?_;rintro e w6 ⟨rfl,⟨A1,G1,c1,Zq⟩,XA⟩;have eZ:=Hq (XA w.heap.size _ Aaa aCg Nk);have HJW:Hid (∀j mm,jL w j mm->jL w6 j mm):=λj mm hj=>XA j _ (XZ (HJ5 j mm hj) HW5.wk.blk) (HW5.si.far (HJ5 j mm hj)) (HJ5 j mm hj)
 have U9:=Hq Zq;clear Zq XA p0 p1 p2 p3 p4 p5 p6 hpl HGS HGF;cases hr:(dJ n.pu mk 0 1 0 mN).2
 case' false=>
  have kH:Hid (lW n s0 ⟨mK,mF,mT,mI,mL,mk,mN⟩=false):=by
   show lW n s0 ⟨mK,mF,mT,mI,mL,mk,mN⟩=false
   unfold lW;rw [hr,Bool.false_and]
  rw [hr] at U9;clear hr;go_wp2_with fail;obtain⟨n',A',G',c',kk,l2,HWS,adO,HLEN,HSL,HTE⟩:∃(n':Nd) (A':bV) (G':aY) (c':Nat->Nat) (kk:Nat) (l2:List Int),Hid (qx w0 w6 wb sb mb kk n' A' G' c' v L (fJ s0 mL) l2)/\Hid (l2.Pairwise (· < ·))/\Hid (l2.length<=1000)/\Hid (n'.seen.length=n.seen.length)/\Hid (TT=(dP n' (n'.seen.set i ⟨mF,fJ s0 mL,l2⟩),false)):=⟨n,A1,G1,c1,_,_,U9,CW.2.2.2.2,Nat.le_trans CW.2.2.1 Aaa,rfl,HTN HQ kH⟩;clear HTH R7 HTN HQ HW5 Nk HW2 rz kH HF HND U9;exact Zk5
 have kH:Hid (lW n s0 ⟨mK,mF,mT,mI,mL,mk,mN⟩=true):=by
  show lW n s0 ⟨mK,mF,mT,mI,mL,mk,mN⟩=true
  unfold lW;rw [hr,decide_eq_true (ah HF),Bool.true_and]
 rw [hr] at U9;clear hr;have HNI:=Hq (VK HQ).2;go_wp2_with fail
 obtain⟨n',A',G',c',kk,l2,HWS,adO,HLEN,HSL,HTE⟩:∃(n':Nd) (A':bV) (G':aY) (c':Nat->Nat) (kk:Nat) (l2:List Int),Hid (qx w0 w6 wb sb mb kk n' A' G' c' v L (fJ s0 mL) l2)/\Hid (l2.Pairwise (· < ·))/\Hid (l2.length<=1000)/\Hid (n'.seen.length=n.seen.length)/\Hid (TT=(dP n' (n'.seen.set i ⟨mF,fJ s0 mL,l2⟩),true)):=⟨setPu n (dJ n.pu mk 0 1 0 mN).1,A1,G1,c1,_,lN (bg s0 mL) mI,⟨U9.wk,U9.bk,U9.si.same (λx=>by rw [PN];exact List.mem_cons),U9.cs,U9.cm⟩,PK CW.2.2.2.2 HNI,(by
  show(lN (bg s0 mL) mI).length<=1000
  rw [Co]
  have:=ah HF
  omega),rfl,R7 HQ kH⟩
 clear HTH R7 HTN HQ HW5 Nk HW2 rz kH HF HND U9 HNI;exact Zk5):P:=h
theorem axw.AcT(h:P:=by
 obtain⟨c0,c1,c2,c3,c4,c5,c6,c7,c8,c9⟩:=jH HW1.wk.blk;obtain⟨⟨p0,p1,p2,p3,p4,p5,p6⟩,_⟩:=eT yQ;obtain⟨⟨d0,d1⟩,_⟩:=mD HW1.bk;have hlen:=aGk HW1.si hnd;have hwl:=aA HW.wk.blk;have hsl:=aA HW.bk;have hne:wb≠w.heap.size:=Aaa
 have hne2:sb≠w.heap.size:=Aaa
 clear h;go_in
 go_upto_region 1 with fail;have y4:=cell_regrown c4;have z3:=cell_regrown p3;have z5:=cell_regrown p5;have z6:=cell_regrown p6;have x1:=cell_regrown d1;clear c0 c1 c2 c3 c4 c5 c6 c7 c8 c9 p0 p1 p2 p3 p4 p5 p6 d0 d1;exact AfB):P:=h
theorem aaD(h:P:=by
 have Ww:=Hq (show∀b,(v3).ownBlock=some b->b≠x1.heap.size from λb hb=>(Tq b hb).elim (λh=>J8 b h) (λh=>by have:=aA xK;omega));exact Ac1):P:=h
theorem axx.Ac1(h:P:=by
 open azW in exact aia):P:=h
theorem axy.Ac1(h:P:=by
 open atS in exact Vf):P:=h
theorem axz.Ac1(h:P:=by
 open atT in exact Vf):P:=h
theorem aaE(h:P:=by
 have Ww:=Hq (show∀b,(v3).ownBlock=some b->b≠x2.heap.size from λb hb=>(Tq b hb).elim (λh=>J8 b h) (λh=>by have:=aA xK;omega));exact AcW):P:=h
theorem axA.AcW(h:P:=by
 open azV in exact aia):P:=h
theorem axB.AcW(h:P:=by
 open atP in exact Vf):P:=h
theorem axC.AcW(h:P:=by
 open atQ in exact Vf):P:=h
theorem ahv(h:P:=by
 obtain⟨⟨p0,p1,p2,p3,p4,p5,p6,p7,p8,p9,nX⟩,_⟩:=aO RY;have hpl:=aA RY;go_wp2_with fail;refine(uP z HZ).mono ?_;rintro e w1 ⟨rfl,hb1⟩;have HZ1:=Hq (HZ.step hb1);clear hb1 uP p0 p1 p2 p3 p4 p5 p6 p7 p8 p9 nX HZ RY;exact Afh):P:=h
theorem axD.Afh(h:P:=by
 obtain⟨g,hAr,hgw,hgl,⟨q0,q1,q2,q3⟩,qf⟩:=HZ1.reqRow i hil;obtain⟨d0,d1,d2,d3,d4,d5,d6,d7,d8,d9⟩:=jH HZ1.blk;rw [hAr] at d8;have aGh:=aA HZ1.blk;have aFN:(i:Int) < (n.reqs.length:Int):=Aaa
 rw [hs] at q3;go_upto_region 7 with fail;refine wp_at (λW hW=>?_);obtain rfl:=hW;exact AeU):P:=h
theorem axE.Afh(h:P:=by
 go_wp2_with fail;go_ret;exact⟨rfl,A,G,c,HZ1⟩):P:=h
theorem ahw(h:P:=by
 refine dD 20 Aab ?_;show fC _ _ _ _ _ 23 (Array.replicate 23 false) _ _
 refine tk [0,1,2,3,4,5,6,7,8,9,10,11,12,13,14,15,16] ?_;iterate 17 (refine uS (λK hK=>?_);go_simp;refine hK _ ?_;clear hK K)
 refine jK ?_;exact AfS):P:=h
theorem axF.AfS(h:P:=by
 clear y1 y4 z2 z3;refine dV 17 rfl Aab Aad (λx hx=>?_);go_simp;have jP:=Hq ((ay w (.cells (bY K no k nn mK mF mT mI mL mk mN) 100)).trans (hx.mono Aac));clear hx;refine(HMI x jP).mono ?_;rintro e y ⟨a,cp,g,hg,rfl,hp,hby⟩;refine⟨hby,?_⟩;have IK:=Hq (jP.trans (hby.mono jP.size));have HST:=Hq (λz (hz:Ge y z)=>Wn (cp:=cp) HW (IK.trans (hz.mono IK.size)) (Nat.le_trans jP.size hg) (hp.below hz));clear hby hg hp HMI;refine tk [18,19] ?_;iterate 2 (refine uS (λK hK=>?_);go_simp;refine hK _ ?_;clear hK K)
 refine jK ?_;refine bH Aab (λz hz=>?_);refine aH 20 rfl Aab Aad ?_;go_simp;refine(HST z hz).mono ?_;rintro e z2 ⟨rfl,A',G',c',hZ⟩;have HZ:=Hq hZ;clear hZ HST hz;open ayI in exact ahP):P:=h
theorem axG.AfS(h:P:=by
 clear y4 z3 z5 z6 x1;refine dV 17 rfl Aab Aad (λx hx=>?_);go_simp;have jP:=Hq ((ay w (.cells (bX mK mF mT mI mL mk mN) 98)).trans (hx.mono Aac));have HXP:=Hq (au yQ hx);clear hx;refine(HGN x jP).mono ?_;rintro e y ⟨a,cp,g,hg,rfl,hp,hby⟩;refine⟨hby,?_⟩;have IK:=Hq (jP.trans (hby.mono jP.size));have HYP:=Hq (au HXP hby);have HST:=Hq (λz (hz:Ge y z)=>Wm (cp:=cp) HW.wk (IK.trans (hz.mono IK.size)) (Nat.le_trans jP.size hg) (hp.below hz));clear hby hg hp HGN;refine tk [18,19] ?_;iterate 2 (refine uS (λK hK=>?_);go_simp;refine hK _ ?_;clear hK K)
 refine jK ?_;refine bH Aab (λz hz=>?_);have pz:=Hq (IK.trans (hz.mono IK.size));have HZP:=Hq (au HYP hz);refine aH 20 rfl Aab Aad ?_;go_simp;refine(HST z hz).mono ?_;rintro e z2 ⟨rfl,A',G',c',hZ,hko,hcc⟩;have HZ:=Hq (HW.settled pz hZ hko hcc);have rz:=Hq (hko w.heap.size _ Aaa HZP);have HKO:Hid (∀j o,j≠wb->w.heap[j]?=some o->z2.heap[j]?=some o):=λj o h1 h2=>hko j o h1 (au h2 pz)
 clear hZ hko hcc HST hz pz HZP HYP IK HXP jP;open ayH in exact ahP):P:=h
theorem ahx(h:P:=by
 unfold fG;have H9:=Hq h9;clear h9;have lI:=Hq (h.nine hB);have HGS:=Hq (h.s);have hc4:c G.s=4:=h.c4 G.s (eG Aaa);clear h;go_in
 go_upto_region 1 with fail;refine wp_at (λW0 hW=>?_);exact Aep):P:=h
theorem axH.Aep(h:P:=by
 obtain⟨e1,e2,e3,e4⟩:=gI w (.cells (dH n (⟨a_k,jl,dW,eH,gH,aK,bJ,aQ,aL,aU⟩:bV)) 40) (.cells (bX mK mF mT mI mL mk mN) 98) (.cells gN 40);open arv in exact aAJ):P:=h
theorem axI.Aep(h:P:=by
 obtain⟨e1,e2,e3,e4⟩:=gI w (.cells (dH n (⟨a_k,(some ⟨gp,0,none⟩),dW,eH,gH,aK,bJ,aQ,aL,aU⟩:bV)) 40) (.cells (bX mK mF mT mI mL mk mN) 98) (.cells gN 40);open arw in exact aAJ):P:=h
theorem aaF(h:P:=by
 rcases ho.2 with⟨_,hy⟩|⟨g,cp,cur,hx,hbg,hgg,hnc,hcm,hcs,htk⟩
 .omega
 simp only[Value.slice.injEq] at hx;obtain⟨rfl,_,rfl⟩:=hx;exact AcC):P:=h
theorem axJ.AcC(h:P:=by
 by_cases hroom:l.length+1<=cap
 .refine(Ls g cap i l q vb w cur hl hi2 hroom hcm (hne g rfl) hgg hcs htk hv).mono ?_;rintro e w' ⟨rfl,hb,hgr⟩;have hcl:(l.length+1)*4<=cur.toList.length:=Adg
  refine⟨some ⟨g,0,none⟩,cap,by rw [hlen],?_,hgr,λx hx=> .inl hx⟩;rw [hlen];refine⟨hfl,.inr ⟨g,cap,_,rfl,hbg,hb,hroom,hcm,?_,?_⟩⟩
  .rw [List.size_toArray,ac9 _ _ _ _ hi2 hcl,show cur.toList.length=cur.size from Array.length_toList,hcs]
  .exact Yr cur.toList l i q hi2 hcl htk
 .refine(PV g cap i l q vb w cur hl hi2 hnc Aaa hgg htk hv).mono ?_;rintro e w' ⟨G,cur',rfl,hG,hGm,hb,hs,ht,hgr⟩;refine⟨some ⟨w.heap.size,0,none⟩,G,by rw [hlen],?_,⟨hgr.os,hgr.tape,hgr.output,hgr.size,λk hk _=>hgr.block k hk Aac⟩,λx hx=> .inr ?_⟩
  .rw [hlen];exact⟨hfl,.inr ⟨w.heap.size,G,cur',rfl,hB,hb,hG,hGm,hs,ht⟩⟩
  .have:w.heap.size=x:=Abp
   omega):P:=h
theorem axK.AcC(h:P:=by
 refine(Xj g cap l w cur h2 hl hnc hcm hgg hcs htk).mono ?_;rintro e w' ⟨rfl,hb,hgr⟩;have hcl:l.length*4<=cur.toList.length:=Adg
 refine⟨some ⟨g,0,none⟩,cap,by rw [hlen],?_,hgr,λx hx=> .inl hx⟩;rw [hlen];refine⟨by rw [iq,hlen],.inr ⟨g,cap,_,rfl,hbg,hb,Aaa,hcm,?_,?_⟩⟩
 .rw [List.size_toArray,adb _ _ h2 hcl,show cur.toList.length=cur.size from Array.length_toList,hcs]
 .exact Yu cur.toList l h2 hcl):P:=h
theorem axL.AcC(h:P:=by
 have hce:cur=(GR.flat aV l++cur.toList.drop (l.length*4)).toArray:=by
  rw [<-htk,List.take_append_drop,Array.toArray_toList]
 have hlr:l.length*4+(cur.toList.drop (l.length*4)).length=cap*4:=by
  rw [List.length_drop,show cur.toList.length=cur.size from Array.length_toList,hcs];omega
 rw [hce] at hgg;have hlen:(l.eraseIdx (pQ l m)).length=l.length - 1:=List.length_eraseIdx_of_lt h;refine(SG g cap l _ B (pQ l m) m w hl h hno hnc hcm hlr hB hgg hix).mono ?_;rintro e w' ⟨rfl,⟨r2,hS2,hr2⟩,hgr⟩;refine⟨some ⟨g,0,none⟩,cap,by rw [hlen],?_,hgr,λx hx=>hx⟩;rw [hlen];refine⟨by rw [mV,hlen],.inr ⟨g,cap,_,rfl,hbg,hS2,Aaa,hcm,?_,?_⟩⟩
 .rw [List.size_toArray,List.length_append,mV,hlen];exact hr2
 .exact List.take_left' (by rw [mV,hlen])):P:=h
theorem Om(h:P:=by
 have y0:=cell_regrown p0;have y1:=cell_regrown p1;have y2:=cell_regrown p2;have y3:=cell_regrown p3;exact Aa8):P:=h
theorem axM.Aa8(h:P:=by
 have y4:=cell_regrown c4;clear HO p0 p1 p2 p3 c4;open aFd in exact Sd):P:=h
theorem axN.Aa8(h:P:=by
 have y4:=cell_regrown p4;have y5:=cell_regrown p5;have y6:=cell_regrown p6;exact AaX):P:=h
theorem axO.Aa8(h:P:=by
 clear HO p0 p1 p2 p3;open aFf in exact Sd):P:=h
theorem axP.Aa8(h:P:=by
 clear HO p0 p1 p2 p3;open aFe in exact Sd):P:=h
theorem axQ.Aa8(h:P:=by
 have y4:=cell_regrown c4;clear HO p0 p1 p2 p3 c4;open aFj in exact Sd):P:=h
theorem ahy(h:P:=by
 rw [<-hW] at e1 e2 e3;have HN:=Hq e1;have HR:=Hq e2;have HB0:=Hq e3;have Nh:=Hq (lI.kc (k:=9) (KC.of_below e3) Aaa);clear hW e1 e2 e3 lI hbw0 hlo;obtain⟨c0,c1,c2,c3,c4,c5,c6,c7,c8⟩:=nine HN;have hnl:=aA HN;exact AeF):P:=h
theorem axR.AeF(h:P:=by
 have qD:=Hq HR;open apN in exact aaP):P:=h
theorem axS.AeF(h:P:=by
 go_wp2_with fail;refine(NJ W0 Nh.at.r).mono ?_;open azp in exact ah2):P:=h
theorem aaG(h:P:=by
 have uP:=Hq (λw1 (hw:WK w0 w1 wb n A G c v L)=>M9 w0 w1 wb n A G c v L o.no hok h0 h1 hw);rw [hf] at uP;have hlen:=(jc hok).2.1;exact Ac3):P:=h
theorem axT.Ac3(h:P:=by
 clear hR h0 h1 hok hf hgd ae7;generalize dS n.reqs o.no=i at *;open aE0 in exact Sc):P:=h
theorem axU.Ac3(h:P:=by
 generalize dS n.reqs o.no=i at *;generalize FE n.reqs[i] o.k o.n=SQ at *;clear hR h0 h1 hok hf hgd;open aEX in exact Sc):P:=h
theorem axV.Ac3(h:P:=by
 clear hR h0 h1 hok hf hgd ae7;generalize dS n.reqs o.no=i at *;have HUN:=Hq (λw1 (hw:WK w0 w1 wb n A G c v L)=>PE A.p A.cp n.pu n.reqs[i].k n.reqs[i].n E w1 hz.p hz.pk (hz.rk _ (List.getElem_mem hil)) hw.no.p.at (he.below hw.keep));unfold jO at HUN;generalize dJ n.pu n.reqs[i].k 0 1 (-1) n.reqs[i].n=r at *;open aEU in exact Sc):P:=h
theorem ahz(h:P:=by
 have k8:=(nine ru).2.2.2.2.2.2.2.2;have kf8:=aj ru 8;clear hrun GD Pe;go_upto_region 20 with(at_builtin;refine gK rfl (.tmp 118) (.tmp 121) 38 rfl _ _ rfl rfl _ _ (WL _) ?_)
 refine wp_at (λW9 Tg=>?_);exact AfE):P:=h
theorem axW.AfE(h:P:=by
 have xJ:Hid (W9.heap[w.heap.size]?=some (.cells (fP n.id n.par a_k n.kids.length aK n.next av RL.length cv dW n.out.length aQ eH n.seen.length aL IH.no (some ⟨g8,0,none⟩) n.reqs.length Et) 40 (0,0))):=by rw [Tg];exact aR ru 8 _
 have kZ:Hid (W9.heap[w.heap.size+2]?=some (.cells gN 40 (0,0))):=by rw [Tg];exact gU _ Aaa yS
 have Kj:Hid (W9.heap[W1.heap.size]?=some (.cells (dZ no k nn 0) 95 (0,0))):=by rw [Tg];exact gU _ Aaa ad7
 open awK in exact ahk):P:=h
theorem axX.AfE(h:P:=by
 have xJ:Hid (W9.heap[w.heap.size]?=some (.cells (fP n.id n.par a_k n.kids.length aK n.next (some ⟨gp,0,none⟩) n.pu.length bJ dW n.out.length aQ eH n.seen.length aL IH.no (some ⟨g8,0,none⟩) n.reqs.length Et) 40 (0,0))):=by rw [Tg];exact aR ru 8 _
 have kZ:Hid (W9.heap[w.heap.size+2]?=some (.cells gN 40 (0,0))):=by rw [Tg];exact gU _ Aaa yS
 have Kj:Hid (W9.heap[W1.heap.size]?=some (.cells (dZ no k nn 1) 95 (0,0))):=by rw [Tg];exact gU _ Aaa ad7
 open awL in exact ahk):P:=h
theorem ahA(h:P:=by
 obtain⟨rfl,hge⟩:=hcut;have CY:=Hq (au AR hge);have yR:=Hq (au NK hge);have WJ:=Hq (au aky hge);have gY:=Hq (nK.trans (hge.mono nK.size));have HA5:=Hq (GR.At.below HA4 hge);exact AeJ):P:=h
theorem axY.AeJ(h:P:=by
 skip
 open avQ in exact ag2):P:=h
theorem axZ.AeJ(h:P:=by
 have Nk:=Hq (WH.below hge);clear WH;open avS in exact ag2):P:=h
theorem ahB(h:P:=by
 have hblk:V.heap[wr.heap.size]?=some (.cells (iZ pk pm pf ps) 108 (0,0)):=by rw [hV];exact heap_alloc_new wr _
 exact Ad4):P:=h
theorem ax0.Ad4(h:P:=by
 have hPV:=HP.below hbV;have WI:=Hq hPV;have Gf:=Hq hblk;have HVS:=Hq (show V.heap.size=wr.heap.size+1 by rw [hV];simp);have vW:=Hq (cZ.trans (hbV.mono cZ.size));obtain⟨⟨p0,p1,p2,p3⟩,_⟩:=gD hblk;obtain⟨⟨n0,n1⟩,f0,f1⟩:=mD hPV.blk
 have HRW:=Hq (show V.ownsRow w.heap.size 9 1 (.slice aa k cc) k (((l.take k).map (·.k)).map Value.string) by
  have:=hPV.row
  rw [List.length_map,List.length_take,Nat.min_eq_left hk] at this
  exact this)
 have HGR:=Hq (show∀w2:World,((V.alloc (.cells #[.string pk] 9)).drew).grownBy w2 (Value.slice aa k cc).ownBlock->
  w2.heap[w1.heap.size+1]?=some (.cells #[.slice aa k cc,.map (some w1.heap.size)] 352 (0,0))/\w2.heap[w1.heap.size]?=V.heap[w1.heap.size]?/\w2.heap[wr.heap.size]?=V.heap[wr.heap.size]?/\Below w.heap.size V w2 by
  intro w2 hg
  have hb:∀q,q < V.heap.size->(Value.slice aa k cc).ownBlock≠some q->w2.heap[q]?=V.heap[q]?:=λq hq hne=>by
   rw [hg.block q (by show q < (V.alloc _).heap.size;simp;omega) (Ne.symm hne)]
   exact Below.heap_alloc V _ _ hq
  obtain⟨es,clock,hmap⟩:=hPV.map.blk
  refine⟨?_,hb _ hPV.map.lt (yw HRW hmap),hb _ (Fo.lt_of_blk hblk) (own_ne HRW hblk Aae),?_⟩
  .rw [hb _ (Fo.lt_of_blk hPV.blk) (own_ne (ah HRW) hPV.blk Aae)];exact hPV.blk
  .refine⟨hg.os,hg.tape,hg.output,Nat.le_trans (by show V.heap.size<=(V.alloc _).heap.size;simp) hg.size,λq hq=>hb q (by have:=vW.size;omega) (λe=>?_)⟩;have:=HRW.lt _ e
   omega)
 have n2:(V.alloc (.cells #[.string pk] 9)).cell? ⟨w1.heap.size+1,0,none⟩=some (.slice aa k cc):=by rw [World.cell?_alloc_lt _ _ _ (Fo.lt_of_blk hPV.blk)];exact n0
 clear hblk hbV hPV hV c0 c1 c2 c3 n1 f1;go_region_law (refine step_append_lies _ rfl (.tmp 24) (.tmp 27) 350 rfl w.heap.size 9 i0 (.string ⟨#[]⟩) 1 16 underlying350 hi hz0 hz1 hz2 rfl Aae (.slice aa k cc) k (((l.take k).map (·.k)).map Value.string) Aal (HRW.alloc _).drew ⟨V.heap.size,0,none⟩ 1 1 [.string pk] Aal rfl (World.news_of_block (w:=(V.alloc (.cells #[.string pk] 9)).drew) (heap_alloc_new V _)) (λu hu=>by rw [List.mem_singleton.1 hu];rfl) Aaa Aai Aaa (by have:=vW.size;simp;omega) (V.heap.size+1) Aac ?_;intro g' cap' w2 hown hgrow hat hlt2;have hK2:=ah HGR w2 hgrow;have HOW:=Hq hown;clear hown hgrow hat hlt2;have HM2:=Hq hK2.1;have Zk:=Hq hK2;obtain⟨⟨y0,y1⟩,z0,z1⟩:=mD hK2.1;clear hK2 y1 z1)
 all_goals
  go_upto_region 8 with fail
  refine Fo.wp_at (λV3 hV3=>?_)
  obtain⟨hx1,hx2,hx3,hx4⟩:=ah Zk
  have aHr:w1.heap.size+1 < wr.heap.size:=Fo.lt_of_blk HP.blk
  have hblk3:V3.heap[w1.heap.size+1]?=some (.cells #[.slice (some ⟨g',0,none⟩) (k+1) cap',.map (some w1.heap.size)] 352 (0,0)):=by rw [hV3];exact Fo.blk_set hx1 0 _
  have aCw:V3.heap[wr.heap.size]?=some (.cells (iZ pk pm pf ps) 108 (0,0)):=by
   rw [hV3,Fo.one_other rfl Aaa,hx3];exact Gf
  have abU:iK V3 w1.heap.size k (aD (l.take k)):=WI.map.kept (by rw [hV3,Fo.one_other rfl Aaa,hx2])
  have hrow3:V3.ownsRow w.heap.size 9 1 (.slice (some ⟨g',0,none⟩) (k+1) cap') (k+1) (((l.take k).map (·.k)).map Value.string++[.string pk]):=by
   rw [hV3];exact HOW.kept (w':=w2.setCell ⟨w1.heap.size+1,0,none⟩ _) (row:=some (w1.heap.size+1)) ⟨rfl,rfl,rfl,by rw [Fo.setCell_size];exact Nat.le_refl _,λq _ hne=>Fo.one_other rfl (λe=>hne Aao)⟩ (.inr (own_ne HOW hx1 Aae))
  have hkeys:(l.take (k+1)).map (·.k)=(l.take k).map (·.k)++[pk]:=by rw [ah Ob];simp
  have aDH:=Hq (show PM V3 w.heap.size (w1.heap.size+1) w1.heap.size k (.slice (some ⟨g',0,none⟩) (k+1) cap') ((l.take (k+1)).map (·.k)) (aD (l.take k)) by
   refine⟨hblk3,?_,abU,HP.lop,HP.lom⟩
   rw [hkeys,List.map_append,List.length_append,List.length_map,List.length_take,Nat.min_eq_left hk]
   exact hrow3)
  have HB3:=Hq (show aI w V3 by rw [hV3];exact(vW.trans hx4).setCell (p:=⟨w1.heap.size+1,0,none⟩) HP.lop _)
  have akv:=Hq (VN (w1.heap.size+1) w1.heap.size k _ (aD (l.take k)) ⟨pk,pm,pf,ps⟩ V3 hkk Aai hblk3 abU)
  obtain⟨⟨r0,r1,r2,r3⟩,_⟩:=gD aCw
  clear hx1 hx2 hx3 hx4 hblk3 aCw abU hrow3 hkeys hV3 y0 z0 n0 n2 p0 p1 p2 p3 f0
  go_wp2_with fail
  refine akv.mono ?_
  rintro e w5 ⟨rfl,hm5,hk5⟩
  have Nk:=Hq (aDH.turned hk5 hm5)
  have gY:=Hq (HB3.trans (Cu hk5 HP.lom HB3.size))
  clear hm5 hk5 r0 r1 r2 r3
  go_wp2_with fail
  go_roundw
  case rel=>
   have h:=ah Nk;rw [ah HUP] at h;exact⟨k+1,_,_,Aaa,Aah,h,gY⟩
  case measure=>simp[intOf];omega):P:=h
theorem ax1.Ad4(h:P:=by
 have vW:=Hq (show aI w V by rw [hV];exact cZ.alloc cZ.size _);have hgV:=Fo.lt_of_blk hblk;obtain⟨⟨p0,p1,p2,p3⟩,_⟩:=gD hblk;exact AbD):P:=h
theorem ahC(h:P:=by
 obtain⟨rfl,e4,gu⟩:=hcut;rename_i wz _ _ _
 have pz:=Hq (wL.trans (gu.below (B:=w.heap.size) (λx hx=>Aak) wL.size));have HLZ:=Hq (HL6.keeps gu (λx hx=>Aak));exact Ad1):P:=h
theorem ax2.Ad1(h:P:=by
 skip
 obtain⟨x0,x1,x2,x3,x4,x5,x6,x7,x8⟩:=nine e4;clear e4 gu;go_wp2_with fail;refine bodyPost_ret (v:= .tuple #[.agg (fP n.id n.par a_k n.kids.length aK n.next (some ⟨gp,0,none⟩) n.pu.length bJ dW n.out.length aQ eH n.seen.length aL n.old (some ⟨gv,0,none⟩) (n.reqs.length+1) vc),.int .i64 1]) Abk rfl ?_;rw [ah HK];refine⟨⟨a_k,(some ⟨gp,0,none⟩),dW,eH,(some ⟨gv,0,none⟩),aK,bJ,aQ,aL,vc⟩,?_,λW'' ho=>?_,pz.mono hB,Apart.of_below pz⟩
 .simp[fQ,dH,eu,ah Xt]
 .exact aBH):P:=h
theorem ax3.Ad1(h:P:=by
 have RY:=Hq (ZQ.keeps gu (λx hx=>Aak));obtain⟨x0,x1,x2,x3,x4,x5,x6,x7,x8⟩:=nine e4;clear e4 gu;go_wp2_with fail;refine bodyPost_ret (v:= .tuple #[.agg (fP n.id n.par a_k n.kids.length aK n.next av RL.length cv dW n.out.length aQ eH n.seen.length aL n.old (some ⟨gv,0,none⟩) (n.reqs.length+1) vc),.int .i64 0]) Abk rfl ?_;rw [ah HK];refine⟨⟨a_k,av,dW,eH,(some ⟨gv,0,none⟩),aK,cv,aQ,aL,vc⟩,?_,λW'' ho=>?_,pz.mono hB,Apart.of_below pz⟩
 .simp[fQ,dH,eu,setPu,ah Xt]
 .exact aBt):P:=h
theorem ahD(h:P:=by
 obtain⟨rfl,e4,gu⟩:=hcut;rename_i wz _ _ _
 have pz:=Hq (HB9.trans (gu.below (B:=w.heap.size) (λx hx=>Aak) HB9.size));have HLZ:=Hq (HL9.keeps gu (λx hx=>Aak));exact Af0):P:=h
theorem ax4.Af0(h:P:=by
 skip
 obtain⟨x0,x1,x2,x3,x4,x5,x6,x7,x8⟩:=nine e4;clear e4 gu;go_wp2_with fail;refine bodyPost_ret (v:= .tuple #[.agg (fP n.id n.par a_k n.kids.length aK n.next (some ⟨gp,0,none⟩) n.pu.length bJ dW n.out.length aQ eH n.seen.length aL IH.no (some ⟨g8,0,none⟩) n.reqs.length Et),.int .i64 1]) Abk rfl ?_;rw [ah HK];refine⟨⟨a_k,(some ⟨gp,0,none⟩),dW,eH,(some ⟨g8,0,none⟩),aK,bJ,aQ,aL,Et⟩,?_,λW'' ho=>?_,pz.mono hB,Apart.of_below pz⟩
 .simp[fQ,dH,eu,mq,Xt]
 .exact aBH):P:=h
theorem ax5.Af0(h:P:=by
 have RY:=Hq (HP9.keeps gu (λx hx=>Aak));obtain⟨x0,x1,x2,x3,x4,x5,x6,x7,x8⟩:=nine e4;clear e4 gu;go_wp2_with fail;refine bodyPost_ret (v:= .tuple #[.agg (fP n.id n.par a_k n.kids.length aK n.next av RL.length cv dW n.out.length aQ eH n.seen.length aL IH.no (some ⟨g8,0,none⟩) n.reqs.length Et),.int .i64 0]) Abk rfl ?_;rw [ah HK];refine⟨⟨a_k,av,dW,eH,(some ⟨g8,0,none⟩),aK,cv,aQ,aL,Et⟩,?_,λW'' ho=>?_,pz.mono hB,Apart.of_below pz⟩
 .simp[fQ,dH,eu,mq,setPu,Xt]
 .exact aBt):P:=h
theorem ahE(h:P:=by
 go_wp2_with fail;refine(NH _ nL).mono ?_;rintro e w1 ⟨rfl,hb1⟩;have HB1:=Hq (au HB0 hb1);have qZ:=Hq (nL.trans (hb1.mono nL.size));exact AdB):P:=h
theorem ax6.AdB(h:P:=by
 clear hb1 c0 c1 c2 c3 c4 c5 c6 c7 c8 NH;obtain⟨c0,c1,c2,c3,c4,c5,c6,c7,c8⟩:=nine HB1;cases h1:PL
 case' false=>
  have HV:=Hq (show bb=true by rw [<-ah eZ];simp[h1])
  clear eZ h1
  go_wp2_with fail
  go_meet
  case rel=>exact⟨Aan,HB1,qZ⟩
 go_wp2_with fail;refine(HPU _ qZ).mono ?_;rintro e w2 ⟨rfl,hb1⟩;have HB2:=Hq (au HB1 hb1);have HL2:=Hq (qZ.trans (hb1.mono qZ.size));clear hb1 c0 c1 c2 c3 c4 c5 c6 c7 c8 HPU;obtain⟨c0,c1,c2,c3,c4,c5,c6,c7,c8⟩:=nine HB2;cases h2:PS
 case' false=>
  have HV:=Hq (show bb=true by rw [<-ah eZ];simp[h2])
  clear eZ h2
  go_wp2_with fail
  go_meet
  case rel=>exact⟨Aan,HB2,HL2⟩
 go_wp2_with fail;refine(Np _ HL2).mono ?_;rintro e w3 ⟨rfl,hb1⟩;have HB3:=Hq (au HB2 hb1);have qC:=Hq (HL2.trans (hb1.mono HL2.size));clear hb1 c0 c1 c2 c3 c4 c5 c6 c7 c8 Np;obtain⟨c0,c1,c2,c3,c4,c5,c6,c7,c8⟩:=nine HB3;cases h3:TD
 case' false=>
  have HV:=Hq (show bb=true by rw [<-ah eZ];simp[h3])
  clear eZ h3
  go_wp2_with fail
  go_meet
  case rel=>exact⟨Aan,HB3,qC⟩
 cases h4:fK next
 case' false=>
  have HV:=Hq (show bb=true by rw [<-ah eZ];simp[h4])
  clear eZ h1 h2 h3
  go_wp2_with (go_at_call 49;refine(eU _ _ _ h4).mono ?_;rintro e w9 ⟨rfl,rfl⟩)
  go_meet
  case rel=>exact⟨Aan,HB3,qC⟩
 by_cases h5:out.length<=40
 case' neg=>
  have hq:decide ((40:Int) < out.length)=true:=decide_eq_true Aaa
  have HV:=Hq (show bb=true by rw [<-ah eZ];simp[h5])
  clear eZ h1 h2 h3
  go_wp2_with (go_at_call 49;refine(eU _ _ _ h4).mono ?_;rintro e w9 ⟨rfl,rfl⟩)
  go_meet
  case rel=>exact⟨Aan,HB3,qC⟩
 have hq:decide ((40:Int) < out.length)=false:=decide_eq_false Aaa;cases h6:qy old
 case' false=>
  have Gd:=Hq (λw1=>acD old false w1 h6)
  have HV:=Hq (show bb=true by rw [<-ah eZ];simp[h6])
  clear eZ h1 h2 h3
  go_wp2_with (first|(go_at_call 49;refine(eU _ _ _ h4).mono ?_;rintro e w9 ⟨rfl,rfl⟩)|(go_at_call 50;refine(Gd _).mono ?_;rintro e w9 ⟨rfl,rfl⟩))
  go_meet
  case rel=>exact⟨Aan,HB3,qC⟩
 have Gd:=Hq (λw1=>acD old true w1 h6);by_cases h7:reqs.length<=30
 case' neg=>
  have hq2:decide ((30:Int) < reqs.length)=true:=decide_eq_true Aaa
  have HV:=Hq (show bb=true by rw [<-ah eZ];simp[h7])
  clear eZ h1 h2 h3
  go_wp2_with (first|(go_at_call 49;refine(eU _ _ _ h4).mono ?_;rintro e w9 ⟨rfl,rfl⟩)|(go_at_call 50;refine(Gd _).mono ?_;rintro e w9 ⟨rfl,rfl⟩))
  go_meet
  case rel=>exact⟨Aan,HB3,qC⟩
 have hq2:decide ((30:Int) < reqs.length)=false:=decide_eq_false Aaa;have HV:=Hq (show bb=false by rw [<-ah eZ];simp[h1,h2,h3,h4,h5,h6,h7]);clear eZ h1 h2 h3;go_wp2_with (first|(go_at_call 49;refine(eU _ _ _ h4).mono ?_;rintro e w9 ⟨rfl,rfl⟩)|(go_at_call 50;refine(Gd _).mono ?_;rintro e w9 ⟨rfl,rfl⟩))
 go_meet
 case rel=>exact⟨Aan,HB3,qC⟩):P:=h
theorem ax7.AdB(h:P:=by
 clear hb1 c0 c1 c2 c3 c4 c5 c6 c7 c8;obtain⟨c0,c1,c2,c3,c4,c5,c6,c7,c8⟩:=nine HB1;cases h1:PL
 case' false=>
  have HP:=Hq (show TT=false by rw [ah HD];simp[h1]);clear h1 HD;go_wp2_with fail;go_ret;exact⟨aF HP.symm,qZ⟩
 go_wp2_with fail;refine(HPU _ qZ).mono ?_;rintro e w2 ⟨rfl,hb1⟩;have HB2:=Hq (au HB1 hb1);have HL2:=Hq (qZ.trans (hb1.mono qZ.size));clear hb1 c0 c1 c2 c3 c4 c5 c6 c7 c8;obtain⟨c0,c1,c2,c3,c4,c5,c6,c7,c8⟩:=nine HB2;cases h2:PS
 case' false=>
  have HP:=Hq (show TT=false by rw [ah HD];simp[h2]);clear h2 HD;go_wp2_with fail;go_ret;exact⟨aF HP.symm,HL2⟩
 cases h3:fK next
 case' false=>
  have HP:=Hq (show TT=false by rw [ah HD];simp[h3]);have H3:=Hq (λw1=>aT next false w1 h3);clear h3 HD;go_wp2_with (go_at_call 169;refine(H3 _).mono ?_;rintro e w9 ⟨rfl,rfl⟩)
  go_ret;exact⟨aF HP.symm,HL2⟩
 have H3:=Hq (λw1=>aT next true w1 h3);go_wp2_with (go_at_call 169;refine(H3 _).mono ?_;rintro e w9 ⟨rfl,rfl⟩)
 refine(HOT _ HL2 h1).mono ?_;rintro e w3 ⟨rfl,hb1⟩;have HB3:=Hq (au HB2 hb1);have qC:=Hq (HL2.trans (hb1.mono HL2.size));clear hb1 c0 c1 c2 c3 c4 c5 c6 c7 c8;obtain⟨c0,c1,c2,c3,c4,c5,c6,c7,c8⟩:=nine HB3;cases h4:OT
 case' false=>
  have HP:=Hq (show TT=false by rw [ah HD];simp[h4]);clear h4 HD;go_wp2_with fail;go_ret;exact⟨aF HP.symm,qC⟩
 go_wp2_with fail;refine(HSE _ qC h1).mono ?_;rintro e w4 ⟨rfl,hb1⟩;have nK:=Hq (au HB3 hb1);have Gh:=Hq (qC.trans (hb1.mono qC.size));clear hb1 c0 c1 c2 c3 c4 c5 c6 c7 c8;obtain⟨c0,c1,c2,c3,c4,c5,c6,c7,c8⟩:=nine nK;cases h5:TD
 case' false=>
  have HP:=Hq (show TT=false by rw [ah HD];simp[h5]);clear h5 HD;go_wp2_with fail;go_ret;exact⟨aF HP.symm,Gh⟩
 go_wp2_with fail;refine(HRE _ Gh).mono ?_;rintro e w5 ⟨rfl,hb1⟩;have gY:=Hq (au nK hb1);have HL5:=Hq (Gh.trans (hb1.mono Gh.size));clear hb1 c0 c1 c2 c3 c4 c5 c6 c7 c8;obtain⟨c0,c1,c2,c3,c4,c5,c6,c7,c8⟩:=nine gY;have HP:=Hq (show TT=RQ by rw [ah HD];simp[h1,h2,h3,h4,h5]);clear h1 h2 h3 h4 h5 HD;go_wp2_with fail;go_ret;exact⟨aF HP.symm,HL5⟩):P:=h
theorem ahF(h:P:=by
 have HID:Hid ((takeN n o.m).1.id=n.id):=by
  exact aBh
 have HSY:=Hq (λW A G c n' (hW:WK w0 W wb n' A G c v L)=>Wt w0 W wb n' A G c v L ⟨2,n'.id,o.m.F,o.m.I,0,ByteArray.empty,0⟩ Aac Aaa hW);rw [ah HR];exact Adw):P:=h
theorem ax8.Adw(h:P:=by
 unfold Xe;rw [<-ah HID];open apj in exact aAx):P:=h
theorem ax9.Adw(h:P:=by
 open apk in exact aAx):P:=h
theorem aaH(h:P:=by
 have adR:=Hq (show∀b,(v4).ownBlock=some b->b≠rb from λb hb=>(ab4 b hb).elim (λh=>Ww b h) (λh=>by have:=aA Ee;omega));exact AcJ):P:=h
theorem aya.AcJ(h:P:=by
 obtain⟨avO,cvO,Jr,_⟩:=GR.own_at (enc:=aJ) (sz:=4) (l:=n.reqs.take pos++[(⟨no,k,nn,0⟩:Rq)]) aS (by rw [hL1];exact R8);open avA in exact agW):P:=h
theorem ayb.AcJ(h:P:=by
 obtain⟨avO,cvO,Jr,_⟩:=GR.own_at (enc:=aJ) (sz:=4) (l:=n.reqs.take pos++[(⟨no,k,nn,1⟩:Rq)]) aS (by rw [hL1];exact R8);open avz in exact agW):P:=h
theorem ayc.AcJ(h:P:=by
 obtain⟨avO,cvO,Jr,_⟩:=GR.own_at (enc:=bf) (sz:=1) (l:=(bg s0 mL).take pos++[mI]) aX (by rw [hL1];exact R8);rw [hL1] at Jr;subst Jr;clear XF Tp EI ab4;refine gL 12 rfl Aab Aad Aae (λx5 hx5=>?_);have Nv:=Hq (ZE.trans (hx5.mono ZE.size));have Pj:uI.heap.size<=x5.heap.size:=Nv.size;have Oe:=Hq (GR.own_below R8 hx5);have NI:=Hq (au ad9 hx5);clear hx5;obtain⟨v5,y5,KW,GL,Dg,XH⟩:=fE aX Aaa x5 uI.heap.size 22 22 3 i0 (.int .i64 0) 8 underlying22 hi0 hz0 hz1' hz2 rfl (.slice avO (pos+1) cvO) (pos+1) (GR.flat bf ((bg s0 mL).take pos++[mI])) Oe AD ((bg s0 mL).drop pos) (OP - pos) (GR.At.below HDR Nv) (qP _) Aai Aaa Pj;rw [XC] at KW GL;refine Lib.wp_append_run x5 (.tmp 135) (.tmp 138) 22 22 rfl _ _ Aal Aal v5 y5 KW ?_;refine⟨(Below.refl _ _).grown Dg Pj (λb hb=>(Oe.lt b hb).1),?_⟩;go_simp;have Wy:=Hq (Nv.grown Dg Pj (λb hb=>(Oe.lt b hb).1));have WU:Hid (y5.ownsRow uI.heap.size 3 1 v5 (pos+1+((bg s0 mL).length - pos)) (GR.flat bf ((bg s0 mL).take pos++[mI]++(bg s0 mL).drop pos))):=Hq Adf;have amZ:=Hq (show y5.heap[rb]?=some (.cells #[.int .i64 mI] 3 (0,0)) from by rw [Dg.block _ (aA (ah NI)) (λhm=>ah adR _ hm.symm rfl)];exact NI);open ayC in exact aaL):P:=h
theorem ahG(h:P:=by
 have hlit:(w.alloc (.cells #[] e)).ownsRow w.heap.size e sz (.slice (some ⟨w.heap.size,0,none⟩) 0 0) 0 []:=World.ownsRow_lit (base:=w.heap.size) (e:=e) (size:=sz) w #[] 0 (Nat.le_refl _) Aai Aac;exact Afj):P:=h
theorem ayd.Afj(h:P:=by
 exact⟨some ⟨w.heap.size,0,none⟩,0,w.alloc (.cells #[] e),λty=>oh (w.alloc (.cells #[] e)) w.heap.size t ty e i sz ht hi _ 0 [] hlit a c,hlit,ay w _,λ_=>rfl⟩):P:=h
theorem aye.Afj(h:P:=by
 by_cases hl0:l.length=0
 .have hn:l=[]:=List.eq_nil_of_length_eq_zero hl0;subst hn;refine⟨some ⟨w.heap.size,0,none⟩,0,w.alloc (.cells #[] e),λty=>oh (w.alloc (.cells #[] e)) w.heap.size t ty e i sz ht hi _ 0 [] hlit a c,hlit,ay w _,⟨_,rfl⟩,Nat.le_refl _⟩
 .obtain⟨v',w',hr,ho,hg,_⟩:=fE (P:=P) hs hz (w.alloc (.cells #[] e)) w.heap.size t 0 e i z bytes ht hi hz0 hsize hby hzs _ 0 [] hlit a l c (GR.At.below ha (ay w _)) h1 Aaa (by rw [Nat.zero_add];exact hbytes) Aac;rw [Nat.zero_add,List.nil_append] at ho;obtain⟨a',c',rfl,_⟩:=GR.own_at (enc:=enc) (sz:=sz) hs ho;refine⟨a',c',w',λty=>hr,ho,(ay w _).grown hg Aac (λk hk=>Ada),?_⟩;rcases ho.2 with⟨_,hn⟩|⟨g,cap,cur,hv,_,_,hnc,_⟩
  .omega
  .simp only[Value.slice.injEq] at hv;exact⟨⟨g,hv.1⟩,by rw [hv.2.2];exact hnc⟩):P:=h
theorem ahH(h:P:=by
 have HAT:=Hq (λW'' (ho:Dw w W' W'')=>((AQ.kc (k:=9) (KC.keeps gu (λx hx=>by have:x=w.heap.size+2:=Aaf;rw [this];exact Gl)) Aaa).kc (k:=9) (ho.kc (λx hx=>Zz x Aaa)) Aaa).rm);exact Ae2):P:=h
theorem ayf.Ae2(h:P:=by
 have HMT:=Hq (λW'' (ho:Dw w W' W'')=>Sm (c:=c) (w:=w) HMZ (ho.out0 Zz) hmb);have ow:Hid (aI w W'):=jP.trans (gu.below (λx hx=>by have:x=w.heap.size+2:=Aaf;omega) jP.size);obtain⟨x0,x1,x2,x3,x4,x5,x6,x7,x8⟩:=nine Jc;clear gu;exact Ac9):P:=h
theorem ayg.Ae2(h:P:=by
 have ow:Hid (aI w W'):=jP.trans (gu.below (λx hx=>by have:x=w.heap.size+2:=Aaf;omega) jP.size);obtain⟨x0,x1,x2,x3,x4,x5,x6,x7,x8⟩:=nine e4;clear hW' e4 gu;exact bodyPost_ret (v:= .tuple #[(fQ n A1),.slice (some ⟨W0.heap.size,0,none⟩) 0 0,.int .i64 1]) Aay rfl ⟨A1,some ⟨W0.heap.size,0,none⟩,0,rfl,HAT,λW'' _ i hi=>Aat,ow⟩):P:=h
theorem ahI(h:P:=by
 clear h1 HST AY Zk;refine wp_region_quiet_below Aab Aab ?_;repeat (first|go_big_quiet_step ((first|(go_at_call 206;exact cS _ _)))|quiet_step ((first|(go_at_call 206;exact cS _ _))))
 exact Ad3):P:=h
theorem ayh.Ad3(h:P:=by
 open azs in exact Vr):P:=h
theorem ayi.Ad3(h:P:=by
 exact aiB):P:=h
theorem ahJ(h:P:=by
 have hrl:=aA qD;go_wp2_with fail;refine aW (λW' hW'=>?_)
 have e4:W'.heap[w.heap.size+1]?=some (.cells (dH n A) 40 (0,0)):=by
  rw [hW'];exact GR.setW_blk (dH n A).toList (o:=0) (xs:=gN.toList) qD
 exact Ady):P:=h
theorem ayj.Ady(h:P:=by
 have gu:aC [w.heap.size+1] W1 W':=by
  rw [hW'];exact aM (dH n A).toList W1 0
 open ar4 in exact aAO):P:=h
theorem ayk.Ady(h:P:=by
 have gu:aC [w.heap.size+1] W0 W':=by
  rw [hW'];exact aM (dH n A).toList W0 0
 have HAT:=Hq (λW'' (ho:Out c w W' W'')=>(Nh.kc (k:=9) ((KC.keeps gu (λx hx=>by have:x=w.heap.size+1:=Aaf;rw [this];exact bq Aaa)).trans (KC.out H9 ho)) Aaa).rm);have ow:Hid (Below B w W'):=(HB0.mono hB).trans (gu.below (λx hx=>by have:x=w.heap.size+1:=Aaf;omega) (Nat.le_trans hB (HB0.mono hB).size));have tq:=Hq (Apart.keeps (c:=c) (Apart.of_below (HB0)) (HB0.mono hB).size gu (λx hx=>by have:x=w.heap.size+1:=Aaf;omega));obtain⟨x0,x1,x2,x3,x4,x5,x6,x7,x8⟩:=nine e4;clear hW' e4 gu;exact bodyPost_ret (v:= .tuple #[(fQ n A),.int .i64 2]) Abs rfl ⟨A,rfl,HAT,ow,tq⟩):P:=h
theorem ahK(h:P:=by
 obtain⟨k,y,hk,rfl,rfl,hy,hall,hblk,hbel⟩:=hrel;have kX:=Hq hall;have HY:=Hq hy;have cZ:=Hq hbel;have Gf:=Hq hblk;exact Afo):P:=h
theorem ayl.Afo(h:P:=by
 have hy0:0<=y:=by rw [hy];exact HLB k hall
 clear hall hy hblk hbel;by_cases hlt:k < out.length
 case' neg=>
  open asO in exact Oi
 obtain⟨g,off,e0,hgw,q0,q1,q2,q3⟩:=SentAt.four (HA.below cZ).o k hlt;(try dsimp only at e0 q0 q1 q2 q3)
 subst e0;have HBAD:Hid (gZ KB RR (out.take (k+1))=false->TT=false):=λh=>nW.trans (wV _ h)
 have iG:Hid (gZ KB RR (out.take (k+1))=(KB out[k]&&decide (y < (out[k]).i))):=by
  exact ajB
 have Dy:=Hq (yJ k hlt);have CX:=Hq (UO out[k]);clear jB yJ wV UO HLB;generalize out[k]=sk at *;generalize KB sk=OB at *;obtain⟨si,st,sx,sn⟩:=sk;dsimp only at q0 q1 q2 q3 iG Dy CX;obtain⟨bb,hbb⟩:∃bb,(!(decide (y < si)&&decide (si < next)&&NN st&&keyOk sx.data.toList&&fK sn))=bb:=⟨_,rfl⟩;have eZ:=Hq hbb
 have Av:Hid (gZ KB RR (out.take (k+1))= !bb):=by
  rw [ah iG,<-ah eZ,ah CX,Bool.not_not]
  have e1:(decide (1<=si/\si<=next - 1)&&decide (y < si))=(decide (y < si)&&decide (si < next)):=by
   rw [Bool.eq_iff_iff];exact aa8
  rw [<-e1];generalize decide (1<=si/\si<=next - 1)=z1;generalize decide (y < si)=z2;generalize NN st=z3;generalize keyOk sx.data.toList=z4;generalize fK sn=z5;cases z1<;>cases z2<;>cases z3<;>cases z4<;>cases z5<;>exact Hq rfl
 clear hbb iG CX;go_upto_region 7 with fail;refine wp_at (λW1 hW1=>?_);have HW1:Hid (W1.heap[wr.heap.size]?=some (.cells (fA si st sx sn) 91 (0,0))):=Acd
 open apf in exact aes):P:=h
theorem aym.Afo(h:P:=by
 have hy0:old<=y:=by rw [hy];exact HLB k hall
 clear hall hy hblk hbel;by_cases hlt:k < reqs.length
 case' neg=>
  have hke:k=reqs.length:=Aaa
  subst hke;have hnlt:decide ((reqs.length:Int) < (reqs.length:Int))=false:=Aac
  exact ak9
 obtain⟨g,off,e0,hgw,q0,q1,q2,q3⟩:=gF.four (HA.below cZ).r k hlt;(try dsimp only at e0 q0 q1 q2 q3)
 subst e0;have HBAD:Hid (gZ KB RR (reqs.take (k+1))=false->TT=false):=λh=>nW.trans (wV _ h)
 have iG:Hid (gZ KB RR (reqs.take (k+1))=(KB reqs[k]&&decide (y < (reqs[k]).no))):=by
  exact ajB
 have Dy:=Hq (yJ k hlt);have CX:=Hq (UO reqs[k]);clear jB yJ wV UO HLB;generalize reqs[k]=sk at *;generalize KB sk=OB at *;obtain⟨si,sx,sn,st⟩:=sk;dsimp only at q0 q1 q2 q3 iG Dy CX;obtain⟨bb,hbb⟩:∃bb,(!(decide (y < si)&&qy si&&keyOk sx.data.toList&&fK sn&&decide (0<=st)&&decide (st<=2)))=bb:=⟨_,rfl⟩;have eZ:=Hq hbb
 have Av:Hid (gZ KB RR (reqs.take (k+1))= !bb):=by
  rw [ah iG,<-ah eZ,ah CX,Bool.not_not]
  have e1:(decide (old+1<=si/\si<=1000000000)&&decide (y < si))=(decide (y < si)&&qy si):=by
   rw [Bool.eq_iff_iff];unfold qy;exact aa8
  have e2:decide (0<=st/\st<=2)=(decide (0<=st)&&decide (st<=2)):=by
   rw [Bool.eq_iff_iff];simp only[Bool.and_eq_true,decide_eq_true_eq]
  rw [<-e1,e2];generalize decide (old+1<=si/\si<=1000000000)=z1;generalize decide (y < si)=z2;generalize decide (0<=st)=z3;generalize decide (st<=2)=z6;generalize keyOk sx.data.toList=z4;generalize fK sn=z5;cases z1<;>cases z2<;>cases z3<;>cases z4<;>cases z5<;>cases z6<;>exact Hq rfl
 clear hbb iG CX;go_upto_region 7 with fail;refine wp_at (λW1 hW1=>?_);have HW1:Hid (W1.heap[wr.heap.size]?=some (.cells (dZ si sx sn st) 95 (0,0))):=Acd
 open ape in exact aes):P:=h
theorem aaI(h:P:=by
 clear hW;obtain⟨x0,x1,x2,x3,x4,x5,x6,x7,x8,x9,x10⟩:=DK hX;obtain⟨y0,y1,y2,y3,y4,y5,y6,y7,y8,y9,y10⟩:=DK hY;clear hX hY;exact AcP):P:=h
theorem ayn.AcP(h:P:=by
 exact aA3):P:=h
theorem ayo.AcP(h:P:=by
 exact aBl):P:=h
theorem ayp.AcP(h:P:=by
 by_cases hno:no=0
 case' neg=>
  have hno':¬(0:Int)=no:=λe=>hno e.symm
  go_wp2_with fail;go_ret;exact⟨aF (by rw [ah HP];simp[lQ,hno]),iR⟩
 subst hno;exact AdF):P:=h
theorem aaJ(h:P:=by
 go_in
 go_wp2_with (go_at_call 102;refine(HS _).mono ?_;rintro e w1 ⟨rfl,hb1⟩;simp only[vD])
 go_ret2
 exact Ac4):P:=h
theorem ayq.Ac4(h:P:=by
 exact⟨rfl,hb1⟩):P:=h
theorem ayr.Ac4(h:P:=by
 exact⟨by rw [ah HR];simp[DX],hb1⟩):P:=h
theorem ays.Ac4(h:P:=by
 exact⟨by rw [ah HR];rfl,hb1⟩):P:=h
theorem ahL(h:P:=by
 clear HR;clear hk hn;go_in
 go_wp2_with (first|(go_at_call_of 204 k;refine(HK _).mono ?_;rintro e w1 ⟨rfl,rfl⟩)|(go_at_call_of 169 n;refine(HN _).mono ?_;rintro e w1 ⟨rfl,rfl⟩))
 exact Afs):P:=h
theorem ayt.Afs(h:P:=by
 go_region
 go_upto_region 23 with fail;open axh in exact Vo):P:=h
theorem ayu.Afs(h:P:=by
 go_ret;exact⟨aF (by rw [ah HP];simp),by first|exact jy w _ _|exact Below.setNew (jy w _ _) Aaa⟩):P:=h
theorem ahM(h:P:=by
 clear ha he hks hok hb0 hd1 hd2 hd3 hkk;go_in
 go_wp2_with fail;refine HOF.mono ?_;rintro e w1 ⟨mp,mb,v,rfl,Cj,hb1⟩;have HB1:=Hq (Fo.one_block hb1).2.2;exact AfH):P:=h
theorem ayv.AfH(h:P:=by
 have ve:=(HE.below HB1).var 2 Aaa;clear hb1 Cj HOF;go_wp2_with (first|(go_at_call 204;refine(HK _).mono ?_;rintro e w2 ⟨rfl,rfl⟩)|(go_at_call 169;refine(Gd _).mono ?_;rintro e w2 ⟨rfl,rfl⟩))
 go_quiet (fail);go_wp2_with fail;go_ret2
 exact⟨HB1.trans ⟨rfl,rfl,rfl,Nat.le_refl _,λ_ _=>rfl⟩,.inl ⟨by rw [ah HAD],_,Aaa,rfl⟩⟩):P:=h
theorem ayw.AfH(h:P:=by
 have ve:=(HE.below HB1).var 1 Aaa;clear hb1 Cj HOF;go_wp2_with (go_at_call 204;refine(HK _).mono ?_;rintro e w2 ⟨rfl,rfl⟩)
 go_quiet (fail);go_wp2_with fail;go_ret2
 exact⟨HB1.trans ⟨rfl,rfl,rfl,Nat.le_refl _,λ_ _=>rfl⟩,.inl ⟨HAD,_,Aaa,rfl⟩⟩):P:=h
theorem ahN(h:P:=by
 go_in
 go_wp2_with fail;refine HG.mono ?_;rintro e w1 ⟨rfl,hb1⟩;clear hr HG;go_upto_region 7 with fail;refine wp_at (λV hV=>?_);obtain rfl:=hV;have vW:=Hq hb1;clear hb1;exact AeZ):P:=h
theorem ayx.AeZ(h:P:=by
 have hcc:=λd os=>HCC (Sort.grow (redrawn V d) os) (Ge.trans vW (below_regrown V d os))
 refine dz Aab ?_;show gT _ _ _ _ 10 (Array.replicate 10 false) _ _
 refine tk [0,1,2,3,6,7] ?_;iterate 6 (refine AJ (λK hK=>?_);go_simp;refine hK _ ?_;clear hK K)
 refine jK ?_;refine fT 4 rfl Aab Aad (λx hx=>?_);go_simp;refine(HS _).mono ?_;rintro e y ⟨g2,rfl,hg2,hblk,hby⟩;refine⟨hby,?_⟩;have IK:=Hq (Ge.trans (Ge.trans vW hx) hby);have hgy:=dG hblk;obtain⟨c0,c1,c2,c3⟩:=Kv hblk;have hcv:=λd os=>HCV (Sort.grow (redrawn y d) os) g2 (cell_regrown c0 d os) (cell_regrown c1 d os) (cell_regrown c2 d os) (cell_regrown c3 d os)
 clear hx hby hblk c0 c1 c2 c3 HCV vW HS hcc HCC hg2;refine tk [5,8,9] ?_;iterate 3 (refine AJ (λK hK=>?_);go_simp;refine hK _ ?_;clear hK K)
 refine jK ?_;refine fu Aab (λx2 hx=>?_);have pz:=Hq (Ge.trans IK hx);clear hx IK hcv;go_simp;go_wp2_with fail;exact Aex):P:=h
theorem ayy.AeZ(h:P:=by
 refine dz Aab ?_;show gT _ _ _ _ 10 (Array.replicate 10 false) _ _
 refine tk [0,1,2,3,4,5,6,7,8,9] ?_;iterate 10 (refine AJ (λK hK=>?_);go_simp;refine hK _ ?_;clear hK K)
 refine jK ?_;refine fu Aab (λx hx=>?_);have pz:=Hq (Ge.trans vW hx);clear hx vW;go_simp;go_wp2_with fail;exact bodyPost_ret (v:= .tuple #[.string ⟨#[]⟩,.int .i64 (-1)]) Acp rfl ⟨rfl,pz⟩):P:=h
theorem aaK(h:P:=by
 iterate 2 (refine AJ (λK hK=>?_);go_simp;refine hK _ ?_;clear hK K)
 refine jK ?_;refine fu Aab (λz hz=>?_);exact AcE):P:=h
theorem ayz.AcE(h:P:=by
 have uX:=Hq (HS.below hz hg);clear hz x0 x1 y0 y1 y2 y3 y4 y5 y6 y7 y8 y9 y10 HS nW;go_simp;cases hbo:bo
 .have hno:OK=false:=by rw [Bool.eq_false_iff];intro hy;have:=(HG.1 hy).2.2;rw [hbo] at this;cases this
  subst hbo;go_wp2_with fail;refine(HF _ uX.rd).mono ?_;rintro e w9 ⟨rfl,rfl⟩;go_wp2_with fail;exact⟨rfl,.inr ⟨hno,_,rfl⟩,uX.keep⟩
 .have hyes:OK=true:=HG.2 ⟨HES,HYE.2,hbo⟩;subst hbo;have aDN:=Hq hyes;clear hyes;have hzo:=dG uX.op;have hlo:=uX.lo;obtain⟨⟨c0,c1,c2,c3,c4,c5,c6,c7,c8,c9,c10⟩,_⟩:=aO uX.op;obtain⟨⟨d0,d1,d2,d3,d4,d5,d6,d7,d8,d9,Zn⟩,f0,f1,f2,f3,f4,f5,f6,f7,f8,f9,f10⟩:=aO uX.res;go_wp2_with fail;refine iH (λW' hW'=>?_);obtain⟨⟨r0,r1,r2,r3,r4,r5,r6,r7,r8,r9,Zt⟩,_⟩:=aO (show W'.heap[w.heap.size]?=some (.cells (bY (s[0].toNat:Int) N1 TX N2 mK mF mT mI mL mk mN) 100 (0,0)) by rw [hW'];exact lq uX.res)
  have VJ:dR g w W':=by
   rw [hW'];exact(((((((((((uX.keep.setNew (Nat.le_refl _)).setNew (Nat.le_refl _)).setNew (Nat.le_refl _)).setNew (Nat.le_refl _)).setNew (Nat.le_refl _)).setNew (Nat.le_refl _)).setNew (Nat.le_refl _)).setNew (Nat.le_refl _)).setNew (Nat.le_refl _)).setNew (Nat.le_refl _)).setNew (Nat.le_refl _))
  exact bodyPost_ret (v:= .agg (bY (s[0].toNat:Int) N1 TX N2 mK mF mT mI mL mk mN)) (by simp[results,results200,go_sem,r0,r1,r2,r3,r4,r5,r6,r7,r8,r9,Zt]) rfl ⟨.inl ⟨aDN,rfl⟩,VJ⟩):P:=h
theorem ayA.AcE(h:P:=by
 have pz:=Hq (iR.trans (hz.mono iR.size));exact AaL):P:=h
theorem ayB.AcE(h:P:=by
 have HZ:=Hq ((ay w (.cells (bX mK mF mT mI mL mk mN) 98)).trans (hz.mono Aac));clear hz y0 y1 y2 y3 y4 y5 y6 y7 y8 z1 z2 R7;go_simp;go_wp2_with fail;go_ret;exact⟨rfl,HZ⟩):P:=h
theorem aaL(h:P:=by
 have aG0:=Hq (show∀b,(v5).ownBlock=some b->b≠rb from λb hb=>(XH b hb).elim (λh=>adR b h) (λh=>by have:=aA NI;omega));exact AcI):P:=h
theorem ayC.AcI(h:P:=by
 obtain⟨avT,cvT,Cm,_⟩:=GR.own_at (enc:=bf) (sz:=1) (l:=(bg s0 mL).take pos++[mI]++(bg s0 mL).drop pos) aX (by rw [hL2];exact WU);rw [hL2] at Cm;subst Cm;clear KW GL Dg XH;have alI:uI.heap.size<=y5.heap.size:=Wy.size;refine tk [13] ?_;open asw in exact aao):P:=h
theorem ayD.AcI(h:P:=by
 obtain⟨avT,cvT,Cm,_⟩:=GR.own_at (enc:=aJ) (sz:=4) (l:=n.reqs.take pos++[(⟨no,k,nn,1⟩:Rq)]++n.reqs.drop pos) aS (by rw [hL2];exact WU);rw [hL2] at Cm;subst Cm;clear KW GL Dg XH;have alI:wc.heap.size<=y5.heap.size:=Wy.size;refine tk [14] ?_;open asx in exact aao):P:=h
theorem ayE.AcI(h:P:=by
 obtain⟨avT,cvT,Cm,_⟩:=GR.own_at (enc:=aJ) (sz:=4) (l:=n.reqs.take pos++[(⟨no,k,nn,0⟩:Rq)]++n.reqs.drop pos) aS (by rw [hL2];exact WU);rw [hL2] at Cm;subst Cm;clear KW GL Dg XH;have alI:wc.heap.size<=y5.heap.size:=Wy.size;refine tk [14] ?_;open asy in exact aao):P:=h
theorem ahO(h:P:=by
 go_in
 go_wp2_with (first|(go_at_call 100;refine(nH _ true _ h1).mono ?_;rintro e w1 ⟨rfl,rfl⟩)|(go_at_call 18;refine(yc _ _ _ true _ h2).mono ?_;rintro e w1 ⟨rfl,rfl⟩))
 exact AeG):P:=h
theorem ayF.AeG(h:P:=by
 go_loopw [3] (λi wr=>∃k:Nat,k<=kids.length/\i= .int .i64 k/\gZ (ku id par) iN (kids.take k)=true/\wr.heap[w.heap.size]?=some (.cells (dH ⟨id,par,kids,next,pu,out,seen,old,reqs⟩ ⟨ak,ap,ao,as',ar,ck,cp,co,cs,cr⟩) 40 (0,0))/\aI w wr) (λi _=>kids.length - (intOf i).toNat)
 case atStart=>exact⟨0,Nat.zero_le _,rfl,rfl,heap_alloc_new w _,ay w _⟩
 case round=>
  open atI in exact Ve):P:=h
theorem ayG.AeG(h:P:=by
 exact wP):P:=h
theorem ahP(h:P:=by
 obtain⟨rl,rb⟩:=r;dsimp only at HZ ⊢;refine aH 21 rfl Aab Aad ?_;go_simp;refine aH 22 rfl Aab Aad ?_;go_simp;refine wpAny_done Aab ?_;go_simp;exact AdG):P:=h
theorem ayH.AdG(h:P:=by
 cases rb
 .go_wp2_with fail;go_ret;exact⟨rfl,⟨A',G',c',HZ.wk,HZ.bk,HZ.si.mono (Nat.le_succ k),HZ.cs,HZ.cm⟩,λj o h1 _ h3=>HKO j o h1 h3⟩
 .obtain⟨⟨p0,p1,p2,p3,p4,p5,p6⟩,_⟩:=eT rz;obtain⟨⟨d0,d1⟩,_⟩:=mD HZ.bk;have hsl2:=aA HZ.bk;have alH:=aA rz;have hI1:fH z2.drew mb k l:=HZ.si.kept rfl;obtain⟨z3,hrun,hI3,hK3⟩:=hI1.store mI hi0 hi1 Aai;have HR:=Hq (HZ.put hI3 (Keeps.trans (b:=z2.drew) (Keeps.of_below (Below.refl _ _).drew) hK3))
  have HK4:Hid (∀j o,j≠wb->j≠mb->w.heap[j]?=some o->z3.heap[j]?=some o):=λj o h1 h2 h3=>by
   have h4:=ah HKO j o h1 h3
   rw [hK3.block j (aA h4) h2]
   exact h4
  clear hI1 hI3 hK3 rz;go_wp2_with fail;go_region
  all_goals
   go_wp2_with fail
   go_ret
   exact⟨rfl,⟨A',G',c',HR⟩,HK4⟩):P:=h
theorem ayI.AdG(h:P:=by
 cases rb
 all_goals
  go_wp2_with fail
  go_ret
  exact⟨rfl,A',G',c',HZ⟩):P:=h
theorem ahQ(h:P:=by
 have cO:∀d os,Calls prog 202 #[wU ⟨pk,pm,pf,ps⟩] (Sort.grow (redrawn V d) os) λe w''=>e= .returned (.bool false)/\∃p:Regrown,w''=Sort.grow (redrawn V p.d) p.os:=λd os=>Calls.regrown_of (HO _)
 exact Ad8):P:=h
theorem ayJ.Ad8(h:P:=by
 open axO in exact Om):P:=h
theorem ayK.Ad8(h:P:=by
 exact aBu):P:=h
theorem ahR(h:P:=by
 have cO:∀d os,Calls prog 202 #[wU ⟨pk,pm,pf,ps⟩] (Sort.grow (redrawn V d) os) λe w''=>e= .returned (.bool true)/\∃p:Regrown,w''=Sort.grow (redrawn V p.d) p.os:=λd os=>Calls.regrown_of (HO _)
 exact AdX):P:=h
theorem ayL.AdX(h:P:=by
 exact Ae6):P:=h
theorem ayM.AdX(h:P:=by
 open axP in exact Om):P:=h
theorem ahS(h:P:=by
 have hlit:(w.alloc (.cells #[] 108)).ownsRow w.heap.size 108 4 (.slice (some ⟨w.heap.size,0,none⟩) 0 0) 0 []:=World.ownsRow_lit (base:=w.heap.size) (e:=108) (size:=4) w #[] 0 (Nat.le_refl _) Aae rfl;exact AeH):P:=h
theorem ayN.AeH(h:P:=by
 cases a with
 |none=>
  have hl0:l=[]:=GR.none_nil ha;subst hl0;clear ha hlit;go_in
  exact Sl
 |some x=>
  have HN:=Hq (aG.news (GR.At.below ha (dU w (.cells #[] 108))));clear ha;go_in
  open atJ in exact agp):P:=h
theorem ayO.AeH(h:P:=by
 cases a with
 |none=>
  obtain⟨h1,h2⟩:=hn rfl;have hl0:l=[]:=List.eq_nil_of_length_eq_zero h1;subst hl0 h2;go_in
  go_wp2_with (at_builtin;refine wpList_append_own_none rfl _ _ 35 rfl w.heap.size 108 i0 4 underlying35 hi _ 0 [] rfl hlit rfl ?_)
  go_ret;exact⟨_,rfl,(by intro h;cases h),hlit,dU w _⟩
 |some x=>
  have HN:=Hq (aG.news (GR.At.below ha (dU w (.cells #[] 108))));clear ha;go_in
  open atK in exact agp):P:=h
theorem ahT(h:P:=by
 clear h1 h2;go_in
 go_wp2_with (first|(go_at_call_of 201 F;refine(H1 _).mono ?_;rintro e w1 ⟨rfl,rfl⟩)|(go_at_call_of 201 T;refine(H2 _).mono ?_;rintro e w1 ⟨rfl,rfl⟩))
 exact AeR):P:=h
theorem ayP.AeR(h:P:=by
 go_ret;exact⟨aF (by first|exact HP.symm|exact he.trans HP.symm),ay w _⟩):P:=h
theorem ayQ.AeR(h:P:=by
 exact wP):P:=h
theorem ahU(h:P:=by
 refine wp_at (λW1 hW1=>?_);have HW1:Hid (W1.heap[wr.heap.size]?=some (.cells #[.int .i64 fr,.int .i64 lo,.slice b ids.length c] 110 (0,0))):=Acd
 exact Ad6):P:=h
theorem ayR.Ad6(h:P:=by
 open apc in exact aes):P:=h
theorem ayS.Ad6(h:P:=by
 have hbw:aI wr W1:=by rw [hW1];exact ay wr _
 have amF:=Hq (jP.trans (hbw.mono jP.size));have HI1:=Hq (GR.At.below HI hbw);have p1:=(hbw.cell (p:=⟨g2,off2+k,none⟩) alz).trans p0;have wM:=Hq (cZ.trans (hbw.mono cZ.size));clear hW1 hbw q0 q1 q2 p0 HI;obtain⟨d0,d1,d2⟩:=three HW1;have m0:=cell_grown' d0;have m1:=cell_grown' d1;have m2:=cell_grown' d2;have m3:=cell_grown' p1;by_cases h1:fr=y
 case' neg=>
  have hb1:(fr != y)=true:=Aba
  have HP:=Hq (show TT=false by rw [ah HD,decide_eq_false (ah AY h1)];rfl);clear h1 HST AY Zk;refine wp_region_quiet_below Aab Aab ?_;repeat (first|go_big_quiet_step (fail)|quiet_step (fail))
  exact aiB
 have hb1:(fr != y)=false:=Aba
 cases h2:uV ⟨fr,lo,ids⟩
 case' false=>
  have HP:=Hq (show TT=false by rw [ah HD,ah Zk h2];simp)
  have cS:=ake ⟨fr,lo,ids⟩ b c false W1 GK HI1 h2
  open ayi in exact ahI
 have HG:=Hq (HST h1 h2);have cS:=ake ⟨fr,lo,ids⟩ b c true W1 GK HI1 h2;open ayh in exact ahI):P:=h
theorem ahV(h:P:=by
 rw [e1] at e2;injection e2 with e2
 injection e2 with e2 e3
 subst e2 e3 e1;have hgt:decide ((0:Int) < ((j+1:Nat):Int))=true:=decide_eq_true Aaa;exact AfC):P:=h
theorem ayT.AfC(h:P:=by
 have iG:Hid (gZ (Bv lo) iN (ids.take (j+1+1))=(Bv lo ids[j+1]&&iN ids[j] ids[j+1])):=by
  have h:=uZ (Bv lo) iN ids j hlm;rw [ah amx] at h;exact h
 clear hI3;generalize ids[j]=y at *;generalize ids[j+1]=x at *;cases h1:decide (lo<=x/\x<=1000000000)
 case' false=>
  exact ajY
 by_cases h2:y < x
 case' neg=>
  have hy:decide (x<=y)=true:=decide_eq_true Aaa;have HV:=Hq (HBM (by rw [ah iG];simp[iN,h2]));exact aBp
 have hy:decide (x<=y)=false:=decide_eq_false Aaa;have HV:=Hq (show gZ (Bv lo) iN (ids.take (j+1+1))=true by rw [ah iG];simp[Bv,h1,iN,h2]);open aqZ in exact akN):P:=h
theorem ayU.AfC(h:P:=by
 have iG:Hid (gZ (ku id par) iN (kids.take (j+1+1))=(ku id par kids[j+1]&&iN kids[j] kids[j+1])):=by
  have h:=ah D9 j hlt;rw [ah kX] at h;exact h
 clear Nt D9 wV;generalize kids[j]=y at *;generalize kids[j+1]=x at *;open axp in exact aht):P:=h
theorem ahW(h:P:=by
 rw [hlt1] at ab1;subst ab1;clear XE XD Xz aCK;refine gL 7 rfl Aab Aad Aae (λx3 hx3=>?_);go_simp;have yL:=Hq (J9.trans (hx3.mono J9.size));exact AeC):P:=h
theorem ayV.AeC(h:P:=by
 have Bu:wc.heap.size<=x3.heap.size:=yL.size;have AV:=Hq (GR.own_below Gs hx3);clear hx3;refine⟨(ay x3 _).mono Bu,?_⟩;exact AeS):P:=h
theorem ayW.AeC(h:P:=by
 have Bu:uI.heap.size<=x3.heap.size:=yL.size;have AV:=Hq (GR.own_below Gs hx3);clear hx3;refine⟨(ay x3 _).mono Bu,?_⟩;have abP:=ay x3 (.cells #[.int .i64 mI] 3);have Gp:=Hq (heap_alloc_new x3 (.cells #[.int .i64 mI] 3));open atp in exact aas):P:=h
theorem Vp(h:P:=by
 refine aP 14 rfl Aab Aab Aab (λ_ _ _ _ h=>h) (λK hK=>?_);exact AbX):P:=h
theorem ayX.AbX(h:P:=by
 open anj in exact aem):P:=h
theorem ayY.AbX(h:P:=by
 open ani in exact aem):P:=h
theorem ayZ.AbX(h:P:=by
 open azd in exact ahY):P:=h
theorem aza.AbX(h:P:=by
 open aEv in exact aej):P:=h
theorem ahX(h:P:=by
 rw [Mth.take_all s k hlt] at HA;have HF:Hid (Mth.keyOk s.data.toList=decide (1<=s.data.toList.length/\s.data.toList.length<=10)):=Mth.keyOk_all _ HA;rw [bE s] at HF;exact AfN):P:=h
theorem azb.AfN(h:P:=by
 by_cases hin:(1:Int)<=(s.size:Int)/\(s.size:Int)<=10
 .obtain⟨hi1,hi2⟩:=hin;exact aiq
 .exact aiq):P:=h
theorem azc.AfN(h:P:=by
 go_wp2
 go_ret;exact⟨aF (by rw [ah HF];simp;omega),rfl⟩):P:=h
theorem ahY(h:P:=by
 go_simp
 first
  |(refine hK _ ?_;clear hK K)
  |(apply Exists.intro
    refine⟨λ_=>?_,hK _ ?_⟩
    ((first|exact(HC _).mono (λe z ⟨he,hz⟩=>⟨he,hz▸Below.refl _ _⟩)|exact HW _))
    clear hK K)
 exact Aez):P:=h
theorem azd.Aez(h:P:=by
 refine tk [15,16] ?_;open ayA in exact aaK):P:=h
theorem aze.Aez(h:P:=by
 open ayZ in exact Vp):P:=h
theorem ahZ(h:P:=by
 generalize l[k]=pu at *;have nW:=Hq (λw1=>ES pu w1 hkk);clear hkk;obtain⟨pk,pm,pf,ps⟩:=pu;exact Ae5):P:=h
theorem azf.Ae5(h:P:=by
 dsimp only at c0 c1 c2 c3 hf;go_wp2_with fail;refine(nW _).mono ?_;rintro e w1 ⟨rfl,hb1⟩;have hb2:=cZ.trans ((Below.mono (Fo.one_block hb1).2.2 cZ.size));have hB:w1.heap[w.heap.size]?=some (.cells (iZ ⟨#[]⟩ 0 0 0) 108 (0,0)):=by rw [(Fo.one_block hb1).2.2.block _ ae8];exact Gf
 have HB:=Hq hB;have HB2:=Hq hb2;obtain⟨⟨r0,r1,r2,r3⟩,s0,s1,s2,s3⟩:=gD hB;clear hB hb1 hb2;go_wp2_with fail;clear r0 r1 r2 r3;refine Fo.bodyPost_at (λW' hW'=>?_);obtain⟨⟨r0,r1,r2,r3⟩,_⟩:=gD (show W'.heap[w.heap.size]?=some (.cells (iZ pk pm pf ps) 108 (0,0)) by rw [hW'];exact Fo.four_set HB);have hbb:aI w W':=by rw [hW'];exact Fo.four_below HB2 (Nat.le_refl _)
 refine bodyPost_ret (v:= .agg (iZ pk pm pf ps)) (by simp[results,results240,go_sem,r0,r1,r2,r3]) rfl ⟨by rw [ah HX],hbb⟩):P:=h
theorem azg.Ae5(h:P:=by
 dsimp only at q0 q1 q2 q3;go_wp2_with fail;refine(nW _).mono ?_;rintro e w5 ⟨rfl,hb5⟩;obtain⟨_,_,hb6⟩:=Fo.one_block hb5;have gY:=Hq (wN.below HB hb6);have fO:=Hq (cZ.trans (hb6.mono cZ.size));clear hb5 hb6 q0 q1 q2 q3;obtain⟨_,aHi,⟨s0,s1,s2,s3⟩,f0,f1,f2,f3⟩:=wN.four gY k hlt;go_wp2_with fail;go_roundw
 case rel=>
  have h:=wN.set gY k ⟨pk,pm,pf,ps⟩ hlt;rw [ah HSE] at h;exact⟨k+1,Aaa,Aah,h,GR.setW_below (o:=k*4) hg (gB ⟨pk,pm,pf,ps⟩) fO⟩
 case measure=>simp[intOf];omega):P:=h
theorem ah0(h:P:=by
 have HK:=Hq ((dR.of_below (ay w _)).trans hk1);have HR1:=Hq hr1;have HH1:=Hq (Pb HH HK hg hge);clear hr1 hk1;go_wp2_with fail;refine(HGM _ HH1).mono ?_;rintro e w2 ⟨rfl,hb2⟩;exact AeW):P:=h
theorem azh.AeW(h:P:=by
 have HR2:=Hq (aN HR hb2);have HA2:=Hq (aN HR1 hb2);have sW:=Hq (HK.trans (dR.of_below hb2));have hz2:=dG HR2;have hz3:=dG HA2;clear hb2 HR HK HR1 HH1;go_upto_region 7 with fail;refine wp_at (λV hV=>?_);have Zf:Hid (V.heap[w2.heap.size]?=some (.cells (bX mK mF mT mI mL mk mN) 98 (0,0))):=by rw [hV];exact heap_alloc_new w2 _
 have HRV:Hid (V.heap[w.heap.size]?=some (.cells (bX 0 0 0 0 0 ⟨#[]⟩ 0) 98 (0,0))):=by rw [hV];exact aN HR2 (ay w2 _)
 have HAV:Hid (jE V g s E):=by rw [hV];exact aN HA2 (ay w2 _)
 have HKV:Hid (dR g w V):=by rw [hV];exact sW.trans (dR.of_below (ay w2 _))
 clear hV HR2 HA2 sW;have xW:=dG Zf;obtain⟨q0,q1,q2,q3,q4,q5,q6⟩:=tF Zf;obtain⟨⟨d0,d1,d2,d3,d4,d5,d6⟩,f0,f1,f2,f3,f4,f5,f6⟩:=eT HRV;go_wp2_with fail;refine iH (λW' hW'=>?_);obtain⟨⟨r0,r1,r2,r3,r4,r5,r6⟩,_⟩:=eT (show W'.heap[w.heap.size]?=some (.cells (bX mK mF mT mI mL mk mN) 98 (0,0)) by rw [hW'];exact sJ HRV);have VJ:dR g w W':=by rw [hW'];exact Cw HKV
 have hRR:jE W' g s E:=by rw [hW'];exact Ac (Ne.symm hg2) HAV
 exact bodyPost_ret (v:= .agg (bX mK mF mT mI mL mk mN)) Ado rfl ⟨rfl,hRR,VJ⟩):P:=h
theorem azi.AeW(h:P:=by
 have HR2:=Hq (aN (aN HR1 hb2) (ay w2 (.cells (bX 0 0 0 0 0 ⟨#[]⟩ 0) 98)));have sW:=Hq (HK.trans (dR.of_below ((hb2.trans ((ay w2 (.cells (bX 0 0 0 0 0 ⟨#[]⟩ 0) 98)).mono hb2.size)))));clear hb2;go_wp2_with fail;refine(HF _ HR2).mono ?_;rintro e w3 ⟨rfl,rfl⟩;go_wp2_with fail;exact⟨rfl,⟨_,rfl⟩,sW⟩):P:=h
theorem ah1(h:P:=by
 have e2:b=g1:=by injection e1 with e1;injection e1 with e1 e2
 have e3:off=o1:=by injection e1 with e1;injection e1 with e1 e2
 subst e2 e3;exact AdM):P:=h
theorem azj.AdM(h:P:=by
 have HT:=Hq (List.take_succ_eq_append_getElem hlt);have NH:=Hq (λh2=>(place_at l pk k Aaa kX h2).1);clear s1 s2 s3 e1;cases hbl:Op.bytesLess l[k].k.toList pk.toList with
 |true=>
  clear NH;generalize l[k]=pu at *;obtain⟨qk,qm,qf,qs⟩:=pu;dsimp only at s0 hbl;go_wp2_with fail;go_quiet (fail);go_wp2
  go_roundw
  case rel=>
   refine⟨k+1,_,Aaa,Aah,?_,rfl⟩;intro x hx;rw [ah HT] at hx;rcases List.mem_append.1 hx with hx|hx
   .exact kX x hx
   .rw [List.mem_singleton] at hx;subst hx;exact hbl
  case measure=>simp[intOf];omega
 |false=>
  have Rs:=Hq (NH (λ_=>hbl));clear NH HT;generalize l[k]=pu at *;obtain⟨qk,qm,qf,qs⟩:=pu;dsimp only at s0 hbl;exact aja):P:=h
theorem azk.AdM(h:P:=by
 have hae:=hAe hlt;subst hae;have HF:=Hq hf;have hpos:decide (0 < l.length - place l pk)=true:=decide_eq_true Aaa;have aGb:0 < l.length - place l pk:=Aaa
 clear s1 s2 s3 e1 hf hAe hAd;generalize l[place l pk]=pu at *;obtain⟨qk,qm,qf,qs⟩:=pu;dsimp only at s0 HF;cases heq:qk.toList == pk.toList
 all_goals
  go_quiet (fail)
  go_wp2_with fail
  go_meet
  case rel=>exact⟨by rw [ah HF,heq],_,Bc w1 _ _⟩):P:=h
theorem Vq(h:P:=by
 refine aP 6 rfl Aab Aab Aab (λ_ _ _ _ h=>h) (λK hK=>?_);exact AbN):P:=h
theorem azl.AbN(h:P:=by
 open atD in exact Vd):P:=h
theorem azm.AbN(h:P:=by
 open asJ in exact Va):P:=h
theorem azn.AbN(h:P:=by
 open aoL in exact aep):P:=h
theorem azo.AbN(h:P:=by
 go_simp
 first
  |(refine hK _ ?_;clear hK K)
  |(apply Exists.intro
    refine⟨λ_=>?_,hK _ ?_⟩
    (exact HKD _ (R7 _))
    clear hK K)
 refine tk [7] ?_;(refine AJ (λK hK=>?_);go_simp;refine hK _ ?_;clear hK K)
 refine jK ?_;refine fu Aab (λz hz=>?_);have HZ:=Hq (HW1.step hz);exact AaQ):P:=h
theorem ah2(h:P:=by
 rintro e W1 ⟨rfl,hb1⟩;have kK:=Hq (au HN hb1);have qD:=Hq (au HR hb1);have HB1:=Hq (HB0.trans (hb1.mono HB0.size));have yO:=Hq (Nh.kc (k:=9) (KC.of_below hb1) Aaa);exact AfI):P:=h
theorem azp.AfI(h:P:=by
 clear hb1 c0 c1 c2 c3 c4 c5 c6 c7 c8 hnl NJ HN HR Nh HB0;exact AcV):P:=h
theorem azq.AfI(h:P:=by
 clear hb1 c0 c1 c2 c3 c4 c5 c6 c7 c8 hnl Jb HN HR Nh HB0;exact Afu):P:=h
theorem Vr(h:P:=by
 refine wpQuiet_nil ?_;intro _ hw';obtain⟨⟨dq,osq⟩,hw''⟩:=hw';subst hw'';go_wp2_with fail;exact AbP):P:=h
theorem azr.AbP(h:P:=by
 go_roundw
 case rel=>exact⟨k+1,Aaa,Aah,cZ.trans ((below_regrown _ dq osq).mono cZ.size)⟩
 case measure=>simp[intOf];omega):P:=h
theorem azs.AbP(h:P:=by
 go_roundw
 case rel=>exact⟨k+1,Aaa,Aah,HG.1,HG.2,amF.trans ((below_regrown _ dq osq).mono amF.size)⟩
 case measure=>simp[intOf];omega):P:=h
theorem azt.AbP(h:P:=by
 go_ret;exact⟨aF HP.symm,wM.trans ((below_regrown _ dq osq).mono wM.size)⟩):P:=h
theorem azu.AbP(h:P:=by
 go_meet
 case rel=>exact xQ):P:=h
theorem ah3(h:P:=by
 have HO:=Hq (show w1.ownsRow w.heap.size 108 4 v' l.length (GR.flat gB l) by simpa using hown');have hb:aI w w1:=(dU w _).grown hgrow Aac (λk hk=>Ada);exact Adz):P:=h
theorem azv.Adz(h:P:=by
 clear hown' hgrow hlit hnil;go_wp2
 go_ret;exact⟨_,rfl,HNN,HO,hb⟩):P:=h
theorem azw.Adz(h:P:=by
 clear hown' hgrow hlit;go_wp2
 go_ret;exact⟨_,rfl,HO,hb⟩):P:=h
theorem ah4(h:P:=by
 have hke:k=L.length:=Aaa
 subst hke;have hnlt:decide ((L.length:Int) < (L.length:Int))=false:=Aac
 exact Aem):P:=h
theorem azx.Aem(h:P:=by
 rw [ah HPE] at HK;obtain⟨m,hm⟩:∃m,iw n L=m:=⟨_,rfl⟩;rw [hm] at HK;have HM:=Hq hm;clear HD HP HPE hlt hm;obtain⟨c0,c1,c2,c3,c4,c5,c6,c7,c8,c9⟩:=jH HK.blk;have hres:=au HR HK.keep;have qD:=Hq hres;have hrl:=aA hres;have hwl:=aA HK.blk;open atU in exact ags):P:=h
theorem azy.Aem(h:P:=by
 rw [ah HPE] at HS;obtain⟨m,hm⟩:∃m,iw n L=m:=⟨_,rfl⟩;rw [hm] at HS;have HM:=Hq hm;clear HSD HPS HPE hlt hm hLl;obtain⟨c0,c1,c2,c3,c4,c5,c6,c7,c8⟩:=nine HS.blk;obtain⟨d0,d1,d2,d3,d4,d5,d6,d7,d8⟩:=nine HS.res;have hnl:=aA HS.blk;have hrl:=aA HS.res;have f0:=aj HS.res 0;have f1:=aj HS.res 1;have f2:=aj HS.res 2;have f3:=aj HS.res 3;have f4:=aj HS.res 4;have f5:=aj HS.res 5;have f6:=aj HS.res 6;have f7:=aj HS.res 7;have f8:=aj HS.res 8;go_wp2_with fail;refine aW (λW' hW'=>?_);have e9:W'.heap[w.heap.size+1]?=some (.cells (dH m A2) 40 (0,0)):=by rw [hW'];exact uY HS.res
 obtain⟨r0,r1,r2,r3,r4,r5,r6,r7,r8⟩:=nine e9;have jM:NL (w.heap.size+2) W' A2 m:=by rw [hW'];exact HS.nl.keeps pV (λf hf=>by rw [List.mem_singleton.1 hf];omega)
 have hBB:aI w W':=by rw [hW'];exact tC HS.bel Aaa
 exact bodyPost_ret (v:=fQ m A2) (by simp[results,results21,go_sem,r0,r1,r2,r3,r4,r5,r6,r7,r8]) rfl ⟨A2,by rw [ah HM],by rw [ah HM];exact jM.aft,hBB⟩):P:=h
theorem ah5(h:P:=by
 have g3:decide (xM ps 0 1000000000)=true:=decide_eq_true h3;have hA3:qy ps=true:=decide_eq_true h3;have e4:IntKind.i64.wrap (pf+ps)=pf+ps:=IntWalk.i64_in _ ⟨Aaa,Aaa⟩;exact Aff):P:=h
theorem azz.Aff(h:P:=by
 by_cases h4:0<=(pf+ps)/\(pf+ps)<=1000000000
 case' neg=>
  have hA:qy (pf+ps)=false:=decide_eq_false h4;have g4:decide (xM (pf+ps) 0 1000000000)=false:=decide_eq_false h4;have g5:=g4;rw [<-e4] at g4;exact aeF
 have g4:decide (xM (pf+ps) 0 1000000000)=true:=decide_eq_true h4;have hA4:qy (pf+ps)=true:=decide_eq_true h4;have g5:=g4;rw [<-e4] at g4;have Eb:=Hq (show nQ l 0=true by rw [ah nM];simp[iD,hkb,hA1,hA2,hA3,hA4]);clear nM hA1 hA2 hA3 hA4;open anY in exact akH):P:=h
theorem azA.Aff(h:P:=by
 by_cases h4:0<=(pf+ps)/\(pf+ps)<=1000000000
 case' neg=>
  have hA:qy (pf+ps)=false:=decide_eq_false h4;have g4:decide (xM (pf+ps) 0 1000000000)=false:=decide_eq_false h4;have g5:=g4;rw [<-e4] at g4;exact aeE
 have g4:decide (xM (pf+ps) 0 1000000000)=true:=decide_eq_true h4;have hA4:qy (pf+ps)=true:=decide_eq_true h4;have g5:=g4;rw [<-e4] at g4;have Eb:=Hq (show nQ l (j+1)=true by rw [ah nM];simp[iD,hkb,hA1,hA2,hA3,hA4,ah hsl]);clear nM hA1 hA2 hA3 hA4;open anX in exact akH):P:=h
theorem ah6(h:P:=by
 go_wp2_with fail;refine(Np _).mono ?_;rintro e w5 ⟨rfl,hb5⟩;have gY:=Hq (GR.Blk.stepW HB hb5);have fO:=Hq (cZ.trans (hb5.mono cZ.size));exact Afl):P:=h
theorem azB.Afl(h:P:=by
 clear hb5 q0 q1 q2 q3 q4 q5 q6;obtain⟨s0,s1,s2,s3,s4,s5,s6⟩:=Kl gY k Aaa;have f0:=GR.Blk.free gY (k*7);have f1:=GR.Blk.free gY (k*7+1);have f2:=GR.Blk.free gY (k*7+2);have f3:=GR.Blk.free gY (k*7+3);have f4:=GR.Blk.free gY (k*7+4);have f5:=GR.Blk.free gY (k*7+5);have f6:=GR.Blk.free gY (k*7+6);go_wp2_with fail;go_roundw
 case rel=>
  have h:=GR.Blk.set gY dX k Aaa ⟨mK,mF,mT,mI,mL,mk,mN⟩;rw [ah TS] at h;exact⟨k+1,Aaa,Aah,h,GR.setW_below (o:=k*7) (Nat.le_refl w.heap.size) (iU ⟨mK,mF,mT,mI,mL,mk,mN⟩) fO⟩
 case measure=>simp[intOf];omega):P:=h
theorem azC.Afl(h:P:=by
 clear hb5 q0 q1 q2 q3 q4 q5 q6 q7 q8 q9 q10 q11;obtain⟨s0,s1,s2,s3,s4,s5,s6,s7,s8,s9,s10,s11⟩:=CS gY k Aaa;have f0:=GR.Blk.free gY (k*12);have f1:=GR.Blk.free gY (k*12+1);have f2:=GR.Blk.free gY (k*12+2);have f3:=GR.Blk.free gY (k*12+3);have f4:=GR.Blk.free gY (k*12+4);have f5:=GR.Blk.free gY (k*12+5);have f6:=GR.Blk.free gY (k*12+6);have f7:=GR.Blk.free gY (k*12+7);have f8:=GR.Blk.free gY (k*12+8);have f9:=GR.Blk.free gY (k*12+9);have f10:=GR.Blk.free gY (k*12+10);have f11:=GR.Blk.free gY (k*12+11);go_wp2_with fail;go_roundw
 case rel=>
  have h:=GR.Blk.set gY dA k Aaa ⟨⟨oK,Qe,ok,on,⟨mK,mF,mT,mI,mL,mk,mN⟩⟩,ac⟩;rw [ah TS] at h;exact⟨k+1,Aaa,Aah,h,GR.setW_below (o:=k*12) (Nat.le_refl w.heap.size) (ig ⟨⟨oK,Qe,ok,on,⟨mK,mF,mT,mI,mL,mk,mN⟩⟩,ac⟩) fO⟩
 case measure=>simp[intOf];omega):P:=h
theorem ah7(h:P:=by
 have hl:=World.lt_of_cell h;have HG:=Hq (show Handle (w.alloc (.cells #[.int .i64 0] 274)) from h.below ((Below.refl _ _).alloc (Nat.le_refl _) _));clear h;go_in
 exact AdZ):P:=h
theorem azD.AdZ(h:P:=by
 go_wp2_with (go_at_call 253;refine(OZ _ w.heap.size (.int .i64 0) _ ⟨_,rfl⟩ (λtg t a old w h1 h2 h3=>alc p tg t a old w h1 h2 h3) HG ?_ ?_).mono ?_;(simp);(simp);rintro e w' ⟨rfl,hbel⟩)
 go_ret;exact⟨rfl,((Below.refl _ _).alloc (Nat.le_refl _) _).trans hbel⟩):P:=h
theorem azE.AdZ(h:P:=by
 go_wp2_with (go_at_call 253;refine(OZ _ w.heap.size (.int .i64 0) _ ⟨_,rfl⟩ (λtg t a old w h1 h2 h3=>alb p tg t a old w h1 h2 h3) HG ?_ ?_).mono ?_;(simp);(simp);rintro e w' ⟨rfl,hbel⟩)
 go_ret;exact⟨rfl,((Below.refl _ _).alloc (Nat.le_refl _) _).trans hbel⟩):P:=h
theorem Vs(h:P:=by
 refine aP 11 rfl Aab Aab Aab (λ_ _ _ _ h=>h) (λK hK=>?_);exact AbJ):P:=h
theorem azF.AbJ(h:P:=by
 open aoJ in exact aep):P:=h
theorem azG.AbJ(h:P:=by
 go_simp
 first
  |(refine hK _ ?_;clear hK K)
  |(apply Exists.intro
    refine⟨λ_=>?_,hK _ ?_⟩
    (exact N2 _)
    clear hK K)
 refine tk [13,14] ?_;iterate 2 (refine AJ (λK hK=>?_);go_simp;refine hK _ ?_;clear hK K)
 refine jK ?_;refine aP 15 rfl Aab Aab Aab (λ_ _ _ _ h=>h) (λK hK=>?_);go_simp
 first
  |(refine hK _ ?_;clear hK K)
  |(apply Exists.intro
    refine⟨λ_=>?_,hK _ ?_⟩
    (exact N3 _)
    clear hK K)
 refine tk [17,18] ?_;iterate 2 (refine AJ (λK hK=>?_);go_simp;refine hK _ ?_;clear hK K)
 refine jK ?_;refine aP 19 rfl Aab Aab Aab (λ_ _ _ _ h=>h) (λK hK=>?_);go_simp;exact Aei):P:=h
theorem azH.AbJ(h:P:=by
 open aEP in exact aek):P:=h
theorem azI.AbJ(h:P:=by
 go_simp
 first
  |(refine hK _ ?_;clear hK K)
  |(apply Exists.intro
    refine⟨λ_=>?_,hK _ ?_⟩
    ((simp only[hw4];rw [if_pos hw5,if_pos hw6,hw7];exact⟨rfl,rfl⟩))
    clear hK K)
 refine tk [12] ?_;(refine AJ (λK hK=>?_);go_simp;refine hK _ ?_;clear hK K)
 refine jK ?_;refine aP 13 rfl Aab Aab Aab (λ_ _ _ _ h=>h) (λK hK=>?_);open aze in exact ahY):P:=h
theorem aaM(h:P:=by
 generalize l[k]=pu at *;obtain⟨pk,pm,pf,ps⟩:=pu;dsimp only at c0 c1 c2 c3 hf;go_wp2_with fail;exact AcA):P:=h
theorem azJ.AcA(h:P:=by
 refine bodyPost_ret (v:= .agg (iZ pk pm pf ps)) (by simp[results,results151,go_sem]) rfl ⟨by rw [ah HX],?_⟩;exact(Below.refl _ _).alloc (Nat.le_refl _) _):P:=h
theorem azK.AcA(h:P:=by
 go_roundw
 case rel=>exact⟨k+1,Aaa,Aah,HX,by first|rfl|trivial⟩
 case measure=>simp[intOf];omega):P:=h
theorem azL.AcA(h:P:=by
 go_roundw
 case rel=>exact⟨k+1,Aaa,Aah,HX,by first|exact cZ.alloc cZ.size _|exact cZ,by first|(rw [Below.heap_alloc _ _ _ ae8];exact Gf)|exact Gf⟩
 case measure=>simp[intOf];omega):P:=h
theorem Oo(h:P:=by
 have q0:(mT != n.id)=false:=Aba
 have q0':(mT == n.id)=true:=Aba
 clear h1;exact Aa7):P:=h
theorem azM.Aa7(h:P:=by
 subst h3;have q4:(mF == n.par)=false:=by simpa using h4
 clear h4;open aAb in exact aij):P:=h
theorem azN.Aa7(h:P:=by
 subst h3;have q4:(mF == n.par)=true:=by simp[h4]
 clear h4;unfold fG;have H9:=Hq h9;clear h9;have ZJ:=Hq (λW=>kD ⟨0,mF,mT,mI,mL,mk,mN⟩ W Aam);open apT in exact aaQ):P:=h
theorem azO.Aa7(h:P:=by
 unfold fG;have H9:=Hq h9;clear h9;have ZJ:=Hq (λW=>kD ⟨mK,mF,mT,mI,mL,mk,mN⟩ W Aam);open apU in exact aaQ):P:=h
theorem azP.Aa7(h:P:=by
 subst h3;obtain⟨FL,hFL⟩:∃FL:Nat->List jw,∀k,FL k=(n.out.take k).filter (λs=> !iY ⟨2,mF,mT,mI,mL,mk,mN⟩ s):=⟨_,λ_=>rfl⟩;have HFE:Hid (n.out.filter (λs=> !iY ⟨2,mF,mT,mI,mL,mk,mN⟩ s)=FL n.out.length):=by unfold Hid;rw [hFL,List.take_length]
 rw [ah HFE];have HF0:Hid (FL 0=[]):=by unfold Hid;rw [hFL];rfl
 have HFS:Hid (∀k (hk:k < n.out.length),FL (k+1)=if n.out[k].i=mI/\n.out[k].t=mF then FL k else FL k++[n.out[k]]):=λk hk=>by
  rw [hFL,hFL,List.take_succ_eq_append_getElem hk,List.filter_append]
  by_cases e:n.out[k].i=mI/\n.out[k].t=mF
  .rw [if_pos e];have e2:(!iY ⟨2,mF,mT,mI,mL,mk,mN⟩ n.out[k])=false:=by unfold iY;rw [decide_eq_true e];rfl
   rw [List.filter_cons,e2];simp
  .rw [if_neg e];have e2:(!iY ⟨2,mF,mT,mI,mL,mk,mN⟩ n.out[k])=true:=by unfold iY;rw [decide_eq_false e];rfl
   rw [List.filter_cons,e2];simp
 have HFN:Hid (∀k,(FL k).length<=n.out.length):=λk=>by
  rw [hFL]
  exact Nat.le_trans (List.length_filter_le _ _) Abm
 clear hFL HFE;obtain⟨i0,hi,hz0,hz1,hz2⟩:=info_parts Lp;have HI:=Hq (And.intro hi (And.intro hz0 (And.intro hz1 hz2)));clear hi hz0 hz1 hz2;unfold fG;have H9:=Hq h9;clear h9;have ZJ:=Hq (λW=>kD ⟨2,mF,mT,mI,mL,mk,mN⟩ W Aam);open apV in exact aaQ):P:=h
theorem azQ.Aa7(h:P:=by
 subst h3;open aAa in exact aij):P:=h
theorem ah8(h:P:=by
 have hVO:= @run_callFunc_extern prog 270 _ (λargs=>ReflectliteValue.unpack (args.getD 0 (.tuple #[]))) func270 Aab Aab Aab Aab;exact Ae8):P:=h
theorem azR.Ae8(h:P:=by
 have hTY:= @run_callFunc_extern prog 271 _ (ReflectliteValue.methodAny (ReflectliteValue.valueError "reflectlite.Value.Type" 0) (λt _ _ _=>ReflectliteType.toType t)) func271 Aab Aab Aab Aab;have hIN:= @run_callFunc_extern prog 272 _ (ReflectliteValue.method (ReflectliteValue.valueError "reflectlite.Value.IsNil" 0) ReflectliteValue.isNil) func272 Aab Aab Aab Aab;have hKI:= @run_callFunc_extern prog 333 _ (ReflectliteType.abiMethod λt=>do pure (.int .u8 (<-Rtype.kind t))) func333 Aab Aab Aab Aab;have hEL:= @run_callFunc_extern prog 351 _ (ReflectliteType.method ReflectliteType.elem) func351 Aab Aab Aab Aab;have hIM:= @run_callFunc_extern prog 352 _ (ReflectliteType.relation "Implements" ReflectliteType.implements_) func352 Aab Aab Aab Aab;have f1:=As.valueOfPtr;have f2:=As.typePtr;have f3:=As.methodKind;have f4:=As.kindPtr;have f5:=As.methodElem;have f6:=As.elemType;have f7:=As.kindStruct;have f8:=As.methodImplements;have f9:=As.implements;have hgl:=World.lt_of_cell hg;have htl:=World.lt_of_cell ht;simp only at hgl htl;have n8:=As.isNil ⟨w.heap.size,0,none⟩ ⟨tb,0,none⟩ ((w.alloc (.cells #[.pointer (some ⟨tb,0,none⟩)] 276)).alloc (.cells #[.pointer (some ⟨6,276,none⟩),.pointer (some ⟨w.heap.size,0,none⟩),.int .u64 150] 303)) Aac
 have hg2:((w.alloc (.cells #[.pointer (some ⟨tb,0,none⟩)] 276)).alloc (.cells #[.pointer (some ⟨6,276,none⟩),.pointer (some ⟨w.heap.size,0,none⟩),.int .u64 150] 303)).cell? ⟨0,0,none⟩=some (.iface 330 (.agg #[.pointer (some ⟨6,242,none⟩)])):=by
  rw [World.cell?_alloc_lt _ _ ⟨0,0,none⟩ (by simp<;>omega),World.cell?_alloc_lt _ _ ⟨0,0,none⟩ hgl];exact hg
 go_in
 go_wp2_with (go_at_call 273;refine(HAS _ ⟨tb,0,none⟩ ⟨w.heap.size,0,none⟩ old _ ?_ ?_ ?_).mono ?_;(simp);(rw [World.cell?_alloc_lt _ _ ⟨tb,0,none⟩ Aag,World.cell?_alloc_lt _ _ ⟨tb,0,none⟩ htl];exact ht);(rw [World.frozen?_alloc_old _ _ ⟨tb,0,none⟩ Aag,World.frozen?_alloc_old _ _ ⟨tb,0,none⟩ (Nat.ne_of_lt htl)];exact hf);rintro e w' ⟨rfl,hbel⟩)
 go_ret;exact⟨rfl,(((Below.refl _ _).alloc Aaa _).alloc Aag _).trans hbel⟩):P:=h
theorem azS.Ae8(h:P:=by
 have hEL:= @run_callFunc_extern prog 293 _ (ReflectliteValue.method (ReflectliteValue.valueError "reflectlite.Value.Elem" 0) ReflectliteValue.elem) func293 Aab Aab Aab Aab;have hST:= @run_callFunc_extern prog 294 _ ReflectliteValue.set func294 Aab Aab Aab Aab;have f1:=As.typeOfNo;have f2:=As.typeOfUnread;have f3:=As.methodAssignableTo;have f4:=As.assignNo;have f5:=As.assignUnread;have f6:=As.noAs;have f7:=As.hasUnwrap;have f8:=As.methodUnwrap;have f9:=As.valueOfNo;have hal:a.block < w.heap.size:=World.lt_of_cell ha;have htl:t.block < w.heap.size:=World.lt_of_cell ht;exact Aee):P:=h
theorem ah9(h:P:=by
 have kc:=(nine HNz).2.2.2.2.2.2.2.2;have kf:=aj HNz 8;refine aH 15 rfl Aab Aad ?_;go_simp;refine wpAny_done Aab ?_;go_simp;go_wp2_with fail;exact AfA):P:=h
theorem azT.AfA(h:P:=by
 go_meet
 case rel=>
  refine⟨rfl,avT,cvT,?_,?_,?_,?_,?_,?_,?_,?_⟩
  .rcases HVz.2 with⟨_,hn⟩|⟨g,cap,cur,hv,_⟩
   .omega
   .simp only[Value.slice.injEq] at hv;exact⟨g,hv.1⟩
  .rcases HVz.2 with⟨_,hn⟩|⟨g,cap,cur,hv,_,_,hnc,_⟩
   .omega
   .simp only[Value.slice.injEq] at hv;omega
  .have h:=aR HNz 8 (.slice avT (pos+1+(n.reqs.length - pos)) cvT);rw [show pos+1+(n.reqs.length - pos)=n.reqs.length+1 by omega] at h ⊢;exact h
  .exact gU _ Aaa HRz
  .exact gU _ Aaa HQz
  .have h:=LO.own (en:=aJ) (cp:=cvT) (l:=n.reqs.take pos++[(⟨no,k,nn,0⟩:Rq)]++n.reqs.drop pos) (by rw [hL2];exact HVz);rw [ah HIQ];rw [List.append_assoc] at h;exact(h.keeps (aC.set _) (λx hx=>Aak)).lower Aaa
  .exact(Nk.below UL).keeps (aC.set _) (λx hx=>Aak)
  .exact(gY.trans (UL.mono gY.size)).setCell (p:=⟨w.heap.size,8,none⟩) (Nat.le_refl _) _):P:=h
theorem azU.AfA(h:P:=by
 go_meet
 case rel=>
  refine⟨rfl,avT,cvT,?_,?_,?_,?_,?_,?_,?_⟩
  .rcases HVz.2 with⟨_,hn⟩|⟨g,cap,cur,hv,_⟩
   .omega
   .simp only[Value.slice.injEq] at hv;exact⟨g,hv.1⟩
  .rcases HVz.2 with⟨_,hn⟩|⟨g,cap,cur,hv,_,_,hnc,_⟩
   .omega
   .simp only[Value.slice.injEq] at hv;omega
  .have h:=aR HNz 8 (.slice avT (pos+1+(n.reqs.length - pos)) cvT);rw [show pos+1+(n.reqs.length - pos)=n.reqs.length+1 by omega] at h ⊢;exact h
  .exact gU _ Aaa HRz
  .exact gU _ Aaa HQz
  .have h:=LO.own (en:=aJ) (cp:=cvT) (l:=n.reqs.take pos++[(⟨no,k,nn,1⟩:Rq)]++n.reqs.drop pos) (by rw [hL2];exact HVz);rw [ah HIQ];rw [List.append_assoc] at h;exact(h.keeps (aC.set _) (λx hx=>Aak)).lower Aaa
  .exact(gY.trans (UL.mono gY.size)).setCell (p:=⟨w.heap.size,8,none⟩) (Nat.le_refl _) _):P:=h
theorem aia(h:P:=by
 obtain⟨avR,cvR,Pg,_⟩:=GR.own_at (enc:=bf) (sz:=1) (l:=(bg s0 mL).take pos) aX (by rw [hlt1];exact WR);rw [hlt1] at Pg;subst Pg;clear KV KU xV Tq;exact Ad2):P:=h
theorem azV.Ad2(h:P:=by
 generalize x2.heap.size=rb at *;exact Zk4):P:=h
theorem azW.Ad2(h:P:=by
 generalize x1.heap.size=rb at *;exact Zk4):P:=h
theorem aaN(h:P:=by
 have z2:=cell_regrown p2;have z3:=cell_regrown p3;clear c0 c1 c2 c3 c4 c5 c6 c7 c8 c9 p0 p1 p2 p3 p4 p5 p6 p7 p8 p9 nX;exact Ac2):P:=h
theorem azX.Ac2(h:P:=by
 open axF in exact ahw):P:=h
theorem azY.Ac2(h:P:=by
 refine dD 16 Aab ?_;show fC _ _ _ _ _ 17 (Array.replicate 17 false) _ _
 refine tk [0,1,2,3,4,5,6,7,8,9,10,11,12,13,14,15] ?_;iterate 16 (refine uS (λK hK=>?_);go_simp;refine hK _ ?_;clear hK K)
 refine jK ?_;clear y0 y1 z2 z3;refine bH Aab (λx hx=>?_);have Jd:=Hq (HSY x c v (HW1.step hx));clear hx;refine aH 16 rfl Aab Aad ?_;go_simp;refine Jd.mono ?_;rintro e y ⟨rfl,c',v',hY⟩;have HY:=Hq hY;clear hY Jd;refine wpAny_done Aab ?_;go_simp;go_wp2_with fail;go_ret;exact⟨rfl,c',v',HY⟩):P:=h
theorem azZ.Ac2(h:P:=by
 refine dD 17 Aab ?_;show fC _ _ _ _ _ 20 (Array.replicate 20 false) _ _
 refine tk [0,1,2,3,4,5,6,7,8,9,10,11,12,13,14,15,16] ?_;iterate 17 (refine uS (λK hK=>?_);go_simp;refine hK _ ?_;clear hK K)
 refine jK ?_;clear y1 z2 z3;refine bH Aab (λx hx=>?_);have Jd:=Hq (Ed x c v (HW1.step hx));clear hx;refine aH 17 rfl Aab Aad ?_;go_simp;refine Jd.mono ?_;rintro e y ⟨rfl,A',G',c',v',hY⟩;have HY:=Hq hY;clear hY Jd;refine aH 18 rfl Aab Aad ?_;go_simp;refine aH 19 rfl Aab Aad ?_;go_simp;refine wpAny_done Aab ?_;go_simp;cases gb
 all_goals
  go_wp2_with fail
  go_ret
  exact⟨rfl,A',G',c',v',HY⟩):P:=h
theorem aib(h:P:=by
 have ow:Hid (aI w W'):=wL.trans (gu.below (λx hx=>by have:x=w.heap.size+2:=Aaf;omega) wL.size);obtain⟨x0,x1,x2,x3,x4,x5,x6,x7,x8⟩:=nine e4;clear hW' e4 gu;exact Ad0):P:=h
theorem az0.Ad0(h:P:=by
 exact bodyPost_ret (v:= .tuple #[(fQ N1 A2),.slice ma L1.length mc,.int .i64 Ch]) Aay rfl ⟨A2,ma,mc,rfl,HAT,HMT,ow⟩):P:=h
theorem az1.Ad0(h:P:=by
 exact bodyPost_ret (v:= .tuple #[(fQ n A1),.slice (some ⟨W0.heap.size,0,none⟩) 0 0,.int .i64 1]) Aay rfl ⟨A1,some ⟨W0.heap.size,0,none⟩,0,rfl,HAT,λW'' _ i hi=>Aat,ow⟩):P:=h
theorem aic(h:P:=by
 have HLQ:=Hq (show IQ.length=n.reqs.length+1 by rw [ah HIQ];simp;omega);have lT:=Hq hN6;have jD:=Hq hR6;have C9:=Hq hQ6;have HL6:=Hq hL6;exact Ad7):P:=h
theorem az2.Ad7(h:P:=by
 have ZQ:=Hq hP6;have wL:=Hq hB6;clear hN6 hR6 hQ6 hL6 hP6 hB6;rename_i wo _ _ _
 by_cases h30:30 < n.reqs.length+1
 .have HK:=Hq (show lY (setPu n RL) ⟨no,k,nn,0⟩=eu (mq (setPu n RL) (IQ.headD default).no) IQ.tail by unfold lY;rw [show((setPu n RL)).reqs=n.reqs from rfl,ah ZH,ah HLQ,if_pos h30]);open apa in exact aAv
 .have HK:=Hq (show lY (setPu n RL) ⟨no,k,nn,0⟩=eu (setPu n RL) IQ by unfold lY;rw [show((setPu n RL)).reqs=n.reqs from rfl,ah ZH,ah HLQ,if_neg h30]);open atL in exact agq):P:=h
theorem az3.Ad7(h:P:=by
 have wL:=Hq hB6;clear hN6 hR6 hQ6 hL6 hB6;rename_i wo _ _ _
 by_cases h30:30 < n.reqs.length+1
 .have HK:=Hq (show lY n ⟨no,k,nn,1⟩=eu (mq n (IQ.headD default).no) IQ.tail by unfold lY;rw [show(n).reqs=n.reqs from rfl,ah ZH,ah HLQ,if_pos h30]);open apb in exact aAv
 .have HK:=Hq (show lY n ⟨no,k,nn,1⟩=eu n IQ by unfold lY;rw [show(n).reqs=n.reqs from rfl,ah ZH,ah HLQ,if_neg h30]);open atM in exact agq):P:=h
theorem aie(h:P:=by
 have c4:V.cell? ⟨g,off+j*4,none⟩=some (.string q):=by rw [hV,World.cell?_alloc_lt _ _ _ hgw];exact d0
 have hgq:g < V.heap.size:=by rw [hV];simp;omega
 clear hblk hV c0 c1 c2 c3 d0;exact AdS):P:=h
theorem az4.AdS(h:P:=by
 open ayL in exact ahR):P:=h
theorem az5.AdS(h:P:=by
 open ayK in exact ahQ):P:=h
theorem aif(h:P:=by
 go_wp2_with fail;refine(HCM _).mono ?_;rintro e w1 ⟨rfl,hb1⟩;have HB1:=Hq (HB.trans (hb1.mono HB.size));exact AeE):P:=h
theorem az6.AeE(h:P:=by
 have HE:Hid (RF=(ln - no == 0)):=by
  show RF=_
  rw [ah HFP,Bool.eq_iff_iff,decide_eq_true_iff,beq_iff_eq];omega
 clear hb1 q0 q1 q2 q3 HFP;go_wp2_with fail;go_ret2
 exact⟨by rw [ah HE];rfl,HB1⟩):P:=h
theorem az7.AeE(h:P:=by
 clear hb1 q0 q1 q2 q3;by_cases hc:ln - no < 0
 .go_wp2_with fail;go_roundw
  case rel=>exact⟨m+1,q,by
   rcases Nat.lt_or_ge R (m+1) with h9|h9
   .have:=ah HHM Aaa;omega
   .exact h9,h3,h4,Aah,rfl,HB1⟩
  case measure=>simp[intOf];omega
 .go_wp2_with fail;go_roundw
  case rel=>exact⟨p,m,h2,by
   rcases Nat.lt_or_ge m R with h9|h9
   .have:=ah HLM h9;omega
   .exact h9,Aaa,rfl,rfl,HB1⟩
  case measure=>simp[intOf];omega):P:=h
theorem aii(h:P:=by
 go_in
 go_wp2_with fail;refine(HO _).mono ?_;rintro e w1 ⟨rfl,hb1⟩;obtain⟨hA,hC,hbel⟩:=Ai hb1;have HC:=Hq hC;have cZ:=Hq hbel;exact Adx):P:=h
theorem az8.Adx(h:P:=by
 obtain⟨⟨p0,p1,p2,p3⟩,_⟩:=gD hA;obtain⟨⟨r0,r1,r2,r3⟩,s0,s1,s2,s3⟩:=gD hC;clear hb1 hA hC hbel;go_wp2_with fail;clear r0 r1 r2 r3;refine Fo.bodyPost_at (λW' hW'=>?_);obtain⟨⟨r0,r1,r2,r3⟩,_⟩:=gD (show W'.heap[w.heap.size+1+1]?=some (.cells (iZ pk (pm+dm*n) (pf+df*n) (ps+ds*n)) 108 (0,0)) by rw [hW'];exact Fo.four_set HC);have hbb:aI w W':=by rw [hW'];exact Fo.four_below cZ Aaa
 exact bodyPost_ret (v:= .tuple #[.agg (iZ pk (pm+dm*n) (pf+df*n) (ps+ds*n)),.nilIface]) (by simp[results,results303,go_sem,r0,r1,r2,r3]) rfl ⟨rfl,hbb⟩):P:=h
theorem az9.Adx(h:P:=by
 have ve:=(HE.below hbel).var 5 Aaa;have hsz:=(show w.heap.size+1+1 < w1.heap.size from Fo.lt_of_blk hC);have hve:5 < w.heap.size:=World.block_lt_of_cell? _ _ (HE.var 5 Aaa);obtain⟨⟨r0,r1,r2,r3⟩,s0,s1,s2,s3⟩:=gD hC;clear hb1 hA hC hbel;go_wp2_with fail;go_region
 all_goals
  go_wp2_with fail
  refine Fo.bodyPost_at (λW' hW'=>?_)
  obtain⟨⟨t0,t1,t2,t3⟩,_⟩:=gD (show W'.heap[w.heap.size+1+1]?=some (.cells (iZ ⟨#[]⟩ 0 0 0) 108 (0,0)) by rw [hW'];exact Fo.four_set (w:=w1.drew) HC)
  have hbb:aI w W':=by rw [hW'];exact Fo.four_below (w:=w1.drew) (cZ.trans ⟨rfl,rfl,rfl,Nat.le_refl _,λ_ _=>rfl⟩) Aaa
  exact bodyPost_ret (v:= .tuple #[.agg (iZ ⟨#[]⟩ 0 0 0),tL (E 5)]) (by simp[results,results303,go_sem,t0,t1,t2,t3]) rfl ⟨rfl,hbb⟩):P:=h
theorem aij(h:P:=by
 have h9n:∀x,6 < newC w.heap.size 9 c x->newC w.heap.size 9 c x=9:=λx hx=>by
  by_cases hlt:x < w.heap.size
  .rw [fq hlt] at hx ⊢;exact h9 x hx
  .exact bq Aaa
 exact AdA):P:=h
theorem aAa.AdA(h:P:=by
 have Ob:=Hq (λW (hBW:B<=W.heap.size) (hN:NQ W B n A G (newC w.heap.size 9 c))=>adn n A G (newC w.heap.size 9 c) 1 mF mT mI mL mk mN W B hBW h9n hz hmk hP uJ hok h2 hN);clear h9n hz hP uJ hok;unfold fG at Ob;dsimp only at Ob ⊢;generalize (takeN n ⟨1,mF,mT,mI,mL,mk,mN⟩).1=N1 at *;generalize (if (takeN n ⟨1,mF,mT,mI,mL,mk,mN⟩).2=true then[Xe n ⟨1,mF,mT,mI,mL,mk,mN⟩] else[])=L1 at *;generalize (if (takeN n ⟨1,mF,mT,mI,mL,mk,mN⟩).2=true then(0:Int) else 1)=Ch at *;unfold fG;have H9:=Hq h9;clear h9;have ZJ:=Hq (λW=>kD ⟨1,mF,mT,mI,mL,mk,mN⟩ W Aam);open apW in exact aaQ):P:=h
theorem aAb.AdA(h:P:=by
 have HGV:=Hq (λW (hBW:B<=W.heap.size) (hN:NQ W B n A G (newC w.heap.size 9 c))=>QO n A G (newC w.heap.size 9 c) mF mk mN W B hBW h9n hz hmk hP uJ h0 hN);clear h9n hz hP uJ;unfold fG at HGV;generalize fD n mF mk mN=GV at *;obtain⟨N1,L1,b1⟩:=GV;dsimp only at HGV ⊢;generalize (if b1=true then(0:Int) else 1)=Ch at *;unfold fG;have H9:=Hq h9;clear h9;have ZJ:=Hq (λW=>kD ⟨0,mF,mT,mI,mL,mk,mN⟩ W Aam);open apS in exact aaQ):P:=h
end Go.Proofs.YtohmklmkjmlpjaaGreatDoor
