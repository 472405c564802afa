/-
  Parts of proofs that stand more than once, each said once.
-/
import Derived.Test.YtfmdndhliinhpaaGreatDoorRaZ3
namespace Go.Proofs.YtfmdndhliinhpaaGreatDoor
set_option maxRecDepth 100000
variable{P:Prop}
theorem ajQ.Ka98(h:P:=by
 have hwl:=aA h.blk;have hne:wb≠w.heap.size:=by omega
 have Rc:=hide (fun p:Regrown=>HW1.no.at.below (below_regrown _ p.d p.os));clear h hp hz;obtain⟨c0,c1,c2,c3,c4,c5,c6,c7,c8,c9⟩:=iI HW1.blk;obtain⟨p0,p1,p2,p3,p4,p5,p6⟩:=iZ rG;open afL in exact Fh):P:=h
theorem ajR.Ka98(h:P:=by
 clear h;obtain⟨c0,c1,c2,c3,c4,c5,c6,c7,c8,c9⟩:=iI HW1.blk;have hwl:=aA HW.blk;have hne:wb≠w.heap.size:=by omega
 go_enter Tryz.func86,Tryz.ntmps86
 go_wp2_with fail;refine(Xg w.heap.size _ HW1.no.at.s rG).mono ?_;rintro e w2 ⟨rfl,hb2⟩;have HW2:=hide (HW1.step hb2);have ze:=hide (au rG hb2);have HJ2:Hid (∀j mm,fE w j mm→fE w2 j mm):=fun j mm hj=>au (au hj (ay w _)) hb2
 clear hb2 HW1 rG Xg c0 c1 c2 c3 c4 c5 c6 c7 c8 c9;obtain⟨c0,c1,c2,c3,c4,c5,c6,c7,c8,c9⟩:=iI HW2.blk;obtain⟨g,off,b,cc,e0,hg,q0,q1,q2,rX⟩:=HW2.no.at.s i hi;rw [ah HS0] at q0 q1 q2 rX;have AQ:=hide (setOf s0.f s0.l b cc s0.ids w2 XB.2.2.1 (fun x hx=>by have:=XB.2.2.2.1 x hx;have:=XB.1;omega) rX);have ad8:=aA HW2.blk;have hiI:(i:Int) < (n.seen.length:Int):=by omega
 clear rX;rw [e0] at c6;go_wp2_with fail;refine AQ.mono ?_;rintro e w3 ⟨sb,mb,rfl,hsb,hmb,hS3,Ux,hb3⟩;have HW3:Hid (nU w0 w3 wb sb mb s0.ids.length n A G (newC w2.heap.size 9 c) v L s0.l s0.ids):=⟨(HW2.recol (c':=newC w2.heap.size 9 c) (fun x hx=>dR hx)).step hb3,hS3,Ux,aW hsb,aW hmb⟩;have Q8:=hide (au ze hb3);have HJ3:Hid (∀j mm,fE w j mm→fE w3 j mm):=fun j mm hj=>au (HJ2 j mm hj) hb3
 have auF:w.heap.size≠sb:=by have:=aA ze;omega
 have arx:w.heap.size≠mb:=by have:=aA ze;omega
 clear hS3 Ux hb3 hsb hmb q0 q1 q2 e0 AQ c0 c1 c2 c3 c4 c5 c6 c7 c8 c9;obtain⟨⟨p0,p1,p2,p3,p4,p5,p6⟩,_⟩:=ig Q8;have hpl:=aA Q8;go_wp2_with fail;refine(YA sb mb s0.ids.length s0.l mL (bY s0 mL) s0.ids w3 HMX HW3.bk HW3.si).mono ?_;rintro e w4 ⟨rfl,hS4,hI4,hk4⟩;have vR:=hide (HW3.lift hS4 hI4 hk4);have Pp:=hide (hk4.obj Q8 (by simp[auF,arx]))
 have HJ4:Hid (∀j mm,fE w j mm→fE w4 j mm):=fun j mm hj=>hk4.obj (HJ3 j mm hj) (by
  have h1:=M0 (HJ3 j mm hj) HW3.bk
  have h2:=HW3.si.far (HJ3 j mm hj)
  simp[h1,h2])
 clear hS4 hI4 hk4 p0 p1 p2 p3 p4 p5 p6 hpl HJ2 HJ3;obtain⟨⟨p0,p1,p2,p3,p4,p5,p6⟩,_⟩:=ig Pp;have hpl:=aA Pp;go_wp2_with fail;refine(adO sb mb s0.ids.length (bY s0 mL) mI (aQ s0 mL) w4 hI0 hI1 vR.bk vR.si).mono ?_;rintro e w5 ⟨rfl,hb5⟩;have WJ:=hide (vR.step hb5);have Ht:=hide (au Pp hb5);have HJ5:Hid (∀j mm,fE w j mm→fE w5 j mm):=fun j mm hj=>au (HJ4 j mm hj) hb5
 have hhs:(decide (mI < bY s0 mL)||decide (mI∈aQ s0 mL))=lT s0 mL mI:=by
  unfold lT;congr 1
  rw [Bool.eq_iff_iff,decide_eq_true_iff,wC]
 rw [hhs];clear hhs hb5 p0 p1 p2 p3 p4 p5 p6 hpl vR Pp HW3 Q8;cases hq:lT s0 mL mI
 case' true=>
  have HQ:=hide hq
  clear hq
  go_wp2_with fail
  obtain⟨n',A',G',c',kk,l2,Eo,Lp,HLEN,HSL,Sl⟩:∃(n':Nd) (A':bQ) (G':aX) (c':Nat→Nat) (kk:Nat) (l2:List Int),Hid (nU w0 w5 wb sb mb kk n' A' G' c' v L (bY s0 mL) l2)∧Hid (l2.Pairwise (· < ·))∧Hid (l2.length≤1000)∧Hid (n'.seen.length=n.seen.length)∧Hid (TT=(bn n' (n'.seen.set i ⟨mF,bY s0 mL,l2⟩),true)):=⟨n,A,G,_,_,_,WJ,zJ.2.2.2.2,Nat.le_trans zJ.2.2.1 (by omega),rfl,HTH HQ⟩
  have eP:=hide Ht
  have HJW:=hide HJ5
  clear HTH Rc HTN HGS HGF HQ WJ Ht HW2 ze
  obtain⟨c0,c1,c2,c3,c4,c5,c6,c7,c8,c9⟩:=iI Eo.wk.blk
  have e0:A'.s=some ⟨G'.s,0,none⟩:=by
   exact XR
  rw [e0,ah HSL] at c6
  obtain⟨⟨p0,p1,p2,p3,p4,p5,p6⟩,_⟩:=ig eP
  have hwl:=aA Eo.wk.blk
  have hBl:=aA eP
  go_upto_region 5 with fail
  have y6:=cell_regrown c6
  have z1:=cell_regrown p1
  clear c0 c1 c2 c3 c4 c5 c6 c7 c8 c9 p0 p1 p2 p3 p4 p5 p6
  refine bJ 11 (by kernel_rfl) ?_
  show dZ _ _ _ _ _ 12 (Array.replicate 12 false) _ _
  refine tk [0,1,2,3,4,5,6,7,8] ?_
  iterate 9 (refine oJ (fun K hK=>?_);go_simp;refine hK _ ?_;clear hK K)
  refine kK ?_
  clear y6 z1
  refine dK 9 rfl (by kernel_rfl) (by rfl) (fun x hx=>?_)
  go_simp
  have HX:=hide (Eo.step hx)
  have HJX:Hid (∀j mm,fE w j mm→fE x j mm):=fun j mm hj=>au (HJW j mm hj) hx
  have AQ:=hide (tX sb mb kk mF (bY s0 mL) l2 x HLEN Lp HX.bk HX.si)
  clear hx
  refine AQ.mono ?_
  rintro e y ⟨v2,rfl,hrow,hby⟩
  refine⟨hby,?_⟩
  obtain⟨b2,c2,g2,rfl,hW2,hg2,_⟩:=GR.W.of_own (enc:=aP) aN hrow
  have HY:Hid (WK w0 y wb n' A' G' (newC x.heap.size 5 c') v L):=(HX.wk.recol (c':=newC x.heap.size 5 c') (fun z hz=>dR hz)).step hby
  have HI2:=hide hW2
  have HJY:Hid (∀j mm,fE w j mm→fE y j mm):=fun j mm hj=>au (HJX j mm hj) hby
  have Lr:Hid (∀z∈fp g2 l2,newC x.heap.size 5 c' z=5∧z∉nT G'.i n'.seen):=fun z hz=>⟨aW (hg2 z hz).1,fun hm=>by
   have h1:=(iL HX.wk.no.s).2 z hm
   have h2:=(hg2 z hz).1
   omega⟩
  clear hrow hby hW2 hg2 AQ HX Eo
  refine tk [10] ?_
  (refine oJ (fun K hK=>?_);go_simp;refine hK _ ?_;clear hK K)
  refine kK ?_
  refine aZ (by kernel_rfl) (fun x3 hx3=>?_)
  have Rf:=hide (HY.step hx3)
  have HI3:=hide (HI2.below hx3)
  have HJ6:Hid (∀j mm,fE w j mm→fE x3 j mm):=fun j mm hj=>au (HJY j mm hj) hx3
  obtain⟨b0,cc0,_,hg0,⟨q0,q1,q2⟩,⟨f0,f1⟩,_⟩:=fq.three Rf.no.s i (by rw [ah HSL];exact hi)
  have f2:x3.frozen? ⟨G'.s,i*3+2,none⟩=false:=by
   exact XQ
  have LD:=hide (Rf.seenPut i (by rw [ah HSL];exact hi) ⟨mF,bY s0 mL,l2⟩ b2 c2 g2 HI3 Lr)
  have HJF:Hid (∀j mm,fE w j mm→fE (GR.setW x3 G'.s (i*3) [.int .i64 mF,.int .i64 (bY s0 mL),.slice b2 l2.length c2]) j mm):=fun j mm hj=>by
   have h3:=ah HJ6 j mm hj
   have hne:=oh h3 q2
   unfold fE
   rw [GR.setW_other hne]
   exact h3
  clear hx3 HY HI2
  refine aF 11 rfl (by kernel_rfl) (by rfl) ?_
  go_simp
  refine wpAny_done (by kernel_rfl) ?_
  go_simp
  clear q0 q1 q2 f0 f1 f2
  go_wp2_with fail
  go_ret
  exact⟨by rw [ah Sl];first|done|rfl,⟨A',_,_,by rw [ah Sl];exact LD⟩,HJF⟩
 have HQ:=hide hq;clear hq;obtain⟨⟨p0,p1,p2,p3,p4,p5,p6⟩,_⟩:=ig Ht;have hpl:=aA Ht;have hnd:(aQ s0 mL).Nodup:=zJ.2.2.2.2.imp (fun h=>by omega);have HND:=hide hnd;clear hnd;by_cases hf:(aQ s0 mL).length=40
 case' pos=>
  have HF:=hide hf
  clear hf
  go_wp2_with fail
  refine(HGF w5 sb mb _ A G _ _ _ HND HF WJ).mono ?_
  rintro e w6 ⟨rfl,hb6⟩
  have eP:=hide (au Ht hb6)
  have HJW:Hid (∀j mm,fE w j mm→fE w6 j mm):=fun j mm hj=>au (HJ5 j mm hj) hb6
  have jD:Hid (jE n s0 ⟨mK,mF,mT,mI,mL,mk,mN⟩=false):=by
   show jE n s0 ⟨mK,mF,mT,mI,mL,mk,mN⟩=false
   unfold jE;rw [decide_eq_false (by have:=ah HF;dsimp only;omega),Bool.and_false]
  go_wp2_with fail
  obtain⟨n',A',G',c',kk,l2,Eo,Lp,HLEN,HSL,Sl⟩:∃(n':Nd) (A':bQ) (G':aX) (c':Nat→Nat) (kk:Nat) (l2:List Int),Hid (nU w0 w6 wb sb mb kk n' A' G' c' v L (bY s0 mL) l2)∧Hid (l2.Pairwise (· < ·))∧Hid (l2.length≤1000)∧Hid (n'.seen.length=n.seen.length)∧Hid (TT=(bn n' (n'.seen.set i ⟨mF,bY s0 mL,l2⟩),false)):=⟨n,A,G,_,_,_,WJ.step hb6,zJ.2.2.2.2,Nat.le_trans zJ.2.2.1 (by omega),rfl,HTN HQ jD⟩
  clear hb6 HTH Rc HTN HGS HGF HQ WJ Ht HW2 ze jD HF HND p0 p1 p2 p3 p4 p5 p6 hpl
  obtain⟨c0,c1,c2,c3,c4,c5,c6,c7,c8,c9⟩:=iI Eo.wk.blk
  have e0:A'.s=some ⟨G'.s,0,none⟩:=by
   exact XR
  rw [e0,ah HSL] at c6
  obtain⟨⟨p0,p1,p2,p3,p4,p5,p6⟩,_⟩:=ig eP
  have hwl:=aA Eo.wk.blk
  have hBl:=aA eP
  go_upto_region 5 with fail
  have y6:=cell_regrown c6
  have z1:=cell_regrown p1
  clear c0 c1 c2 c3 c4 c5 c6 c7 c8 c9 p0 p1 p2 p3 p4 p5 p6
  refine bJ 11 (by kernel_rfl) ?_
  show dZ _ _ _ _ _ 12 (Array.replicate 12 false) _ _
  refine tk [0,1,2,3,4,5,6,7,8] ?_
  iterate 9 (refine oJ (fun K hK=>?_);go_simp;refine hK _ ?_;clear hK K)
  refine kK ?_
  clear y6 z1
  refine dK 9 rfl (by kernel_rfl) (by rfl) (fun x hx=>?_)
  go_simp
  have HX:=hide (Eo.step hx)
  have HJX:Hid (∀j mm,fE w j mm→fE x j mm):=fun j mm hj=>au (HJW j mm hj) hx
  have AQ:=hide (tX sb mb kk mF (bY s0 mL) l2 x HLEN Lp HX.bk HX.si)
  clear hx
  refine AQ.mono ?_
  rintro e y ⟨v2,rfl,hrow,hby⟩
  refine⟨hby,?_⟩
  obtain⟨b2,c2,g2,rfl,hW2,hg2,_⟩:=GR.W.of_own (enc:=aP) aN hrow
  have HY:Hid (WK w0 y wb n' A' G' (newC x.heap.size 5 c') v L):=(HX.wk.recol (c':=newC x.heap.size 5 c') (fun z hz=>dR hz)).step hby
  have HI2:=hide hW2
  have HJY:Hid (∀j mm,fE w j mm→fE y j mm):=fun j mm hj=>au (HJX j mm hj) hby
  have Lr:Hid (∀z∈fp g2 l2,newC x.heap.size 5 c' z=5∧z∉nT G'.i n'.seen):=fun z hz=>⟨aW (hg2 z hz).1,fun hm=>by
   have h1:=(iL HX.wk.no.s).2 z hm
   have h2:=(hg2 z hz).1
   omega⟩
  clear hrow hby hW2 hg2 AQ HX Eo
  refine tk [10] ?_
  (refine oJ (fun K hK=>?_);go_simp;refine hK _ ?_;clear hK K)
  refine kK ?_
  refine aZ (by kernel_rfl) (fun x3 hx3=>?_)
  have Rf:=hide (HY.step hx3)
  have HI3:=hide (HI2.below hx3)
  have HJ6:Hid (∀j mm,fE w j mm→fE x3 j mm):=fun j mm hj=>au (HJY j mm hj) hx3
  obtain⟨b0,cc0,_,hg0,⟨q0,q1,q2⟩,⟨f0,f1⟩,_⟩:=fq.three Rf.no.s i (by rw [ah HSL];exact hi)
  have f2:x3.frozen? ⟨G'.s,i*3+2,none⟩=false:=by
   exact XQ
  have LD:=hide (Rf.seenPut i (by rw [ah HSL];exact hi) ⟨mF,bY s0 mL,l2⟩ b2 c2 g2 HI3 Lr)
  have HJF:Hid (∀j mm,fE w j mm→fE (GR.setW x3 G'.s (i*3) [.int .i64 mF,.int .i64 (bY s0 mL),.slice b2 l2.length c2]) j mm):=fun j mm hj=>by
   have h3:=ah HJ6 j mm hj
   have hne:=oh h3 q2
   unfold fE
   rw [GR.setW_other hne]
   exact h3
  clear hx3 HY HI2
  refine aF 11 rfl (by kernel_rfl) (by rfl) ?_
  go_simp
  refine wpAny_done (by kernel_rfl) ?_
  go_simp
  clear q0 q1 q2 f0 f1 f2
  go_wp2_with fail
  go_ret
  exact⟨by rw [ah Sl];first|done|rfl,⟨A',_,_,by rw [ah Sl];exact LD⟩,HJF⟩
 have HF:Hid ((aQ s0 mL).length < 40):=by
  have:=zJ.2.2.1;show(aQ s0 mL).length < 40
  omega
 clear hf;go_wp2_with fail;refine(HGS w5 sb mb _ A G _ _ _ (by have:=XB.2.2.1;omega) HND HF WJ).mono ?_;rintro e w6 ⟨rfl,⟨A1,G1,c1,Rk⟩,Lh⟩;have eP:=hide (Lh w.heap.size _ (by omega) arx Ht);have HJW:Hid (∀j mm,fE w j mm→fE w6 j mm):=fun j mm hj=>Lh j _ (Qy (HJ5 j mm hj) WJ.wk.blk) (WJ.si.far (HJ5 j mm hj)) (HJ5 j mm hj)
 have Og:=hide Rk;clear Rk Lh p0 p1 p2 p3 p4 p5 p6 hpl HGS HGF;cases hr:(cK n.pu mk 0 1 0 mN).2
 case' false=>
  have jD:Hid (jE n s0 ⟨mK,mF,mT,mI,mL,mk,mN⟩=false):=by
   show jE n s0 ⟨mK,mF,mT,mI,mL,mk,mN⟩=false
   unfold jE;rw [hr,Bool.false_and]
  rw [hr] at Og
  clear hr
  go_wp2_with fail
  obtain⟨n',A',G',c',kk,l2,Eo,Lp,HLEN,HSL,Sl⟩:∃(n':Nd) (A':bQ) (G':aX) (c':Nat→Nat) (kk:Nat) (l2:List Int),Hid (nU w0 w6 wb sb mb kk n' A' G' c' v L (bY s0 mL) l2)∧Hid (l2.Pairwise (· < ·))∧Hid (l2.length≤1000)∧Hid (n'.seen.length=n.seen.length)∧Hid (TT=(bn n' (n'.seen.set i ⟨mF,bY s0 mL,l2⟩),false)):=⟨n,A1,G1,c1,_,_,Og,zJ.2.2.2.2,Nat.le_trans zJ.2.2.1 (by omega),rfl,HTN HQ jD⟩
  clear HTH Rc HTN HQ WJ Ht HW2 ze jD HF HND Og
  obtain⟨c0,c1,c2,c3,c4,c5,c6,c7,c8,c9⟩:=iI Eo.wk.blk
  have e0:A'.s=some ⟨G'.s,0,none⟩:=by
   exact XR
  rw [e0,ah HSL] at c6
  obtain⟨⟨p0,p1,p2,p3,p4,p5,p6⟩,_⟩:=ig eP
  have hwl:=aA Eo.wk.blk
  have hBl:=aA eP
  go_upto_region 5 with fail
  have y6:=cell_regrown c6
  have z1:=cell_regrown p1
  clear c0 c1 c2 c3 c4 c5 c6 c7 c8 c9 p0 p1 p2 p3 p4 p5 p6
  refine bJ 11 (by kernel_rfl) ?_
  show dZ _ _ _ _ _ 12 (Array.replicate 12 false) _ _
  refine tk [0,1,2,3,4,5,6,7,8] ?_
  iterate 9 (refine oJ (fun K hK=>?_);go_simp;refine hK _ ?_;clear hK K)
  refine kK ?_
  clear y6 z1
  refine dK 9 rfl (by kernel_rfl) (by rfl) (fun x hx=>?_)
  go_simp
  have HX:=hide (Eo.step hx)
  have HJX:Hid (∀j mm,fE w j mm→fE x j mm):=fun j mm hj=>au (HJW j mm hj) hx
  have AQ:=hide (tX sb mb kk mF (bY s0 mL) l2 x HLEN Lp HX.bk HX.si)
  clear hx
  refine AQ.mono ?_
  rintro e y ⟨v2,rfl,hrow,hby⟩
  refine⟨hby,?_⟩
  obtain⟨b2,c2,g2,rfl,hW2,hg2,_⟩:=GR.W.of_own (enc:=aP) aN hrow
  have HY:Hid (WK w0 y wb n' A' G' (newC x.heap.size 5 c') v L):=(HX.wk.recol (c':=newC x.heap.size 5 c') (fun z hz=>dR hz)).step hby
  have HI2:=hide hW2
  have HJY:Hid (∀j mm,fE w j mm→fE y j mm):=fun j mm hj=>au (HJX j mm hj) hby
  have Lr:Hid (∀z∈fp g2 l2,newC x.heap.size 5 c' z=5∧z∉nT G'.i n'.seen):=fun z hz=>⟨aW (hg2 z hz).1,fun hm=>by
   have h1:=(iL HX.wk.no.s).2 z hm
   have h2:=(hg2 z hz).1
   omega⟩
  clear hrow hby hW2 hg2 AQ HX Eo
  refine tk [10] ?_
  (refine oJ (fun K hK=>?_);go_simp;refine hK _ ?_;clear hK K)
  refine kK ?_
  refine aZ (by kernel_rfl) (fun x3 hx3=>?_)
  have Rf:=hide (HY.step hx3)
  have HI3:=hide (HI2.below hx3)
  have HJ6:Hid (∀j mm,fE w j mm→fE x3 j mm):=fun j mm hj=>au (HJY j mm hj) hx3
  obtain⟨b0,cc0,_,hg0,⟨q0,q1,q2⟩,⟨f0,f1⟩,_⟩:=fq.three Rf.no.s i (by rw [ah HSL];exact hi)
  have f2:x3.frozen? ⟨G'.s,i*3+2,none⟩=false:=by
   exact XQ
  have LD:=hide (Rf.seenPut i (by rw [ah HSL];exact hi) ⟨mF,bY s0 mL,l2⟩ b2 c2 g2 HI3 Lr)
  have HJF:Hid (∀j mm,fE w j mm→fE (GR.setW x3 G'.s (i*3) [.int .i64 mF,.int .i64 (bY s0 mL),.slice b2 l2.length c2]) j mm):=fun j mm hj=>by
   have h3:=ah HJ6 j mm hj
   have hne:=oh h3 q2
   unfold fE
   rw [GR.setW_other hne]
   exact h3
  clear hx3 HY HI2
  refine aF 11 rfl (by kernel_rfl) (by rfl) ?_
  go_simp
  refine wpAny_done (by kernel_rfl) ?_
  go_simp
  clear q0 q1 q2 f0 f1 f2
  go_wp2_with fail
  go_ret
  exact⟨by rw [ah Sl];first|done|rfl,⟨A',_,_,by rw [ah Sl];exact LD⟩,HJF⟩
 have jD:Hid (jE n s0 ⟨mK,mF,mT,mI,mL,mk,mN⟩=true):=by
  show jE n s0 ⟨mK,mF,mT,mI,mL,mk,mN⟩=true
  unfold jE;rw [hr,decide_eq_true (ah HF),Bool.true_and]
 rw [hr] at Og;clear hr;have HNI:=hide (FH HQ).2;go_wp2_with fail
 obtain⟨n',A',G',c',kk,l2,Eo,Lp,HLEN,HSL,Sl⟩:∃(n':Nd) (A':bQ) (G':aX) (c':Nat→Nat) (kk:Nat) (l2:List Int),Hid (nU w0 w6 wb sb mb kk n' A' G' c' v L (bY s0 mL) l2)∧Hid (l2.Pairwise (· < ·))∧Hid (l2.length≤1000)∧Hid (n'.seen.length=n.seen.length)∧Hid (TT=(bn n' (n'.seen.set i ⟨mF,bY s0 mL,l2⟩),true)):=⟨setPu n (cK n.pu mk 0 1 0 mN).1,A1,G1,c1,_,jy (aQ s0 mL) mI,⟨Og.wk,Og.bk,Og.si.same (fun x=>by rw [wH];exact List.mem_cons),Og.cs,Og.cm⟩,JF zJ.2.2.2.2 HNI,(by
  show(jy (aQ s0 mL) mI).length≤1000
  rw [zn]
  have:=ah HF
  omega),rfl,Rc HQ jD⟩
 clear HTH Rc HTN HQ WJ Ht HW2 ze jD HF HND Og HNI;obtain⟨c0,c1,c2,c3,c4,c5,c6,c7,c8,c9⟩:=iI Eo.wk.blk
 have e0:A'.s=some ⟨G'.s,0,none⟩:=by
  exact XR
 rw [e0,ah HSL] at c6;obtain⟨⟨p0,p1,p2,p3,p4,p5,p6⟩,_⟩:=ig eP;have hwl:=aA Eo.wk.blk;have hBl:=aA eP;go_upto_region 5 with fail;have y6:=cell_regrown c6;have z1:=cell_regrown p1;clear c0 c1 c2 c3 c4 c5 c6 c7 c8 c9 p0 p1 p2 p3 p4 p5 p6;refine bJ 11 (by kernel_rfl) ?_;show dZ _ _ _ _ _ 12 (Array.replicate 12 false) _ _
 refine tk [0,1,2,3,4,5,6,7,8] ?_;iterate 9 (refine oJ (fun K hK=>?_);go_simp;refine hK _ ?_;clear hK K)
 refine kK ?_;clear y6 z1;refine dK 9 rfl (by kernel_rfl) (by rfl) (fun x hx=>?_);go_simp;have HX:=hide (Eo.step hx);have HJX:Hid (∀j mm,fE w j mm→fE x j mm):=fun j mm hj=>au (HJW j mm hj) hx
 have AQ:=hide (tX sb mb kk mF (bY s0 mL) l2 x HLEN Lp HX.bk HX.si);clear hx;refine AQ.mono ?_;rintro e y ⟨v2,rfl,hrow,hby⟩;refine⟨hby,?_⟩;obtain⟨b2,c2,g2,rfl,hW2,hg2,_⟩:=GR.W.of_own (enc:=aP) aN hrow;have HY:Hid (WK w0 y wb n' A' G' (newC x.heap.size 5 c') v L):=(HX.wk.recol (c':=newC x.heap.size 5 c') (fun z hz=>dR hz)).step hby;have HI2:=hide hW2;have HJY:Hid (∀j mm,fE w j mm→fE y j mm):=fun j mm hj=>au (HJX j mm hj) hby
 have Lr:Hid (∀z∈fp g2 l2,newC x.heap.size 5 c' z=5∧z∉nT G'.i n'.seen):=fun z hz=>⟨aW (hg2 z hz).1,fun hm=>by
  have h1:=(iL HX.wk.no.s).2 z hm
  have h2:=(hg2 z hz).1
  omega⟩
 clear hrow hby hW2 hg2 AQ HX Eo;refine tk [10] ?_;(refine oJ (fun K hK=>?_);go_simp;refine hK _ ?_;clear hK K)
 refine kK ?_;refine aZ (by kernel_rfl) (fun x3 hx3=>?_);have Rf:=hide (HY.step hx3);have HI3:=hide (HI2.below hx3);have HJ6:Hid (∀j mm,fE w j mm→fE x3 j mm):=fun j mm hj=>au (HJY j mm hj) hx3
 obtain⟨b0,cc0,_,hg0,⟨q0,q1,q2⟩,⟨f0,f1⟩,_⟩:=fq.three Rf.no.s i (by rw [ah HSL];exact hi)
 have f2:x3.frozen? ⟨G'.s,i*3+2,none⟩=false:=by
  exact XQ
 have LD:=hide (Rf.seenPut i (by rw [ah HSL];exact hi) ⟨mF,bY s0 mL,l2⟩ b2 c2 g2 HI3 Lr)
 have HJF:Hid (∀j mm,fE w j mm→fE (GR.setW x3 G'.s (i*3) [.int .i64 mF,.int .i64 (bY s0 mL),.slice b2 l2.length c2]) j mm):=fun j mm hj=>by
  have h3:=ah HJ6 j mm hj
  have hne:=oh h3 q2
  unfold fE
  rw [GR.setW_other hne]
  exact h3
 clear hx3 HY HI2;refine aF 11 rfl (by kernel_rfl) (by rfl) ?_;go_simp;refine wpAny_done (by kernel_rfl) ?_;go_simp;clear q0 q1 q2 f0 f1 f2;go_wp2_with fail;go_ret;exact⟨by rw [ah Sl];first|done|rfl,⟨A',_,_,by rw [ah Sl];exact LD⟩,HJF⟩):P:=h
theorem ajS.Ka98(h:P:=by
 obtain⟨c0,c1,c2,c3,c4,c5,c6,c7,c8,c9⟩:=iI HW1.wk.blk;obtain⟨⟨p0,p1,p2,p3,p4,p5,p6⟩,_⟩:=ig rG;obtain⟨⟨d0,d1⟩,_⟩:=lF HW1.bk;have hlen:=avv HW1.si hnd;have hwl:=aA HW.wk.blk;have hsl:=aA HW.bk;have hne:wb≠w.heap.size:=by omega
 have hne2:sb≠w.heap.size:=by omega
 clear h;go_enter Tryz.func116,Tryz.ntmps116
 go_upto_region 1 with fail;have y4:=cell_regrown c4;have z3:=cell_regrown p3;have z5:=cell_regrown p5;have z6:=cell_regrown p6;have x1:=cell_regrown d1;clear c0 c1 c2 c3 c4 c5 c6 c7 c8 c9 p0 p1 p2 p3 p4 p5 p6 d0 d1;exact Ka60):P:=h
theorem ado(h:P:=by
 rw [←hW] at e2 e3;have Lv:=hide e2;have HW1:=hide (HW0.step e3);clear hW e2 e3;generalize w.heap.size+1=B at *;obtain⟨c0,c1,c2,c3,c4,c5,c6,c7,c8,c9⟩:=iI HW1.blk;obtain⟨⟨p0,p1,p2,p3,p4,p5,p6⟩,_⟩:=ig Lv;have hBl:=aA Lv;have avr:=aA HW1.blk;exact Ka99):P:=h
theorem ajT.Ka99(h:P:=by
 go_upto_region 12 with fail;go_wp2_with fail;refine(HDL W B Lv HW1.no.o).mono ?_;rintro e y ⟨a2,cp2,rfl,hrow,hgr,hx2⟩;have HY:=hide (HW1.setOut hgr hrow hx2);clear hrow hgr hx2 HDL c0 c1 c2 c3 c4 c5 c6 c7 c8 c9 p0 p1 p2 p3 p4 p5 p6;obtain⟨c0,c1,c2,c3,c4,c5,c6,c7,c8,c9⟩:=iI HY.1;have f5:=aj HY.1 5;have ad8:=aA HY.1;go_wp2_with fail;go_ret;exact⟨rfl,_,G,c,v,by rw [List.append_nil];exact HY.2⟩):P:=h
theorem ajU.Ka99(h:P:=by
 go_wp2_with fail;refine(Ob W HW1).mono ?_;rintro e y ⟨rfl,⟨A',G',c',hY⟩,hJ⟩;have HY:=hide hY;have AO:=hide (hJ B ⟨1,mF,mT,mI,mL,mk,mN⟩ Lv);clear hY hJ Ob p0 p1 p2 p3 p4 p5 p6 c0 c1 c2 c3 c4 c5 c6 c7 c8 c9;exact Ka44):P:=h
theorem ajV.Ka99(h:P:=by
 have Rc:=hide (fun p:Regrown=>HW1.no.at.below (below_regrown _ p.d p.os));go_upto_region 4 with fail;open afM in exact Fh):P:=h
theorem ZF(h:P:=by
 clear h hc;obtain⟨⟨p0,p1,p2,p3,p4,p5,p6,p7,p8,p9,mZ⟩,_⟩:=bX LA;have hpl:=aA LA;go_upto_region 3 with fail;have z1:=cell_regrown p1;have z2:=cell_regrown p2;have z3:=cell_regrown p3;clear p0 p1 p2 p3 p4 p5 p6 p7 p8 p9 mZ;refine bJ 9 (by kernel_rfl) ?_;show dZ _ _ _ _ _ 10 (Array.replicate 10 false) _ _
 refine tk [0,1,2,3,5,6] ?_;iterate 6 (refine oJ (fun K hK=>?_);go_simp;refine hK _ ?_;clear hK K)
 refine kK ?_;clear z1 z2 z3;exact Ka100):P:=h
theorem ajW.Ka100(h:P:=by
 refine vI 4 8 rfl rfl (by kernel_rfl) (by rfl) (by rfl) (fun x hx=>?c1) (fun x hx=>?c2)
 case' c1=>
  go_simp
  refine(clone k x (by omega)).mono ?_
  rintro e y ⟨rfl,hby⟩
  refine⟨hby,?_⟩
  have HY:=hide (Ge.trans hx hby)
  clear hx hby
  refine tk [7] ?_
  (refine oJ (fun K hK=>?_);go_simp;refine hK _ ?_;clear hK K)
  refine kK ?_
  refine dK 8 rfl (by kernel_rfl) (by rfl) (fun x2 hx2=>?_)
  go_simp
  refine⟨ay x2 _,?_⟩
  have hgl:z.heap.size≤x2.heap.size:=(Ge.trans HY hx2).size
  have Hz:=hide (heap_alloc_new x2 (.cells #[.int .i64 0,.string ⟨#[]⟩,.int .i64 0,.int .i64 0] 43))
  have rP:=hide (Ge.trans (Ge.trans HY hx2) (ay x2 (.cells #[.int .i64 0,.string ⟨#[]⟩,.int .i64 0,.int .i64 0] 43)))
  clear hx2 HY
  generalize x2.alloc (.cells #[.int .i64 0,.string ⟨#[]⟩,.int .i64 0,.int .i64 0] 43)=y2 at *
  generalize x2.heap.size=g at *
  refine aZ (by kernel_rfl) (fun z2 hz2=>?_)
  have jD:=hide (au Hz hz2)
  have eP:=hide (Ge.trans rP hz2)
  clear hz2 Hz rP
  have zP:=aA jD
  obtain⟨g0,g1,g2,g3⟩:=fC jD
  have f0:=aj jD 0
  have f1:=aj jD 1
  have f2:=aj jD 2
  have f3:=aj jD 3
  refine aF 9 rfl (by kernel_rfl) (by rfl) ?_
  go_simp
  refine wpAny_done (by kernel_rfl) ?_
  go_simp
  go_upto_region 4 with fail
  refine wp_at (fun W hW=>?_)
  have ND:Hid (W.heap[g]?=some (.cells #[.int .i64 no,.string k,.int .i64 nn,.int .i64 0] 43 (0,0))):=by rw [hW];exact nC jD
  have iJ:Hid (Below z.heap.size z W):=by rw [hW];exact gY eP hgl
  clear hW jD eP zP g0 g1 g2 g3 f0 f1 f2 f3
 case' c2=>
  go_simp
  refine⟨ay x _,?_⟩
  have hgl:z.heap.size≤x.heap.size:=hx.size
  have Hz:=hide (heap_alloc_new x (.cells #[.int .i64 0,.string ⟨#[]⟩,.int .i64 0,.int .i64 0] 43))
  have rP:=hide (Ge.trans hx (ay x (.cells #[.int .i64 0,.string ⟨#[]⟩,.int .i64 0,.int .i64 0] 43)))
  clear hx
  generalize x.alloc (.cells #[.int .i64 0,.string ⟨#[]⟩,.int .i64 0,.int .i64 0] 43)=y2 at *
  generalize x.heap.size=g at *
  refine dK 4 rfl (by kernel_rfl) (by rfl) (fun x2 hx2=>?_)
  go_simp
  refine(clone k x2 (by omega)).mono ?_
  rintro e y3 ⟨rfl,hby⟩
  refine⟨hby,?_⟩
  have Zd:=hide (au Hz (Ge.trans hx2 hby))
  have Y6:=hide (Ge.trans rP (Ge.trans hx2 hby))
  clear hx2 hby Hz rP
  refine tk [7] ?_
  (refine oJ (fun K hK=>?_);go_simp;refine hK _ ?_;clear hK K)
  refine kK ?_
  refine aZ (by kernel_rfl) (fun z2 hz2=>?_)
  have jD:=hide (au Zd hz2)
  have eP:=hide (Ge.trans Y6 hz2)
  clear hz2 Zd Y6
  have zP:=aA jD
  obtain⟨g0,g1,g2,g3⟩:=fC jD
  have f0:=aj jD 0
  have f1:=aj jD 1
  have f2:=aj jD 2
  have f3:=aj jD 3
  refine aF 9 rfl (by kernel_rfl) (by rfl) ?_
  go_simp
  refine wpAny_done (by kernel_rfl) ?_
  go_simp
  go_upto_region 4 with fail
  refine wp_at (fun W hW=>?_)
  have ND:Hid (W.heap[g]?=some (.cells #[.int .i64 no,.string k,.int .i64 nn,.int .i64 0] 43 (0,0))):=by rw [hW];exact nC jD
  have iJ:Hid (Below z.heap.size z W):=by rw [hW];exact gY eP hgl
  clear hW jD eP zP g0 g1 g2 g3 f0 f1 f2 f3
 all_goals
  have Sr:=hide (HZ.step iJ)
  have Cu:=hide (au LA iJ)
  clear HZ LA iJ
  obtain⟨⟨p0,p1,p2,p3,p4,p5,p6,p7,p8,p9,mZ⟩,_⟩:=bX Cu
  have hpw:=aA Cu
  go_wp2_with fail
  refine(oI W Sr).mono ?_
  rintro e w1 ⟨rfl,hb1⟩
  have HW2:=hide (Sr.step hb1)
  have HG2:=hide (au ND hb1)
  clear hb1 oI p0 p1 p2 p3 p4 p5 p6 p7 p8 p9 mZ Sr Cu ND
  go_upto_region 5 with fail
  refine wp_at (fun V hV=>?_)
  obtain rfl:=hV
  obtain⟨g6,hAr,av7,auU,⟨q0,q1,q2,q3⟩,_⟩:=HW2.reqRow i hil
  obtain⟨d0,d1,d2,d3,d4,d5,d6,d7,d8,d9⟩:=iI HW2.blk
  rw [hAr] at d8
  obtain⟨s0,s1,s2,s3⟩:=fC HG2
  have hw2:=aA HW2.blk
  have hg2:=aA HG2
  have auX:(i:Int) < (n.reqs.length:Int):=by omega
  generalize n.reqs[i]=lm at *
  obtain⟨ln,lk,lx,ls⟩:=lm
  dsimp only at q0 q1 q2 q3 Yi HSQ
  subst Yi
  have heq:=auy ln lk k lx nn ls 0
  have hB:=ah HSQ
  generalize (lk.toList == k.toList&&decide (lx=nn)&&decide (ls=0))=B at *
  subst hB
  have y8:=cell_regrown d8
  have x0:=cell_regrown q0
  have x1:=cell_regrown q1
  have x2:=cell_regrown q2
  have x3:=cell_regrown q3
  have v0:=cell_regrown s0
  have v1:=cell_regrown s1
  have v2:=cell_regrown s2
  have v3:=cell_regrown s3
  clear d0 d1 d2 d3 d4 d5 d6 d7 d8 d9 q0 q1 q2 q3 s0 s1 s2 s3
  refine gu (by kernel_rfl) ?_
  show jq _ _ _ _ 13 (Array.replicate 13 false) _ _
  refine tk [0,1,2,3,4,5,6,7,8,9,10,11,12] ?_
  iterate 13 (refine Rm (fun K hK=>?_);go_simp;refine hK _ ?_;clear hK K)
  refine kK ?_
  refine iO (by kernel_rfl) (fun V hV=>?_)
  have HW3:=hide (HW2.step hV)
  clear hV HW2 HG2 y8 x0 x1 x2 x3 v0 v1 v2 v3 heq
  go_simp
  cases SQ
  all_goals
   go_wp2_with fail
   go_ret
   rw [ah HAD]
   exact⟨rfl,A,G,c,HW3⟩):P:=h
theorem ajX.Ka100(h:P:=by
 refine vI 4 8 rfl rfl (by kernel_rfl) (by rfl) (by rfl) (fun x hx=>?c1) (fun x hx=>?c2)
 case' c1=>
  go_simp
  refine(clone k x (by omega)).mono ?_
  rintro e y ⟨rfl,hby⟩
  refine⟨hby,?_⟩
  have HY:=hide (Ge.trans hx hby)
  clear hx hby
  refine tk [7] ?_
  (refine oJ (fun K hK=>?_);go_simp;refine hK _ ?_;clear hK K)
  refine kK ?_
  refine dK 8 rfl (by kernel_rfl) (by rfl) (fun x2 hx2=>?_)
  go_simp
  refine⟨ay x2 _,?_⟩
  have hgl:z.heap.size≤x2.heap.size:=(Ge.trans HY hx2).size
  have Hz:=hide (heap_alloc_new x2 (.cells #[.int .i64 0,.string ⟨#[]⟩,.int .i64 0,.int .i64 0] 43))
  have rP:=hide (Ge.trans (Ge.trans HY hx2) (ay x2 (.cells #[.int .i64 0,.string ⟨#[]⟩,.int .i64 0,.int .i64 0] 43)))
  clear hx2 HY
  generalize x2.alloc (.cells #[.int .i64 0,.string ⟨#[]⟩,.int .i64 0,.int .i64 0] 43)=y2 at *
  generalize x2.heap.size=g at *
  refine aZ (by kernel_rfl) (fun z2 hz2=>?_)
  have jD:=hide (au Hz hz2)
  have eP:=hide (Ge.trans rP hz2)
  clear hz2 Hz rP
  have zP:=aA jD
  obtain⟨g0,g1,g2,g3⟩:=fC jD
  have f0:=aj jD 0
  have f1:=aj jD 1
  have f2:=aj jD 2
  have f3:=aj jD 3
  refine aF 9 rfl (by kernel_rfl) (by rfl) ?_
  go_simp
  refine wpAny_done (by kernel_rfl) ?_
  go_simp
  go_upto_region 4 with fail
  refine wp_at (fun W hW=>?_)
  have ND:Hid (W.heap[g]?=some (.cells #[.int .i64 no,.string k,.int .i64 nn,.int .i64 0] 43 (0,0))):=by rw [hW];exact nC jD
  have iJ:Hid (Below z.heap.size z W):=by rw [hW];exact gY eP hgl
  clear hW jD eP zP g0 g1 g2 g3 f0 f1 f2 f3
 case' c2=>
  go_simp
  refine⟨ay x _,?_⟩
  have hgl:z.heap.size≤x.heap.size:=hx.size
  have Hz:=hide (heap_alloc_new x (.cells #[.int .i64 0,.string ⟨#[]⟩,.int .i64 0,.int .i64 0] 43))
  have rP:=hide (Ge.trans hx (ay x (.cells #[.int .i64 0,.string ⟨#[]⟩,.int .i64 0,.int .i64 0] 43)))
  clear hx
  generalize x.alloc (.cells #[.int .i64 0,.string ⟨#[]⟩,.int .i64 0,.int .i64 0] 43)=y2 at *
  generalize x.heap.size=g at *
  refine dK 4 rfl (by kernel_rfl) (by rfl) (fun x2 hx2=>?_)
  go_simp
  refine(clone k x2 (by omega)).mono ?_
  rintro e y3 ⟨rfl,hby⟩
  refine⟨hby,?_⟩
  have Zd:=hide (au Hz (Ge.trans hx2 hby))
  have Y6:=hide (Ge.trans rP (Ge.trans hx2 hby))
  clear hx2 hby Hz rP
  refine tk [7] ?_
  (refine oJ (fun K hK=>?_);go_simp;refine hK _ ?_;clear hK K)
  refine kK ?_
  refine aZ (by kernel_rfl) (fun z2 hz2=>?_)
  have jD:=hide (au Zd hz2)
  have eP:=hide (Ge.trans Y6 hz2)
  clear hz2 Zd Y6
  have zP:=aA jD
  obtain⟨g0,g1,g2,g3⟩:=fC jD
  have f0:=aj jD 0
  have f1:=aj jD 1
  have f2:=aj jD 2
  have f3:=aj jD 3
  refine aF 9 rfl (by kernel_rfl) (by rfl) ?_
  go_simp
  refine wpAny_done (by kernel_rfl) ?_
  go_simp
  go_upto_region 4 with fail
  refine wp_at (fun W hW=>?_)
  have ND:Hid (W.heap[g]?=some (.cells #[.int .i64 no,.string k,.int .i64 nn,.int .i64 0] 43 (0,0))):=by rw [hW];exact nC jD
  have iJ:Hid (Below z.heap.size z W):=by rw [hW];exact gY eP hgl
  clear hW jD eP zP g0 g1 g2 g3 f0 f1 f2 f3
 all_goals
  have Sr:=hide ((HZ.recol (c':=newC z.heap.size 9 c) (fun x hx=>dR hx)).step iJ)
  have hcg:newC z.heap.size 9 c g=9:=aW hgl
  have Cu:=hide (au LA iJ)
  have hgw:=aA ND
  have auV:g≠wb:=by have:=aA HZ.blk;omega
  clear HZ LA iJ
  obtain⟨⟨p0,p1,p2,p3,p4,p5,p6,p7,p8,p9,mZ⟩,_⟩:=bX Cu
  have hpw:=aA Cu
  go_wp2_with fail
  refine(oI W _ Sr).mono ?_
  rintro e w1 ⟨rfl,hb1⟩
  have HW2:=hide (Sr.step hb1)
  have ze:=hide (au Cu hb1)
  have HG2:=hide (au ND hb1)
  clear hb1 oI p0 p1 p2 p3 p4 p5 p6 p7 p8 p9 mZ Sr Cu ND hgw
  go_upto_region 5 with fail
  refine wp_at (fun V hV=>?_)
  obtain rfl:=hV
  refine gu (by kernel_rfl) ?_
  show jq _ _ _ _ 13 (Array.replicate 13 false) _ _
  refine tk [0,1,2,3,4,5,6,7,8,9,10,11,12] ?_
  iterate 13 (refine Rm (fun K hK=>?_);go_simp;refine hK _ ?_;clear hK K)
  refine kK ?_
  refine iO (by kernel_rfl) (fun V hV=>?_)
  have HW3:=hide (HW2.step hV)
  have Q8:=hide (au ze hV)
  have Zb:=hide (au HG2 hV)
  clear hV HW2 ze HG2
  obtain⟨c0,c1,c2,c3,c4,c5,c6,c7,c8,c9⟩:=iI HW3.blk
  obtain⟨⟨p0,p1,p2,p3,p4,p5,p6,p7,p8,p9,mZ⟩,_⟩:=bX Q8
  have hw3:=aA HW3.blk
  have hp3:=aA Q8
  go_simp
  go_upto_region 10 with fail
  have y4:=cell_regrown c4
  have z2:=cell_regrown p2
  have z3:=cell_regrown p3
  clear c0 c1 c2 c3 c4 c5 c6 c7 c8 c9 p0 p1 p2 p3 p4 p5 p6 p7 p8 p9 mZ
  refine bJ 13 (by kernel_rfl) ?_
  show dZ _ _ _ _ _ 15 (Array.replicate 15 false) _ _
  refine tk [0,1,2,3,4,5,6,7,8,9] ?_
  iterate 10 (refine oJ (fun K hK=>?_);go_simp;refine hK _ ?_;clear hK K)
  refine kK ?_
  clear y4 z2 z3
  refine dK 10 rfl (by kernel_rfl) (by rfl) (fun x hx=>?_)
  go_simp
  have HX:=hide (HW3.step hx)
  refine(Le x _ HX).mono ?_
  rintro e y ⟨a,cp,g5,hg5,rfl,hp,hby⟩
  refine⟨hby,?_⟩
  have hgx:g < x.heap.size:=Nat.lt_of_lt_of_le (aA Zb) hx.size
  have HGX:=hide (au Zb (Ge.trans hx hby))
  have HST:=hide (fun u (hu:Ge y u)=>O3 (cp:=cp) HX (hby.trans (hu.mono hby.size)) hg5 (hp.below hu))
  clear hby hg5 hp Le hx Zb Q8
  refine tk [11,12] ?_
  iterate 2 (refine oJ (fun K hK=>?_);go_simp;refine hK _ ?_;clear hK K)
  refine kK ?_
  refine aZ (by kernel_rfl) (fun u hu=>?_)
  refine aF 13 rfl (by kernel_rfl) (by rfl) ?_
  go_simp
  refine(HST u hu).mono ?_
  rintro e z9 ⟨rfl,A',G',c',hZ9,Eu,P9⟩
  have hc9:c' g=9:=(P9 g hgx).trans hcg
  have HZ9:=hide hZ9
  have Zc:=hide (Eu g _ auV (au HGX hu))
  clear hZ9 HST hu Eu HGX HX HW3 P9 hcg hgx
  obtain⟨rl,rb⟩:=r
  dsimp only at HZ9 HAD Xz ⊢
  refine aF 14 rfl (by kernel_rfl) (by rfl) ?_
  go_simp
  refine wpAny_done (by kernel_rfl) ?_
  go_simp
  have h9l:=aA Zc
  obtain⟨s0,s1,s2,s3⟩:=fC Zc
  have sf3:=aj Zc 3
  cases rb
  ·rw [if_neg (by simp)] at HZ9;have hrl:=ah Xz rfl;subst hrl;rw [if_neg (by simp)] at HAD;have afr:=hide (HZ9.kc (k:=9) (KC.set (i:=3) (v:= .int .i64 1) hc9) (by omega));have ae3:=hide (ar8 (u:= .int .i64 1) Zc);clear HZ9;go_upto_region 12 with fail;refine wp_at (fun Y hY=>?_);have asy:Hid (WK w0 Y wb n A' G' c' v L):=by rw [hY];exact afr
   have ae4:Hid (Y.heap[g]?=some (.cells #[.int .i64 no,.string k,.int .i64 nn,.int .i64 1] 43 (0,0))):=by rw [hY];exact ae3
   clear hY afr ae3 Zc s0 s1 s2 s3 sf3 h9l;have h9l:=aA ae4;obtain⟨s0,s1,s2,s3⟩:=fC ae4;have HKP:=hide (Wu w0 Y wb n A' G' c' v L ⟨no,k,nn,1⟩ i hil hlen asy);rw [ah HKN] at HKP;exact arf
  ·rw [if_pos rfl] at HZ9;rw [if_pos rfl] at HAD;have HKP:=hide (Wu w0 z9 wb (setPu n rl) A' G' c' v L ⟨no,k,nn,0⟩ i hil hlen HZ9);have hki:zq (setPu n rl) ⟨no,k,nn,0⟩ i=iE (setPu n rl) ⟨no,k,nn,0⟩:=ah HKI rl 0;rw [hki] at HKP;clear hki;exact arf):P:=h
theorem ZH(h:P:=by
 have HF:=hide hf;have acY:=hide (OL mp mb n0 _ G ⟨pk,qm,qf,qs⟩ w6 hkey hn0 yE.blk yE.map);have R5:=hide yE;obtain⟨⟨p0,p1,p2,p3⟩,_⟩:=eZ ad5;clear hf yE ad5;go_wp2_with fail;refine acY.mono ?_;rintro e w7 ⟨rfl,hm7,hk7⟩;have Zt:=hide (R5.turned hk7 hm7);have zF:=hide (uj.trans (zu hk7 R5.lom (Nat.le_trans hB uj.size)));clear hm7 hk7 p0 p1 p2 p3;go_wp2_with fail;go_ret;exact Ka101):P:=h
theorem ajY.Ka101(h:P:=by
 exact⟨zF,.inr ⟨.inr h20,rfl,_,Zt⟩⟩):P:=h
theorem ajZ.Ka101(h:P:=by
 exact⟨zF,.inr ⟨.inl HF,rfl,_,Zt⟩⟩):P:=h
theorem IU(h:P:=by
 go_wp2_with fail;refine H.mono ?_;rintro e w1 ⟨v,rfl,hv,hown,hb⟩;have HV:=hide hv;have HO:=hide hown;have HB:=hide hb;clear hown hb hv;go_wp2_with fail;exact Ka102):P:=h
theorem aj0.Ka102(h:P:=by
 exact bodyPost_ret (v:= .tuple #[v,.bool r.2]) (by simp[results,Tryz.results95,go_sem]) rfl ⟨v,rfl,HV,HO,HB⟩):P:=h
theorem aj1.Ka102(h:P:=by
 exact bodyPost_ret (v:= .tuple #[v,.bool r.2]) (by simp[results,Tryz.results94,go_sem]) rfl ⟨v,rfl,HV,HO,HB⟩):P:=h
theorem aj2.Ka102(h:P:=by
 exact bodyPost_ret (v:= .tuple #[v,.bool r.2]) (by simp[results,Tryz.results98,go_sem]) rfl ⟨v,rfl,HV,HO,HB⟩):P:=h
theorem aj3.Ka102(h:P:=by
 exact bodyPost_ret (v:= .tuple #[v,.bool r.2]) (by simp[results,Tryz.results28,go_sem]) rfl ⟨v,rfl,HV,HO,HB⟩):P:=h
theorem aj4.Ka102(h:P:=by
 exact bodyPost_ret (v:= .tuple #[v,.bool r.2]) (by simp[results,Tryz.results59,go_sem]) rfl ⟨v,rfl,HV,HO,HB⟩):P:=h
theorem uz(h:P:=by
 clear hr;go_enter Tryz.func102,Tryz.ntmps102
 go_upto_region 11 with fail;refine wp_at (fun V hV=>?_);exact Ka103):P:=h
theorem aj5.Ka103(h:P:=by
 have hblk:V.heap[w.heap.size]?=some (.cells #[.int .i64 2,.int .i64 F,.int .i64 T,.int .i64 I,.int .i64 0,.string ByteArray.empty,.int .i64 0] 32 (0,0)):=by rw [hV,Below.heap_alloc _ _ _ (by simp)];exact heap_alloc_new w _
 open as9 in exact Ya7):P:=h
theorem aj6.Ka103(h:P:=by
 have hblk:V.heap[w.heap.size]?=some (.cells #[.int .i64 2,.int .i64 F,.int .i64 T,.int .i64 I,.int .i64 0,.string ByteArray.empty,.int .i64 N] 32 (0,0)):=by rw [hV,Below.heap_alloc _ _ _ (by simp)];exact heap_alloc_new w _
 open ata in exact Ya7):P:=h
theorem aj7.Ka103(h:P:=by
 open aoz in exact aa8):P:=h
theorem aj8.Ka103(h:P:=by
 open aoy in exact aa8):P:=h
theorem aj9.Ka103(h:P:=by
 open aoB in exact aa9):P:=h
theorem akb.Ka103(h:P:=by
 open aoA in exact aa9):P:=h
theorem akc.Ka103(h:P:=by
 have hblk:V.heap[w.heap.size]?=some (.cells #[.int .i64 0,.int .i64 F,.int .i64 T,.int .i64 0,.int .i64 0,.string k,.int .i64 N] 32 (0,0)):=by rw [hV,Below.heap_alloc _ _ _ (by simp)];exact heap_alloc_new w _
 open at6 in exact ac8):P:=h
theorem akd.Ka103(h:P:=by
 have hblk:V.heap[w.heap.size]?=some (.cells #[.int .i64 0,.int .i64 F,.int .i64 T,.int .i64 0,.int .i64 L,.string k,.int .i64 N] 32 (0,0)):=by rw [hV,Below.heap_alloc _ _ _ (by simp)];exact heap_alloc_new w _
 open at7 in exact ac8):P:=h
theorem ake.Ka103(h:P:=by
 open aoD in exact abb):P:=h
theorem akf.Ka103(h:P:=by
 open aoC in exact abb):P:=h
theorem Oh(h:P:=by
 have HW1:=hide (h.step (ay w (.cells #[.int .i64 K,.int .i64 no,.string k,.int .i64 nn,.int .i64 mK,.int .i64 mF,.int .i64 mT,.int .i64 mI,.int .i64 mL,.string mk,.int .i64 mN] 34)));exact Ka104):P:=h
theorem akg.Ka104(h:P:=by
 have hq2:(n.par == -1)=true:=by simpa using hpar
 clear h hR En hpar;obtain⟨c0,c1,c2,c3,c4,c5,c6,c7,c8,c9⟩:=iI HW1.blk;go_enter Tryz.func49,Tryz.ntmps49
 go_wp2_with fail;go_ret;exact⟨rfl,c,v,HW1⟩):P:=h
theorem akh.Ka104(h:P:=by
 have hwl:=aA h.blk;have hne:wb≠w.heap.size:=by omega
 have HBO:=hide (show Below w0.heap.size w0 (w.alloc (.cells #[.int .i64 K,.int .i64 no,.string k,.int .i64 nn,.int .i64 mK,.int .i64 mF,.int .i64 mT,.int .i64 mI,.int .i64 mL,.string mk,.int .i64 mN] 34)) from HW1.keep);have HSA:=hide (fun W c v L' (hW:WK w0 W wb n A G c v L')=>hW.no.at.o);clear h hz;generalize mP n=PM at *;obtain⟨ak,ap,ao,as',ar,ck,cp,co,cs,cr⟩:=A;obtain⟨c0,c1,c2,c3,c4,c5,c6,c7,c8,c9⟩:=iI HW1.blk;go_enter Tryz.func51,Tryz.ntmps51
 go_wp2_with fail;go_loopw [13] (fun i wr=>∃(k:Nat) (c':Nat→Nat) (v':Value),k≤n.out.length∧i= .int .i64 k∧WK w0 wr wb n ⟨ak,ap,ao,as',ar,ck,cp,co,cs,cr⟩ G c' v' (L++(n.out.take k).map PM)) (fun i _=>n.out.length - (intOf i).toNat)
 case atStart=>exact⟨0,c,v,Nat.zero_le _,rfl,by simpa using ah HW1⟩
 case round=>
  obtain⟨k,cc,vv,hk,rfl,hS⟩:=hrel;have mW:=hide hS;clear hS c0 c1 c2 c3 c4 c5 c6 c7 c8 c9;have hwr:=aA mW.blk;by_cases hlt:k < n.out.length
  ·obtain⟨g,off,e0,hg,q0,q1,q2,q3⟩:=SentAt.four (HSA wr cc vv _ mW) k hlt;have HKk:=hide (HKK n.out[k] (List.getElem_mem hlt));have HT:=hide (show L++(n.out.take (k+1)).map PM=L++(n.out.take k).map PM++[PM n.out[k]] by rw [List.take_succ_eq_append_getElem hlt,List.map_append,List.append_assoc];rfl);have acZ:=hide (AO n.out[k]);generalize n.out[k]=sk at *;generalize PM sk=mk' at *;obtain⟨si,st,sx,sn⟩:=sk;obtain⟨qK,qF,qT,qI,qL,qk,qN⟩:=mk';dsimp only at q0 q1 q2 q3 HKk e0;subst e0;go_upto_region 4 with fail;refine wp_at (fun W3 hW3=>?_);have HR3:Hid (W3.heap[wr.heap.size]?=some (.cells #[.int .i64 si,.int .i64 st,.string sx,.int .i64 sn] 55 (0,0))):=by rw [hW3];exact heap_alloc_new _ _
   have IC:Hid (WK w0 W3 wb n ⟨ak,ap,some ⟨g,off,none⟩,as',ar,ck,cp,co,cs,cr⟩ G cc vv (L++(n.out.take k).map PM)):=by rw [hW3];exact mW.step (ay wr _)
   clear hW3 q0 q1 q2 q3;have asw:=hide (fun p:Regrown=>acZ (Gr W3 p) (GR.At.below (HSA W3 cc vv _ IC) (below_regrown W3 p.d p.os)));have hr3:=aA HR3;have hw3:=aA IC.blk;have hnr:wb≠wr.heap.size:=by omega
   obtain⟨c0,c1,c2,c3,c4,c5,c6,c7,c8,c9⟩:=iI IC.blk;obtain⟨d0,d1,d2,d3⟩:=fC HR3;open afK in exact Fh
  ·have hke:k=n.out.length:=by omega
   subst hke;have hnlt:decide ((n.out.length:Int) < (n.out.length:Int))=false:=by simp
   go_wp2_with fail;go_ret;have hS:=ah mW;rw [List.take_length] at hS;exact⟨rfl,cc,vv,hS⟩):P:=h
theorem aki.Ka104(h:P:=by
 have hq2:(n.par == -1)=true:=by simpa using hpar
 clear h hR AO hpar;obtain⟨c0,c1,c2,c3,c4,c5,c6,c7,c8,c9⟩:=iI HW1.blk;go_enter Tryz.func50,Tryz.ntmps50
 go_upto_region 1 with fail;have y1:=cell_regrown c1;clear c0 c1 c2 c3 c4 c5 c6 c7 c8 c9;refine gu (by kernel_rfl) ?_;show jq _ _ _ _ 20 (Array.replicate 20 false) _ _
 refine tk [0,1,2,3,4,5,6,7,8,9,10,11,12,13,14,15,16,17,18,19] ?_;iterate 20 (refine Rm (fun K hK=>?_);go_simp;refine hK _ ?_;clear hK K)
 refine kK ?_;refine iO (by kernel_rfl) (fun z hz=>?_);have HZ:=hide (HW1.step hz);clear hz y1;exact acf):P:=h
theorem akj.Ka104(h:P:=by
 have rG:=hide (heap_alloc_new w (.cells #[.int .i64 K,.int .i64 no,.string k,.int .i64 nn,.int .i64 mK,.int .i64 mF,.int .i64 mT,.int .i64 mI,.int .i64 mL,.string mk,.int .i64 mN] 34));exact Ka17):P:=h
theorem ZI(h:P:=by
 rw [hlt1] at FN FM;refine Lib.wp_append_run x3 (.tmp 127) (.tmp 130) 24 24 rfl _ _ (by simp[Act.eval]) (by simp[Act.eval]) v3 y3 FN ?_;refine⟨(Below.refl _ _).grown uR yF (fun b hb=>(yh.lt b hb).1),?_⟩;go_simp;have Pg:=hide (vL.grown uR yF (fun b hb=>(yh.lt b hb).1));have Px:Hid (y3.ownsRow qY.heap.size 3 1 v3 (pos) (GR.flat aP ((aQ s0 mL).take pos))):=hide (by simpa [GR.flat_nil] using FM);exact Ka105):P:=h
theorem akk.Ka105(h:P:=by
 have CF:=hide (show y3.heap[x2.heap.size]?=some (.cells #[.int .i64 mI] 3 (0,0)) from by rw [uR.block _ (aA (ah uK)) (fun hm=>ah EW _ hm.symm rfl)];exact uK);open ant in exact Ti):P:=h
theorem akl.Ka105(h:P:=by
 have CF:=hide (show y3.heap[x1.heap.size]?=some (.cells #[.int .i64 mI] 3 (0,0)) from by rw [uR.block _ (aA (ah uK)) (fun hm=>ah EW _ hm.symm rfl)];exact uK);open anp in exact Tg):P:=h
theorem ZJ(h:P:=by
 obtain⟨i,hi,hcmp⟩:=Option.map_eq_some_iff.1 Is.comp;obtain⟨j,hj,hjs⟩:=Option.map_eq_some_iff.1 Is.size;have h8:= @run_callFunc_extern Tryz.prog 161 _ Extern.ReflectliteType.typeOf Tryz.func161 (by kernel_rfl) (by kernel_rfl) (by kernel_rfl) (by kernel_rfl);have h32:= @run_callFunc_extern Tryz.prog 198 _ Is.cmp Tryz.func198 (by kernel_rfl) (by kernel_rfl) (by kernel_rfl) (by kernel_rfl);have tT:=Is.typeOf;have cT:=Is.comparable;have mR:=Is.methodComparable;exact Ka106):P:=h
theorem akm.Ka106(h:P:=by
 have nE:=Is.noIs;have uE:=Is.noUnwrap;have vE:=Is.noUnwraps;have heq:=run_eql_iface_ptr_other (P:=Tryz.prog) w Tryz.underlying147 Tryz.underlying223 hi hcmp hj (by rw [hjs];decide) hne ha hb;exact abT):P:=h
theorem akn.Ka106(h:P:=by
 have heq:=run_eql_iface_ptr_same (P:=Tryz.prog) w a Tryz.underlying147 Tryz.underlying223 hi hcmp hj;exact abT):P:=h
theorem ZK(h:P:=by
 clear hm hM;go_enter Tryz.func157,Tryz.ntmps157
 go_wp2_with fail;refine(HN _).mono ?_;rintro e w1 ⟨rfl,hb1⟩;rw [hno];obtain⟨hA,hz,hbel⟩:=Fo.one_block hb1;obtain⟨⟨p0,p1,p2,p3⟩,_⟩:=eZ hA;have hm1:w1.heap[mp]?=some (.cells #[v,.map (some mb)] 191 (0,0)):=by rw [hbel.block _ hmp];exact HM
 obtain⟨⟨m0,m1⟩,_⟩:=lF hm1;have hI1:gP w1.drew mb n G:=HI.kept (by rw [←hbel.block _ hmb];rfl);exact Ka107):P:=h
theorem ako.Ka107(h:P:=by
 obtain⟨w2,hrun,hI2,hK2⟩:=ah HST _ 0 hI1;have HI2:=hide (hI2.mono (Nat.le_succ n));have EY:=hide ((Keeps.of_below (g:=mb) hbel).trans (Keeps.trans (b:=w1.drew) (Keeps.of_below (Below.refl _ _).drew) hK2));clear hb1 hA hbel hm1 hI1 hI2 hK2 HST HN;go_wp2_with fail;go_region
 all_goals
  go_wp2_with fail
  exact bodyPost_ret (v:= .tuple #[]) (by simp[results,Tryz.results157,go_sem]) rfl ⟨rfl,HI2,EY⟩):P:=h
theorem akp.Ka107(h:P:=by
 obtain⟨w2,hrun,hI2,hK2⟩:=ah HST _ hI1;have HI2:=hide hI2;have EY:=hide ((Keeps.of_below (g:=mb) hbel).trans (Keeps.trans (b:=w1.drew) (Keeps.of_below (Below.refl _ _).drew) hK2));clear hb1 hA hbel hm1 hI1 hI2 hK2 HST HN;go_wp2_with fail;go_region
 all_goals
  go_wp2_with fail
  exact bodyPost_end (v:= .tuple #[]) (by simp[results,Tryz.results157,go_sem]) rfl ⟨rfl,HI2,EY⟩):P:=h
theorem SG(h:P:=by
 have Px:=hide (GR.own_below yh UD);have Pf:=hide (show∀b,((.slice avR (pos) cvR:Value)).ownBlock=some b→b≠x3.heap.size from fun b hb=>by have:=(yh.lt b hb).2;omega);have Pg:=hide (vL.trans (UD.mono vL.size));clear UD;exact Ka108):P:=h
theorem akq.Ka108(h:P:=by
 generalize Vb:x3.alloc (.cells #[.int .i64 mI] 3)=y3 at *;clear Vb;generalize x3.heap.size=rb at *;exact Za3):P:=h
theorem akr.Ka108(h:P:=by
 generalize Vb:x3.alloc (.cells #[.int .i64 no,.string k,.int .i64 nn,.int .i64 1] 43)=y3 at *;clear Vb;generalize x3.heap.size=rb at *;exact Za2):P:=h
theorem aks.Ka108(h:P:=by
 generalize Vb:x3.alloc (.cells #[.int .i64 no,.string k,.int .i64 nn,.int .i64 0] 43)=y3 at *;clear Vb;generalize x3.heap.size=rb at *;exact Za1):P:=h
theorem ZL(h:P:=by
 clear hz0 hz1;go_wp2_with fail;refine (gT c 12 _ (ah mW).cur (by omega) (by omega)).mono ?_;open aoU in exact abk):P:=h
theorem akt.Ka109(h:P:=by
 go_meet
 case rel => exact ⟨rfl, ⟨2, (1 + p), ⟨#[]⟩, 0, ⟨0, 0, 0, 0, 0, ⟨#[]⟩, 0⟩⟩, (ah HS2).far (o' := ⟨2, (1 + p), ⟨#[]⟩, 0, ⟨0, 0, 0, 0, 0, ⟨#[]⟩, 0⟩⟩) (dV (Below.refl _ _) (Nat.le_refl _)) (iy (ah HS2).own), by dsimp only; first | exact hks | decide, by dsimp only; first | exact hks | decide⟩):P:=h
theorem aku.Ka109(h:P:=by
 go_meet
 case rel => exact ⟨rfl, ⟨1, (1 + p), key, (1 + y), ⟨0, 0, 0, 0, 0, ⟨#[]⟩, 0⟩⟩, (ah HS2).far (o' := ⟨1, (1 + p), key, (1 + y), ⟨0, 0, 0, 0, 0, ⟨#[]⟩, 0⟩⟩) (dV (Below.refl _ _) (Nat.le_refl _)) (iy (ah HS2).own), by dsimp only; first | exact hks | decide, by dsimp only; first | exact hks | decide⟩):P:=h
theorem Oi(h:P:=by
 refine aF 3 rfl (by kernel_rfl) (by rfl) ?_;go_simp;refine aF 4 rfl (by kernel_rfl) (by rfl) ?_;go_simp;refine wpAny_done (by kernel_rfl) ?_;go_simp;go_wp2_with fail;exact Ka110):P:=h
theorem akv.Ka110(h:P:=by
 go_meet
 case rel=>exact⟨rfl,GR.setW_blk [.int .i64 n.id,.int .i64 n.par,.slice a_k n.kids.length aK,.int .i64 n.next,.slice av RL.length cv,.slice dP n.out.length aO,.slice dS n.seen.length aL,.int .i64 IH.no,.slice (some ⟨g8,0,none⟩) n.reqs.length Ba] (o:=0) (xs:=[.int .i64 0,.int .i64 0,.slice none 0 0,.int .i64 0,.slice none 0 0,.slice none 0 0,.slice none 0 0,.int .i64 0,.slice none 0 0]) tu,(aC.of_below hg3).trans (aM [.int .i64 n.id,.int .i64 n.par,.slice a_k n.kids.length aK,.int .i64 n.next,.slice av RL.length cv,.slice dP n.out.length aO,.slice dS n.seen.length aL,.int .i64 IH.no,.slice (some ⟨g8,0,none⟩) n.reqs.length Ba] x3 0)⟩):P:=h
theorem akw.Ka110(h:P:=by
 go_meet
 case rel=>exact⟨rfl,GR.setW_blk [.int .i64 n.id,.int .i64 n.par,.slice a_k n.kids.length aK,.int .i64 n.next,.slice av RL.length cv,.slice dP n.out.length aO,.slice dS n.seen.length aL,.int .i64 n.old,.slice (some ⟨gv,0,none⟩) (n.reqs.length+1) vc] (o:=0) (xs:=[.int .i64 0,.int .i64 0,.slice none 0 0,.int .i64 0,.slice none 0 0,.slice none 0 0,.slice none 0 0,.int .i64 0,.slice none 0 0]) tu,(aC.of_below hg3).trans (aM [.int .i64 n.id,.int .i64 n.par,.slice a_k n.kids.length aK,.int .i64 n.next,.slice av RL.length cv,.slice dP n.out.length aO,.slice dS n.seen.length aL,.int .i64 n.old,.slice (some ⟨gv,0,none⟩) (n.reqs.length+1) vc] x3 0)⟩):P:=h
theorem akx.Ka110(h:P:=by
 go_meet
 case rel=>exact⟨rfl,GR.setW_blk [.int .i64 n.id,.int .i64 n.par,.slice a_k n.kids.length aK,.int .i64 n.next,.slice (some ⟨gp,0,none⟩) n.pu.length bq,.slice dP n.out.length aO,.slice dS n.seen.length aL,.int .i64 IH.no,.slice (some ⟨g8,0,none⟩) n.reqs.length Ba] (o:=0) (xs:=[.int .i64 0,.int .i64 0,.slice none 0 0,.int .i64 0,.slice none 0 0,.slice none 0 0,.slice none 0 0,.int .i64 0,.slice none 0 0]) tu,(aC.of_below hg3).trans (aM [.int .i64 n.id,.int .i64 n.par,.slice a_k n.kids.length aK,.int .i64 n.next,.slice (some ⟨gp,0,none⟩) n.pu.length bq,.slice dP n.out.length aO,.slice dS n.seen.length aL,.int .i64 IH.no,.slice (some ⟨g8,0,none⟩) n.reqs.length Ba] x3 0)⟩):P:=h
theorem aky.Ka110(h:P:=by
 go_meet
 case rel=>exact⟨rfl,GR.setW_blk [.int .i64 n.id,.int .i64 n.par,.slice a_k n.kids.length aK,.int .i64 n.next,.slice (some ⟨gp,0,none⟩) n.pu.length bq,.slice dP n.out.length aO,.slice dS n.seen.length aL,.int .i64 n.old,.slice (some ⟨gv,0,none⟩) (n.reqs.length+1) vc] (o:=0) (xs:=[.int .i64 0,.int .i64 0,.slice none 0 0,.int .i64 0,.slice none 0 0,.slice none 0 0,.slice none 0 0,.int .i64 0,.slice none 0 0]) tu,(aC.of_below hg3).trans (aM [.int .i64 n.id,.int .i64 n.par,.slice a_k n.kids.length aK,.int .i64 n.next,.slice (some ⟨gp,0,none⟩) n.pu.length bq,.slice dP n.out.length aO,.slice dS n.seen.length aL,.int .i64 n.old,.slice (some ⟨gv,0,none⟩) (n.reqs.length+1) vc] x3 0)⟩):P:=h
theorem ZN(h:P:=by
 obtain⟨c0,c1,c2,c3,c4,c5,c6,c7,c8⟩:=nine kS;have hnl:=aA kS;have auM:decide ((30:Int) < ((n.reqs.length+1:Nat):Int))=false:=decide_eq_false (by omega);have hIT:IQ.length=n.reqs.length+1:=ah Zm;clear Zm;have P6:=hide hIT;clear hIT;go_upto_region 20 with fail;clear c0 c1 c2 c3 c4 c5 c6 c7 c8 hnl;obtain⟨c0,c1,c2,c3,c4,c5,c6,c7,c8⟩:=nine kS;exact Ka111):P:=h
theorem akz.Ka111(h:P:=by
 open afN in exact Fh):P:=h
theorem akA.Ka111(h:P:=by
 open afP in exact Fh):P:=h
theorem ZO(h:P:=by
 rw [hlt1] at FN FM;refine Lib.wp_append_run x3 (.tmp 93) (.tmp 97) 28 28 rfl _ _ (by simp[Act.eval]) (by simp[Act.eval]) v3 y3 FN ?_;refine⟨(Below.refl _ _).grown uR yF (fun b hb=>(yh.lt b hb).1),?_⟩;go_simp;have Pg:=hide (vL.grown uR yF (fun b hb=>(yh.lt b hb).1));have Px:Hid (y3.ownsRow wc.heap.size 43 4 v3 (pos) (GR.flat aJ (n.reqs.take pos))):=hide (by simpa [GR.flat_nil] using FM);exact Ka112):P:=h
theorem akB.Ka112(h:P:=by
 exact Ka35):P:=h
theorem akC.Ka112(h:P:=by
 exact Ka25):P:=h
theorem Oj(h:P:=by
 obtain⟨avR,cvR,Jq,_⟩:=GR.own_at (enc:=aJ) (sz:=4) (l:=n.reqs.take pos) aY (by rw [hlt1];exact Px);rw [hlt1] at Jq;subst Jq;clear FN FM uR MC;exact Ka113):P:=h
theorem akD.Ka113(h:P:=by
 generalize x2.heap.size=rb at *;exact Za2):P:=h
theorem akE.Ka113(h:P:=by
 generalize x2.heap.size=rb at *;exact Za1):P:=h
theorem akF.Ka113(h:P:=by
 generalize x1.heap.size=rb at *;exact Za2):P:=h
theorem akG.Ka113(h:P:=by
 generalize x1.heap.size=rb at *;exact Za1):P:=h
theorem Ol(h:P:=by
 have hke:k=out.length:=by omega
 subst hke;have hnlt:decide ((out.length:Int) < (out.length:Int))=false:=by simp
 exact Ka114):P:=h
theorem akH.Ka114(h:P:=by
 have WH:Hid (TT=gH RQ RR reqs):=by
  have h:=ah kQ;rw [List.take_length] at h;rw [ah HTT,h];rfl
 clear zH Ac um HOT;go_wp2_with fail;go_loopw [5] (fun i wr=>∃k:Nat,k≤reqs.length∧i= .int .i64 k∧gH RQ RR (reqs.take k)=true∧wr.heap[w.heap.size]?=some (.cells (fO ⟨id,par,kids,next,pu,out,seen,old,reqs⟩ ⟨ak,ap,ao,as',ar,ck,cp,co,cs,cr⟩) 30 (0,0))∧Below w.heap.size w wr) (fun i _=>reqs.length - (intOf i).toNat)
 case atStart=>exact⟨0,Nat.zero_le _,rfl,rfl,ET,fG⟩
 case round=>
  open akY in exact Oo):P:=h
theorem akI.Ka114(h:P:=by
 have HRS:Hid (L=(out.take out.length).map PM):=by
  rw [ah Il,List.take_length];cases WV:OK
  ·rcases Nat.eq_zero_or_pos out.length with h|h
   ·rw [List.eq_nil_of_length_eq_zero h];rfl
   ·exact absurd (hpos h) (by rw [WV];simp)
  ·rfl
 clear hpos;go_wp2_with fail;go_ret;rw [ah HRS];exact xW.of_own (by simp) HO (by omega) HW):P:=h
theorem akJ.Ka114(h:P:=by
 have HF:=hide (Ae HN);go_wp2_with fail;go_ret;exact⟨OZ HF.symm,ay w _⟩):P:=h
theorem akK.Ka114(h:P:=by
 have hyy:=ah Ae HN;clear Wz vK Ae;subst hyy;go_upto_region 8 with fail;refine wp_at (fun W3 hW3=>?_);have hbw:Below wr.heap.size wr W3:=by rw [hW3];exact Below.refl _ _
 open aiI in exact ap5):P:=h
theorem ZQ(h:P:=by
 rintro e W3 ⟨A1,ma,mc,rfl,hat,hmt,hb3,hap⟩;have kH:=hide ((hap _ (aA iW) (by rw [aW (by omega)];omega)).trans iW);have Ro:=hide hat;have Xi:=hide hmt;have HB3:=hide ((HB2.mono hB).trans hb3);have HK3:Hid (Apart c w W3):=fun x hx hc=>(hap x (Nat.lt_of_lt_of_le hx HB2.size) (by rw [dR hx];exact hc)).trans (HB2.block x hx)
 have h23:=hb3.size;have h02:=HB2.size;have h2r:=aA iW;exact Ka115):P:=h
theorem akL.Ka115(h:P:=by
 clear hat hmt hb3 hap c0 c1 c2 c3 c4 c5 c6 c7 c8 m0 m1 m2 m3 m4 m5 m6 hml hnl Ob jg vN iW RZ;open alD in exact aaf):P:=h
theorem akM.Ka115(h:P:=by
 clear hat hmt hb3 hap c0 c1 c2 c3 c4 c5 c6 c7 c8 m0 m1 m2 m3 m4 m5 m6 hml hnl HGV jg vN iW RZ;obtain⟨A1,hA1⟩:∃A2,A2=A1:=⟨_,rfl⟩;subst hA1;have EZ:=hide (heap_alloc_new W3 (.cells #[.int .i64 N1.id,.int .i64 N1.par,.slice A1.k N1.kids.length A1.ck,.int .i64 N1.next,.slice A1.p N1.pu.length A1.cp,.slice A1.o N1.out.length A1.co,.slice A1.s N1.seen.length A1.cs,.int .i64 N1.old,.slice A1.r N1.reqs.length A1.cr] 30));have oI:=hide (au kH (ay W3 (.cells #[.int .i64 N1.id,.int .i64 N1.par,.slice A1.k N1.kids.length A1.ck,.int .i64 N1.next,.slice A1.p N1.pu.length A1.cp,.slice A1.o N1.out.length A1.co,.slice A1.s N1.seen.length A1.cs,.int .i64 N1.old,.slice A1.r N1.reqs.length A1.cr] 30)));have rP:=hide (HB3.trans ((ay W3 (.cells #[.int .i64 N1.id,.int .i64 N1.par,.slice A1.k N1.kids.length A1.ck,.int .i64 N1.next,.slice A1.p N1.pu.length A1.cp,.slice A1.o N1.out.length A1.co,.slice A1.s N1.seen.length A1.cs,.int .i64 N1.old,.slice A1.r N1.reqs.length A1.cr] 30)).mono (Nat.le_trans hB HB3.size)));have Zg:=hide (HK3.step HB3.size (ay W3 (.cells #[.int .i64 N1.id,.int .i64 N1.par,.slice A1.k N1.kids.length A1.ck,.int .i64 N1.next,.slice A1.p N1.pu.length A1.cp,.slice A1.o N1.out.length A1.co,.slice A1.s N1.seen.length A1.cs,.int .i64 N1.old,.slice A1.r N1.reqs.length A1.cr] 30)));obtain⟨c0,c1,c2,c3,c4,c5,c6,c7,c8⟩:=nine EZ;open ag9 in exact PD):P:=h
theorem ZR(h:P:=by
 have q3s:=Ur (g:=w.heap.size+2) (i:=3) (b0:= .int .i64 n.id) (b1:= .int .i64 n.par) (b2:= .slice a_k n.kids.length aK) (b3:= .int .i64 n.next) (b4:= .slice (some ⟨gp,0,none⟩) n.pu.length bq) (b5:= .slice dP n.out.length aO) (b6:= .slice dS n.seen.length aL) (b7:= .int .i64 n.old) (b8:= .slice (some ⟨gv,0,none⟩) (n.reqs.length+1) vc) (show w.heap.size+2≠W1.heap.size by omega) Lj;exact Ka116):P:=h
theorem akN.Ka116(h:P:=by
 open ahn in exact IX):P:=h
theorem akO.Ka116(h:P:=by
 go_simp;refine aF 1 rfl (by kernel_rfl) (by rfl) ?_;open aho in exact IX):P:=h
theorem Om(h:P:=by
 go_simp
 first
   | (refine hK _ ?_; clear hK K)
   | (apply Exists.intro
      refine ⟨fun _ => rfl, hK _ ?_⟩
      clear hK K)
 exact Ka117):P:=h
theorem akP.Ka117(h:P:=by
 refine eO 3 rfl (by kernel_rfl) (by kernel_rfl) (by kernel_rfl) (fun _ _ _ _ h => h) (fun K hK => ?_);open agp in exact TA):P:=h
theorem akQ.Ka117(h:P:=by
 exact Ka34):P:=h
theorem akR.Ka117(h:P:=by
 refine eO 7 rfl (by kernel_rfl) (by kernel_rfl) (by kernel_rfl) (fun _ _ _ _ h => h) (fun K hK => ?_);open ags in exact TA):P:=h
theorem akS.Ka117(h:P:=by
 refine eO 5 rfl (by kernel_rfl) (by kernel_rfl) (by kernel_rfl) (fun _ _ _ _ h => h) (fun K hK => ?_);open agt in exact TA):P:=h
theorem ZT(h:P:=by
 have q3s:=Ur (g:=w.heap.size+2) (i:=3) (b0:= .int .i64 n.id) (b1:= .int .i64 n.par) (b2:= .slice a_k n.kids.length aK) (b3:= .int .i64 n.next) (b4:= .slice (some ⟨gp,0,none⟩) n.pu.length bq) (b5:= .slice dP n.out.length aO) (b6:= .slice dS n.seen.length aL) (b7:= .int .i64 IH.no) (b8:= .slice (some ⟨g8,0,none⟩) n.reqs.length Ba) (show w.heap.size+2≠W1.heap.size by omega) Lj;exact Ka118):P:=h
theorem akT.Ka118(h:P:=by
 open ahl in exact IX):P:=h
theorem akU.Ka118(h:P:=by
 go_simp;refine aF 1 rfl (by kernel_rfl) (by rfl) ?_;open ahm in exact IX):P:=h
theorem SH(h:P:=by
 refine oz 0 rfl (by kernel_rfl) (by kernel_rfl) (by kernel_rfl) (fun _ _ _ _ h=>h) (fun K hK=>?_);go_simp
 first
  |(refine hK _ ?_;clear hK K)
  |(apply Exists.intro
    refine⟨fun _=>rfl,hK _ ?_⟩
    clear hK K)
 exact Ka119):P:=h
theorem akV.Ka119(h:P:=by
 refine sV 7 ?_;refine tk [1,2,3,4,5] ?_;iterate 5 (refine oJ (fun K hK=>?_);go_simp;refine hK _ ?_;clear hK K)
 refine kK ?_;clear y9 z0 z1 z2 z3 z4 z5 z6;refine dK 6 rfl (by kernel_rfl) (by rfl) (fun x hx=>?_);go_simp;refine⟨ay x _,?_⟩;have Em:=hide ((Zy.step hx).step (ay x (.cells #[.int .i64 mK,.int .i64 mF,.int .i64 mT,.int .i64 mI,.int .i64 mL,.string mk,.int .i64 mN] 32)));have fP:=hide (heap_alloc_new x (.cells #[.int .i64 mK,.int .i64 mF,.int .i64 mT,.int .i64 mI,.int .i64 mL,.string mk,.int .i64 mN] 32));have hbs:w0.heap.size≤x.heap.size:=(Zy.step hx).keep.size;clear hx Zy HXW iJ HS;generalize x.alloc (.cells #[.int .i64 mK,.int .i64 mF,.int .i64 mT,.int .i64 mI,.int .i64 mL,.string mk,.int .i64 mN] 32)=y at *;refine aZ (by kernel_rfl) (fun z hz=>?_);have Sg:=hide (Em.step hz);have Cz:=hide (au fP hz);clear hz Em fP;refine aF 7 rfl (by kernel_rfl) (by rfl) ?_;refine rE z (.tmp 12) (.tmp 14) 37 rfl w0.heap.size 32 i0 (.agg #[.int .i64 0,.int .i64 0,.int .i64 0,.int .i64 0,.int .i64 0,.string ByteArray.empty,.int .i64 0]) 7 64 Tryz.underlying37 hi hz0 hz1 hz2 rfl (by decide) (.slice va L.length vc) L.length (GR.flat je L) (by simp[Act.eval]) Sg.m ⟨x.heap.size,0,none⟩ 1 1 (je ⟨mK,mF,mT,mI,mL,mk,mN⟩) (by simp[Act.eval]) rfl (World.news_of_block Cz) (Jh _) (by unfold maxLen;omega) (by omega) Sg.keep.size ?_;intro v6 w6 hown6 qy Jt;obtain⟨va6,vc6,hv6,_⟩:=GR.own_at (enc:=je) (sz:=7) (l:=L++[⟨mK,mF,mT,mI,mL,mk,mN⟩]) mG (by rw [List.length_append,gN];exact hown6);rw [List.length_append] at hv6;have hv7:v6= .slice va6 (L.length+1) vc6:=hv6;subst hv7;clear hv6;obtain⟨hb6,hS6⟩:=Sg.app ⟨mK,mF,mT,mI,mL,mk,mN⟩ hown6 qy Jt;have XA:=hide hS6;obtain⟨k0,k1,k2,k3,k4,k5,k6,k7,k8,k9⟩:=iI hb6;have kf:=aj hb6 9;clear hown6 qy Jt hb6 hS6 Sg Cz;refine aF 8 rfl (by kernel_rfl) (by rfl) ?_;go_simp;refine aF 9 rfl (by kernel_rfl) (by rfl) ?_;go_simp;open aoV in exact Tv):P:=h
theorem akW.Ka119(h:P:=by
 refine sV 9 ?_;refine tk [1,2,3,4,5,6,7] ?_;iterate 7 (refine oJ (fun K hK=>?_);go_simp;refine hK _ ?_;clear hK K)
 refine kK ?_;clear y8 z0 z1 z2 z3;refine dK 8 rfl (by kernel_rfl) (by rfl) (fun x hx=>?_);go_simp;refine⟨ay x _,?_⟩;have HX:=hide ((HW1.step hx).step (ay x (.cells #[.int .i64 q.no,.string q.k,.int .i64 q.n,.int .i64 q.s] 43)));have HN:=hide (heap_alloc_new x (.cells #[.int .i64 q.no,.string q.k,.int .i64 q.n,.int .i64 q.s] 43));have Xz:=hide (show∀y,(Value.slice A.r n.reqs.length A.cr).ownBlock=some y→x.heap.size≠y from fun y hy=>by have:=((HW1.step hx).no.r.lt y hy).2;omega);clear hx HW HW1 rG;generalize x.alloc (.cells #[.int .i64 q.no,.string q.k,.int .i64 q.n,.int .i64 q.s] 43)=x1 at *;refine aZ (by kernel_rfl) (fun u hu=>?_);have HU:=hide (HX.step hu);have HNU:=hide (au HN hu);clear hu HX HN;refine aF 9 rfl (by kernel_rfl) (by rfl) ?_;go_simp;refine(aeb w0.heap.size A.r A.cr i n.reqs q x.heap.size u (by omega) hi HU.keep.size HU.no.r HNU Xz).mono ?_;rintro e w6 ⟨a6,c6,rfl,hown6,qy,Jt⟩;obtain⟨hb6,Rk⟩:=HU.reqPut hown6 qy Jt;have Og:=hide Rk;obtain⟨k0,k1,k2,k3,k4,k5,k6,k7,k8,k9⟩:=iI hb6;have kf:=aj hb6 8;have hw6:=aA hb6;clear hown6 qy Jt hb6 Rk HU HNU Xz;rw [hlen] at Og ⊢;refine aF 10 rfl (by kernel_rfl) (by rfl) ?_;go_simp;refine aF 11 rfl (by kernel_rfl) (by rfl) ?_;go_simp;refine aF 12 rfl (by kernel_rfl) (by rfl) ?_;go_simp;refine aF 13 rfl (by kernel_rfl) (by rfl) ?_;go_simp;refine wpAny_done (by kernel_rfl) ?_;go_simp;go_upto_region 2 with fail;refine wp_at (fun V hV=>?_);have HV:Hid (WK w0 V wb (bZ n (nL n.reqs i q)) ⟨A.k,A.p,A.o,A.s,a6,A.ck,A.cp,A.co,A.cs,c6⟩ G (newC u.heap.size 6 c) v L):=by rw [hV];exact Og
 clear hV Og k0 k1 k2 k3 k4 k5 k6 k7 k8 k9 kf hw6;have hl2:(bZ n (nL n.reqs i q)).reqs.length=n.reqs.length+1:=hlen;obtain⟨d0,d1,d2,d3,d4,d5,d6,d7,d8,d9⟩:=iI HV.blk;rw [hl2] at d8;have hVl:=aA HV.blk;by_cases acB:30 < n.reqs.length+1
 case' neg=>
  have hm2:¬((30:Int) < (n.reqs.length:Int)+1):=by omega
  have HK:=hide (show zq n q i=bZ n (nL n.reqs i q) by unfold zq;rw [hlen,if_neg acB])
  go_wp2_with fail
  exact bodyPost_end (v:= .tuple #[]) (by simp[results,Tryz.results80,go_sem]) rfl ⟨rfl,_,_,_,by rw [ah HK];exact HV⟩
 have hm2:(30:Int) < (n.reqs.length:Int)+1:=by omega
 obtain⟨g,hAr,hgw,hgl,⟨q0,_,_,_⟩,_⟩:=HV.reqRow 0 (by omega);dsimp only at hAr;subst hAr;have hz8:(0:Int) < (n.reqs.length:Int)+1:=by omega
 have HK:=hide (show zq n q i=bZ (iM n (bZ n (nL n.reqs i q)).reqs[0].no) ((nL n.reqs i q).drop 1) by
  unfold zq
  rw [hlen,if_pos acB]
  congr 2
  show((nL n.reqs i q).headD default).no=(nL n.reqs i q)[0].no
  rw [List.headD_eq_head?_getD,List.head?_eq_getElem?,List.getElem?_eq_getElem (by omega)]
  rfl)
 generalize (bZ n (nL n.reqs i q)).reqs[0].no=old at *;rw [Nat.zero_mul] at q0;have vf7:=aj HV.blk 7;have vf8:=aj HV.blk 8;have HO:=hide (HV.oldPut old);go_upto_region 4 with fail;refine wp_at (fun V2 hV2=>?_);have HV2:Hid (WK w0 V2 wb (iM (bZ n (nL n.reqs i q)) old) ⟨A.k,A.p,A.o,A.s,some ⟨g,0,none⟩,A.ck,A.cp,A.co,A.cs,c6⟩ G (newC u.heap.size 6 c) v L):=by rw [hV2];exact HO
 clear hV2 HO HV d0 d1 d2 d3 d4 d5 d6 d7 d8 d9 q0 vf7 vf8 hVl;have hl3:(iM (bZ n (nL n.reqs i q)) old).reqs.length=n.reqs.length+1:=hlen;obtain⟨d0,d1,d2,d3,d4,d5,d6,d7,d8,d9⟩:=iI HV2.blk;rw [hl3] at d8;have hVl:=aA HV2.blk;have HD:=hide (adH w0.heap.size (some ⟨g,0,none⟩) c6 (nL n.reqs i q) V2 (by omega) (by omega) HV2.no.r);rw [hlen] at HD;go_wp2_with fail;refine HD.mono ?_;rintro e w7 ⟨a7,c7,rfl,og,arJ,arZ⟩;obtain⟨qx,Hy⟩:=HV2.reqPut og (by rw [hl3];exact arJ) (by rw [hl3];exact arZ);have hl7:((nL n.reqs i q).drop 1).length=n.reqs.length:=by rw [List.length_drop,hlen];omega
 rw [hl7] at Hy;have HW7:=hide Hy;obtain⟨k0,k1,k2,k3,k4,k5,k6,k7,k8,k9⟩:=iI qx;have kf:=aj qx 8;have hw7:=aA qx;clear og arJ arZ qx Hy HV2 HD d0 d1 d2 d3 d4 d5 d6 d7 d8 d9;go_wp2_with fail;exact bodyPost_end (v:= .tuple #[]) (by simp[results,Tryz.results80,go_sem]) rfl ⟨rfl,_,_,_,by rw [ah HK];exact HW7⟩):P:=h
theorem akX.Ka119(h:P:=by
 refine oz 2 rfl (by kernel_rfl) (by kernel_rfl) (by kernel_rfl) (fun _ _ _ _ h=>h) (fun K hK=>?_);go_simp
 first
  |(refine hK _ ?_;clear hK K)
  |(apply Exists.intro
    refine⟨fun _=>rfl,hK _ ?_⟩
    clear hK K)
 refine oz 4 rfl (by kernel_rfl) (by kernel_rfl) (by kernel_rfl) (fun _ _ _ _ h=>h) (fun K hK=>?_);go_simp
 first
  |(refine hK _ ?_;clear hK K)
  |(apply Exists.intro
    refine⟨fun _=>rfl,hK _ ?_⟩
    clear hK K)
 refine fun x hx=>?_
 have vR:=hide (HW3.step hx);have HR2:=hide (au HR vR.keep);have hwr:w.heap.size+2≠wb:=by have:=vR.lo;omega
 clear hx HW3;obtain⟨c0,c1,c2,c3,c4,c5,c6,c7,c8,c9⟩:=iI vR.blk;open amP in exact aaE):P:=h
theorem Oo(h:P:=by
 obtain⟨k,hk,rfl,hall,hblk,hbel⟩:=hrel;have kQ:=hide hall;have fG:=hide hbel;have ET:=hide hblk;exact Ka120):P:=h
theorem akY.Ka120(h:P:=by
 clear c0 c1 c2 c3 c4 c5 c6 c7 c8;obtain⟨c0,c1,c2,c3,c4,c5,c6,c7,c8⟩:=nine hblk;clear hall hbel hblk;by_cases hlt:k < reqs.length
 case' neg=>
  have hke:k=reqs.length:=by omega
  subst hke
  have avJ:decide ((reqs.length:Int) < (reqs.length:Int))=false:=by simp
  have HF:Hid (TT=true):=by
   have h:=ah kQ;rw [List.take_length] at h;exact WH.trans h
  go_wp2_with fail
  go_ret
  exact⟨aD HF.symm,fG⟩
 have HBAD:Hid (gH RQ RR (reqs.take (k+1))=false→TT=false):=fun h=>WH.trans (HDB _ h)
 obtain⟨g,off,e0,hgw,q0,q1,q2,q3⟩:=iD.four (HA.below fG).r k hlt;(try dsimp only at e0 q0 q1 q2 q3)
 have hks:=HZ.rk _ (List.getElem_mem hlt);(try dsimp only at hks)
 have Pq:Hid (∃pv:Bool,gH RQ RR (reqs.take (k+1))=(RQ reqs[k]&&pv)∧((k=0∧pv=true)∨∃(j:Nat) (y:Int),k=j+1∧pv=decide (y < (reqs[k]).no)∧wr.cell? ⟨g,off+j*4,none⟩=some (.int .i64 y))):=by
  cases k with
  |zero=>
   refine⟨true,?_,.inl ⟨rfl,rfl⟩⟩
   rw [Bool.and_true]
   exact HDF hlt
  |succ j=>
   obtain⟨g',off',e2,_,p0,_⟩:=iD.four (HA.below fG).r j (show j < reqs.length by omega)
   (try dsimp only at e2 p0)
   rw [e0] at e2
   injection e2 with e2
   injection e2 with e2 e3
   subst e2 e3
   refine⟨_,?_,.inr ⟨j,_,rfl,rfl,p0⟩⟩
   have h:=ah HDN j hlt
   rw [ah kQ] at h
   exact h
 subst e0;have mg:=hide (Ip reqs[k]);generalize reqs[k]=sk at *;generalize RQ sk=OB at *;obtain⟨si,sx,sn,st⟩:=sk;dsimp only at q0 q1 q2 q3 hks Pq mg;obtain⟨pv,hpv,hpk⟩:=ah Pq;have fP:=hide hpv;have xR:=hide hpk;obtain⟨bb,hbb⟩:∃bb,(!(decide (old+1≤si∧si≤1000000000)&&keyOk sx.data.toList&&eU sn&&decide (0≤st∧st≤2)&&pv))=bb:=⟨_,rfl⟩;have eP:=hide hbb;clear hpv hpk Pq hbb HDF HDN HDB;go_upto_region 13 with fail;refine wp_at (fun W1 hW1=>?_);have HW1:Hid (W1.heap[wr.heap.size]?=some (.cells #[.int .i64 si,.string sx,.int .i64 sn,.int .i64 st] 43 (0,0))):=by rw [hW1];exact heap_alloc_new _ _
 open agW in exact XJ):P:=h
theorem akZ.Ka120(h:P:=by
 obtain⟨c0,c1,c2,c3,c4,c5,c6,_⟩:=nine hblk;clear hall hbel hblk;by_cases hlt:k < seen.length
 case' neg=>
  have hke:k=seen.length:=by omega
  subst hke
  have hnlt:decide ((seen.length:Int) < (seen.length:Int))=false:=by simp
  have HF:Hid (TT=true):=by
   exact PI
  go_wp2_with fail
  go_ret
  exact⟨aD HF.symm,fG⟩
 have HBAD:Hid (gH PP RR (seen.take (k+1))=false→TT=false):=fun h=>mg.trans (um _ h)
 obtain⟨g,off,b,c,e0,hgw,q0,q1,q2,hI⟩:=kU.below HS fG k hlt;have rX:(seen[k]).ids.length≤1048600:=ah NK _ (List.getElem_mem hlt);have HI:=hide hI;have zJ:=hide rX;clear hI rX
 have Pq:Hid (∃pv:Bool,gH PP RR (seen.take (k+1))=((NN (seen[k]).f&&rM seen[k])&&pv)∧((k=0∧pv=true)∨∃(j:Nat) (y:Int),k=j+1∧pv=decide (y < (seen[k]).f)∧wr.cell? ⟨g,off+j*3,none⟩=some (.int .i64 y))):=by
  cases k with
  |zero=>
   refine⟨true,?_,.inl ⟨rfl,rfl⟩⟩
   have h:=ah zH hlt
   rw [Bool.and_true]
   exact h
  |succ j=>
   obtain⟨g',off',_,_,e2,_,p0,_⟩:=kU.below HS fG j (by omega)
   rw [e0] at e2
   injection e2 with e2
   injection e2 with e2 e3
   subst e2 e3
   refine⟨_,?_,.inr ⟨j,_,rfl,rfl,p0⟩⟩
   have h:=ah Ac j hlt
   rw [ah kQ] at h
   exact h
 subst e0;generalize hsk:seen[k]=sk at *;clear hsk;obtain⟨fr,lo,ids⟩:=sk;dsimp only at q0 q1 q2 HI zJ Pq;obtain⟨pv,hpv,hpk⟩:=ah Pq;have fP:=hide hpv;have xR:=hide hpk;obtain⟨bb,hbb⟩:∃bb,(!(NN fr&&pv&&eU lo&&decide (ids.length≤40)))=bb:=⟨_,rfl⟩;have eP:=hide hbb;clear hpv hpk Pq hbb zH Ac um;go_upto_region 10 with fail;open anV in exact aaS):P:=h
theorem ak0.Ka120(h:P:=by
 obtain⟨c0,c1,c2,c3,c4,c5,c6,c7,c8⟩:=nine hblk;clear hall hbel hblk;by_cases hlt:k < out.length
 case' pos=>
  have HBAD:Hid (gH OT RO (out.take (k+1))=false→TT=false):=fun h=>by rw [ah HTT,ah um _ h];rfl
  obtain⟨g,off,e0,hgw,q0,q1,q2,q3⟩:=SentAt.four (HA.below fG).o k hlt
  (try dsimp only at e0 q0 q1 q2 q3)
  have hks:=HZ.ok _ (List.getElem_mem hlt)
  (try dsimp only at hks)
  have Pq:Hid (∃pv:Bool,gH OT RO (out.take (k+1))=(OT out[k]&&pv)∧((k=0∧pv=true)∨∃(j:Nat) (y:Int),k=j+1∧pv=decide (y < (out[k]).i)∧wr.cell? ⟨g,off+j*4,none⟩=some (.int .i64 y))):=by
   cases k with
   |zero=>
    refine⟨true,?_,.inl ⟨rfl,rfl⟩⟩
    rw [Bool.and_true]
    exact zH hlt
   |succ j=>
    obtain⟨g',off',e2,_,p0,_⟩:=SentAt.four (HA.below fG).o j (show j < out.length by omega)
    (try dsimp only at e2 p0)
    rw [e0] at e2
    injection e2 with e2
    injection e2 with e2 e3
    subst e2 e3
    refine⟨_,?_,.inr ⟨j,_,rfl,rfl,p0⟩⟩
    have h:=ah Ac j hlt
    rw [ah kQ] at h
    exact h
  subst e0
  have mg:=hide (HOT out[k])
  generalize out[k]=sk at *
  generalize OT sk=OB at *
  obtain⟨si,st,sx,sn⟩:=sk
  dsimp only at q0 q1 q2 q3 hks Pq mg
  obtain⟨pv,hpv,hpk⟩:=ah Pq
  have fP:=hide hpv
  have xR:=hide hpk
  obtain⟨bb,hbb⟩:∃bb,(!(decide (1≤si∧si≤next - 1)&&NN st&&keyOk sx.data.toList&&eU sn&&pv))=bb:=⟨_,rfl⟩
  have eP:=hide hbb
  clear hpv hpk Pq hbb zH Ac um
  go_upto_region 7 with fail
  refine wp_at (fun W1 hW1=>?_)
  have HW1:Hid (W1.heap[wr.heap.size]?=some (.cells #[.int .i64 si,.int .i64 st,.string sx,.int .i64 sn] 55 (0,0))):=by rw [hW1];exact heap_alloc_new _ _
  have hbw:Below wr.heap.size wr W1:=by rw [hW1];exact ay wr _
  have xX:=hide (au ET hbw)
  have rF:=hide (fG.trans (hbw.mono fG.size))
  have hgw1:=hbw.size
  have zM:Hid ((k=0∧pv=true)∨∃(j:Nat) (y:Int),k=j+1∧pv=decide (y < si)∧W1.cell? ⟨g,off+j*4,none⟩=some (.int .i64 y)):=by
   exact abJ
  clear hW1 hbw q0 q1 q2 q3 c0 c1 c2 c3 c4 c5 c6 c7 c8 xR ET
  obtain⟨d0,d1,d2,d3⟩:=fC HW1
  obtain⟨c0,c1,c2,c3,c4,c5,c6,c7,c8⟩:=nine xX
  have k0:=cell_grown' c0
  have k1:=cell_grown' c1
  have k2:=cell_grown' c2
  have k3:=cell_grown' c3
  have k4:=cell_grown' c4
  have k5:=cell_grown' c5
  have k6:=cell_grown' c6
  have k7:=cell_grown' c7
  have k8:=cell_grown' c8
  have m0:=cell_grown' d0
  have m1:=cell_grown' d1
  have m2:=cell_grown' d2
  have m3:=cell_grown' d3
  have en:IntKind.i64.wrap (next - 1)=next - 1:=IntWalk.i64_in _ ⟨by omega,by omega⟩
  go_cut [98] (fun r wx=>r= .bool bb∧Below W1.heap.size W1 wx)
  case first=>
   rcases zM with⟨rfl,rfl⟩|⟨j,y,rfl,rfl,q1⟩
   ·have hgt:decide ((0:Int) < ((0:Nat):Int))=false:=rfl;open ato in exact apw
   ·have hgt:decide ((0:Int) < ((j+1:Nat):Int))=true:=decide_eq_true (by omega);have m9:=cell_grown' q1;open atn in exact apw
  case rest=>
   obtain⟨rfl,hbx⟩:=hcut;open al0 in exact Ow
 open akH in exact Ol):P:=h
theorem ak1.Ka120(h:P:=by
 obtain⟨c0,c1,c2,_⟩:=nine hblk;clear hall hbel hblk;by_cases hlt:k < kids.length
 case' neg=>
  have hke:k=kids.length:=by omega
  subst hke
  have hnlt:decide ((kids.length:Int) < (kids.length:Int))=false:=by simp
  have HF:Hid (dx ⟨id,par,kids,next,pu,out,seen,old,reqs⟩=true):=by
   exact PI
  go_wp2_with fail
  go_ret
  exact⟨aD HF.symm,fG⟩
 have HBAD:Hid (gH (iP id par) gU (kids.take (k+1))=false→dx ⟨id,par,kids,next,pu,out,seen,old,reqs⟩=false):=fun h=>mg.trans (um _ h)
 cases k with
 |zero=>
  obtain⟨g,off,rfl,hgw,q0⟩:=dM.one (GR.At.below HA fG) 0 hlt
  rw [Nat.add_zero] at q0
  have hgt:decide ((0:Int) < ((0:Nat):Int))=false:=rfl
  have fP:Hid (gH (iP id par) gU (kids.take 1)=iP id par kids[0]):=ah zH hlt
  clear zH Ac um
  generalize kids[0]=x at *
  cases hx1:pE x
  case' false=>
   have HP:=hide (HBAD (by rw [ah fP];simp[iP,hx1]))
   clear HBAD fP
   go_wp2_with fail
   refine wp_region_quiet_lit (by kernel_rfl) (by kernel_rfl) ?_
   repeat (first|go_big_quiet_step ((first|(go_at_call 53;exact lM _ _ hx1 _ _)))|quiet_step ((first|(go_at_call 53;exact lM _ _ hx1 _ _))))
   refine wpQuiet_nil ?_
   intro _ hw'
   obtain⟨nq,hw''⟩:=hw'
   subst hw''
   go_wp2_with fail
   go_ret
   exact⟨aD HP.symm,fG.trans ⟨rfl,rfl,rfl,Nat.le_refl _,fun _ _=>rfl⟩⟩
  by_cases hx2:x=id
  case' pos=>
   have hy2:(x == id)=true:=by simp[hx2]
   have HP:=hide (HBAD (by rw [ah fP];simp[iP,hx2]))
   clear HBAD fP hx2
   go_wp2_with fail
   refine wp_region_quiet_lit (by kernel_rfl) (by kernel_rfl) ?_
   repeat (first|go_big_quiet_step ((first|(go_at_call 53;exact lM _ _ hx1 _ _)))|quiet_step ((first|(go_at_call 53;exact lM _ _ hx1 _ _))))
   refine wpQuiet_nil ?_
   intro _ hw'
   obtain⟨nq,hw''⟩:=hw'
   subst hw''
   go_wp2_with fail
   go_ret
   exact⟨aD HP.symm,fG.trans ⟨rfl,rfl,rfl,Nat.le_refl _,fun _ _=>rfl⟩⟩
  have hy2:(x == id)=false:=by simp[hx2]
  by_cases hx3:x=par
  case' pos=>
   have hy3:(x == par)=true:=by simp[hx3]
   have HP:=hide (HBAD (by rw [ah fP];simp[iP,hx3]))
   clear HBAD fP hx3
   go_wp2_with fail
   refine wp_region_quiet_lit (by kernel_rfl) (by kernel_rfl) ?_
   repeat (first|go_big_quiet_step ((first|(go_at_call 53;exact lM _ _ hx1 _ _)))|quiet_step ((first|(go_at_call 53;exact lM _ _ hx1 _ _))))
   refine wpQuiet_nil ?_
   intro _ hw'
   obtain⟨nq,hw''⟩:=hw'
   subst hw''
   go_wp2_with fail
   go_ret
   exact⟨aD HP.symm,fG.trans ⟨rfl,rfl,rfl,Nat.le_refl _,fun _ _=>rfl⟩⟩
  have hy3:(x == par)=false:=by simp[hx3]
  have HG:=hide (show gH (iP id par) gU (kids.take (0+1))=true by rw [ah fP];simp[iP,hx1,hx2,hx3])
  clear HBAD fP
  go_wp2_with fail
  refine wp_region_quiet_lit (by kernel_rfl) (by kernel_rfl) ?_
  repeat (first|go_big_quiet_step ((first|(go_at_call 53;exact lM _ _ hx1 _ _)))|quiet_step ((first|(go_at_call 53;exact lM _ _ hx1 _ _))))
  refine wpQuiet_nil ?_
  intro _ hw'
  obtain⟨nq,hw''⟩:=hw'
  subst hw''
  go_wp2_with fail
  go_roundw
  case rel=>exact⟨0+1,by omega,by go_num,HG,ET,fG.trans ⟨rfl,rfl,rfl,Nat.le_refl _,fun _ _=>rfl⟩⟩
  case measure=>simp[intOf];omega
 |succ j=>
  obtain⟨g,off,e1,hgw,q0⟩:=dM.one (GR.At.below HA fG) (j+1) hlt
  obtain⟨g',off',e2,av5,q1⟩:=dM.one (GR.At.below HA fG) j (by omega)
  rw [e1] at e2
  injection e2 with e2
  injection e2 with e2 e3
  subst e2 e3 e1
  have hgt:decide ((0:Int) < ((j+1:Nat):Int))=true:=decide_eq_true (by omega)
  have fP:Hid (gH (iP id par) gU (kids.take (j+1+1))=(iP id par kids[j+1]&&gU kids[j] kids[j+1])):=by
   have h:=ah Ac j hlt;rw [ah kQ] at h;exact h
  clear zH Ac um
  generalize kids[j]=y at *
  generalize kids[j+1]=x at *
  cases hx1:pE x
  case' false=>
   have HP:=hide (HBAD (by rw [ah fP];simp[iP,hx1]))
   clear HBAD fP
   go_wp2_with fail
   refine wp_region_quiet_lit (by kernel_rfl) (by kernel_rfl) ?_
   repeat (first|go_big_quiet_step ((first|(go_at_call 53;exact lM _ _ hx1 _ _)))|quiet_step ((first|(go_at_call 53;exact lM _ _ hx1 _ _))))
   refine wpQuiet_nil ?_
   intro _ hw'
   obtain⟨nq,hw''⟩:=hw'
   subst hw''
   go_wp2_with fail
   go_ret
   exact⟨aD HP.symm,fG.trans ⟨rfl,rfl,rfl,Nat.le_refl _,fun _ _=>rfl⟩⟩
  by_cases hx2:x=id
  case' pos=>
   have hy2:(x == id)=true:=by simp[hx2]
   have HP:=hide (HBAD (by rw [ah fP];simp[iP,hx2]))
   clear HBAD fP hx2
   go_wp2_with fail
   refine wp_region_quiet_lit (by kernel_rfl) (by kernel_rfl) ?_
   repeat (first|go_big_quiet_step ((first|(go_at_call 53;exact lM _ _ hx1 _ _)))|quiet_step ((first|(go_at_call 53;exact lM _ _ hx1 _ _))))
   refine wpQuiet_nil ?_
   intro _ hw'
   obtain⟨nq,hw''⟩:=hw'
   subst hw''
   go_wp2_with fail
   go_ret
   exact⟨aD HP.symm,fG.trans ⟨rfl,rfl,rfl,Nat.le_refl _,fun _ _=>rfl⟩⟩
  have hy2:(x == id)=false:=by simp[hx2]
  by_cases hx3:x=par
  case' pos=>
   have hy3:(x == par)=true:=by simp[hx3]
   have HP:=hide (HBAD (by rw [ah fP];simp[iP,hx3]))
   clear HBAD fP hx3
   go_wp2_with fail
   refine wp_region_quiet_lit (by kernel_rfl) (by kernel_rfl) ?_
   repeat (first|go_big_quiet_step ((first|(go_at_call 53;exact lM _ _ hx1 _ _)))|quiet_step ((first|(go_at_call 53;exact lM _ _ hx1 _ _))))
   refine wpQuiet_nil ?_
   intro _ hw'
   obtain⟨nq,hw''⟩:=hw'
   subst hw''
   go_wp2_with fail
   go_ret
   exact⟨aD HP.symm,fG.trans ⟨rfl,rfl,rfl,Nat.le_refl _,fun _ _=>rfl⟩⟩
  have hy3:(x == par)=false:=by simp[hx3]
  by_cases hx4:y < x
  case' neg=>
   have hy4:decide (x≤y)=true:=decide_eq_true (by omega)
   have HP:=hide (HBAD (by rw [ah fP];simp[iP,gU,hx4]))
   clear HBAD fP
   go_wp2_with fail
   refine wp_region_quiet_lit (by kernel_rfl) (by kernel_rfl) ?_
   repeat (first|go_big_quiet_step ((first|(go_at_call 53;exact lM _ _ hx1 _ _)))|quiet_step ((first|(go_at_call 53;exact lM _ _ hx1 _ _))))
   refine wpQuiet_nil ?_
   intro _ hw'
   obtain⟨nq,hw''⟩:=hw'
   subst hw''
   go_wp2_with fail
   go_ret
   exact⟨aD HP.symm,fG.trans ⟨rfl,rfl,rfl,Nat.le_refl _,fun _ _=>rfl⟩⟩
  have hy4:decide (x≤y)=false:=decide_eq_false (by omega)
  have HG:=hide (show gH (iP id par) gU (kids.take (j+1+1))=true by rw [ah fP];simp[iP,hx1,hx2,hx3,gU,hx4])
  clear HBAD fP
  go_wp2_with fail
  refine wp_region_quiet_lit (by kernel_rfl) (by kernel_rfl) ?_
  repeat (first|go_big_quiet_step ((first|(go_at_call 53;exact lM _ _ hx1 _ _)))|quiet_step ((first|(go_at_call 53;exact lM _ _ hx1 _ _))))
  refine wpQuiet_nil ?_
  intro _ hw'
  obtain⟨nq,hw''⟩:=hw'
  subst hw''
  go_wp2_with fail
  go_roundw
  case rel=>exact⟨j+1+1,by omega,by go_num,HG,ET,fG.trans ⟨rfl,rfl,rfl,Nat.le_refl _,fun _ _=>rfl⟩⟩
  case measure=>simp[intOf];omega):P:=h
theorem ZV(h:P:=by
 go_simp;have xY:=hide (HG0.trans (hx1.mono HG0.size));have UY:qY.heap.size≤x1.heap.size:=xY.size;clear hx1;refine⟨(ay x1 _).mono UY,?_⟩;exact Ka121):P:=h
theorem ak2.Ka121(h:P:=by
 have wD:=ay x1 (.cells #[.int .i64 mI] 3);have Xx:=hide (heap_alloc_new x1 (.cells #[.int .i64 mI] 3));have vM:=hide (xY.trans (wD.mono xY.size));clear wD;generalize Ju:x1.alloc (.cells #[.int .i64 mI] 3)=y1 at *;clear Ju;refine gW 0 rfl (by kernel_rfl) (by rfl) (by decide) (fun x2 hx2=>?_);go_simp;have rR:=hide (vM.trans (hx2.mono vM.size));have rY:qY.heap.size≤x2.heap.size:=rR.size;have ac3:=hide (au Xx hx2);clear hx2;refine⟨(ay x2 _).mono rY,?_⟩;have CS:=ay x2 (.cells #[] 3);have CP:=hide (show(x2.alloc (.cells #[] 3)).ownsRow qY.heap.size 3 1 (.slice (some ⟨x2.heap.size,0,none⟩) 0 0) 0 (GR.flat aP []) from World.ownsRow_lit (base:=qY.heap.size) (e:=3) (size:=1) x2 #[] 0 rY (by unfold maxLen;omega) (by simp));open amn in exact aat):P:=h
theorem ak3.Ka121(h:P:=by
 have wD:=ay x1 (.cells #[] 3);have XG:=hide (show(x1.alloc (.cells #[] 3)).ownsRow qY.heap.size 3 1 (.slice (some ⟨x1.heap.size,0,none⟩) 0 0) 0 (GR.flat aP []) from World.ownsRow_lit (base:=qY.heap.size) (e:=3) (size:=1) x1 #[] 0 UY (by unfold maxLen;omega) (by simp));have vM:=hide (xY.trans (wD.mono xY.size));clear wD;generalize Ju:x1.alloc (.cells #[] 3)=y1 at *;clear Ju;refine jZ 4 7 rfl rfl (by kernel_rfl) (by rfl) (by rfl) (by decide) (by decide) (fun x2 hx2=>?_) (fun x2 hx2=>?_)
 ·have rR:=hide (vM.trans (hx2.mono vM.size));have rY:qY.heap.size≤x2.heap.size:=rR.size;have CK:=hide (GR.own_below XG hx2);clear hx2;obtain⟨v2,y2,Qf,Qe,Qc,ar0⟩:=eH aN (by omega) x2 qY.heap.size 24 24 3 i0 (.int .i64 0) 8 Tryz.underlying24 hi0 hz0 hz1' hz2 rfl (.slice (some ⟨x1.heap.size,0,none⟩) 0 0) 0 (GR.flat aP ([])) CK (some ⟨gi,0,none⟩) ((aQ s0 mL).take pos) Jc (GR.At.below CJ rR) (nZ _) (by unfold maxLen;omega) (by omega) rY;rw [hlt1] at Qf Qe;refine Lib.wp_append_run x2 (.tmp 127) (.tmp 130) 24 24 rfl _ _ (by simp[Act.eval]) (by simp[Act.eval]) v2 y2 Qf ?_;refine⟨(Below.refl _ _).grown Qc rY (fun b hb=>(CK.lt b hb).1),?_⟩;go_simp;have EX:=hide (rR.grown Qc rY (fun b hb=>(CK.lt b hb).1));have CP:Hid (y2.ownsRow qY.heap.size 3 1 v2 (pos) (GR.flat aP ((aQ s0 mL).take pos))):=hide (by simpa [GR.flat_nil] using Qe);obtain⟨avR,cvR,UU,_⟩:=GR.own_at (enc:=aP) (sz:=1) (l:=(aQ s0 mL).take pos) aN (by rw [hlt1];exact CP);open aov in exact aa6
 ·go_simp;have rR:=hide (vM.trans (hx2.mono vM.size));have rY:qY.heap.size≤x2.heap.size:=rR.size;have CK:=hide (GR.own_below XG hx2);clear hx2;refine⟨(ay x2 _).mono rY,?_⟩;have CS:=ay x2 (.cells #[.int .i64 mI] 3);have R7:=hide (heap_alloc_new x2 (.cells #[.int .i64 mI] 3));open aje in exact adj):P:=h
theorem ZW(h:P:=by
 open apq in exact abv):P:=h
theorem ak4.Ka122(h:P:=by
 exact aqF):P:=h
theorem ak5.Ka122(h:P:=by
 open anH in exact IV):P:=h
theorem SK(h:P:=by
 obtain⟨e1,e2,e3,e4⟩:=fJ w (.cells (fO n A) 30) (.cells #[.int .i64 K,.int .i64 no,.string k,.int .i64 nn,.int .i64 mK,.int .i64 mF,.int .i64 mT,.int .i64 mI,.int .i64 mL,.string mk,.int .i64 mN] 34) (.cells iV 30);exact Ka123):P:=h
theorem ak6.Ka123(h:P:=by
 open ane in exact Te):P:=h
theorem ak7.Ka123(h:P:=by
 have hsz:(((w.alloc (.cells (fO n A) 30)).alloc (.cells #[.int .i64 K,.int .i64 no,.string k,.int .i64 nn,.int .i64 mK,.int .i64 mF,.int .i64 mT,.int .i64 mI,.int .i64 mL,.string mk,.int .i64 mN] 34)).alloc (.cells iV 30)).heap.size=w.heap.size+3:=by simp
 generalize hW0:((w.alloc (.cells (fO n A) 30)).alloc (.cells #[.int .i64 K,.int .i64 no,.string k,.int .i64 nn,.int .i64 mK,.int .i64 mF,.int .i64 mT,.int .i64 mI,.int .i64 mL,.string mk,.int .i64 mN] 34)).alloc (.cells iV 30)=W0 at *;exact Ka67):P:=h
theorem ak8.Ka123(h:P:=by
 rw [←hW] at e1 e2 e3 e4;have HN:=hide e1;have HO:=hide e2;have HR:=hide e3;have HB:=hide e4;clear hW e1 e2 e3 e4;obtain⟨c0,c1,c2,c3,c4,c5,c6,c7,c8⟩:=nine HN;have hl0:=aA HR;go_wp2_with fail;refine(Ls W0 HB).mono ?_;rintro e y ⟨A1,G1,cc1,rfl,Rj,hby⟩;have l7:=hide Rj;have NC:=hide hby;clear Rj hby c0 c1 c2 c3 c4 c5 c6 c7 c8 Ls;go_upto_region 2 with fail;refine wp_at (fun W hW=>?_);have e5:W.heap[y.heap.size]?=some (.cells (Ll n A1 (.slice none 0 0)) 50 (0,0)):=by rw [hW];exact heap_alloc_new _ _
 have e6:Below y.heap.size y W:=by rw [hW];exact ay _ _
 have HW:=hide (WK.start NC l7 (Nat.le_refl y.heap.size) e6 e5);have WG:=hide (au HN (NC.trans (e6.mono NC.size)));clear hW e5 e6 l7 HN;generalize newC y.heap.size 8 cc1=Jb at *;have hyl:=aA HW.blk;generalize y.heap.size=wb at *;obtain⟨c0,c1,c2,c3,c4,c5,c6,c7,c8⟩:=nine WG;have hnl:=aA WG;go_wp2_with fail;refine(mg W (HB.trans (HW.keep.mono HB.size))).mono ?_;rintro e W2 ⟨rfl,hb2⟩;have HW2:=hide (HW.step hb2);clear hb2 c0 c1 c2 c3 c4 c5 c6 c7 c8 mg WG hyl hnl HW;exact Ka31):P:=h
theorem ZX(h:P:=by
 obtain⟨⟨p0,p1,p2,p3,p4,p5,p6,p7,p8,p9,mZ⟩,_⟩:=bX HO;obtain⟨c0,c1,c2,c3,c4,c5,c6,c7,c8⟩:=nine HN;have hol:=aA HO;have hnl:=aA HN;go_wp2_with fail;refine(Ip W0 Ee.at.r).mono ?_;rintro e W1 ⟨rfl,hb1⟩;have jG:=hide (au HN hb1);have Po:=hide (au HO hb1);have nI:=hide (au HR hb1);have HB1:=hide (HB0.trans (hb1.mono HB0.size));exact Ka124):P:=h
theorem ak9.Ka124(h:P:=by
 clear hb1 c0 c1 c2 c3 c4 c5 c6 c7 c8 p0 p1 p2 p3 p4 p5 p6 p7 p8 p9 mZ hnl hol Ip HN HO HR Ee HB0;obtain⟨⟨p0,p1,p2,p3,p4,p5,p6,p7,p8,p9,mZ⟩,_⟩:=bX Po;obtain⟨c0,c1,c2,c3,c4,c5,c6,c7,c8⟩:=nine jG;have hol:=aA Po;have hnl:=aA jG;have hrl:=aA nI;go_upto_region 9 with fail;refine wp_at (fun W2 hW2=>?_);have hbw2:=ay W1 (.cells #[.int .i64 no,.string k,.int .i64 nn,.int .i64 1] 43);have hq2:=heap_alloc_new W1 (.cells #[.int .i64 no,.string k,.int .i64 nn,.int .i64 1] 43);rw [←hW2] at hbw2 hq2;have jg:=hide (au jG hbw2);have CB:=hide (au Po hbw2);have iW:=hide (au nI hbw2);have ac0:=hide hq2;have HB2:=hide (HB1.trans (hbw2.mono HB1.size));have hqb:w.heap.size+2 < W1.heap.size:=hrl;clear hW2 hbw2 hq2 c0 c1 c2 c3 c4 c5 c6 c7 c8 p0 p1 p2 p3 p4 p5 p6 p7 p8 p9 mZ jG Po nI HB1 hnl hol hrl;obtain⟨⟨p0,p1,p2,p3,p4,p5,p6,p7,p8,p9,mZ⟩,_⟩:=bX CB;obtain⟨c0,c1,c2,c3,c4,c5,c6,c7,c8⟩:=nine jg;have hol:=aA CB;have hnl:=aA jg;have hql:=aA ac0;go_wp2_with fail;refine(Le W2 (l7.kc (k:=9) (KC.of_below HB2) (by omega)).at.p).mono ?_;rintro e W3 ⟨v3,rfl,adX,hrow3,hb3⟩;obtain⟨av,cv,rfl,_⟩:=GR.own_at (enc:=eG) (sz:=4) aV hrow3;have HRW:=hide (LO.own (en:=eG) hrow3);have kE:=hide (au jg hb3);have E8:=hide (au CB hb3);have kH:=hide (au iW hb3);have LC:=hide (au ac0 hb3);have HB3:=hide (HB2.trans (hb3.mono HB2.size));clear hb3 adX hrow3 Le jg CB iW ac0 HB2 c0 c1 c2 c3 c4 c5 c6 c7 c8 p0 p1 p2 p3 p4 p5 p6 p7 p8 p9 mZ hnl hol;obtain⟨c0,c1,c2,c3,c4,c5,c6,c7,c8⟩:=nine kE;obtain⟨q0,q1,q2,q3⟩:=fC LC;have cf:=aj kE 4;have qf:=aj LC 3;exact Ka15):P:=h
theorem ala.Ka124(h:P:=by
 have Ag:=hide (Ee.kc (k:=9) (KC.of_below hb1) (by omega));clear hb1 c0 c1 c2 c3 c4 c5 c6 c7 c8 p0 p1 p2 p3 p4 p5 p6 p7 p8 p9 mZ hnl hol Ip HN HO HR Ee HB0;obtain⟨g,off,e0,hg,q0,q1,q2,q3⟩:=iD.four Ag.at.r i hi;rw [ah afj] at q0 q1 q2 q3;clear afj;obtain⟨rno,rk,rn,rs⟩:=rq;exact Ka4):P:=h
theorem Oq(h:P:=by
 clear Xt HYk;go_wp2_with fail;refine(HCk wr HB).mono ?_;rintro e w1 ⟨rfl,hb1⟩;have HB1:=hide (HB.trans (hb1.mono HB.size));rw [hq];exact Ka125):P:=h
theorem alb.Ka125(h:P:=by
 clear hb1 q0 q1 q2;exact abU):P:=h
theorem alc.Ka125(h:P:=by
 clear hb1 q0 q1 q2;go_wp2_with fail;go_ret;exact⟨rfl,HB1⟩):P:=h
theorem ald.Ka125(h:P:=by
 clear hb1 q0 q1 q2 q3;exact abU):P:=h
theorem ale.Ka125(h:P:=by
 clear hb1 q0 q1 q2 q3;go_wp2_with fail;go_ret;exact⟨by simp,HB1⟩):P:=h
theorem SL(h:P:=by
 have hwl:=aA h.blk;obtain⟨K,no,k,nn,⟨mK,mF,mT,mI,mL,mk,mN⟩⟩:=o;dsimp only at *;subst hK;have HW0:=hide h;clear h;go_enter Tryz.func52,Tryz.ntmps52
 go_upto_region 2 with fail;refine wp_at (fun W hW=>?_);exact Ka126):P:=h
theorem alf.Ka126(h:P:=by
 obtain⟨_,e2,e3⟩:=jL w (.cells #[.int .i64 K,.int .i64 no,.string k,.int .i64 nn,.int .i64 2,.int .i64 mF,.int .i64 mT,.int .i64 mI,.int .i64 mL,.string mk,.int .i64 mN] 34) (.cells #[.int .i64 2,.int .i64 mF,.int .i64 mT,.int .i64 mI,.int .i64 mL,.string mk,.int .i64 mN] 32);open ajT in exact ado):P:=h
theorem alg.Ka126(h:P:=by
 obtain⟨_,e2,e3⟩:=jL w (.cells #[.int .i64 K,.int .i64 no,.string k,.int .i64 nn,.int .i64 1,.int .i64 mF,.int .i64 mT,.int .i64 mI,.int .i64 mL,.string mk,.int .i64 mN] 34) (.cells #[.int .i64 1,.int .i64 mF,.int .i64 mT,.int .i64 mI,.int .i64 mL,.string mk,.int .i64 mN] 32);open ajU in exact ado):P:=h
theorem alh.Ka126(h:P:=by
 obtain⟨_,e2,e3⟩:=jL w (.cells #[.int .i64 K,.int .i64 no,.string k,.int .i64 nn,.int .i64 0,.int .i64 mF,.int .i64 mT,.int .i64 mI,.int .i64 mL,.string mk,.int .i64 mN] 34) (.cells #[.int .i64 0,.int .i64 mF,.int .i64 mT,.int .i64 mI,.int .i64 mL,.string mk,.int .i64 mN] 32);open ajV in exact ado):P:=h
theorem ZY(h:P:=by
 clear P7 HRW;clear c0 c1 c2 c3 c4 c5 c6 c7 c8 q0 q1 q2 q3 cf qf kE E8 kH LC HB3;have HA4:=hide (l7.kc (k:=9) (KC.of_below kC) (by omega)).at.r;obtain⟨c0,c1,c2,c3,c4,c5,c6,c7,c8⟩:=nine yc;obtain⟨⟨p0,p1,p2,p3,p4,p5,p6,p7,p8,p9,mZ⟩,_⟩:=bX Xu;have hnl:=aA yc;have hol:=aA Xu;have hile:=qP n.reqs no;go_upto_block 0 with fail;exact Ka127):P:=h
theorem ali.Ka127(h:P:=by
 go_cut [10] from 11 (fun i wx=>i= .int .i64 (bH n.reqs no:Nat)∧Ge W4 wx)
 case first=>
  exact aqz
 case rest=>
  open anU in exact aaR):P:=h
theorem alj.Ka127(h:P:=by
 go_cut [10] from 11 (fun i wx=>i= .int .i64 (bH n.reqs no:Nat)∧Ge W4 wx)
 case first=>
  exact aqz
 case rest=>
  open anT in exact aaR):P:=h
theorem Z0(h:P:=by
 have q3s:=Ur (g:=w.heap.size+2) (i:=3) (b0:= .int .i64 n.id) (b1:= .int .i64 n.par) (b2:= .slice a_k n.kids.length aK) (b3:= .int .i64 n.next) (b4:= .slice av RL.length cv) (b5:= .slice dP n.out.length aO) (b6:= .slice dS n.seen.length aL) (b7:= .int .i64 n.old) (b8:= .slice (some ⟨gv,0,none⟩) (n.reqs.length+1) vc) (show w.heap.size+2≠W1.heap.size by omega) Lj;exact Ka128):P:=h
theorem alk.Ka128(h:P:=by
 open ahj in exact IX):P:=h
theorem alm.Ka128(h:P:=by
 go_simp;refine aF 1 rfl (by kernel_rfl) (by rfl) ?_;open ahk in exact IX):P:=h
theorem Z4(h:P:=by
 have q3s:=Ur (g:=w.heap.size+2) (i:=3) (b0:= .int .i64 n.id) (b1:= .int .i64 n.par) (b2:= .slice a_k n.kids.length aK) (b3:= .int .i64 n.next) (b4:= .slice av RL.length cv) (b5:= .slice dP n.out.length aO) (b6:= .slice dS n.seen.length aL) (b7:= .int .i64 IH.no) (b8:= .slice (some ⟨g8,0,none⟩) n.reqs.length Ba) (show w.heap.size+2≠W1.heap.size by omega) Lj;exact Ka129):P:=h
theorem aln.Ka129(h:P:=by
 open ahh in exact IX):P:=h
theorem alo.Ka129(h:P:=by
 go_simp;refine aF 1 rfl (by kernel_rfl) (by rfl) ?_;open ahi in exact IX):P:=h
theorem Ou(h:P:=by
 go_simp;refine⟨Below.refl _ _,?_⟩;refine xP (by kernel_rfl) (fun x3 hx3=>?_);have hg3:=Ge.trans (Ge.trans hx hx2) hx3;clear Lj;exact Ka130):P:=h
theorem alp.Ka130(h:P:=by
 have tu:=hide (au iX hg3);open as5 in exact Rh):P:=h
theorem alq.Ka130(h:P:=by
 have tu:=hide (au jV hg3);open as8 in exact Rh):P:=h
theorem alr.Ka130(h:P:=by
 have tu:=hide (au iX hg3);open asY in exact Rh):P:=h
theorem als.Ka130(h:P:=by
 have tu:=hide (au jV hg3);open as1 in exact Rh):P:=h
theorem Z5(h:P:=by
 obtain⟨d0,d1,d2,d3,d4,d5,d6,d7,d8⟩:=nine uL;have f0:=aj uL 0;have f1:=aj uL 1;have f2:=aj uL 2;have f3:=aj uL 3;have f4:=aj uL 4;have f5:=aj uL 5;have f6:=aj uL 6;have f7:=aj uL 7;have f8:=aj uL 8;have hrl:=aA uL;exact Ka131):P:=h
theorem alu.Ka131(h:P:=by
 go_simp;refine aF 4 rfl (by kernel_rfl) (by rfl) ?_;open amj in exact SS):P:=h
theorem alv.Ka131(h:P:=by
 refine aF 5 rfl (by kernel_rfl) (by rfl) ?_;open ami in exact SS):P:=h
theorem aac(h:P:=by
 have hnl:=aA HN;have hol:=aA HO;go_wp2_with fail;refine(mg W1 HB1).mono ?_;rintro e W2 ⟨rfl,hb2⟩;have jg:=hide (au HN hb2);have CB:=hide (au HO hb2);have iW:=hide (au HR hb2);have HB2:=hide (HB1.trans (hb2.mono HB1.size));clear hb2 c0 c1 c2 c3 c4 c5 c6 c7 c8 p0 p1 p2 p3 p4 p5 p6 p7 p8 p9 mZ hnl hol mg HN HO HR HB1;exact Ka132):P:=h
theorem alx.Ka132(h:P:=by
 obtain⟨⟨p0,p1,p2,p3,p4,p5,p6,p7,p8,p9,mZ⟩,_⟩:=bX CB;have hol:=aA CB;go_wp2_with fail;refine(NY W2).mono ?_;rintro e W4 ⟨rfl,hb4⟩;have zL:=hide (au jg hb4);have acW:=hide (au CB hb4);have vP:=hide (au iW hb4);have jd:=hide (HB2.trans (hb4.mono HB2.size));clear hb4 p0 p1 p2 p3 p4 p5 p6 p7 p8 p9 mZ hol NY jg CB iW HB2;obtain⟨c0,c1,c2,c3,c4,c5,c6,c7,c8⟩:=nine zL;have hnl:=aA zL;go_wp2_with fail;refine(Ls W4 jd).mono ?_;exact Ka57):P:=h
theorem aly.Ka132(h:P:=by
 obtain⟨c0,c1,c2,c3,c4,c5,c6,c7,c8⟩:=nine jg;have hnl:=aA jg;go_wp2_with fail;refine(Ls W2 HB2).mono ?_;rintro e W3 ⟨A1,G1,cc,rfl,Rj,hb3,_,_⟩;have kH:=hide (au iW hb3);have HB3:=hide (HB2.trans (hb3.mono HB2.size));have l7:=hide Rj;have hrs:=aA iW;clear hb3 Rj c0 c1 c2 c3 c4 c5 c6 c7 c8 hnl Ls jg CB iW;exact aqw):P:=h
theorem aad(h:P:=by
 have hrl:=aA oI;go_wp2_with fail;refine aR (fun W' hW'=>?_)
 have e4:W'.heap[w.heap.size+2]?=some (.cells #[.int .i64 n.id,.int .i64 n.par,.slice A.k n.kids.length A.ck,.int .i64 n.next,.slice A.p n.pu.length A.cp,.slice A.o n.out.length A.co,.slice A.s n.seen.length A.cs,.int .i64 n.old,.slice A.r n.reqs.length A.cr] 30 (0,0)):=by
  exact aqH
 exact Ka133):P:=h
theorem alz.Ka133(h:P:=by
 have fu:aC [w.heap.size+2] (W2.alloc (.cells #[] 32)) W':=by
  exact auo
 open ajf in exact aqc):P:=h
theorem alA.Ka133(h:P:=by
 have fu:aC [w.heap.size+2] (W1.alloc (.cells #[] 32)) W':=by
  rw [hW'];exact aM [.int .i64 n.id,.int .i64 n.par,.slice A.k n.kids.length A.ck,.int .i64 n.next,.slice A.p n.pu.length A.cp,.slice A.o n.out.length A.co,.slice A.s n.seen.length A.cs,.int .i64 n.old,.slice A.r n.reqs.length A.cr] (W1.alloc (.cells #[] 32)) 0
 open ajg in exact aqc):P:=h
theorem aae(h:P:=by
 have hrl:=aA qb;go_wp2_with fail;refine aR (fun W' hW'=>?_)
 have e4:W'.heap[w.heap.size+1]?=some (.cells #[.int .i64 n.id,.int .i64 n.par,.slice A.k n.kids.length A.ck,.int .i64 n.next,.slice A.p n.pu.length A.cp,.slice A.o n.out.length A.co,.slice A.s n.seen.length A.cs,.int .i64 n.old,.slice A.r n.reqs.length A.cr] 30 (0,0)):=by
  exact auk
 exact Ka134):P:=h
theorem alB.Ka134(h:P:=by
 have fu:aC [w.heap.size+1] W1 W':=by
  rw [hW'];exact aM [.int .i64 n.id,.int .i64 n.par,.slice A.k n.kids.length A.ck,.int .i64 n.next,.slice A.p n.pu.length A.cp,.slice A.o n.out.length A.co,.slice A.s n.seen.length A.cs,.int .i64 n.old,.slice A.r n.reqs.length A.cr] W1 0
 open ajw in exact aqe):P:=h
theorem alC.Ka134(h:P:=by
 have fu:aC [w.heap.size+1] W0 W':=by
  exact aqT
 have HAT:=hide (fun W'' (ho:Out c w W' W'')=>(Ee.kc (k:=9) ((KC.keeps fu (fun x hx=>by have:x=w.heap.size+1:=(by simpa using hx);rw [this];exact aW (by omega))).trans (KC.out H9 ho)) (by omega)).rm);have lH:Hid (Below B w W'):=(HB0.mono hB).trans (fu.below (fun x hx=>by have:x=w.heap.size+1:=(by simpa using hx);omega) (Nat.le_trans hB (HB0.mono hB).size));have qg:=hide (Apart.keeps (c:=c) (Apart.of_below (HB0)) (HB0.mono hB).size fu (fun x hx=>by have:x=w.heap.size+1:=(by simpa using hx);omega));obtain⟨x0,x1,x2,x3,x4,x5,x6,x7,x8⟩:=nine e4;clear hW' e4 fu;exact bodyPost_ret (v:= .tuple #[.agg #[.int .i64 n.id,.int .i64 n.par,.slice A.k n.kids.length A.ck,.int .i64 n.next,.slice A.p n.pu.length A.cp,.slice A.o n.out.length A.co,.slice A.s n.seen.length A.cs,.int .i64 n.old,.slice A.r n.reqs.length A.cr],.int .i64 2]) (by simp[results,Tryz.results61,go_sem,x0,x1,x2,x3,x4,x5,x6,x7,x8]) rfl ⟨A,rfl,HAT,lH,qg⟩):P:=h
theorem aaf(h:P:=by
 obtain⟨d0,d1,d2,d3,d4,d5,d6,d7,d8⟩:=nine kH;have f0:=aj kH 0;have f1:=aj kH 1;have f2:=aj kH 2;have f3:=aj kH 3;have f4:=aj kH 4;have f5:=aj kH 5;have f6:=aj kH 6;have f7:=aj kH 7;have f8:=aj kH 8;have hrl:=aA kH;go_wp2_with fail;refine aR (fun W' hW'=>?_);exact Ka135):P:=h
theorem alD.Ka135(h:P:=by
 have e4:W'.heap[w.heap.size+2]?=some (.cells #[.int .i64 N1.id,.int .i64 N1.par,.slice A1.k N1.kids.length A1.ck,.int .i64 N1.next,.slice A1.p N1.pu.length A1.cp,.slice A1.o N1.out.length A1.co,.slice A1.s N1.seen.length A1.cs,.int .i64 N1.old,.slice A1.r N1.reqs.length A1.cr] 30 (0,0)):=by
  rw [hW'];exact GR.setW_blk [.int .i64 N1.id,.int .i64 N1.par,.slice A1.k N1.kids.length A1.ck,.int .i64 N1.next,.slice A1.p N1.pu.length A1.cp,.slice A1.o N1.out.length A1.co,.slice A1.s N1.seen.length A1.cs,.int .i64 N1.old,.slice A1.r N1.reqs.length A1.cr] (o:=0) (xs:=[.int .i64 0,.int .i64 0,.slice none 0 0,.int .i64 0,.slice none 0 0,.slice none 0 0,.slice none 0 0,.int .i64 0,.slice none 0 0]) kH
 have fu:aC [w.heap.size+2] W3 W':=by
  rw [hW'];exact aM [.int .i64 N1.id,.int .i64 N1.par,.slice A1.k N1.kids.length A1.ck,.int .i64 N1.next,.slice A1.p N1.pu.length A1.cp,.slice A1.o N1.out.length A1.co,.slice A1.s N1.seen.length A1.cs,.int .i64 N1.old,.slice A1.r N1.reqs.length A1.cr] W3 0
 have HAT:=hide (fun W'' (ho:Out c w W' W'')=>(show RM W'' A1 N1 from(by
  obtain⟨F,hk,hF⟩:=ho
  exact Ro _ ⟨(w.heap.size+2)::F,aC.trans (b:=W') (fu.mono (fun x hx=>by simp at hx;simp[hx])) (hk.mono (fun x hx=>by simp[hx])),fun y hy=>by
   rcases List.mem_cons.1 hy with h1|h1
   ·exact OE
   ·exact⟨Nat.lt_of_lt_of_le (hF y h1).1 h02,by rw [dR (hF y h1).1];exact(hF y h1).2⟩⟩)))
 have WB:=hide (fun W'' (ho:Out c w W' W'')=>(show GR.At je 7 W'' ma L1 from(by
  obtain⟨F,hk,hF⟩:=ho
  exact Xi _ ⟨(w.heap.size+2)::F,aC.trans (b:=W') (fu.mono (fun x hx=>by simp at hx;simp[hx])) (hk.mono (fun x hx=>by simp[hx])),fun y hy=>by
   rcases List.mem_cons.1 hy with h1|h1
   ·exact OE
   ·exact⟨Nat.lt_of_lt_of_le (hF y h1).1 h02,by rw [dR (hF y h1).1];exact(hF y h1).2⟩⟩)))
 have lH:Hid (Below B w W'):=HB3.trans (fu.below (fun x hx=>by have:x=w.heap.size+2:=(by simpa using hx);omega) (Nat.le_trans hB HB3.size));have qg:=hide (Apart.keeps (c:=c) HK3 HB3.size fu (fun x hx=>by have:x=w.heap.size+2:=(by simpa using hx);omega));obtain⟨x0,x1,x2,x3,x4,x5,x6,x7,x8⟩:=nine e4;clear hW' e4 fu;exact bodyPost_ret (v:= .tuple #[.agg #[.int .i64 N1.id,.int .i64 N1.par,.slice A1.k N1.kids.length A1.ck,.int .i64 N1.next,.slice A1.p N1.pu.length A1.cp,.slice A1.o N1.out.length A1.co,.slice A1.s N1.seen.length A1.cs,.int .i64 N1.old,.slice A1.r N1.reqs.length A1.cr],.slice ma L1.length mc,.int .i64 zh]) (by simp[results,Tryz.results63,go_sem,x0,x1,x2,x3,x4,x5,x6,x7,x8]) rfl ⟨A1,ma,mc,rfl,HAT,WB,lH,qg⟩):P:=h
theorem alE.Ka135(h:P:=by
 have e4:W'.heap[w.heap.size+2]?=some (.cells #[.int .i64 n.id,.int .i64 n.par,.slice A1.k n.kids.length A1.ck,.int .i64 n.next,.slice A1.p n.pu.length A1.cp,.slice A1.o n.out.length A1.co,.slice A1.s n.seen.length A1.cs,.int .i64 n.old,.slice A1.r n.reqs.length A1.cr] 30 (0,0)):=by
  rw [hW'];exact GR.setW_blk [.int .i64 n.id,.int .i64 n.par,.slice A1.k n.kids.length A1.ck,.int .i64 n.next,.slice A1.p n.pu.length A1.cp,.slice A1.o n.out.length A1.co,.slice A1.s n.seen.length A1.cs,.int .i64 n.old,.slice A1.r n.reqs.length A1.cr] (o:=0) (xs:=[.int .i64 0,.int .i64 0,.slice none 0 0,.int .i64 0,.slice none 0 0,.slice none 0 0,.slice none 0 0,.int .i64 0,.slice none 0 0]) kH
 have hkc:KC cc 0 W3 W':=by
  rw [hW'];exact KC.setW (o:=0) [.int .i64 n.id,.int .i64 n.par,.slice A1.k n.kids.length A1.ck,.int .i64 n.next,.slice A1.p n.pu.length A1.cp,.slice A1.o n.out.length A1.co,.slice A1.s n.seen.length A1.cs,.int .i64 n.old,.slice A1.r n.reqs.length A1.cr] (l7.lo _ hrs)
 have HAT:=hide (fun W'' (ho:zD w W' W'')=>((l7.kc0 hkc).kc0 (ho.kc (fun x hx=>l7.lo x (by omega)))).rm)
 have lH:Hid (Below w.heap.size w W'):=by
  rw [hW'];exact GR.setW_below (by omega) [.int .i64 n.id,.int .i64 n.par,.slice A1.k n.kids.length A1.ck,.int .i64 n.next,.slice A1.p n.pu.length A1.cp,.slice A1.o n.out.length A1.co,.slice A1.s n.seen.length A1.cs,.int .i64 n.old,.slice A1.r n.reqs.length A1.cr] (o:=0) HB3
 obtain⟨x0,x1,x2,x3,x4,x5,x6,x7,x8⟩:=nine e4;clear hW' e4 hkc;exact bodyPost_ret (v:= .tuple #[.agg #[.int .i64 n.id,.int .i64 n.par,.slice A1.k n.kids.length A1.ck,.int .i64 n.next,.slice A1.p n.pu.length A1.cp,.slice A1.o n.out.length A1.co,.slice A1.s n.seen.length A1.cs,.int .i64 n.old,.slice A1.r n.reqs.length A1.cr],.slice (some ⟨W0.heap.size,0,none⟩) 0 0,.int .i64 3]) (by simp[results,Tryz.results30,go_sem,x0,x1,x2,x3,x4,x5,x6,x7,x8]) rfl ⟨A1,some ⟨W0.heap.size,0,none⟩,0,rfl,HAT,fun W'' _ i hi=>by simp at hi,lH⟩):P:=h
theorem aag(h:P:=by
 obtain⟨d0,d1,d2,d3,d4,d5,d6,d7,d8⟩:=nine iX;have f0:=aj iX 0;have f1:=aj iX 1;have f2:=aj iX 2;have f3:=aj iX 3;have f4:=aj iX 4;have f5:=aj iX 5;have f6:=aj iX 6;have f7:=aj iX 7;have f8:=aj iX 8;have hrl:=aA iX;go_wp2_with fail;refine aR (fun W' hW'=>?_);exact Ka136):P:=h
theorem alF.Ka136(h:P:=by
 have e4:W'.heap[w.heap.size+2]?=some (.cells #[.int .i64 n.id,.int .i64 n.par,.slice A1.k n.kids.length A1.ck,.int .i64 n.next,.slice A1.p n.pu.length A1.cp,.slice A1.o n.out.length A1.co,.slice A1.s n.seen.length A1.cs,.int .i64 n.old,.slice A1.r n.reqs.length A1.cr] 30 (0,0)):=by
  rw [hW'];exact GR.setW_blk [.int .i64 n.id,.int .i64 n.par,.slice A1.k n.kids.length A1.ck,.int .i64 n.next,.slice A1.p n.pu.length A1.cp,.slice A1.o n.out.length A1.co,.slice A1.s n.seen.length A1.cs,.int .i64 n.old,.slice A1.r n.reqs.length A1.cr] (o:=0) (xs:=[.int .i64 0,.int .i64 0,.slice none 0 0,.int .i64 0,.slice none 0 0,.slice none 0 0,.slice none 0 0,.int .i64 0,.slice none 0 0]) iX
 have fu:aC [w.heap.size+2] W5 W':=by
  rw [hW'];exact aM [.int .i64 n.id,.int .i64 n.par,.slice A1.k n.kids.length A1.ck,.int .i64 n.next,.slice A1.p n.pu.length A1.cp,.slice A1.o n.out.length A1.co,.slice A1.s n.seen.length A1.cs,.int .i64 n.old,.slice A1.r n.reqs.length A1.cr] W5 0
 have HAT:=hide (fun W'' (ho:zD w W' W'')=>((Lu.kc (k:=9) (KC.keeps fu (fun x hx=>by have:x=w.heap.size+2:=(by simpa using hx);rw [this];exact oH)) (by omega)).kc (k:=9) (ho.kc (fun x hx=>Rv x (by omega))) (by omega)).rm);open aoP in exact abj):P:=h
theorem alG.Ka136(h:P:=by
 have e4:W'.heap[w.heap.size+2]?=some (.cells #[.int .i64 N1.id,.int .i64 N1.par,.slice A2.k N1.kids.length A2.ck,.int .i64 N1.next,.slice A2.p N1.pu.length A2.cp,.slice A2.o N1.out.length A2.co,.slice A2.s N1.seen.length A2.cs,.int .i64 N1.old,.slice A2.r N1.reqs.length A2.cr] 30 (0,0)):=by
  rw [hW'];exact GR.setW_blk [.int .i64 N1.id,.int .i64 N1.par,.slice A2.k N1.kids.length A2.ck,.int .i64 N1.next,.slice A2.p N1.pu.length A2.cp,.slice A2.o N1.out.length A2.co,.slice A2.s N1.seen.length A2.cs,.int .i64 N1.old,.slice A2.r N1.reqs.length A2.cr] (o:=0) (xs:=[.int .i64 0,.int .i64 0,.slice none 0 0,.int .i64 0,.slice none 0 0,.slice none 0 0,.slice none 0 0,.int .i64 0,.slice none 0 0]) iX
 have fu:aC [w.heap.size+2] W5 W':=by
  rw [hW'];exact aM [.int .i64 N1.id,.int .i64 N1.par,.slice A2.k N1.kids.length A2.ck,.int .i64 N1.next,.slice A2.p N1.pu.length A2.cp,.slice A2.o N1.out.length A2.co,.slice A2.s N1.seen.length A2.cs,.int .i64 N1.old,.slice A2.r N1.reqs.length A2.cr] W5 0
 have HAT:=hide (fun W'' (ho:zD w W' W'')=>Ro W'' (ho.out (c:=c) (fu) hrx Rv));have WB:=hide (fun W'' (ho:zD w W' W'')=>Xi W'' (ho.out (c:=c) (fu) hrx Rv));open aoO in exact abj):P:=h
theorem aah(h:P:=by
 have hno:∀(listed:Array Bool),nV md ops listed→i∈Region.ready md ops listed→E∉Region.ready md ops listed:=fun listed hcl hr hEr=>by
  have h3:=AU hcl hEr n i hE
  have h4:=(mem_ready.1 hr).1
  rcases Nat.lt_or_ge i listed.size with h'|h'
  ·simp[h'] at h3 h4;rw [h4] at h3;cases h3
  ·simp[Array.getElem?_eq_none h'] at h3
 intro fuel;exact Ka137):P:=h
theorem alH.Ka137(h:P:=by
 induction fuel with
 |zero=>
  intro listed a w hcl _ hr hy H
  refine fun x hx=>⟨fun h=>(by rw [h] at hr;cases hr),fun j hj=>⟨fun e=>absurd (e▸hj) (hno listed hcl hr),fun _=>?_⟩⟩
  by_cases hji:j=i
  ·exact aco
  ·exact OD
 |succ fuel ih=>
  intro listed a w hcl hfree hr hy H
  refine fun x hx=>⟨fun h=>(by rw [h] at hr;cases hr),fun j hj=>⟨fun e=>absurd (e▸hj) (hno listed hcl hr),fun hjE=>?_⟩⟩
  by_cases hji:j=i
  ·exact aco
  ·have h1:=((H x hx).2 j (ready_mono hj hji)).2 hjE;exact aqB):P:=h
theorem alI.Ka137(h:P:=by
 induction fuel with
 |zero=>
  intro listed a w hb hcl _ hr hy H
  refine fun x hx=>⟨fun h=>(by rw [h] at hr;cases hr),fun j hj=>⟨fun e=>absurd (e▸hj) (hno listed hcl hr),fun _=>?_⟩⟩
  by_cases hji:j=i
  ·exact abR
  ·exact OD
 |succ fuel ih=>
  intro listed a w hb hcl hfree hr hy H
  refine fun x hx=>⟨fun h=>(by rw [h] at hr;cases hr),fun j hj=>⟨fun e=>absurd (e▸hj) (hno listed hcl hr),fun hjE=>?_⟩⟩
  by_cases hji:j=i
  ·exact abR
  ·have h1:=((H x hx).2 j (ready_mono hj hji)).2 hjE;open ag0 in exact ade):P:=h
theorem aai(h:P:=by
 obtain⟨d0,d1,d2,d3,d4,d5,d6,d7,d8⟩:=nine Hu;have f0:=aj Hu 0;have f1:=aj Hu 1;have f2:=aj Hu 2;have f3:=aj Hu 3;have f4:=aj Hu 4;have f5:=aj Hu 5;have f6:=aj Hu 6;have f7:=aj Hu 7;have f8:=aj Hu 8;have hrl:=aA Hu;go_simp;exact Ka138):P:=h
theorem alJ.Ka138(h:P:=by
 have hkx:aC [w.heap.size+2] x (GR.setW x (w.heap.size+2) 0 [.int .i64 n.id,.int .i64 n.par,.slice A1.k n.kids.length A1.ck,.int .i64 n.next,.slice A1.p n.pu.length A1.cp,.slice A1.o n.out.length A1.co,.slice A1.s n.seen.length A1.cs,.int .i64 n.old,.slice A1.r n.reqs.length A1.cr]):=aM [.int .i64 n.id,.int .i64 n.par,.slice A1.k n.kids.length A1.ck,.int .i64 n.next,.slice A1.p n.pu.length A1.cp,.slice A1.o n.out.length A1.co,.slice A1.s n.seen.length A1.cs,.int .i64 n.old,.slice A1.r n.reqs.length A1.cr] x 0;refine⟨hkx.below (fun x hx=>by have:x=w.heap.size+2:=(by simpa using hx);omega) (by have:=aA Hu;omega),?_⟩;have Zf:=hide ((aC.of_below hx).trans hkx);have HR1:=hide (GR.setW_blk [.int .i64 n.id,.int .i64 n.par,.slice A1.k n.kids.length A1.ck,.int .i64 n.next,.slice A1.p n.pu.length A1.cp,.slice A1.o n.out.length A1.co,.slice A1.s n.seen.length A1.cs,.int .i64 n.old,.slice A1.r n.reqs.length A1.cr] (o:=0) (xs:=[.int .i64 0,.int .i64 0,.slice none 0 0,.int .i64 0,.slice none 0 0,.slice none 0 0,.slice none 0 0,.int .i64 0,.slice none 0 0]) Hu);clear hx hkx d0 d1 d2 d3 d4 d5 d6 d7 d8 f0 f1 f2 f3 f4 f5 f6 f7 f8 hrl Hu;refine gW 10 rfl (by kernel_rfl) (by rfl) (by decide) (fun y hy=>?_);go_simp;have EY:=hide (Zf.trans (aC.of_below hy));have HR2:=hide (au HR1 hy);clear hy Zf HR1;refine⟨(ay y _).mono (by have:=aA HR2;omega),?_⟩;refine qU (by kernel_rfl) (fun z hz=>?_);have Iq:=hide (au (au HR2 (ay y (.cells #[.int .i64 0,.int .i64 n.id,.int .i64 n.par,.int .i64 0,.int .i64 0,.string k,.int .i64 nn] 32))) hz);have fu:aC [w.heap.size+2] X z:=EY.trans ((aC.of_below (ay y (.cells #[.int .i64 0,.int .i64 n.id,.int .i64 n.par,.int .i64 0,.int .i64 0,.string k,.int .i64 nn] 32))).trans (aC.of_below hz));have HMZ:=hide (au (heap_alloc_new y (.cells #[.int .i64 0,.int .i64 n.id,.int .i64 n.par,.int .i64 0,.int .i64 0,.string k,.int .i64 nn] 32)) hz);have hmb:w.heap.size≤y.heap.size:=by have:=aA HR2;omega
 clear hz EY HR2;open ah3 in exact apU):P:=h
theorem alK.Ka138(h:P:=by
 have fu:aC [w.heap.size+2] y (GR.setW y (w.heap.size+2) 0 [.int .i64 n.id,.int .i64 n.par,.slice A1.k n.kids.length A1.ck,.int .i64 n.next,.slice A1.p n.pu.length A1.cp,.slice A1.o n.out.length A1.co,.slice A1.s n.seen.length A1.cs,.int .i64 n.old,.slice A1.r n.reqs.length A1.cr]):=aM [.int .i64 n.id,.int .i64 n.par,.slice A1.k n.kids.length A1.ck,.int .i64 n.next,.slice A1.p n.pu.length A1.cp,.slice A1.o n.out.length A1.co,.slice A1.s n.seen.length A1.cs,.int .i64 n.old,.slice A1.r n.reqs.length A1.cr] y 0;refine⟨fu.below (fun x hx=>by have:x=w.heap.size+2:=(by simpa using hx);omega) (by have:=aA Hu;omega),?_⟩;clear fu d0 d1 d2 d3 d4 d5 d6 d7 d8 f0 f1 f2 f3 f4 f5 f6 f7 f8 hrl;refine qU (by kernel_rfl) (fun z hz=>?_);have Iq:=hide (au (GR.setW_blk [.int .i64 n.id,.int .i64 n.par,.slice A1.k n.kids.length A1.ck,.int .i64 n.next,.slice A1.p n.pu.length A1.cp,.slice A1.o n.out.length A1.co,.slice A1.s n.seen.length A1.cs,.int .i64 n.old,.slice A1.r n.reqs.length A1.cr] (o:=0) (xs:=[.int .i64 0,.int .i64 0,.slice none 0 0,.int .i64 0,.slice none 0 0,.slice none 0 0,.slice none 0 0,.int .i64 0,.slice none 0 0]) Hu) hz);have fu:aC [w.heap.size+2] X z:=(aC.of_below HY).trans ((aM [.int .i64 n.id,.int .i64 n.par,.slice A1.k n.kids.length A1.ck,.int .i64 n.next,.slice A1.p n.pu.length A1.cp,.slice A1.o n.out.length A1.co,.slice A1.s n.seen.length A1.cs,.int .i64 n.old,.slice A1.r n.reqs.length A1.cr] y 0).trans (aC.of_below hz));have HMZ:=hide (au ((aM [.int .i64 n.id,.int .i64 n.par,.slice A1.k n.kids.length A1.ck,.int .i64 n.next,.slice A1.p n.pu.length A1.cp,.slice A1.o n.out.length A1.co,.slice A1.s n.seen.length A1.cs,.int .i64 n.old,.slice A1.r n.reqs.length A1.cr] y 0).obj HMY (fun hm=>by have:x.heap.size=w.heap.size+2:=(by simpa using hm);omega)) hz);clear hz HY Hu HMY;have hmb:w.heap.size≤x.heap.size:=by omega
 open ah4 in exact apU):P:=h
theorem aaj(h:P:=by
 obtain⟨c0,c1,c2,c3,c4,c5,c6,c7,c8⟩:=nine xX;have k0:=cell_grown' c0;have k1:=cell_grown' c1;have k2:=cell_grown' c2;have k3:=cell_grown' c3;have k4:=cell_grown' c4;have k5:=cell_grown' c5;have k6:=cell_grown' c6;have k7:=cell_grown' c7;have k8:=cell_grown' c8;have m0:=cell_grown' d0;have m1:=cell_grown' d1;have m2:=cell_grown' d2;exact Ka139):P:=h
theorem alL.Ka139(h:P:=by
 have m3:=cell_grown' d3;have en:IntKind.i64.wrap (old+1)=old+1:=IntWalk.i64_in _ ⟨by omega,by omega⟩;go_cut [151] (fun r wx=>r= .bool bb∧Below W1.heap.size W1 wx)
 case first=>
  rcases zM with⟨rfl,rfl⟩|⟨j,y,rfl,rfl,q1⟩
  ·have hgt:decide ((0:Int) < ((0:Nat):Int))=false:=rfl;open atm in exact Ya9
  ·have hgt:decide ((0:Int) < ((j+1:Nat):Int))=true:=decide_eq_true (by omega);have m9:=cell_grown' q1;open atl in exact Ya9
 case rest=>
  obtain⟨rfl,hbx⟩:=hcut;open alZ in exact Ow):P:=h
theorem alM.Ka139(h:P:=by
 go_cut [64] (fun r wx=>r= .bool bb∧Below W1.heap.size W1 wx)
 case first=>
  rcases zM with⟨rfl,rfl⟩|⟨j,y,rfl,rfl,q1⟩
  ·have hgt:decide ((0:Int) < ((0:Nat):Int))=false:=rfl;open aiR in exact ap7
  ·have hgt:decide ((0:Int) < ((j+1:Nat):Int))=true:=decide_eq_true (by omega);have m3:=cell_grown' q1;open aiQ in exact ap7
 case rest=>
  obtain⟨rfl,hbx⟩:=hcut;have HW2:=hide (au HW1 hbx);open alY in exact Ow):P:=h
theorem aak(h:P:=by
 have hp0:w1.cell? ⟨w.heap.size,0,none⟩=some (.string pk):=by rw [cell_of_row w1 _ _ _ _ (0,0) (ah rG)];rfl
 exact Ka140):P:=h
theorem alN.Ka140(h:P:=by
 go_upto_region 7 with fail;go_cut [51] (fun r wx=>r= .bool (found l pk)∧∃q,wx=w1.drewN q)
 case first=>
  by_cases hlt:place l pk < l.length
  ·have hf:found l pk=(l[place l pk].k.toList == pk.toList):=by
    unfold found;rw [iU,List.drop_eq_getElem_cons hlt]
   obtain⟨g1,o1,e1,hg1,s0,s1,s2,s3⟩:=aH.four (GR.At.below HA HB1) (place l pk) hlt;open aox in exact aa7
  ·have hf:found l pk=false:=by
    unfold found;rw [iU,List.drop_eq_nil_of_le (by omega)]
   have HF:=hide hf;have hpos:decide (0 < l.length - place l pk)=false:=decide_eq_false (by omega);have avl:l.length - place l pk=0:=by omega
   clear hf;go_quiet (fail);go_wp2_with fail;go_meet
   case rel=>exact⟨by rw [ah HF],_,oU w1 _ _⟩
 case rest=>
  obtain⟨rfl,q2,rfl⟩:=hcut;go_upto_if 51 with fail;go_cut [9] (fun r wx=>∃(ad':Addr) (cc:Nat),r= .slice (some ad') (jF l pk).length cc∧aH w1 (some ad') (jF l pk)∧∃q,wx=w1.drewN q)
  case first=>
   have HA1:=hide (GR.At.below HA HB1);cases hf:found l pk
   ·have CJ:=hide (tail_not hf);have HAE:=hide hAe;clear hAe hAd;go_wp2_with fail;go_meet
    case rel=>
     refine⟨ad,cap - place l pk,by rw [ah CJ,List.length_drop],?_,_,rfl⟩;rw [ah CJ];by_cases hlt:place l pk < l.length
     ·rw [ah HAE hlt];exact Nw HA1 (place l pk)
     ·exact Nz (List.drop_eq_nil_of_le (by omega))
   ·obtain⟨hlt,htl⟩:=tail_found hf;have CJ:=hide htl;have hae:=hAe hlt;subst hae;clear htl hAe hAd
    obtain⟨ad2,avQ,auE⟩:∃ad2:Addr,(if cap - place l pk=1 then some (⟨b,off+place l pk*4,none⟩:Addr) else some ⟨b,off+place l pk*4+4,none⟩)=some ad2∧(place l pk+1 < l.length→ad2=⟨b,off+place l pk*4+4,none⟩):=by
     by_cases h:cap - place l pk=1
     ·rw [if_pos h];exact⟨_,rfl,fun h2=>by omega⟩
     ·rw [if_neg h];exact⟨_,rfl,fun _=>rfl⟩
    have hone:1≤l.length - place l pk:=by omega
    go_wp2_with fail;go_meet
    case rel=>
     refine⟨ad2,cap - place l pk - 1,by rw [ah CJ,List.length_drop,Nat.sub_sub],?_,_,rfl⟩;rw [ah CJ];by_cases hlt2:place l pk+1 < l.length
     ·rw [auE hlt2];have:=Nw HA1 (place l pk+1);rwa [show off+(place l pk+1)*4=off+place l pk*4+4 by omega] at this
     ·exact Nz (List.drop_eq_nil_of_le (by omega))
  case rest=>
   obtain⟨ad',cc,rfl,hta,q3,rfl⟩:=hcut;obtain⟨i0,hi,hz0,hz1,hz2⟩:=info_parts yK;obtain⟨hpf,hpn⟩:=put_flat l ⟨pk,pm,pf,ps⟩;have htl:(l.take (place l pk)).length=place l pk:=by simp;omega
   have hkt:∀q∈iC l ⟨pk,pm,pf,ps⟩,q.k.size≤maxLen:=fun q hq=>by
    rcases put_mem' hq with rfl|hq
    ·exact hpk
    ·exact hk q hq
   go_upto_region 9 with fail;refine Fo.wp_at (fun V hV=>?_);have wB:w.heap.size < V.heap.size:=by rw [hV];exact Fo.lt_of_blk rG
   have D7:=hide (show Below w.heap.size w V by rw [hV];exact HB1.trans ⟨rfl,rfl,rfl,Nat.le_refl _,fun _ _=>rfl⟩);have hblk:V.heap[w.heap.size]?=some (.cells #[.string pk,.int .i64 pm,.int .i64 pf,.int .i64 ps] 84 (0,0)):=by rw [hV];exact rG
   have HTA:=hide (show aH V (some ad') (jF l pk) by rw [hV];exact hta);obtain⟨⟨c0,c1,c2,c3⟩,_⟩:=eZ hblk;have WG:=hide (fun X (hb:Below V.heap.size V X)=>aH.news (GR.At.below HTA hb));have yZ:=hide (fun X (hb:Below V.heap.size V X)=>wK (some ⟨b,off,none⟩) cap (l.take (place l pk)) X (by omega) (fun h=>by cases h) (GR.At.below (WY (GR.At.below HA D7) _) hb));have Pe:=hide (fun X (hb:Below w.heap.size w X)=>wK (some ⟨b,off,none⟩) cap l X (by omega) (fun h=>by cases h) (GR.At.below HA hb));have HPF:=hide hpf;have HPN:=hide hpn;rw [htl] at yZ;have hnw:w.heap.size≠V.heap.size:=by omega
   have hmw:V.heap.size≠w.heap.size:=by omega
   have avL:(jF l pk).length≤20:=by
    have h3:=tail_len l pk;omega
   clear hV hblk hta hp0 mg rG htl hAd hAe hpf hpn
   go_region_held_law (fun w'=>w'.cell? ⟨w.heap.size,0,none⟩=some (.string pk)∧w'.cell? ⟨w.heap.size,1,none⟩=some (.int .i64 pm)∧w'.cell? ⟨w.heap.size,2,none⟩=some (.int .i64 pf)∧w'.cell? ⟨w.heap.size,3,none⟩=some (.int .i64 ps)) (go_keep)
    (first
     |((go_at_call 92);(refine(yZ _ (by exact⟨rfl,rfl,rfl,by simp,fun k hk=>by first|rfl|exact Below.heap_alloc _ _ _ hk⟩)).mono ?_);(rintro e w4 ⟨vc,rfl,hv4,ru,hb4⟩);(have hs4:=hb4.size);(try simp at hs4);(have kC:=hide (show Below V.heap.size V w4 from Below.trans (b:=_) (by exact⟨rfl,rfl,rfl,by simp,fun k hk=>by first|rfl|exact Below.heap_alloc _ _ _ hk⟩) (hb4.mono (by simp))));(have Hr:=hide (own_lower (b':=V.heap.size) ru (by simp)));(first|(guard_hyp hs4:V.heap.size+1≤w4.heap.size;have Pk:=hide (Fo.one_block (show Below (V.alloc (.cells #[.string pk,.int .i64 pm,.int .i64 pf,.int .i64 ps] 84)).heap.size (V.alloc (.cells #[.string pk,.int .i64 pm,.int .i64 pf,.int .i64 ps] 84)) w4 from⟨hb4.os,hb4.tape,hb4.output,hb4.size,hb4.block⟩)).1)|skip);(have d0:=(kC.cell (p:=⟨w.heap.size,0,none⟩) wB).trans c0);(have d1:=(kC.cell (p:=⟨w.heap.size,1,none⟩) wB).trans c1);(have d2:=(kC.cell (p:=⟨w.heap.size,2,none⟩) wB).trans c2);(have d3:=(kC.cell (p:=⟨w.heap.size,3,none⟩) wB).trans c3);(have hn4:w.heap.size≠w4.heap.size:=by omega);(have hm4:w4.heap.size≠w.heap.size:=by omega);(clear hb4 ru hv4))
     |((guard_hyp hs4:V.heap.size+1≤w4.heap.size);(refine iR _ rfl (.tmp 57) (.tmp 59) 25 rfl V.heap.size 84 i0 (.agg #[.string ByteArray.empty,.int .i64 0,.int .i64 0,.int .i64 0]) 4 40 Tryz.underlying25 hi hz0 hz1 hz2 rfl (by decide) vc (place l pk) (GR.flat eG (l.take (place l pk))) (by simp[Act.eval]) Hr ⟨V.heap.size,0,none⟩ 1 1 (eG ⟨pk,pm,pf,ps⟩) (by simp[Act.eval]) rfl (World.news_of_block Pk) (tH ⟨pk,pm,pf,ps⟩) (by unfold maxLen;omega) (by omega) kC.size ?_);(intro v5 w5 hown5 hgr5 nK);(have xQ:=hide hown5);(have HV5:=hide (show v5≠ .slice none 0 0 by first|exact nK|exact fun h=>absurd (nK.1 h).2 (by decide)));(have jd:=hide (show Below V.heap.size V w5 from kC.trans (kW hgr5 (fun k e=>(Hr.lt k e).1) kC.size)));(have e0:=(jd.cell (p:=⟨w.heap.size,0,none⟩) wB).trans c0);(have e1:=(jd.cell (p:=⟨w.heap.size,1,none⟩) wB).trans c1);(have e2:=(jd.cell (p:=⟨w.heap.size,2,none⟩) wB).trans c2);(have e3:=(jd.cell (p:=⟨w.heap.size,3,none⟩) wB).trans c3);(clear hown5 hgr5 nK))
     |((guard_hyp hs4:V.heap.size≤w4.heap.size);(refine iR _ rfl (.tmp 57) (.tmp 59) 25 rfl V.heap.size 84 i0 (.agg #[.string ByteArray.empty,.int .i64 0,.int .i64 0,.int .i64 0]) 4 40 Tryz.underlying25 hi hz0 hz1 hz2 rfl (by decide) vc (place l pk) (GR.flat eG (l.take (place l pk))) (by simp[Act.eval]) (Hr.alloc _) ⟨w4.heap.size,0,none⟩ 1 1 (eG ⟨pk,pm,pf,ps⟩) (by simp[Act.eval]) rfl (World.news_of_block (heap_alloc_new w4 _)) (tH ⟨pk,pm,pf,ps⟩) (by unfold maxLen;omega) (by omega) (Nat.le_trans kC.size (by simp)) ?_);(intro v5 w5 hown5 hgr5 nK);(have xQ:=hide hown5);(have HV5:=hide (show v5≠ .slice none 0 0 by first|exact nK|exact fun h=>absurd (nK.1 h).2 (by decide)));(have jd:=hide (show Below V.heap.size V w5 from(kC.alloc kC.size _).trans (kW hgr5 (fun k e=>(Hr.lt k e).1) (Nat.le_trans kC.size (by simp)))));(have e0:=(jd.cell (p:=⟨w.heap.size,0,none⟩) wB).trans c0);(have e1:=(jd.cell (p:=⟨w.heap.size,1,none⟩) wB).trans c1);(have e2:=(jd.cell (p:=⟨w.heap.size,2,none⟩) wB).trans c2);(have e3:=(jd.cell (p:=⟨w.heap.size,3,none⟩) wB).trans c3);(clear hown5 hgr5 nK))
     |((refine iR _ rfl (.tmp 60) (.tmp 61) 25 rfl V.heap.size 84 i0 (.agg #[.string ByteArray.empty,.int .i64 0,.int .i64 0,.int .i64 0]) 4 40 Tryz.underlying25 hi hz0 hz1 hz2 rfl (by decide) v5 (place l pk+1) (GR.flat eG (l.take (place l pk))++eG ⟨pk,pm,pf,ps⟩) (by simp[Act.eval,Act.put]) xQ ad' (jF l pk).length cc (GR.flat eG (jF l pk)) (by simp[Act.eval,Act.put]) (GR.flat_length eG 4 aV _) (WG _ jd) (wm _) (by unfold maxLen;omega) (by omega) jd.size ?_);(intro v6 w6 hown6 qy Jo);(have uj:=hide (show Below V.heap.size V w6 from jd.trans (kW qy (fun k e=>(xQ.lt k e).1) jd.size)));(have HV6:=hide (show v6≠ .slice none 0 0 by first|exact fun h=>HV5 (Jo.1 h).1|exact fun h=>HV5 (Jo h).1));(rw [ah HPF,ah HPN] at hown6);(obtain⟨a6,cap6,rfl,UA⟩:=GR.own_at aV hown6);(have HO6:=hide hown6);(have HT6:=hide UA);(have f0:=(uj.cell (p:=⟨w.heap.size,0,none⟩) wB).trans c0);(have f1:=(uj.cell (p:=⟨w.heap.size,1,none⟩) wB).trans c1);(have f2:=(uj.cell (p:=⟨w.heap.size,2,none⟩) wB).trans c2);(have f3:=(uj.cell (p:=⟨w.heap.size,3,none⟩) wB).trans c3);(clear hown6 qy Jo UA))
     |fail)
   all_goals
    have acD:(iC l ⟨pk,pm,pf,ps⟩).length≤1048600:=by have:=ah HPN;omega
    have Rs:=hide (D7.trans (uj.mono (by omega)))
    have AQ:=hide (jC a6 cap6 (iC l ⟨pk,pm,pf,ps⟩) w6 acD hkt HT6)
    clear acD d0 d1 d2 d3 e0 e1 e2 e3 f0 f1 f2 f3 c0 c1 c2 c3 WG yZ
    go_wp2_with fail
    refine AQ.mono ?_
    rintro e w7 ⟨rfl,qx⟩
    have zF:=hide (Rs.trans (qx.mono Rs.size))
    have HO7:=hide (own_lower (b':=w.heap.size) (HO6.kept (row:=none) ⟨qx.os,qx.tape,qx.output,qx.size,fun k hk _=>qx.block k hk⟩ (J2 _)) (by omega))
    clear qx AQ
    cases hps:iB (iC l ⟨pk,pm,pf,ps⟩)
    ·have HWF:=hide (show ow l ⟨pk,pm,pf,ps⟩ n=(l,false) by rw [ah HW,hps];rfl);have HCX:=hide (Pe _ zF);clear hps HW Pe;go_wp2_with fail;refine HCX.mono ?_;rintro e w8 ⟨v8,rfl,hv8,zl,Ap⟩;have HV8:=hide hv8;have HO8:=hide (own_lower (b':=w.heap.size) zl zF.size);have Cw:=hide (zF.trans (Ap.mono zF.size));clear zl Ap hv8;go_wp2_with fail;rw [ah HWF];exact bodyPost_ret (v:= .tuple #[v8,.bool false]) (by simp[results,Tryz.results90,go_sem]) rfl ⟨v8,rfl,HV8,HO8,Cw⟩
    ·have HWF:=hide (show ow l ⟨pk,pm,pf,ps⟩ n=(iC l ⟨pk,pm,pf,ps⟩,true) by rw [ah HW,hps];rfl);clear hps HW Pe;go_wp2_with fail;rw [ah HWF];exact bodyPost_ret (v:= .tuple #[.slice a6 (iC l ⟨pk,pm,pf,ps⟩).length cap6,.bool true]) (by simp[results,Tryz.results90,go_sem]) rfl ⟨_,rfl,HV6,HO7,zF⟩):P:=h
theorem alO.Ka140(h:P:=by
 by_cases hlt:k < l.length
 ·obtain⟨g1,o1,e1,hg1,s0,s1,s2,s3⟩:=aH.four (GR.At.below HA HB1) k hlt;open aow in exact aa7
 ·open ai5 in exact Fj):P:=h
theorem Ov(h:P:=by
 have hwl:=aA h.blk;have HIO:=hide (fun w1=>Vi o w1);rw [ho] at HIO;obtain⟨K,no,k,nn,⟨mK,mF,mT,mI,mL,mk,mN⟩⟩:=o;dsimp only at *;exact Ka141):P:=h
theorem alP.Ka141(h:P:=by
 open atU in exact Fg):P:=h
theorem alQ.Ka141(h:P:=by
 open atV in exact Fg):P:=h
theorem alR.Ka141(h:P:=by
 open atW in exact Fg):P:=h
theorem alS.Ka141(h:P:=by
 open atZ in exact Fg):P:=h
theorem SN(h:P:=by
 obtain⟨hil,Yi⟩:=(lu n.reqs o.no).1 hf;have hgd:n.reqs.getD (bH n.reqs o.no) default=n.reqs[bH n.reqs o.no]:=by rw [List.getD_eq_getElem?_getD,List.getElem?_eq_getElem hil];rfl
 exact Ka142):P:=h
theorem alT.Ka142(h:P:=by
 rw [hgd] at hs ⊢;open anQ in exact Tk):P:=h
theorem alU.Ka142(h:P:=by
 have hR:bV n o.no o.k o.n=(n,if xw n.reqs[bH n.reqs o.no] o.k o.n=true then 0 else 1):=by
  unfold bV;rw [if_neg hc,if_pos hf,hgd]
 have HSQ:=hide (show xw n.reqs[bH n.reqs o.no] o.k o.n=((n.reqs[bH n.reqs o.no].k.toList == o.k.toList)&&decide (n.reqs[bH n.reqs o.no].n=o.n)&&decide (n.reqs[bH n.reqs o.no].s=0)) by unfold xw;rw [Bool.and_assoc,Bool.and_comm]);have HAD:=hide hR;generalize bV n o.no o.k o.n=RES at *;have hd:decide (o.no≤n.old)=false:=decide_eq_false hc;open anP in exact Tk):P:=h
end Go.Proofs.YtfmdndhliinhpaaGreatDoor
