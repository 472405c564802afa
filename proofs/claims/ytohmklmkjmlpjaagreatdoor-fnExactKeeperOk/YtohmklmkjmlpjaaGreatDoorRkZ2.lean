/-
  Parts of proofs that stand more than once, each said once.
-/
import Derived.Test.YtohmklmkjmlpjaaGreatDoorRkZ1
namespace Go.Proofs.YtohmklmkjmlpjaaGreatDoor
open Go.Proofs.Tryz
set_option maxRecDepth 100000
variable{P:Prop}
theorem anU.Ad5(h:P:=by
 have q3z:z.cell? ⟨g,i*4+3,none⟩=some (.int .i64 0):=(HZ.cell (p:=⟨g,i*4+3,none⟩) hg).trans HQ3
 have g3:z.frozen? ⟨g,i*4+3,none⟩=false:=by
  obtain⟨g',rest,e',_,hb'⟩:=wG Dz.r (show 0 < n.reqs.length by omega);simp only[Option.some.injEq,Addr.mk.injEq,and_true] at e';obtain rfl:=e';exact aj hb' _
 have f4n:=aj ND 4
 have hgn:g≠w.heap.size:=λe=>by
  have h1:=Dz.cr g ((hgb g).2 rfl)
  rw [e] at h1
  have h2:newC w.heap.size 9 c w.heap.size=9:=bq (Nat.le_refl _)
  rw [h2] at h1
  cases h1
 have aFM:g≠w.heap.size+1:=λe=>by
  have h1:=Dz.cr g ((hgb g).2 rfl)
  rw [e] at h1
  have h2:newC w.heap.size 9 c (w.heap.size+1)=9:=bq Aaa
  rw [h2] at h1
  cases h1
 go_upto_region 13 with fail;refine wp_at (λZ2 hZ=>?_);have jQ:Hid (Z2.heap[w.heap.size]?=some (.cells (fP n.id n.par a_k n.kids.length aK n.next av RL.length cv dW n.out.length aQ eH n.seen.length aL n.old (some ⟨g,0,none⟩) n.reqs.length aU) 40 (0,0))):=by rw [hZ];exact(Below.heap_setCell _ _ _ _ (Ne.symm hgn)).trans (oD ND)
 have jC:Hid (Z2.heap[w.heap.size+1]?=some (.cells gN 40 (0,0))):=by rw [hZ];exact((Below.heap_setCell _ _ _ _ (Ne.symm aFM)).trans (Below.heap_setCell _ _ _ _ (show w.heap.size+1≠w.heap.size by omega))).trans AU
 have jM:=Dz.kc (k:=9) (KC.set (g:=w.heap.size) (i:=4) (v:= .slice av RL.length cv) (bq (Nat.le_refl _))) Aaa;have kB:KC (newC w.heap.size 9 c) 6 (z.setCell ⟨w.heap.size,4,none⟩ (.slice av RL.length cv)) Z2:=by rw [hZ];exact KC.set (jM.cr g ((hgb g).2 rfl))
 have hwx:w.heap.size < x.heap.size/\g < x.heap.size:=by
  have:=aA kK;omega
 have hpz:Z2.ownsRow x.heap.size 108 4 (.slice av RL.length cv) RL.length (GR.flat gB RL):=by
  rw [hZ];exact dM (dM Jc (aC.set _) (λy hy=>by have:y=w.heap.size:=Aas;omega)) (aC.set _) (λy hy=>by have:y=g:=Aas;omega)
 have hrz:=(jM.r.stored (i*4+3) (.int .i64 2)).1;rw [O4 2 n.reqs i hi,<-hZ] at hrz;have ZW:=Hq (And.intro (kB.w jM.k jM.ck Aaa) (And.intro hpz (And.intro (kB.own jM.o jM.co Aaa) (And.intro (kB.seenQ jM.sq jM.c4 jM.ci Aaa Aaa) hrz))));have jB:=Hq (And.intro jM.ck (And.intro jM.co (And.intro jM.c4 (And.intro jM.ci (And.intro jM.cr jM.ni)))))
 have akm:Hid (Below B w Z2):=by
  have hg0:B<=g:=hBg;rw [hZ];exact((pz.mono hB).setCell (p:=⟨w.heap.size,4,none⟩) hB _).setCell (p:=⟨g,i*4+3,none⟩) hg0 _
 have aDx:Hid (Apart c w Z2):=λx hx hc=>by
  have hxg:x≠g:=λe=>by
   have h1:=Dz.cr g ((hgb g).2 rfl)
   rw [<-e,fq hx] at h1
   omega
  rw [hZ]
  exact(Below.heap_setCell _ _ _ _ hxg).trans ((Below.heap_setCell _ _ _ _ (Nat.ne_of_lt hx)).trans (pz.block x hx))
 clear hZ jM kB hpz hrz q3z g3 f4n c0 c1 c2 c3 c4 c5 c6 c7 c8 d0 d1 d2 d3 d4 d5 d6 d7 d8 f0 f1 f2 f3 f4 f5 f6 f7 f8 hnl hrl;obtain⟨c0,c1,c2,c3,c4,c5,c6,c7,c8⟩:=nine jQ;obtain⟨d0,d1,d2,d3,d4,d5,d6,d7,d8⟩:=nine jC;have f0:=aj jC 0;have f1:=aj jC 1;have f2:=aj jC 2;have f3:=aj jC 3;have f4:=aj jC 4;have f5:=aj jC 5;have f6:=aj jC 6;have f7:=aj jC 7;have f8:=aj jC 8;have hnl:=aA jQ;have hrl:=aA jC;go_wp2_with fail;refine aW (λW' hW'=>?_)
 have e4:W'.heap[w.heap.size+1]?=some (.cells (fP n.id n.par a_k n.kids.length aK n.next av RL.length cv dW n.out.length aQ eH n.seen.length aL n.old (some ⟨g,0,none⟩) n.reqs.length aU) 40 (0,0)):=by
  rw [hW'];exact GR.setW_blk (fP n.id n.par a_k n.kids.length aK n.next av RL.length cv dW n.out.length aQ eH n.seen.length aL n.old (some ⟨g,0,none⟩) n.reqs.length aU).toList (o:=0) (xs:=gN.toList) jC
 have gu:aC [w.heap.size+1] Z2 W':=by
  rw [hW'];exact aM (fP n.id n.par a_k n.kids.length aK n.next av RL.length cv dW n.out.length aQ eH n.seen.length aL n.old (some ⟨g,0,none⟩) n.reqs.length aU).toList Z2 0
 have HAT:=Hq (λW'' (ho:Out c w W' W'')=>(show RM W'' ⟨a_k,av,dW,eH,(some ⟨g,0,none⟩),aK,cv,aQ,aL,aU⟩ (eu (setPu n RL) (n.reqs.set i (oI n.reqs[i]))) from by
  have kF:KC (newC w.heap.size 9 c) 9 Z2 W'':=(KC.keeps gu (λy hy=>by have:y=w.heap.size+1:=Aas;rw [this];exact bq Aaa)).trans (KC.out H9 ho)
  have hpF:W''.ownsRow x.heap.size 108 4 (.slice av RL.length cv) RL.length (GR.flat gB RL):=by
   obtain⟨F,hk,hF⟩:=ho;exact dM (dM ZW.2.1 gu (λy hy=>by have:y=w.heap.size+1:=Aas;have:=aA qD;omega)) hk (λy hy=>by have:=(hF y hy).1;have:=aA qD;omega)
  have hp9:∀g',av.map (λy=>y.block)=some g'->6 < newC w.heap.size 9 c g':=λg' hg'=>by
   have h1:=qb hpF (nR hpF hg')
   have h2:=aA qD
   rw [bq Aaa]
   omega
  have hrF:W''.ownsRow B 95 4 (.slice (some ⟨g,0,none⟩) (n.reqs.set i (oI n.reqs[i])).length aU) (n.reqs.set i (oI n.reqs[i])).length (GR.flat aJ (n.reqs.set i (oI n.reqs[i]))):=by
   rw [List.length_set];exact kF.own ZW.2.2.2.2 jB.2.2.2.2.1 Aaa
  exact RM.of (n:=eu (setPu n RL) (n.reqs.set i (oI n.reqs[i]))) (A:=⟨a_k,av,dW,eH,(some ⟨g,0,none⟩),aK,cv,aQ,aL,aU⟩) (c:=newC w.heap.size 9 c) (kF.w ZW.1 jB.1 Aaa) jB.1 (kF.seenQ ZW.2.2.2.1 jB.2.2.1 jB.2.2.2.1 Aaa Aaa) jB.2.2.1 jB.2.2.2.1 jB.2.2.2.2.2
   (GR.own_ati aZ hpF) (λg' hg' _=> .inr (hp9 g' hg')) (kF.own ZW.2.2.1 jB.2.1 Aaa) (λy hy=> .inl (jB.2.1 y hy)) hrF (λy hy=> .inl (jB.2.2.2.2.1 y hy))
   (λg' hg' _ h6=>⟨λe=>by have:=jB.2.1 g' e;omega,λe=>by have:=jB.2.2.2.2.1 g' e;omega⟩) (λy hy h6=>by have:=jB.2.1 y hy;omega)))
 have ow:Hid (Below B w W'):=akm.trans (gu.below (λx hx=>by have:x=w.heap.size+1:=Aaf;omega) (Nat.le_trans hB akm.size));have tq:=Hq (Apart.keeps (c:=c) aDx akm.size gu (λx hx=>by have:x=w.heap.size+1:=Aaf;omega));obtain⟨x0,x1,x2,x3,x4,x5,x6,x7,x8⟩:=nine e4;clear hW' e4 gu;exact bodyPost_ret (v:= .tuple #[.agg (fP n.id n.par a_k n.kids.length aK n.next av RL.length cv dW n.out.length aQ eH n.seen.length aL n.old (some ⟨g,0,none⟩) n.reqs.length aU),.int .i64 0]) Abs rfl ⟨⟨a_k,av,dW,eH,(some ⟨g,0,none⟩),aK,cv,aQ,aL,aU⟩,by rw [show fQ (eu (setPu n RL) (n.reqs.set i (oI n.reqs[i]))) ⟨a_k,av,dW,eH,(some ⟨g,0,none⟩),aK,cv,aQ,aL,aU⟩= .agg (fP n.id n.par a_k n.kids.length aK n.next av RL.length cv dW n.out.length aQ eH n.seen.length aL n.old (some ⟨g,0,none⟩) n.reqs.length aU) from by simp[fQ,dH,eu,setPu]],HAT,ow,tq⟩):P:=h
theorem aAl(h:P:=by
 open aw7 in exact aaA):P:=h
theorem anV.AeS(h:P:=by
 have abP:=ay x3 (.cells (dZ no k nn 0) 95);have Gp:=Hq (heap_alloc_new x3 (.cells (dZ no k nn 0) 95));open atr in exact aas):P:=h
theorem anW.AeS(h:P:=by
 have abP:=ay x3 (.cells (dZ no k nn 1) 95);have Gp:=Hq (heap_alloc_new x3 (.cells (dZ no k nn 1) 95));open atq in exact aas):P:=h
theorem akH(h:P:=by
 go_wp2_with fail;refine wp_region_quiet_lit Aab Aab ?_;repeat (first|go_big_quiet_step ((first|(go_at_call 52;exact aDc _ _ hks hkb' _ _)|(go_at_call_of 50 (IntKind.i64.wrap (pf+ps));exact qAm _ _ g4 _ _)|(go_at_call_of 50 (pf+ps);exact qAm _ _ g5 _ _)|(go_at_call_of 50 pm;exact qAm _ _ g1 _ _)|(go_at_call_of 50 pf;exact qAm _ _ g2 _ _)|(go_at_call_of 50 ps;exact qAm _ _ g3 _ _)))|quiet_step ((first|(go_at_call 52;exact aDc _ _ hks hkb' _ _)|(go_at_call_of 50 (IntKind.i64.wrap (pf+ps));exact qAm _ _ g4 _ _)|(go_at_call_of 50 (pf+ps);exact qAm _ _ g5 _ _)|(go_at_call_of 50 pm;exact qAm _ _ g1 _ _)|(go_at_call_of 50 pf;exact qAm _ _ g2 _ _)|(go_at_call_of 50 ps;exact qAm _ _ g3 _ _))))
 refine wpQuiet_nil ?_;intro _ hw';obtain⟨nq,hw''⟩:=hw';subst hw'';go_wp2_with fail;exact AcO):P:=h
theorem anX.AcO(h:P:=by
 go_roundw
 case rel=>exact⟨(j+1)+1,Aaa,Aah,Aco,(cZ.alloc cZ.size _).trans ⟨rfl,rfl,rfl,Nat.le_refl _,λ_ _=>rfl⟩⟩
 case measure=>simp[intOf];omega):P:=h
theorem anY.AcO(h:P:=by
 go_roundw
 case rel=>exact⟨0+1,Aaa,Aah,Aco,(cZ.alloc cZ.size _).trans ⟨rfl,rfl,rfl,Nat.le_refl _,λ_ _=>rfl⟩⟩
 case measure=>simp[intOf];omega):P:=h
theorem anZ.AcO(h:P:=by
 go_ret;exact⟨aF HBAD.symm,(cZ.alloc cZ.size _).trans ⟨rfl,rfl,rfl,Nat.le_refl _,λ_ _=>rfl⟩⟩):P:=h
theorem aAm(h:P:=by
 generalize Ak (tl s a)=z at *;clear e1 e2 hrs hub hsz hH hcap;generalize mE (kE (Du (tl s a)))=bW at *;generalize kE (Du (tl s a))=n at *;generalize s.extract a (a+4)=hd at *;have HQ:=Hq hq;clear hn hq;have hz2:¬(z < 0):=Aaa
 have hz3:decide (z < 0)=false:=decide_eq_false hz2;generalize Du (tl s a)=tx at *;generalize iP (tl s a)=rs at *;have HC:=Hq hc;clear hc;open ayx in exact ahN):P:=h
theorem an0.Aex(h:P:=by
 exact bodyPost_ret (v:= .tuple #[.string tx,.int .i64 (a+4+z)]) Acp rfl ⟨rfl,pz⟩):P:=h
theorem an1.Aex(h:P:=by
 exact bodyPost_ret (v:= .tuple #[.string ⟨#[]⟩,.int .i64 (-1)]) Acp rfl ⟨rfl,pz⟩):P:=h
theorem aAn(h:P:=by
 have hml:=aA yN;have uP:=Hq (au jC (ay W2 (.cells #[] 98)));have Ni:=Hq (Ke.kc (k:=9) (KC.of_below (ay W2 (.cells #[] 98))) Aaa);have uT:=Hq (HB2.trans ((ay W2 (.cells #[] 98)).mono HB2.size));obtain⟨c0,c1,c2,c3,c4,c5,c6,c7,c8⟩:=nine jQ;open aoP in exact WW):P:=h
theorem an2.Afw(h:P:=by
 exact bodyPost_ret (v:= .tuple #[(fQ n A),.slice (some ⟨W2.heap.size,0,none⟩) 0 0,.int .i64 3]) Abt rfl ⟨A,some ⟨W2.heap.size,0,none⟩,0,rfl,HAT,λW'' _ i hi=>Aat,ow,tq⟩):P:=h
theorem an3.Afw(h:P:=by
 exact bodyPost_ret (v:= .tuple #[(fQ n A),.slice (some ⟨W2.heap.size,0,none⟩) 0 0,.int .i64 1]) Abt rfl ⟨A,some ⟨W2.heap.size,0,none⟩,0,rfl,HAT,λW'' _ i hi=>Aat,ow,tq⟩):P:=h
theorem aAo(h:P:=by
 cases h3:fK lo
 case' false=>
  have cS:=JJ lo false W1 h3
  have HV:=Hq (show bb=true by rw [<-ah eZ];simp[h3])
  clear eZ
  refine wp_region_quiet_below Aab Aab ?_
  repeat (first|go_big_quiet_step ((first|(go_at_call 51;exact cN _ _)|(go_at_call 49;exact cS _ _)))|quiet_step ((first|(go_at_call 51;exact cN _ _)|(go_at_call 49;exact cS _ _))))
  refine wpQuiet_nil ?_
  intro _ hw'
  obtain⟨⟨dq,osq⟩,hw''⟩:=hw'
  subst hw''
  go_wp2_with fail
  go_meet
  case rel=>exact xQ
 have cS:=JJ lo true W1 h3;by_cases h4:ids.length<=40
 case' neg=>
  have hq:decide ((40:Int) < ids.length)=true:=decide_eq_true Aaa
  have HV:=Hq (show bb=true by rw [<-ah eZ];simp[h4])
  clear eZ
  refine wp_region_quiet_below Aab Aab ?_
  repeat (first|go_big_quiet_step ((first|(go_at_call 51;exact cN _ _)|(go_at_call 49;exact cS _ _)))|quiet_step ((first|(go_at_call 51;exact cN _ _)|(go_at_call 49;exact cS _ _))))
  refine wpQuiet_nil ?_
  intro _ hw'
  obtain⟨⟨dq,osq⟩,hw''⟩:=hw'
  subst hw''
  go_wp2_with fail
  go_meet
  case rel=>exact xQ
 have hq:decide ((40:Int) < ids.length)=false:=decide_eq_false Aaa;exact Afi):P:=h
theorem an4.Afi(h:P:=by
 have HV:=Hq (show bb=false by rw [<-ah eZ];simp[h1,h3,h4,h2]);exact ain):P:=h
theorem an5.Afi(h:P:=by
 have HV:=Hq (show bb=false by rw [<-ah eZ];simp[h1,h3,h4]);exact ain):P:=h
theorem aen(h:P:=by
 open aoM in exact aep):P:=h
theorem an6.Ab3(h:P:=by
 open ayY in exact Vp):P:=h
theorem an7.Ab3(h:P:=by
 open ayX in exact Vp):P:=h
theorem an8.Ab3(h:P:=by
 refine aP 9 rfl Aab Aab Aab (λ_ _ _ _ h=>h) (λK hK=>?_);open ank in exact aem):P:=h
theorem an9.Ab3(h:P:=by
 exact AaI):P:=h
theorem akI(h:P:=by
 obtain⟨rfl,hs3,hk3⟩:=hcut;clear m0 m1 m2 m3 m4 m5 m6 s00 s01 s02 sf hml hsl2;go_upto_region 7 with fail;refine wp_at (λW3 hW3=>?_);subst hW3;have aec:=Hq hs3;have lJ:=Hq (hk3.obj jQ (λhx=>Aak));have Wz:=Hq (hk3.obj yN (λhx=>Aak));have lK:=Hq (hk3.obj jC (λhx=>Aak));have HB3:=Hq (HB2.trans (hk3.below (B:=w.heap.size) (λx hx=>Aak) HB2.size));have amU:=Hq (amT.kc (k:=9) (KC.keeps hk3 (λx hx=>by have:x=sb:=Aaf;rw [this];exact bq Aaa)) Aaa);have am9:=Hq (am8.keeps hk3 (λx hx hm=>by have h1:=hilt x hx;simp at hm;omega));clear hs3 hk3 jQ yN jC HB2 amT am8 WQ;have aHy:=aA aec;obtain⟨i0,hi0,hz0,hz1',hz2⟩:=info_parts wC;go_upto_block 2 with fail;exact AcM):P:=h
theorem aoa.AcM(h:P:=by
 go_cut [9] from 15 (λv wx=>∃g cp,v= .slice (some ⟨g,0,none⟩) (bg s0 mL).length cp/\wx.ownsRow W3.heap.size 3 1 v (bg s0 mL).length (GR.flat bf (bg s0 mL))/\(bg s0 mL=[]->cp=0)/\aI W3 wx)
 case first=>
  exact Zk7
 case rest=>
  open aEB in exact akE):P:=h
theorem aob.AcM(h:P:=by
 go_cut [9] from 15 (λv wx=>∃g cp,v= .slice (some ⟨g,0,none⟩) (bg s0 mL).length cp/\wx.ownsRow W3.heap.size 3 1 v (bg s0 mL).length (GR.flat bf (bg s0 mL))/\(bg s0 mL=[]->cp=0)/\aI W3 wx)
 case first=>
  exact Zk7
 case rest=>
  open aEA in exact akE):P:=h
theorem aoc.AcM(h:P:=by
 go_cut [9] from 15 (λv wx=>∃g cp,v= .slice (some ⟨g,0,none⟩) (bg s0 mL).length cp/\wx.ownsRow W3.heap.size 3 1 v (bg s0 mL).length (GR.flat bf (bg s0 mL))/\(bg s0 mL=[]->cp=0)/\aI W3 wx)
 case first=>
  exact Zk7
 case rest=>
  open aEz in exact akE):P:=h
theorem Sg(h:P:=by
 clear e5 hkx hX d0 d1 d2 d3 d4 d5 d6 d7 d8 f0 f1 f2 f3 f4 f5 f6 f7 f8 p0 p1 p2 p3 p4 p5 p6 p7 p8 p9 nX hnl hol lJ Kh lK HB3 lI gY;obtain⟨c0,c1,c2,c3,c4,c5,c6,c7,c8⟩:=nine iG;obtain⟨⟨p0,p1,p2,p3,p4,p5,p6,p7,p8,p9,nX⟩,_⟩:=aO HOX;have hnl:=aA iG;have hol:=aA HOX;exact AaZ):P:=h
theorem aod.AaZ(h:P:=by
 open ar3 in exact aAN):P:=h
theorem aoe.AaZ(h:P:=by
 go_wp2_with fail;refine(jB X A1 G1 c (Nat.zero_le _) H9 HPR AQ).mono ?_;rintro e W5 ⟨A2,rfl,hat,hb5,hap⟩;open awH in exact ahi):P:=h
theorem aof.AaZ(h:P:=by
 go_wp2_with fail;refine(jB X A1 G1 c (Nat.zero_le _) H9 HPR AQ).mono ?_;rintro e W5 ⟨A2,ma,mc,rfl,hat,hmt,hb5,hap⟩;have adU:=Hq hmt;clear hmt;open awG in exact ahi):P:=h
theorem aog.AaZ(h:P:=by
 go_upto_region 23 with fail;clear p0 p1 p2 p3 p4 p5 p6 p7 p8 p9 nX hol;open apR in exact aaP):P:=h
theorem aoh.AaZ(h:P:=by
 go_upto_region 26 with fail;have hrx:=aA qD;have y0:=dB (b:=w.heap.size+2) Aaa c0;have y1:=dB (b:=w.heap.size+2) Aaa c1;have y2:=dB (b:=w.heap.size+2) Aaa c2;have y3:=dB (b:=w.heap.size+2) Aaa c3;have y4:=dB (b:=w.heap.size+2) Aaa c4;have y5:=dB (b:=w.heap.size+2) Aaa c5;have y6:=dB (b:=w.heap.size+2) Aaa c6;have y7:=dB (b:=w.heap.size+2) Aaa c7;have y8:=dB (b:=w.heap.size+2) Aaa c8;have z2:=dB (b:=w.heap.size+2) Aaa p2;have z3:=dB (b:=w.heap.size+2) Aaa p3;have hwb:w.heap.size+2<=X.heap.size:=Aaa
 clear c0 c1 c2 c3 c4 c5 c6 c7 c8 p0 p1 p2 p3 p4 p5 p6 p7 p8 p9 nX;refine mH 12 (w.heap.size+2) Aab ?_;show jg _ _ _ _ _ _ 14 (Array.replicate 14 false) _ _
 refine tk [0,1,2,3,4,5,6,7,8,9] ?_;iterate 10 (refine tkB hwb (λK hK=>?_);go_simp;first|refine hK _ ?_|(apply Exists.intro;refine⟨λ_=>?_,hK _ ?_⟩;rfl);clear hK K)
 refine jK ?_;clear y0 y1 y2 y3 y4 y5 y6 y7 y8 z2 z3 hwb hnl hol iG HOX;refine jY 10 11 rfl rfl Aab Aad Aad Aae Aae (λx hx=>?_) (λx hx=>?_)
 .go_simp;refine⟨(ay x _).mono (by have:=hx.size;omega),?_⟩;have AY:=Hq (Ge.trans hx (ay x (.cells (bX 0 n.id n.par 0 0 k nn) 98)));have HM1:=Hq (heap_alloc_new x (.cells (bX 0 n.id n.par 0 0 k nn) 98));have hxs:=hx.size;clear hx;refine gL 11 rfl Aab Aad Aae (λy hy=>?_);have HY:=Hq (Ge.trans AY hy);have HMY:=Hq (au HM1 hy);have Nn:=Hq (au qD HY);clear hy HM1 AY;open avh in exact agQ
 .have Nn:=Hq (au qD hx);have hxs:=hx.size;open avg in exact agQ):P:=h
theorem aoi.AaZ(h:P:=by
 go_upto_region 19 with fail;open anx in exact Gt):P:=h
theorem aoj.AaZ(h:P:=by
 open ar2 in exact aAN):P:=h
theorem aaO(h:P:=by
 go_upto_region 6 with fail;refine Fo.wp_at (λV hV=>?_);open ax1 in exact ahB):P:=h
theorem aok.AbD(h:P:=by
 open auz in exact agC):P:=h
theorem aol.AbD(h:P:=by
 open auy in exact agC):P:=h
theorem aom.AbD(h:P:=by
 open az5 in exact aie):P:=h
theorem aon.AbD(h:P:=by
 clear hblk hV c0 c1 c2 c3;open ayM in exact ahR):P:=h
theorem aoo.AbD(h:P:=by
 clear hblk hV c0 c1 c2 c3;open ayJ in exact ahQ):P:=h
theorem aAp(h:P:=by
 have hwb:wc.heap.size<=wc.heap.size:=Nat.le_refl _;have y8:=dB hnl c8;have z0:=dB Pf q0;have z1:=dB Pf q1;have z2:=dB Pf q2;have z3:=dB Pf q3;clear c0 c1 c2 c3 c4 c5 c6 c7 c8 q0 q1 q2 q3;have hpc:pos<=aU:=Aaa
 have Ei:=Hq (show gF wc (some ⟨gr,0,none⟩) (n.reqs.take pos) from GR.At.take HA5 pos)
 obtain⟨AD,hAD,hDR⟩:∃AD,(if aU=pos then some (⟨gr,0,none⟩:Addr) else some ⟨gr,pos*4,none⟩)=AD/\gF wc AD (n.reqs.drop pos):=by
  exact aAX
 have HDR:=Hq hDR;clear hDR;refine mH 15 wc.heap.size Aab ?_;show jg _ _ _ _ _ _ 16 (Array.replicate 16 false) _ _
 refine tk [1,2,3,4,6,9,10,11,12] ?_;iterate 9 (refine tkB hwb (λK hK=>?_);go_simp;first|refine hK _ ?_|(apply Exists.intro;refine⟨λ_=>?_,hK _ ?_⟩;rfl);clear hK K)
 refine jK ?_;clear y8 z0 z1 z2 z3;have hlt1:(n.reqs.take pos).length=pos:=Abm
 have XC:(n.reqs.drop pos).length=n.reqs.length - pos:=by rw [List.length_drop]
 exact AeN):P:=h
theorem aop.AeN(h:P:=by
 have hL1:(n.reqs.take pos++[(⟨no,k,nn,0⟩:Rq)]).length=pos+1:=Adc
 have hL2:(n.reqs.take pos++[(⟨no,k,nn,0⟩:Rq)]++n.reqs.drop pos).length=pos+1+(n.reqs.length - pos):=Ade
 obtain⟨i0,hi,hz0,hz1,hz2⟩:=info_parts wD;have HG0:=Hq (Below.refl wc.heap.size wc);refine jY 0 7 rfl rfl Aab Aad Aad Aae Aae (λx1 hx1=>?_) (λx1 hx1=>?_)
 .open arI in exact aAL
 .open awp in exact aaw):P:=h
theorem aoq.AeN(h:P:=by
 have hL1:(n.reqs.take pos++[(⟨no,k,nn,1⟩:Rq)]).length=pos+1:=Adc
 have hL2:(n.reqs.take pos++[(⟨no,k,nn,1⟩:Rq)]++n.reqs.drop pos).length=pos+1+(n.reqs.length - pos):=Ade
 obtain⟨i0,hi,hz0,hz1,hz2⟩:=info_parts wD;have HG0:=Hq (Below.refl wc.heap.size wc);refine jY 0 7 rfl rfl Aab Aad Aad Aae Aae (λx1 hx1=>?_) (λx1 hx1=>?_)
 .open arH in exact aAL
 .open awo in exact aaw):P:=h
theorem aAq(h:P:=by
 obtain⟨gp,hgp⟩:=hP;subst hgp;have Rt:=Hq (λW (ha:aG W (some ⟨gp,0,none⟩) n.pu)=>adj gp 0 bJ n.pu mk mN W (Nat.le_trans hz.p Aaa) uJ hz.pk hmk ha);unfold iV at Rt;rw [hu] at Rt;clear hu hz uJ;open axI in exact ahx):P:=h
theorem aor.Aef(h:P:=by
 go_cut [7] from 15 (λj wx=>j= .int .i64 (i:Nat)/\Ge W0 wx)
 case first=>
  exact akX
 case rest=>
  open anf in exact akG):P:=h
theorem aos.Aef(h:P:=by
 go_cut [7] from 15 (λj wx=>j= .int .i64 (i:Nat)/\Ge W0 wx)
 case first=>
  exact akX
 case rest=>
  open ang in exact akG):P:=h
theorem aAr(h:P:=by
 refine tk [0,1,2,5,6] ?_;iterate 5 (refine AJ (λK hK=>?_);go_simp;refine hK _ ?_;clear hK K)
 refine jK ?_;refine aP 7 rfl Aab Aab Aab (λ_ _ _ _ h=>h) (λK hK=>?_);go_simp
 first
  |(refine hK _ ?_;clear hK K)
  |(apply Exists.intro
    refine⟨λ_=>?_,hK _ ?_⟩
    (exact N1 _)
    clear hK K)
 refine tk [9,10] ?_;iterate 2 (refine AJ (λK hK=>?_);go_simp;refine hK _ ?_;clear hK K)
 refine jK ?_;open azG in exact Vs):P:=h
theorem aot.Aei(h:P:=by
 first
  |(refine hK _ ?_;clear hK K)
  |(apply Exists.intro
    refine⟨λ_=>?_,hK _ ?_⟩
    (exact N4 _)
    clear hK K)
 refine tk [21,22] ?_;iterate 2 (refine AJ (λK hK=>?_);go_simp;refine hK _ ?_;clear hK K)
 refine jK ?_;refine aP 23 rfl Aab Aab Aab (λ_ _ _ _ h=>h) (λK hK=>?_);go_simp
 first
  |(refine hK _ ?_;clear hK K)
  |(apply Exists.intro
    refine⟨λ_=>?_,hK _ ?_⟩
    (exact N5 _)
    clear hK K)
 refine tk [25,26] ?_;iterate 2 (refine AJ (λK hK=>?_);go_simp;refine hK _ ?_;clear hK K)
 refine jK ?_;refine aP 27 rfl Aab Aab Aab (λ_ _ _ _ h=>h) (λK hK=>?_);go_simp
 first
  |(refine hK _ ?_;clear hK K)
  |(apply Exists.intro
    refine⟨λ_=>?_,hK _ ?_⟩
    (exact N6 _)
    clear hK K)
 clear y0 y1 y2 y3 y4 y5 y6 N1 N2 N3 N4 N5 N6;open auq in exact agy):P:=h
theorem aou.Aei(h:P:=by
 first
  |(refine hK _ ?_;clear hK K)
  |(apply Exists.intro
    refine⟨λ_=>?_,hK _ ?_⟩
    (exact NM _)
    clear hK K)
 refine aP 20 rfl Aab Aab Aab (λ_ _ _ _ h=>h) (λK hK=>?_);go_simp
 first
  |(refine hK _ ?_;clear hK K)
  |(apply Exists.intro
    refine⟨λ_=>?_,hK _ ?_⟩
    (exact N4 _)
    clear hK K)
 clear y0 y1 y2 y3 y4 y5 y6 y7 y8 y9 y10 N1 N2 N3 N4 NM;open aup in exact agy):P:=h
theorem aAs(h:P:=by
 have hTO:= @run_callFunc_extern prog 292 _ ReflectliteType.typeOf func292 Aab Aab Aab Aab;have hAT:= @run_callFunc_extern prog 349 _ (ReflectliteType.relation "AssignableTo" ReflectliteType.assignableTo) func349 Aab Aab Aab Aab;open azS in exact ah8):P:=h
theorem aov.Aee(h:P:=by
 have el:=As.elemV a t (((w.alloc (.cells #[.pointer (some ⟨6,276,none⟩),.pointer (some a),.int .u64 150] 303)).alloc (.cells #[.iface 272 (.agg #[.iface 274 (.agg #[.int .i64 p])])] 272)).alloc (.cells #[.iface 274 (.agg #[.int .i64 p])] 272))
  (by rw [World.cell?_alloc_lt _ _ a Aag,World.cell?_alloc_lt _ _ a Aag,World.cell?_alloc_lt _ _ a hal];exact ha)
 have st:=As.setNo t ⟨w.heap.size+1+1+1,0,none⟩ p old ((((w.alloc (.cells #[.pointer (some ⟨6,276,none⟩),.pointer (some a),.int .u64 150] 303)).alloc (.cells #[.iface 272 (.agg #[.iface 274 (.agg #[.int .i64 p])])] 272)).alloc (.cells #[.iface 274 (.agg #[.int .i64 p])] 272)).alloc (.cells #[.int .i64 p] 274))
  (by rw [World.cell?_alloc_at _ _ _ _ Aac];rfl)
  (by rw [World.cell?_alloc_lt _ _ t Aag,World.cell?_alloc_lt _ _ t Aag,World.cell?_alloc_lt _ _ t Aag,World.cell?_alloc_lt _ _ t htl];exact ht)
  (by rw [World.frozen?_alloc_old _ _ t Aag,World.frozen?_alloc_old _ _ t Aag,World.frozen?_alloc_old _ _ t Aag,World.frozen?_alloc_old _ _ t (Nat.ne_of_lt htl)];exact hf)
 go_in
 go_wp2
 refine wp_loop_rounds 3 ?_;rw [rounds_succ];go_wp2
 rw [rounds_succ];go_wp2
 rw [rounds_succ];go_wp2
 go_ret;exact⟨rfl,by exact(((((Below.refl _ _).alloc Aaa _).alloc Aag _).alloc Aag _).alloc Aag _).setCell (Nat.le_refl _) _⟩):P:=h
theorem aow.Aee(h:P:=by
 have el:=As.elemV a t ((w.alloc (.cells #[.pointer (some ⟨6,276,none⟩),.pointer (some a),.int .u64 150] 303)).alloc (.cells #[.iface 274 (.agg #[.int .i64 p])] 272))
  (by rw [World.cell?_alloc_lt _ _ a Aag,World.cell?_alloc_lt _ _ a hal];exact ha)
 have st:=As.setNo t ⟨w.heap.size+1+1,0,none⟩ p old (((w.alloc (.cells #[.pointer (some ⟨6,276,none⟩),.pointer (some a),.int .u64 150] 303)).alloc (.cells #[.iface 274 (.agg #[.int .i64 p])] 272)).alloc (.cells #[.int .i64 p] 274))
  (by rw [World.cell?_alloc_at _ _ _ _ Aac];rfl)
  (by rw [World.cell?_alloc_lt _ _ t Aag,World.cell?_alloc_lt _ _ t Aag,World.cell?_alloc_lt _ _ t htl];exact ht)
  (by rw [World.frozen?_alloc_old _ _ t Aag,World.frozen?_alloc_old _ _ t Aag,World.frozen?_alloc_old _ _ t (Nat.ne_of_lt htl)];exact hf)
 go_in
 go_wp2
 refine wp_loop_rounds 2 ?_;rw [rounds_succ];go_wp2
 rw [rounds_succ];go_wp2
 go_ret;exact⟨rfl,by exact((((Below.refl _ _).alloc Aaa _).alloc Aag _).alloc Aag _).setCell (Nat.le_refl _) _⟩):P:=h
theorem aAt(h:P:=by
 have hm1:¬mI < fJ s0 mL:=λh=>by unfold rM at hhas;rw [decide_eq_true h] at hhas;simp at hhas
 have hd:decide (mI < fJ s0 mL)=false:=decide_eq_false hm1;have hb:hasB (bg s0 mL) mI=false:=Adl
 rw [hb] at ZF;obtain⟨c0,c1,c2,c3,c4,c5,c6,c7,c8⟩:=nine pE;have hnl:=aA pE;go_wp2_with (go_at_call 101;refine(ZF _ adS.at).mono ?_;rintro e wh ⟨rfl,rfl⟩)
 refine(Rt W7 ad1.at.p).mono ?_;rintro e W8 ⟨v8,rfl,aF1,ab0,GD⟩;obtain⟨av,cv,rfl,_⟩:=GR.own_at (enc:=gB) (sz:=4) aZ ab0;have HRW:=Hq (yY.own aZ ab0);have amz:=Hq (au Zw GD);have ru:=Hq (au pE GD);have amS:=Hq (au adX GD);have yS:=Hq (au mP GD);have am2:=Hq (au aee GD);have amN:=Hq (adS.below GD);have aks:=Hq (ad1.kc (k:=9) (KC.of_below GD) Aaa);have akj:=Hq (aki.trans (GD.mono Aaa));have akq:=Hq (akp.step Aaa GD);have hz8:W7.heap.size<=W8.heap.size:=GD.size;clear GD aF1 ab0 Rt ZF c0 c1 c2 c3 c4 c5 c6 c7 c8 m0 m1 m2 m3 m4 m5 m6 s70 s71 s72 hnl hml aGe Zw pE adX mP aee adS ad1 aki akp;exact Aed):P:=h
theorem aox.Aed(h:P:=by
 have hb9:=ay W8 (.cells #[] 98);have xJ:=Hq (au ru hb9);have kZ:=Hq (au yS hb9);have ad3:=Hq (aks.kc (k:=9) (KC.of_below hb9) Aaa);have adP:=Hq (akj.trans (hb9.mono Aaa));have adT:=Hq (akq.step Aaa hb9);have hz9:(W8.alloc (.cells #[] 98)).heap.size=W8.heap.size+1:=Aac
 clear hb9;obtain⟨c0,c1,c2,c3,c4,c5,c6,c7,c8⟩:=nine ru;obtain⟨d0,d1,d2,d3,d4,d5,d6,d7,d8⟩:=nine kZ;have f0:=aj kZ 0;have f1:=aj kZ 1;have f2:=aj kZ 2;have f3:=aj kZ 3;have f4:=aj kZ 4;have f5:=aj kZ 5;have f6:=aj kZ 6;have f7:=aj kZ 7;have f8:=aj kZ 8;have hnl:=aA ru;have hrl:=aA kZ;cases ok
 .exact aA4
 .have h40:40<=(bg s0 mL).length:=by
   rcases hgn with h|h
   .cases h
   .exact h
  have aFG:decide ((40:Int)<=((bg s0 mL).length:Int))=true:=decide_eq_true Aaa;exact aA4):P:=h
theorem aoy.Aed(h:P:=by
 obtain⟨c0,c1,c2,c3,c4,c5,c6,c7,c8⟩:=nine ru;have cf:=aj ru 4;have hnl:=aA ru;have aFG:decide ((40:Int)<=((bg s0 mL).length:Int))=false:=decide_eq_false Aaa;go_upto_region 22 with fail;refine wp_at (λW9 Tg=>?_);have hnb:w.heap.size≠gi:=Aaa
 have VL:aC [w.heap.size] W8 W9:=by rw [Tg];exact aC.set _
 have xJ:Hid (W9.heap[w.heap.size]?=some (.cells (fP n.id n.par a_k n.kids.length aK n.next av RL.length cv dW n.out.length aQ (some ⟨G.s,0,none⟩) n.seen.length aL n.old gH n.reqs.length aU) 40 (0,0))):=by rw [Tg];exact aR ru 4 _
 have adY:=Hq (VL.obj amS (λhx=>Abu));have kZ:=Hq (VL.obj yS (λhx=>Abu));have R6:=Hq (VL.obj am2 (λhx=>Aak));have amA:=Hq (VL.obj amz (λhx=>Aak));have ako:=Hq (amN.keeps VL (λx hx hm=>by have h1:=(eD hx).1;simp at hm;omega));have ad3:=Hq (aks.kc (k:=9) (KC.keeps VL (λx hx=>by have:x=w.heap.size:=Aaf;rw [this];exact D9 _ (Nat.le_refl _) hnb)) Aaa);have adP:=Hq (akj.trans (VL.below (B:=B) (λx hx=>Aak) Aaa));have adT:=Hq (Apart.keeps (c:=c) akq Aaa VL (λx hx=>by have:x=w.heap.size:=Aaf;omega));have HP9:=Hq (HRW.keeps VL (λx hx=>Aak));have hz9:W8.heap.size<=W9.heap.size:=VL.size;clear Tg VL HRW ru amS yS am2 amz amN aks akj akq c0 c1 c2 c3 c4 c5 c6 c7 c8 cf hnl;obtain⟨m0,m1,m2,m3,m4,m5,m6⟩:=jG adY;have hml:=aA adY;obtain⟨pos,hpos⟩:∃pos,((bg s0 mL).takeWhile (λy=>decide (y < mI))).length=pos:=⟨_,rfl⟩;have ZH:=Hq (show lN (bg s0 mL) mI=(bg s0 mL).take pos++([mI]++(bg s0 mL).drop pos) by rw [<-hpos];exact acp _ _);have hpl:pos<=(bg s0 mL).length:=by rw [<-hpos];exact aDn _ _
 have Jb:=Hq hpos;clear hpos;go_upto_block 4 with fail;go_cut [14] from 15 (λj wx=>j= .int .i64 (pos:Nat)/\Ge W9 wx)
 case first=>
  go_wp2_with fail;go_loopw [14] (λj wr=>∃x q:Nat,x<=(bg s0 mL).length/\j= .int .i64 x/\(∀y (hy:y < (bg s0 mL).length),y < x->(bg s0 mL)[y] < mI)/\wr=W9.drewN q) (λj _=>(bg s0 mL).length - (intOf j).toNat)
  case atStart=>exact⟨0,0,Nat.zero_le _,rfl,λy hy h=>Aaa,rfl⟩
  case round=>
   obtain⟨x,q,hx,rfl,hlo,rfl⟩:=hrel;have ZI:=Hq hlo;clear hlo;by_cases hlt:x < (bg s0 mL).length
   .obtain⟨_,hgb,hcell⟩:=(ah ako) x hlt;open aw8 in exact aho
   .have hje:x=(bg s0 mL).length:=Aaa
    subst hje;have HJ:=Hq (adz (l:=bg s0 mL) (x:=mI) (Nat.le_refl _) ZI (λh=>absurd h (Nat.lt_irrefl _)));have abR:decide (((bg s0 mL).length:Int) < ((bg s0 mL).length:Int))=false:=Aac
    exact aiF
 case rest=>
  obtain⟨rfl,hge⟩:=hcut;clear m0 m1 m2 m3 m4 m5 m6 hml;go_upto_region 25 with fail;refine wp_at (λuI aFz=>?_);subst aFz;have af5:=Hq (au xJ hge);have ZL:=Hq (au adY hge);have af8:=Hq (au kZ hge);have Z5:=Hq (au R6 hge);have afS:=Hq (au amA hge);have UN:=Hq (ako.below hge);have af4:=Hq (ad3.kc (k:=9) (KC.of_below hge) Aaa);have afU:=Hq (adP.trans (hge.mono Aaa));have afY:=Hq (adT.step Aaa hge);have ad6:=Hq (HP9.below hge);have aHG:W9.heap.size<=uI.heap.size:=hge.size;clear hge xJ adY kZ R6 amA ako ad3 adP adT HP9;have aCF:=aA Z5;have aHb:∀x∈fp gi (bg s0 mL),x < uI.heap.size:=aAc UN;go_cut [14] from 15 (λ_ wx=>∃g2 cq2,uI.heap.size<=g2/\wx.ownsRow uI.heap.size 3 1 (.slice (some ⟨g2,0,none⟩) ((bg s0 mL).length+1) cq2) ((bg s0 mL).length+1) (GR.flat bf (lN (bg s0 mL) mI))/\wx.heap[sb]?=some (.cells #[.int .i64 mF,.int .i64 (fJ s0 mL),.slice (some ⟨g2,0,none⟩) ((bg s0 mL).length+1) cq2] 110 (0,0))/\aC [sb] uI wx)
  case first=>
   obtain⟨m0,m1,m2,m3,m4,m5,m6⟩:=jG ZL;have hml:=aA ZL;have hwb:uI.heap.size<=uI.heap.size:=Nat.le_refl _;have y3:=dB hml m3;clear m0 m1 m2 m3 m4 m5 m6;have hpc:pos<=OP:=Aaa
   have Ei:=Hq (show bZ uI (some ⟨gi,0,none⟩) ((bg s0 mL).take pos) from GR.At.take UN.at pos)
   obtain⟨AD,hAD,hDR⟩:∃AD,(if OP=pos then some (⟨gi,0,none⟩:Addr) else some ⟨gi,pos,none⟩)=AD/\bZ uI AD ((bg s0 mL).drop pos):=by
    by_cases hcz:OP=pos
    .refine⟨_,rfl,?_⟩;rw [show(bg s0 mL).drop pos=[] by apply List.drop_eq_nil_of_le;omega];exact GR.at_nil _ _
    .refine⟨_,rfl,?_⟩;rw [if_neg hcz];have h:=GR.At.drop UN.at pos;rw [Nat.mul_one] at h;exact h
   have HDR:=Hq hDR;clear hDR;refine mH 14 uI.heap.size Aab ?_;show jg _ _ _ _ _ _ 15 (Array.replicate 15 false) _ _
   refine tk [1,2,3,5,6,9,10,11] ?_;iterate 8 (refine tkB hwb (λK hK=>?_);go_simp;first|refine hK _ ?_|(apply Exists.intro;refine⟨λ_=>?_,hK _ ?_⟩;rfl);clear hK K)
   refine jK ?_;clear y3;have hlt1:((bg s0 mL).take pos).length=pos:=Abm
   have XC:((bg s0 mL).drop pos).length=(bg s0 mL).length - pos:=by rw [List.length_drop]
   have hL1:((bg s0 mL).take pos++[mI]).length=pos+1:=Adc
   have hL2:((bg s0 mL).take pos++[mI]++(bg s0 mL).drop pos).length=pos+1+((bg s0 mL).length - pos):=Ade
   have HG0:=Hq (Below.refl uI.heap.size uI);refine jY 0 7 rfl rfl Aab Aad Aad Aae Aae (λx1 hx1=>?_) (λx1 hx1=>?_)
   .open auw in exact agB
   .open auv in exact agB
  case rest=>
   obtain⟨g2,cq2,hg2,hown2,aCB,KQ⟩:=hcut;have aac:=Hq aCB;have UQ:=Hq (KQ.obj af5 (λhx=>Aak));have af9:=Hq (KQ.obj af8 (λhx=>Aak));have afT:=Hq (KQ.obj afS (λhx=>Aak));have ZN:=Hq (af4.kc (k:=9) (KC.keeps KQ (λx hx=>by have:x=sb:=Aaf;rw [this];exact D9 _ Aaa Aaa)) Aaa);have afV:=Hq (afU.trans (KQ.below (B:=B) (λx hx=>Aak) Aaa));have afZ:=Hq (Apart.keeps (c:=c) afY Aaa KQ (λx hx=>by have:x=sb:=Aaf;omega));have amY:=Hq (ad6.keeps KQ (λx hx=>Aak));have aHH:uI.heap.size<=wc.heap.size:=KQ.size;have abN:(lN (bg s0 mL) mI).length=(bg s0 mL).length+1:=by rw [ah ZH];simp;omega
   have abX:wc.ownsRow uI.heap.size 3 1 (.slice (some ⟨g2,0,none⟩) (lN (bg s0 mL) mI).length cq2) (lN (bg s0 mL) mI).length (GR.flat bf (lN (bg s0 mL) mI)):=by rw [abN];exact hown2
   have HW2:=Hq (WO.of_own (agc (l:=lN (bg s0 mL) mI) aX abX) abX (λe=>by rw [e] at abN;simp at abN))
   have NH:Hid (∀g,av.map (λy=>y.block)=some g->0 < RL.length->W7.heap.size<=g/\g < uI.heap.size):=λg hg hp=>by
    obtain⟨g',off,e,hgl,_⟩:=ad6.1 0 hp
    have h2:=ad6.2 g' off e
    rw [e] at hg
    cases hg
    exact⟨h2,hgl⟩
   have aHa:g2 < wc.heap.size:=(hown2.lt g2 rfl).2;have alA:g2≠gi:=Aaa
   have aCr:i < (n.seen.set i ⟨mF,fJ s0 mL,bg s0 mL⟩).length:=by rw [List.length_set];exact hi
   have HNP:=Hq (ZN.seenPut i aCr ⟨mF,fJ s0 mL,lN (bg s0 mL) mI⟩ (some ⟨g2,0,none⟩) cq2 g2 HW2 (λx hx=>by rw [(eD hx).1];exact D9 _ Aaa alA));obtain⟨T,hT,hlT,hrT⟩:=ZN.s;obtain⟨_,_,hcT⟩:=hT i (by rw [hlT];exact aCr);open asu in exact agh):P:=h
theorem akJ(h:P:=by
 have HN:=Hq (λw1=>aT n true w1 hn);have HP:=Hq (show R=(decide (no=0)&&true&&true&&lQ ⟨mK,mF,mT,mI,mL,mk,mN⟩) by rw [<-ah HR];simp[cK,hk,hn]);open ayt in exact ahL):P:=h
theorem aoz.AcK(h:P:=by
 have hX:W.heap[w.heap.size+1]?=some (.cells (bY 4 0 k n 0 0 0 0 0 ⟨#[]⟩ 0) 100 (0,0)):=Abv
 have hY:W.heap[w.heap.size]?=some (.cells (bY 4 no k n mK mF mT mI mL mk mN) 100 (0,0)):=Abw
 exact ak3):P:=h
theorem aoA.AcK(h:P:=by
 have hX:W.heap[w.heap.size+1]?=some (.cells (bY 3 0 k n 0 0 0 0 0 ⟨#[]⟩ 0) 100 (0,0)):=Abv
 have hY:W.heap[w.heap.size]?=some (.cells (bY 3 no k n mK mF mT mI mL mk mN) 100 (0,0)):=Abw
 exact ak3):P:=h
theorem aoB.AcK(h:P:=by
 have hX:W.heap[w.heap.size+1]?=some (.cells (bY 0 0 k n 0 0 0 0 0 ⟨#[]⟩ 0) 100 (0,0)):=Abv
 have hY:W.heap[w.heap.size]?=some (.cells (bY 0 no k n mK mF mT mI mL mk mN) 100 (0,0)):=Abw
 exact ak3):P:=h
theorem aeo(h:P:=by
 have hrs:(iP (tl s a)).size<=maxLen:=by have:=rZ (tl s a);rw [wJ] at this;unfold maxLen;omega
 have HG:=Hq (Lj (iP (tl s a)) 0 hrs w hH);have hub:=Ue (iP (tl s a)) 0;have hsz:=rZ (tl s a);have hz1:Ak (tl s a)<=1002:=by unfold Ak;omega
 have e1:jW (iP (tl s a)) 0=Du (tl s a):=rfl;have e2:jf (iP (tl s a)) 0=Ak (tl s a):=rfl;rw [e1,e2] at HG;exact AbG):P:=h
theorem aoC.AbG(h:P:=by
 generalize Ak (tl s a)=z at *;clear e1 e2 hrs hub hsz hH hcap hs;generalize Du (tl s a)=tx at *;generalize iP (tl s a)=rs at *;have HC:=Hq hc;clear hc;rw [h4];clear h4;exact aBm):P:=h
theorem aoD.AbG(h:P:=by
 generalize Ak (tl s a)=z at *;clear e1 e2 hrs hub hsz hH hcap;generalize Du (tl s a)=tx at *;generalize iP (tl s a)=rs at *;have HC:=Hq hc;clear hc;exact aBm):P:=h
theorem aoE.AbG(h:P:=by
 open av5 in exact ag6):P:=h
theorem aoF.AbG(h:P:=by
 open av4 in exact ag6):P:=h
theorem akK(h:P:=by
 obtain⟨hjun,oj,hoj,hall⟩:=mem_ready.1 hj
 have hnot:∀e∈oj.after,Region.binds md e=true->e.on≠i:=λe he hb heq=>by
  have h2:=hall e he hb
  have h0:=(mem_ready.1 hr).1
  rw [heq] at h2
  rcases Nat.lt_or_ge i listed.size with h'|h'
  .simp[h'] at h0 h2;rw [h0] at h2;cases h2
  .simp[Array.getElem?_eq_none h'] at h2
 have h2:=Zd hoj (hfree j oj hoj hji hjun hnot) (λcs b=>hsel i oi cs b hi) (λcs b=>hsel j oj cs b hoj) hQ h1;refine wpOp_mono (λa' y hy2=>?_) h2;obtain⟨⟨hs1,hs2⟩,hg,hm⟩:=hy2;exact AcH):P:=h
theorem aoG.AcH(h:P:=by
 refine⟨hg,ih (listed.setIfInBounds j true) a' y ?_ (ready_mono hr (Ne.symm hji)) ?_ ?_⟩
 .exact aaX
 .unfold qH at *;rw [hs1,hs2];exact hy.imp (fun⟨p,q⟩=>⟨p,λz hz=>q z (Ge.trans (Ge.trans hx hg) hz)⟩) id
 .rw [Array.setIfInBounds_comm _ _ hji];exact hm):P:=h
theorem aoH.AcH(h:P:=by
 have hwy:Below b w y:=(hx.mono hb).trans hg;refine⟨hg,ih (listed.setIfInBounds j true) a' y (Nat.le_trans hb hwy.size) (Ev hcl hj) ?_ (ready_mono hr (Ne.symm hji)) ?_ ?_⟩
 .exact aaX
 .unfold DJ at *;rw [hs1,hs2];exact hy.imp (fun⟨p,q⟩=>⟨p,λz hz=>q z (hwy.trans hz)⟩) id
 .rw [Array.setIfInBounds_comm _ _ hji];exact hm):P:=h
theorem aoI.AcH(h:P:=by
 refine⟨hg,ih (listed.setIfInBounds j true) a' y (Ev hcl hj) ?_ (ready_mono hr (Ne.symm hji)) ?_ ?_⟩
 .exact aaX
 .unfold qH at *;rw [hs1,hs2];exact hy.imp (fun⟨p,q⟩=>⟨p,λz hz=>q z (Ge.trans (Ge.trans hx hg) hz)⟩) id
 .rw [Array.setIfInBounds_comm _ _ hji];exact hm):P:=h
theorem aep(h:P:=by
 open apM in exact aeu):P:=h
theorem aoJ.AbQ(h:P:=by
 refine aP 12 rfl Aab Aab Aab (λ_ _ _ _ h=>h) (λK hK=>?_);open an6 in exact aen):P:=h
theorem aoK.AbQ(h:P:=by
 refine aP 13 rfl Aab Aab Aab (λ_ _ _ _ h=>h) (λK hK=>?_);open an7 in exact aen):P:=h
theorem aoL.AbQ(h:P:=by
 refine lH 7 rfl Aab Aab Aab (λ_ _ _ _ h=>h) Aad 40 _ rfl w.heap.size 0 rfl (dH B0 AB).toList _ hr0 hgl underlying40 rfl Aab ?_;refine aP 8 rfl Aab Aab Aab (λ_ _ _ _ h=>h) (λK hK=>?_);open an8 in exact aen):P:=h
theorem aoM.AbQ(h:P:=by
 exact Ab3):P:=h
theorem WW(h:P:=by
 obtain⟨d0,d1,d2,d3,d4,d5,d6,d7,d8⟩:=nine uP;have f0:=aj uP 0;have f1:=aj uP 1;have f2:=aj uP 2;have f3:=aj uP 3;have f4:=aj uP 4;have f5:=aj uP 5;have f6:=aj uP 6;have f7:=aj uP 7;have f8:=aj uP 8;exact Aa4):P:=h
theorem aoN.Aa4(h:P:=by
 have hnl:=aA kK;have hrl:=aA uP;go_wp2_with fail;refine aW (λW' hW'=>?_)
 have e4:W'.heap[w.heap.size+2]?=some (.cells (dH n A) 40 (0,0)):=by
  exact aa1
 have gu:aC [w.heap.size+2] (W1.alloc (.cells #[] 98)) W':=by
  rw [hW'];exact aM (dH n A).toList (W1.alloc (.cells #[] 98)) 0
 open arW in exact aAM):P:=h
theorem aoO.Aa4(h:P:=by
 have hrl:=aA uP;go_wp2_with fail;refine aW (λW' hW'=>?_)
 have e4:W'.heap[w.heap.size+2]?=some (.cells (dH N1 A2) 40 (0,0)):=by
  rw [hW'];exact GR.setW_blk (dH N1 A2).toList (o:=0) (xs:=gN.toList) uP
 have gu:aC [w.heap.size+2] (W5.alloc (.cells (dH N1 A2) 40)) W':=by
  rw [hW'];exact aM (dH N1 A2).toList (W5.alloc (.cells (dH N1 A2) 40)) 0
 have HAT:=Hq (λW'' (ho:Dw w W' W'')=>Zv W'' (ho.out (c:=c) ((aC.of_below (ay W5 (.cells (dH N1 A2) 40))).trans gu) hrx Zz));have ow:Hid (aI w W'):=uT.trans (gu.below (λx hx=>by have:x=w.heap.size+2:=Aaf;omega) uT.size);obtain⟨x0,x1,x2,x3,x4,x5,x6,x7,x8⟩:=nine e4;clear hW' e4 gu;exact bodyPost_ret (v:= .tuple #[(fQ N1 A2),.slice (some ⟨W0.heap.size,0,none⟩) 0 0,.int .i64 Ch]) Aay rfl ⟨A2,some ⟨W0.heap.size,0,none⟩,0,rfl,HAT,λW'' _ i hi=>Aat,ow⟩):P:=h
theorem aoP.Aa4(h:P:=by
 have hnl:=aA jQ;have hrl:=aA uP;go_wp2_with fail;refine aW (λW' hW'=>?_)
 have e4:W'.heap[w.heap.size+2]?=some (.cells (dH n A) 40 (0,0)):=by
  exact aa1
 have gu:aC [w.heap.size+2] (W2.alloc (.cells #[] 98)) W':=by
  rw [hW'];exact aM (dH n A).toList (W2.alloc (.cells #[] 98)) 0
 open arV in exact aAM):P:=h
theorem aoQ.Aa4(h:P:=by
 have hnl:=aA AR;have hrl:=aA uP;go_wp2_with fail;refine aW (λW' hW'=>?_)
 have e4:W'.heap[w.heap.size+2]?=some (.cells (fP n.id n.par A.k n.kids.length A.ck n.next A.p n.pu.length A.cp a (FL n.out.length).length cp A.s n.seen.length A.cs n.old A.r n.reqs.length A.cr) 40 (0,0)):=by
  rw [hW'];exact GR.setW_blk (fP n.id n.par A.k n.kids.length A.ck n.next A.p n.pu.length A.cp a (FL n.out.length).length cp A.s n.seen.length A.cs n.old A.r n.reqs.length A.cr).toList (o:=0) (xs:=gN.toList) uP
 have gu:aC [w.heap.size+2] (Z.alloc (.cells #[] 98)) W':=by
  rw [hW'];exact aM (fP n.id n.par A.k n.kids.length A.ck n.next A.p n.pu.length A.cp a (FL n.out.length).length cp A.s n.seen.length A.cs n.old A.r n.reqs.length A.cr).toList (Z.alloc (.cells #[] 98)) 0
 have HAT:=Hq (λW'' (ho:Out c w W' W'')=>(show RM W'' ⟨A.k,A.p,a,A.s,A.r,A.ck,A.cp,cp,A.cs,A.cr⟩ (setOut n (FL n.out.length)) from by
  have kF:KC (newC w.heap.size 9 c) 9 (Z.alloc (.cells #[] 98)) W'':=(KC.keeps gu (λy hy=>by have:y=w.heap.size+2:=Aas;rw [this];exact bq Aaa)).trans (KC.out H9 ho)
  have hoF:W''.ownsRow W2.heap.size 91 4 (.slice a (FL n.out.length).length cp) (FL n.out.length).length (GR.flat aV (FL n.out.length)):=by
   obtain⟨F,hk,hF⟩:=ho;exact(dM (dM HOA gu (λy hy=>by have:y=w.heap.size+2:=Aas;omega)) hk (λy hy=>by have:=(hF y hy).1;omega))
  have h5:=Ni.kc (k:=9) kF Aaa
  exact NQ.put h5 h5 (setOut n (FL n.out.length)) ⟨A.k,A.p,a,A.s,A.r,A.ck,A.cp,cp,A.cs,A.cr⟩ rfl rfl rfl rfl h5.p.at (λg' hg' hp'=> .inl (h5.cpB h5 g' hg' hp')) hoF (λy hy=> .inr (by have h1:=qb hoF hy;rw [bq Aaa];omega)) h5.r (λy hy=> .inl (h5.cr y hy))
   (λg' hg' hp' h6=>by have:=h5.cpB h5 g' hg' hp';omega) (λy hy h6 e=>by have:=h5.cr y e;omega)))
 open avE in exact agY):P:=h
theorem aoR.Aa4(h:P:=by
 have hnl:=aA Ni;have hrl:=aA uP;go_wp2_with fail;refine aW (λW' hW'=>?_)
 have e4:W'.heap[w.heap.size+2]?=some (.cells (dH N1 A1) 40 (0,0)):=by
  rw [hW'];exact GR.setW_blk (dH N1 A1).toList (o:=0) (xs:=gN.toList) uP
 have gu:aC [w.heap.size+2] (W3.alloc (.cells (dH N1 A1) 40)) W':=by
  rw [hW'];exact aM (dH N1 A1).toList (W3.alloc (.cells (dH N1 A1) 40)) 0
 have HAT:=Hq (λW'' (ho:Out c w W' W'')=>(show RM W'' A1 N1 from(by
  obtain⟨F,hk,hF⟩:=ho
  exact Zv _ ⟨(w.heap.size+2)::F,aC.trans (b:=W') ((aC.of_below (ay W3 (.cells (dH N1 A1) 40))).trans (gu.mono (λx hx=>Aav))) (hk.mono (λx hx=>Aaj)),λy hy=>by
   rcases List.mem_cons.1 hy with h1|h1
   .exact VB
   .exact⟨Nat.lt_of_lt_of_le (hF y h1).1 h02,by rw [fq (hF y h1).1];exact(hF y h1).2⟩⟩)))
 have HMT:=Hq (λW'' (ho:Out c w W' W'')=>(show GR.At lu 7 W'' ma L1 from(by
  obtain⟨F,hk,hF⟩:=ho
  exact adU _ ⟨(w.heap.size+2)::F,aC.trans (b:=W') ((aC.of_below (ay W3 (.cells (dH N1 A1) 40))).trans (gu.mono (λx hx=>Aav))) (hk.mono (λx hx=>Aaj)),λy hy=>by
   rcases List.mem_cons.1 hy with h1|h1
   .exact VB
   .exact⟨Nat.lt_of_lt_of_le (hF y h1).1 h02,by rw [fq (hF y h1).1];exact(hF y h1).2⟩⟩)))
 open avD in exact agY):P:=h
theorem aoS.Aa4(h:P:=by
 have hnl:=aA kK;have hrl:=aA uP;go_wp2_with fail;rw [Bd];go_upto_region 5 with fail;go_wp2_with fail;have Ni:=Hq (yO.kc (k:=9) (KC.of_below (ay W1 (.cells #[] 98))) Aaa);have uT:=Hq (HB1.trans ((ay W1 (.cells #[] 98)).mono HB1.size));refine aW (λW' hW'=>?_)
 have e4:W'.heap[w.heap.size+1]?=some (.cells (dH n A) 40 (0,0)):=by
  exact aa1
 have gu:aC [w.heap.size+1] (W1.alloc (.cells #[] 98)) W':=by
  rw [hW'];exact aM (dH n A).toList (W1.alloc (.cells #[] 98)) 0
 have HAT:=Hq (λW'' (ho:Out c w W' W'')=>(Ni.kc (k:=9) ((KC.keeps gu (λx hx=>by have:x=w.heap.size+1:=Aaf;rw [this];exact bq Aaa)).trans (KC.out H9 ho)) Aaa).rm);have ow:Hid (Below B w W'):=(uT.mono hB).trans (gu.below (λx hx=>by have:x=w.heap.size+1:=Aaf;omega) (Nat.le_trans hB (uT.mono hB).size));have tq:=Hq (Apart.keeps (c:=c) (Apart.of_below uT) (uT.mono hB).size gu (λx hx=>by have:x=w.heap.size+1:=Aaf;omega));obtain⟨x0,x1,x2,x3,x4,x5,x6,x7,x8⟩:=nine e4;clear hW' e4 gu;exact bodyPost_ret (v:= .tuple #[(fQ n A),.slice (some ⟨W1.heap.size,0,none⟩) 0 0,.int .i64 1]) Adb rfl ⟨A,some ⟨W1.heap.size,0,none⟩,0,rfl,HAT,λW'' _ i hi=>Aat,ow,tq⟩):P:=h
theorem aAu(h:P:=by
 open awz in exact ahf):P:=h
theorem aoT.Adr(h:P:=by
 have Gp:=Hq (show y3.heap[x2.heap.size]?=some (.cells (dZ no k nn 1) 95 (0,0)) from by rw [xV.block _ (aA (ah xK)) (λhm=>ah J8 _ hm.symm rfl)];exact xK);open axC in exact aaE):P:=h
theorem aoU.Adr(h:P:=by
 have Gp:=Hq (show y3.heap[x2.heap.size]?=some (.cells (dZ no k nn 0) 95 (0,0)) from by rw [xV.block _ (aA (ah xK)) (λhm=>ah J8 _ hm.symm rfl)];exact xK);open axB in exact aaE):P:=h
theorem akL(h:P:=by
 open axS in exact ahy):P:=h
theorem aoV.AcV(h:P:=by
 obtain⟨c0,c1,c2,c3,c4,c5,c6,c7,c8⟩:=nine kK;open apQ in exact aaP):P:=h
theorem aoW.AcV(h:P:=by
 obtain⟨g,e0,hBg,hgb⟩:∃g,gH=some ⟨g,0,none⟩/\B<=g/\(∀x,(Value.slice gH n.reqs.length aU).ownBlock=some x↔x=g):=by
  exact aA2
 obtain⟨g',off,e0',hg,q0,q1,q2,q3⟩:=gF.four yO.at.r i hi;rw [e0] at e0';simp only[Option.some.injEq,Addr.mk.injEq,and_true] at e0';obtain⟨rfl,rfl⟩:=e0';rw [Nat.zero_add] at q0 q1 q2 q3;rw [ah HST] at q3;obtain⟨c0,c1,c2,c3,c4,c5,c6,c7,c8⟩:=nine kK;open apP in exact aaP):P:=h
theorem aoX.AcV(h:P:=by
 obtain⟨g,off,e0,hg,q0,q1,q2,q3⟩:=gF.four yO.at.r i hi;rw [ah HST] at q3;obtain⟨c0,c1,c2,c3,c4,c5,c6,c7,c8⟩:=nine kK;open apO in exact aaP):P:=h
theorem aer(h:P:=by
 have h1:uh F=true:=by unfold mJ at hr;simp only[Bool.and_eq_true] at hr;exact hr.1.1
 have h2:uh T=true:=by unfold mJ at hr;simp only[Bool.and_eq_true] at hr;exact hr.1.2
 have hft:¬F=T:=by unfold mJ at hr;simp only[Bool.and_eq_true,decide_eq_true_iff] at hr;exact hr.2
 have H1:=Hq (λw1=>nH F true w1 h1);have H2:=Hq (λw1=>nH T true w1 h2);clear h1 h2;exact AbI):P:=h
theorem aoY.AbI(h:P:=by
 have HP:=Hq (show dw ⟨K,F,T,I,L,k,N⟩=false by simp[dw,hr,k0,k1,k2]);clear hr;exact aiH):P:=h
theorem aoZ.AbI(h:P:=by
 cases hc2:fK I
 case' false=>
  have HP:=Hq (show dw ⟨2,F,T,I,L,k,N⟩=false by simp[dw,hr,hc2]);have Gl:=Hq (λw1=>eU I false w1 hc2);exact ak4
 have Gl:=Hq (λw1=>eU I true w1 hc2);by_cases hz:k.size=0
 case' neg=>
  have hne:k.toList.isEmpty=false:=kC k Aaa;have HP:=Hq (show dw ⟨2,F,T,I,L,k,N⟩=false by simp[dw,hr,hc2,hz]);exact ak4
 obtain rfl:=eq_empty k hz;by_cases hzN:N=0
 case' neg=>
  have HP:=Hq (show dw ⟨2,F,T,I,L,ByteArray.empty,N⟩=false by simp[dw,hr,hc2,hz,hzN]);have he:(N == 0)=false:=by simp[hzN]
  exact aBN
 subst hzN;by_cases hzL:L=0
 case' neg=>
  have HP:=Hq (show dw ⟨2,F,T,I,L,ByteArray.empty,0⟩=false by simp[dw,hr,hc2,hz,hzL]);have he:(L == 0)=false:=by simp[hzL]
  exact aBN
 subst hzL;have HP:=Hq (show dw ⟨2,F,T,I,0,ByteArray.empty,0⟩=true by simp[dw,hr,hc2,hz]);exact ak4):P:=h
theorem ao0.AbI(h:P:=by
 cases hc2:keyOk k.data.toList
 case' false=>
  have HP:=Hq (show dw ⟨1,F,T,I,L,k,N⟩=false by simp[dw,hr,hc2]);exact aBQ
 have Gl:=Hq (λw1=>nU k true w1 hs hc2);cases hc3:fK N
 case' false=>
  have HP:=Hq (show dw ⟨1,F,T,I,L,k,N⟩=false by simp[dw,hr,hc2,hc3]);have HC3:=Hq (λw1=>eU N false w1 hc3);exact ak2
 have HC3:=Hq (λw1=>eU N true w1 hc3);cases hc4:fK I
 case' false=>
  have HP:=Hq (show dw ⟨1,F,T,I,L,k,N⟩=false by simp[dw,hr,hc2,hc3,hc4]);have HC4:=Hq (λw1=>eU I false w1 hc4);clear hr hc2 hc3 hc4;go_in
  go_wp2_with (first|(go_at_call_of 100 F;refine(H1 _).mono ?_;rintro e w1 ⟨rfl,rfl⟩)|(go_at_call_of 100 T;refine(H2 _).mono ?_;rintro e w1 ⟨rfl,rfl⟩)|(go_at_call_of 52 k;refine(Gl _).mono ?_;rintro e w1 ⟨rfl,rfl⟩)|(go_at_call_of 49 N;refine(HC3 _).mono ?_;rintro e w1 ⟨rfl,rfl⟩)|(go_at_call_of 49 I;refine(HC4 _).mono ?_;rintro e w1 ⟨rfl,rfl⟩))
  exact wP
 have HC4:=Hq (λw1=>eU I true w1 hc4);cases EH:decide (1<=L/\L<=I)
 case' false=>
  have HP:=Hq (show dw ⟨1,F,T,I,L,k,N⟩=false by simp[dw,hr,hc2,hc3,hc4,EH]);have HC5:=Hq (λw1=>yc L 1 I false w1 EH);exact aBF
 have HC5:=Hq (λw1=>yc L 1 I true w1 EH);have HP:=Hq (show dw ⟨1,F,T,I,L,k,N⟩=true by simp[dw,hr,hc2,hc3,hc4,EH]);exact aBF):P:=h
theorem ao1.AbI(h:P:=by
 cases hc2:keyOk k.data.toList
 case' false=>
  have HP:=Hq (show dw ⟨0,F,T,I,L,k,N⟩=false by simp[dw,hr,hc2]);exact aBQ
 have Gl:=Hq (λw1=>nU k true w1 hs hc2);cases hc3:fK N
 case' false=>
  have HP:=Hq (show dw ⟨0,F,T,I,L,k,N⟩=false by simp[dw,hr,hc2,hc3]);have HC3:=Hq (λw1=>eU N false w1 hc3);exact ak2
 have HC3:=Hq (λw1=>eU N true w1 hc3);by_cases hzI:I=0
 case' neg=>
  have HP:=Hq (show dw ⟨0,F,T,I,L,k,N⟩=false by simp[dw,hr,hc2,hc3,hzI]);have he:(I == 0)=false:=by simp[hzI]
  exact aBI
 subst hzI;by_cases hzL:L=0
 case' neg=>
  have HP:=Hq (show dw ⟨0,F,T,0,L,k,N⟩=false by simp[dw,hr,hc2,hc3,hzL]);have he:(L == 0)=false:=by simp[hzL]
  exact aBI
 subst hzL;have HP:=Hq (show dw ⟨0,F,T,0,0,k,N⟩=true by simp[dw,hr,hc2,hc3]);exact ak2):P:=h
theorem Oq(h:P:=by
 go_simp;refine aH 2 rfl Aab Aad ?_;go_simp;refine aH 4 rfl Aab Aad ?_;go_simp;refine wpAny_done Aab ?_;go_simp;go_wp2_with fail;exact AaY):P:=h
theorem ao2.AaY(h:P:=by
 go_meet
 case rel=>exact⟨rfl,GR.setW_blk (fP n.id n.par a_k n.kids.length aK n.next av RL.length cv dW n.out.length aQ eH n.seen.length aL IH.no (some ⟨g8,0,none⟩) n.reqs.length Et).toList (o:=0) (xs:=gN.toList) vY,(aC.of_below hg3).trans (aM (fP n.id n.par a_k n.kids.length aK n.next av RL.length cv dW n.out.length aQ eH n.seen.length aL IH.no (some ⟨g8,0,none⟩) n.reqs.length Et).toList x2 0)⟩):P:=h
theorem ao3.AaY(h:P:=by
 go_meet
 case rel=>exact⟨rfl,GR.setW_blk (fP n.id n.par a_k n.kids.length aK n.next av RL.length cv dW n.out.length aQ eH n.seen.length aL IH.no (some ⟨g8,0,none⟩) n.reqs.length Et).toList (o:=0) (xs:=gN.toList) vY,(aC.of_below hx).trans (aM (fP n.id n.par a_k n.kids.length aK n.next av RL.length cv dW n.out.length aQ eH n.seen.length aL IH.no (some ⟨g8,0,none⟩) n.reqs.length Et).toList x 0)⟩):P:=h
theorem ao4.AaY(h:P:=by
 go_meet
 case rel=>exact⟨rfl,GR.setW_blk (fP n.id n.par a_k n.kids.length aK n.next av RL.length cv dW n.out.length aQ eH n.seen.length aL n.old (some ⟨gv,0,none⟩) (n.reqs.length+1) vc).toList (o:=0) (xs:=gN.toList) vY,(aC.of_below hg3).trans (aM (fP n.id n.par a_k n.kids.length aK n.next av RL.length cv dW n.out.length aQ eH n.seen.length aL n.old (some ⟨gv,0,none⟩) (n.reqs.length+1) vc).toList x2 0)⟩):P:=h
theorem ao5.AaY(h:P:=by
 go_meet
 case rel=>exact⟨rfl,GR.setW_blk (fP n.id n.par a_k n.kids.length aK n.next av RL.length cv dW n.out.length aQ eH n.seen.length aL n.old (some ⟨gv,0,none⟩) (n.reqs.length+1) vc).toList (o:=0) (xs:=gN.toList) vY,(aC.of_below hx).trans (aM (fP n.id n.par a_k n.kids.length aK n.next av RL.length cv dW n.out.length aQ eH n.seen.length aL n.old (some ⟨gv,0,none⟩) (n.reqs.length+1) vc).toList x 0)⟩):P:=h
theorem ao6.AaY(h:P:=by
 go_meet
 case rel=>exact⟨rfl,GR.setW_blk (fP n.id n.par a_k n.kids.length aK n.next (some ⟨gp,0,none⟩) n.pu.length bJ dW n.out.length aQ eH n.seen.length aL IH.no (some ⟨g8,0,none⟩) n.reqs.length Et).toList (o:=0) (xs:=gN.toList) vY,(aC.of_below hg3).trans (aM (fP n.id n.par a_k n.kids.length aK n.next (some ⟨gp,0,none⟩) n.pu.length bJ dW n.out.length aQ eH n.seen.length aL IH.no (some ⟨g8,0,none⟩) n.reqs.length Et).toList x2 0)⟩):P:=h
theorem ao7.AaY(h:P:=by
 go_meet
 case rel=>exact⟨rfl,GR.setW_blk (fP n.id n.par a_k n.kids.length aK n.next (some ⟨gp,0,none⟩) n.pu.length bJ dW n.out.length aQ eH n.seen.length aL IH.no (some ⟨g8,0,none⟩) n.reqs.length Et).toList (o:=0) (xs:=gN.toList) vY,(aC.of_below hx).trans (aM (fP n.id n.par a_k n.kids.length aK n.next (some ⟨gp,0,none⟩) n.pu.length bJ dW n.out.length aQ eH n.seen.length aL IH.no (some ⟨g8,0,none⟩) n.reqs.length Et).toList x 0)⟩):P:=h
theorem ao8.AaY(h:P:=by
 go_meet
 case rel=>exact⟨rfl,GR.setW_blk (fP n.id n.par a_k n.kids.length aK n.next (some ⟨gp,0,none⟩) n.pu.length bJ dW n.out.length aQ eH n.seen.length aL n.old (some ⟨gv,0,none⟩) (n.reqs.length+1) vc).toList (o:=0) (xs:=gN.toList) vY,(aC.of_below hg3).trans (aM (fP n.id n.par a_k n.kids.length aK n.next (some ⟨gp,0,none⟩) n.pu.length bJ dW n.out.length aQ eH n.seen.length aL n.old (some ⟨gv,0,none⟩) (n.reqs.length+1) vc).toList x2 0)⟩):P:=h
theorem ao9.AaY(h:P:=by
 go_meet
 case rel=>exact⟨rfl,GR.setW_blk (fP n.id n.par a_k n.kids.length aK n.next (some ⟨gp,0,none⟩) n.pu.length bJ dW n.out.length aQ eH n.seen.length aL n.old (some ⟨gv,0,none⟩) (n.reqs.length+1) vc).toList (o:=0) (xs:=gN.toList) vY,(aC.of_below hx).trans (aM (fP n.id n.par a_k n.kids.length aK n.next (some ⟨gp,0,none⟩) n.pu.length bJ dW n.out.length aQ eH n.seen.length aL n.old (some ⟨gv,0,none⟩) (n.reqs.length+1) vc).toList x 0)⟩):P:=h
theorem aAv(h:P:=by
 obtain⟨IH,IT,hIQ⟩:∃IH IT,IQ=IH::IT:=by
  exact aBb
 subst hIQ;have hIT:IT.length=n.reqs.length:=by have:=ah HLQ;simp at this;omega
 have y0:wc.cell? ⟨gv,0,none⟩=some (.int .i64 IH.no):=by
  exact aA9
 have HTA:=Hq (show gF wc (some ⟨gv,1*4,none⟩) IT from GR.At.drop (HL6.lies aS).1 1);have aGg:=(HL6.lies aS).2 gv 0 rfl;obtain⟨c0,c1,c2,c3,c4,c5,c6,c7,c8⟩:=nine lT;have cf:=aj lT 7;have hnl:=aA lT;have aFE:decide ((30:Int) < ((n.reqs.length+1:Nat):Int))=true:=decide_eq_true Aaa;go_upto_region 19 with fail;refine wp_at (λW7 KN=>?_);have aHD:¬vc=1:=Aaa
 have aHE:1<=vc:=Aaa
 exact Afx):P:=h
theorem apa.Afx(h:P:=by
 have pE:Hid (W7.heap[w.heap.size]?=some (.cells (fP n.id n.par a_k n.kids.length aK n.next av RL.length cv dW n.out.length aQ eH n.seen.length aL IH.no (some ⟨gv,0,none⟩) (n.reqs.length+1) vc) 40 (0,0))):=by rw [KN];exact aR lT 7 _
 have mP:Hid (W7.heap[w.heap.size+2]?=some (.cells gN 40 (0,0))):=by rw [KN];exact gU _ Aaa jD
 have ZR:Hid (W7.heap[W1.heap.size]?=some (.cells (dZ no k nn 0) 95 (0,0))):=by rw [KN];exact gU _ Aaa C9
 have Dx:Hid (aI w W7):=by rw [KN];exact wL.setCell (p:=⟨w.heap.size,7,none⟩) (Nat.le_refl _) _
 have aeg:Hid (gF W7 (some ⟨gv,1*4,none⟩) IT):=by
  exact aiM
 have HP7:Hid (LO 108 gB 4 (w.heap.size+3) W7 av cv RL):=by rw [KN];exact ZQ.keeps (aC.set _) (λx hx=>by simp at hx;omega)
 clear KN HTA y0 cf c0 c1 c2 c3 c4 c5 c6 c7 c8 hnl lT jD C9 wL HL6 ZQ;open ap7 in exact aAB):P:=h
theorem apb.Afx(h:P:=by
 have pE:Hid (W7.heap[w.heap.size]?=some (.cells (fP n.id n.par a_k n.kids.length aK n.next (some ⟨gp,0,none⟩) n.pu.length bJ dW n.out.length aQ eH n.seen.length aL IH.no (some ⟨gv,0,none⟩) (n.reqs.length+1) vc) 40 (0,0))):=by rw [KN];exact aR lT 7 _
 have mP:Hid (W7.heap[w.heap.size+2]?=some (.cells gN 40 (0,0))):=by rw [KN];exact gU _ Aaa jD
 have ZR:Hid (W7.heap[W1.heap.size]?=some (.cells (dZ no k nn 1) 95 (0,0))):=by rw [KN];exact gU _ Aaa C9
 have Dx:Hid (aI w W7):=by rw [KN];exact wL.setCell (p:=⟨w.heap.size,7,none⟩) (Nat.le_refl _) _
 have aeg:Hid (gF W7 (some ⟨gv,1*4,none⟩) IT):=by
  exact aiM
 skip
 clear KN HTA y0 cf c0 c1 c2 c3 c4 c5 c6 c7 c8 hnl lT jD C9 wL HL6;open ap6 in exact aAB):P:=h
theorem aes(h:P:=by
 have hbw:aI wr W1:=by rw [hW1];exact ay wr _
 have AO:=Hq (au Gf hbw);have wM:=Hq (cZ.trans (hbw.mono cZ.size));exact Ab5):P:=h
theorem apc.Ab5(h:P:=by
 have HI1:=Hq (GR.At.below HI hbw);have hgw1:=hbw.size;have HKI:=Hq (GR.At.below HA wM)
 have CZ:Hid ((k=0/\pv=true)\/∃(j:Nat) (y:Int),k=j+1/\pv=decide (y < fr)/\W1.cell? ⟨g,off+j*3,none⟩=some (.int .i64 y)):=by
  rcases Rs with h|⟨j,y,h1,h2,h3⟩
  .exact .inl h
  .exact .inr ⟨j,y,h1,h2,(hbw.cell (p:=⟨g,off+j*3,none⟩) hgw).trans h3⟩
 clear hW1 hbw q0 q1 q2 c0 c1 c2 c3 c4 c5 c6 Rs HI Gf;obtain⟨d0,d1,d2⟩:=three HW1;open avl in exact agS):P:=h
theorem apd.Ab5(h:P:=by
 have hgw1:=hbw.size
 have CZ:Hid ((k=0/\pv=true)\/∃(j:Nat) (y:Int),k=j+1/\pv=decide (y < si)/\W1.cell? ⟨g,off+j*4,none⟩=some (.int .i64 y)):=by
  exact ai9
 clear hW1 hbw q0 q1 q2 q3 c0 c1 c2 c3 c4 c5 c6 c7 c8 Rs Gf;obtain⟨d0,d1,d2,d3⟩:=gG HW1;open avk in exact agS):P:=h
theorem ape.Ab5(h:P:=by
 clear hW1 hbw q0 q1 q2 q3 Gf;obtain⟨d0,d1,d2,d3⟩:=gG HW1;go_cut [56] (λr wx=>r= .bool bb/\wx=W1)
 case first=>
  by_cases g1:y < si
  case' neg=>
   have hb1:decide (si<=y)=true:=decide_eq_true Aaa
   have HV:=Hq (show bb=true by rw [<-ah eZ];simp[g1])
   clear eZ Av
   go_wp2_with (fail)
   go_meet
   case rel=>exact⟨Aan,rfl⟩
  have hb1:decide (si<=y)=false:=decide_eq_false Aaa;cases g2:qy si
  case' false=>
   have Hg2:=Hq (λw1=>j6 si false w1 g2)
   have HV:=Hq (show bb=true by rw [<-ah eZ];simp[g2])
   clear eZ Av
   go_wp2_with (first|(go_at_call 207;refine(Hg2 _).mono ?_;rintro e w9 ⟨rfl,rfl⟩))
   go_meet
   case rel=>exact⟨Aan,rfl⟩
  have Hg2:=Hq (λw1=>j6 si true w1 g2);cases g3:keyOk sx.data.toList
  case' false=>
   have Hg3:=Hq (λw1=>iC sx false w1 g3)
   have HV:=Hq (show bb=true by rw [<-ah eZ];simp[g3])
   clear eZ Av
   go_wp2_with (first|(go_at_call 207;refine(Hg2 _).mono ?_;rintro e w9 ⟨rfl,rfl⟩)|(go_at_call 204;refine(Hg3 _).mono ?_;rintro e w9 ⟨rfl,rfl⟩))
   go_meet
   case rel=>exact⟨Aan,rfl⟩
  have Hg3:=Hq (λw1=>iC sx true w1 g3);cases g4:fK sn
  case' false=>
   have Hg4:=Hq (λw1=>aT sn false w1 g4)
   have HV:=Hq (show bb=true by rw [<-ah eZ];simp[g4])
   clear eZ Av
   go_wp2_with (first|(go_at_call 207;refine(Hg2 _).mono ?_;rintro e w9 ⟨rfl,rfl⟩)|(go_at_call 204;refine(Hg3 _).mono ?_;rintro e w9 ⟨rfl,rfl⟩)|(go_at_call 169;refine(Hg4 _).mono ?_;rintro e w9 ⟨rfl,rfl⟩))
   go_meet
   case rel=>exact⟨Aan,rfl⟩
  have Hg4:=Hq (λw1=>aT sn true w1 g4);by_cases g5:0<=st
  case' neg=>
   have hb5:decide (st < 0)=true:=decide_eq_true Aaa
   have HV:=Hq (show bb=true by rw [<-ah eZ];simp[g5])
   clear eZ Av
   go_wp2_with (first|(go_at_call 207;refine(Hg2 _).mono ?_;rintro e w9 ⟨rfl,rfl⟩)|(go_at_call 204;refine(Hg3 _).mono ?_;rintro e w9 ⟨rfl,rfl⟩)|(go_at_call 169;refine(Hg4 _).mono ?_;rintro e w9 ⟨rfl,rfl⟩))
   go_meet
   case rel=>exact⟨Aan,rfl⟩
  have hb5:decide (st < 0)=false:=decide_eq_false Aaa;by_cases g6:st<=2
  case' neg=>
   have hb6:decide (2 < st)=true:=decide_eq_true Aaa
   have HV:=Hq (show bb=true by rw [<-ah eZ];simp[g6])
   clear eZ Av
   go_wp2_with (first|(go_at_call 207;refine(Hg2 _).mono ?_;rintro e w9 ⟨rfl,rfl⟩)|(go_at_call 204;refine(Hg3 _).mono ?_;rintro e w9 ⟨rfl,rfl⟩)|(go_at_call 169;refine(Hg4 _).mono ?_;rintro e w9 ⟨rfl,rfl⟩))
   go_meet
   case rel=>exact⟨Aan,rfl⟩
  have hb6:decide (2 < st)=false:=decide_eq_false Aaa;have HV:=Hq (show bb=false by rw [<-ah eZ];simp[g1,g2,g3,g4,g5,g6]);clear eZ Av;go_wp2_with (first|(go_at_call 207;refine(Hg2 _).mono ?_;rintro e w9 ⟨rfl,rfl⟩)|(go_at_call 204;refine(Hg3 _).mono ?_;rintro e w9 ⟨rfl,rfl⟩)|(go_at_call 169;refine(Hg4 _).mono ?_;rintro e w9 ⟨rfl,rfl⟩))
  go_meet
  case rel=>exact⟨Aan,rfl⟩
 case rest=>
  obtain⟨rfl,rfl⟩:=hcut;clear eZ;cases hbv:bb
  .have HG:=Hq (show gZ KB RR (reqs.take (k+1))=true by rw [ah Av,hbv];rfl);subst hbv;clear HBAD Av;go_wp2_with fail;go_roundw
   case rel=>exact⟨k+1,si,Aaa,Aah,rfl,Dy.symm,HG,AO,wM⟩
   case measure=>simp[intOf];omega
  .have HP:=Hq (HBAD (by rw [ah Av,hbv];rfl));subst hbv;clear HBAD Av;go_wp2_with fail;go_ret;exact⟨aF HP.symm,wM⟩):P:=h
theorem apf.Ab5(h:P:=by
 clear hW1 hbw q0 q1 q2 q3 Gf;obtain⟨d0,d1,d2,d3⟩:=gG HW1;obtain⟨c0,c1,c2,c3,c4,c5,c6,c7,c8⟩:=nine AO;go_cut [46] (λr wx=>r= .bool bb/\aI W1 wx)
 case first=>
  by_cases h1:y < si
  case' neg=>
   have HV:=Hq (show bb=true by rw [<-ah eZ];simp[h1])
   have hb1:decide (si<=y)=true:=decide_eq_true Aaa
   clear eZ Av
   go_wp2_with fail
   go_meet
   case rel=>exact⟨Aan,Below.refl _ _⟩
  have hb1:decide (si<=y)=false:=decide_eq_false Aaa;by_cases h2:si < next
  case' neg=>
   have HV:=Hq (show bb=true by rw [<-ah eZ];simp[h2])
   have hb2:decide (next<=si)=true:=decide_eq_true Aaa
   clear eZ Av
   go_wp2_with fail
   go_meet
   case rel=>exact⟨Aan,Below.refl _ _⟩
  have hb2:decide (next<=si)=false:=decide_eq_false Aaa;go_wp2_with fail;refine(Ro _ _ wM).mono ?_;rintro e w2 ⟨rfl,hb3⟩;have HB3:=Hq hb3;have HW2:=Hq (au HW1 hb3);clear hb3 d0 d1 d2 d3 c0 c1 c2 c3 c4 c5 c6 c7 c8;obtain⟨d0,d1,d2,d3⟩:=gG HW2;cases h3:NN st
  case' false=>
   have HV:=Hq (show bb=true by rw [<-ah eZ];simp[h3])
   clear eZ Av h3
   go_wp2_with fail
   go_meet
   case rel=>exact⟨Aan,HB3⟩
  cases h4:keyOk sx.data.toList
  case' false=>
   have HV:=Hq (show bb=true by rw [<-ah eZ];simp[h4])
   have H4:=Hq (λw1=>iC sx false w1 h4)
   clear eZ Av h3 h4
   go_wp2_with (go_at_call 204;refine(H4 _).mono ?_;rintro e w9 ⟨rfl,rfl⟩)
   go_meet
   case rel=>exact⟨Aan,HB3⟩
  have H4:=Hq (λw1=>iC sx true w1 h4);have HV:=Hq (show bb= !fK sn by rw [<-ah eZ];simp[h1,h2,h3,h4]);have H5:=Hq (λw1=>aT sn _ w1 rfl);clear eZ Av h3 h4;go_wp2_with (first|(go_at_call 204;refine(H4 _).mono ?_;rintro e w9 ⟨rfl,rfl⟩)|(go_at_call 169;refine(H5 _).mono ?_;rintro e w9 ⟨rfl,rfl⟩))
  go_meet
  case rel=>exact⟨Aan,HB3⟩
 case rest=>
  obtain⟨rfl,hbx⟩:=hcut;open awk in exact Vm):P:=h
theorem aAw(h:P:=by
 have uU:aI Z6 Z7:=by
  rw [hZ];exact ay Z6 _
 have pE:=Hq (au lT uU);have mP:=Hq (au jD uU);have HN7:=Hq (HN6.kc (k:=9) (KC.of_below uU) Aaa);have HP7:=Hq (GR.own_below ZQ uU);have Dx:=Hq (wL.trans (uU.mono (Nat.le_trans hB wL.size)));have HK7:=Hq (Ze.step wL.size uU);have hsb:w.heap.size+1 < Z6.heap.size:=aA jD;generalize Z6.heap.size=sb at *;clear hZ uU lT jD HN6 ZQ wL Ze c3n hn6;have c3n:=(nine pE).2.2.2.1;have f3n:=aj pE 3;have hn7:=aA pE;go_upto_region 9 with fail;refine wp_at (λZ8 hZ=>?_);have ru:Hid (Z8.heap[w.heap.size]?=some (.cells (fP n.id n.par a_k n.kids.length aK (n.next+1) av RL.length cv dW n.out.length aQ eH n.seen.length aL n.old gH n.reqs.length aU) 40 (0,0))):=by rw [hZ];exact oD pE
 have yS:Hid (Z8.heap[w.heap.size+1]?=some (.cells gN 40 (0,0))):=by rw [hZ];exact iT mP Aaa
 exact AeM):P:=h
theorem apg.AeM(h:P:=by
 have Z0:Hid (Z8.heap[sb]?=some (.cells (fA n.next dst key most) 91 (0,0))):=by rw [hZ];exact iT HS7 Aaa
 open aqY in exact aAF):P:=h
theorem aph.AeM(h:P:=by
 have Z0:Hid (Z8.heap[sb]?=some (.cells (fA n.next dst key pf) 91 (0,0))):=by rw [hZ];exact iT HS7 Aaa
 open aqX in exact aAF):P:=h
theorem aAx(h:P:=by
 clear hz hok hm hL he HR hw hF hks hb HID;generalize (takeN n o.m).1=n' at *;open auF in exact aat):P:=h
theorem apj.Aej(h:P:=by
 obtain⟨c0,c1,c2,c3,c4,c5,c6,c7,c8,c9⟩:=jH HY.blk;obtain⟨⟨p0,p1,p2,p3,p4,p5,p6⟩,_⟩:=eT Ed;have alJ:=aA HY.blk;have aG4:=aA Ed;go_upto_region 10 with fail;have y0:=cell_regrown c0;have z1:=cell_regrown p1;have z3:=cell_regrown p3;clear c0 c1 c2 c3 c4 c5 c6 c7 c8 c9 p0 p1 p2 p3 p4 p5 p6;refine dD 11 Aab ?_;show fC _ _ _ _ _ 12 (Array.replicate 12 false) _ _
 refine tk [0,1,2,3,4,5,6,7,8,9,10] ?_;iterate 11 (refine uS (λK hK=>?_);go_simp;refine hK _ ?_;clear hK K)
 refine jK ?_;clear y0 z1 z3;refine bH Aab (λx hx=>?_);have Jd:=Hq (HSY x A' G' c' n' (HY.step hx));clear hx;refine aH 11 rfl Aab Aad ?_;go_simp;refine Jd.mono ?_;rintro e z ⟨rfl,c2,v2,hZ⟩;have HZ:=Hq hZ;clear hZ Jd;refine wpAny_done Aab ?_;go_simp;go_wp2_with fail;go_ret;exact⟨rfl,A',G',c2,v2,HZ⟩):P:=h
theorem apk.Aej(h:P:=by
 go_wp2_with fail;go_ret;exact⟨rfl,A',G',c',v,by rw [List.append_nil];exact HY⟩):P:=h
theorem Ou(h:P:=by
 open axN in exact Om):P:=h
theorem apl.AaX(h:P:=by
 clear HO p0 p1 p2 p3 p4 p5 p6;have f1:=acL;open aFg in exact Sd):P:=h
theorem apm.AaX(h:P:=by
 clear HO HM p0 p1 p2 p3 p4 p5 p6;have f1:=acM;open arj in exact akO):P:=h
theorem apn.AaX(h:P:=by
 clear HO p0 p1 p2 p3 p4 p5 p6;have f1:=acM;open aFh in exact Sd):P:=h
theorem apo.AaX(h:P:=by
 clear HO p0 p1 p2 p3 p4 p5 p6;have f1:=VU;open aFi in exact Sd):P:=h
theorem apq.AaX(h:P:=by
 clear p0 p1 p2 p3 p4 p5 p6;refine dz Aab ?_;show gT _ _ _ _ 30 (Array.replicate 30 false) _ _
 open aot in exact aAr):P:=h
theorem apr.AaX(h:P:=by
 have y7:=cell_regrown p7;have y8:=cell_regrown p8;have y9:=cell_regrown p9;have y10:=cell_regrown nX;clear p0 p1 p2 p3 p4 p5 p6 p7 p8 p9 nX;refine dz Aab ?_;show gT _ _ _ _ 23 (Array.replicate 23 false) _ _
 open aou in exact aAr):P:=h
theorem aps.AaX(h:P:=by
 clear HO HM p0 p1 p2 p3 p4 p5 p6;have f1:=VU;open ari in exact akO):P:=h
theorem apt.AaX(h:P:=by
 clear HO HM p0 p1 p2 p3 p4 p5 p6;have f1:=acL;open arh in exact akO):P:=h
theorem xP(h:P:=by
 have hke:k=l.length:=Aaa
 subst hke;have hnlt:decide ((l.length:Int) < (l.length:Int))=false:=Aac
 exact AaT):P:=h
theorem apu.AaT(h:P:=by
 have HX:=Hq (show aD l key=⟨key,0,0,0⟩ by
  have h:=ah HN
  rw [List.take_length] at h
  unfold aD
  rw [h]
  rfl)
 go_wp2_with fail;refine bodyPost_ret (v:= .agg (iZ key 0 0 0)) (by simp[results,results151,go_sem]) rfl ⟨by rw [ah HX],?_⟩;exact(Below.refl _ _).alloc (Nat.le_refl _) _):P:=h
theorem apv.AaT(h:P:=by
 have h:=ah HN;rw [List.take_length] at h;have HF:=Hq h;clear h;go_wp2_with fail;go_ret;exact⟨aF HF.symm,rfl⟩):P:=h
theorem apw.AaT(h:P:=by
 go_wp2_with fail;go_ret;exact⟨rfl,⟨T,I,HB,hTl,HI,HIM⟩,cZ⟩):P:=h
theorem apx.AaT(h:P:=by
 have HX:=Hq (show aD l key=⟨key,0,0,0⟩ by
  have h:=ah HN
  rw [List.take_length] at h
  unfold aD
  rw [h]
  rfl)
 go_wp2_with fail;refine(jB _).mono ?_;rintro e w1 ⟨rfl,hb1⟩;have hB:w1.heap[w.heap.size]?=some (.cells (iZ ⟨#[]⟩ 0 0 0) 108 (0,0)):=by rw [hb1.block _ ae8];exact Gf
 have HB:=Hq hB;have HB2:=Hq (cZ.trans (hb1.mono cZ.size));obtain⟨⟨r0,r1,r2,r3⟩,s0,s1,s2,s3⟩:=gD hB;clear hB hb1;go_wp2_with fail;clear r0 r1 r2 r3;refine Fo.bodyPost_at (λW' hW'=>?_);obtain⟨⟨r0,r1,r2,r3⟩,_⟩:=gD (show W'.heap[w.heap.size]?=some (.cells (iZ key 0 0 0) 108 (0,0)) by rw [hW'];exact Fo.four_set HB);have hbb:aI w W':=by rw [hW'];exact Fo.four_below HB2 (Nat.le_refl _)
 refine bodyPost_ret (v:= .agg (iZ key 0 0 0)) (by simp[results,results240,go_sem,r0,r1,r2,r3]) rfl ⟨by rw [ah HX],hbb⟩):P:=h
theorem apy.AaT(h:P:=by
 go_wp2_with fail;go_ret;exact⟨a',c',g,hg,rfl,HB,cZ⟩):P:=h
theorem apz.AaT(h:P:=by
 have h:=ah HN;rw [List.take_length] at h;have HF:=Hq h;clear h;go_wp2_with fail;go_ret;exact⟨⟨-1,rfl,by rw [ah HF];rfl⟩,rfl⟩):P:=h
theorem apA.AaT(h:P:=by
 go_wp2_with fail;go_ret2
 have h:=ah HP;rw [List.take_length] at h;exact⟨_,_,_,rfl,h,cZ⟩):P:=h
theorem apB.AaT(h:P:=by
 have Rs:=Hq (place_at l pk l.length (Nat.le_refl _) kX (λh=>absurd h (Nat.lt_irrefl _))).1;exact aja):P:=h
theorem apC.AaT(h:P:=by
 go_wp2_with fail;go_ret;exact⟨_,rfl,GR.own_below HO cZ,HB1.trans (cZ.mono HB1.size)⟩):P:=h
theorem apD.AaT(h:P:=by
 have HF:=Hq (Yi kX);go_wp2_with fail;go_ret;exact⟨aF (by rw [ah HF];simp<;>omega),cZ⟩):P:=h
theorem apE.AaT(h:P:=by
 go_wp2_with fail;go_ret;have h:=ah kX;rw [List.take_length] at h;exact⟨z,rfl,.inr ⟨hz0,hz1,Aaa,h⟩,cZ⟩):P:=h
theorem apF.AaT(h:P:=by
 go_wp2_with fail;go_ret;have h:=ah kX;rw [List.take_length] at h;exact⟨z,rfl,cZ,.inr ⟨hz0,hz1,Aaa,h⟩⟩):P:=h
theorem apG.AaT(h:P:=by
 have HP:=Hq (take_same HN HT);go_wp2_with fail;go_ret;exact .yes HP cZ):P:=h
theorem apH.AaT(h:P:=by
 go_wp2_with fail;go_ret;exact⟨rfl,cZ⟩):P:=h
theorem apI.AaT(h:P:=by
 go_wp2_with fail;go_ret;have h:=ah HB;rw [List.take_length,Nat.sub_self,List.replicate_zero,List.append_nil] at h;exact⟨rfl,h,cZ⟩):P:=h
theorem aeu(h:P:=by
 open aqy in exact aev):P:=h
theorem apJ.AbY(h:P:=by
 open azF in exact Vs):P:=h
theorem apK.AbY(h:P:=by
 refine lH 11 rfl Aab Aab Aab (λ_ _ _ _ h=>h) Aad 40 _ rfl g 0 rfl (dH k.node (⟨nk,np,no,ns,nr,nck,ncp,nco,ncs,ncr⟩:bV)).toList _ hr0 hgl underlying40 rfl Aab ?_;refine aP 12 rfl Aab Aab Aab (λ_ _ _ _ h=>h) (λK hK=>?_);open aoK in exact aep):P:=h
theorem apL.AbY(h:P:=by
 open azn in exact Vq):P:=h
theorem apM.AbY(h:P:=by
 exact AbQ):P:=h
theorem aaP(h:P:=by
 obtain⟨d0,d1,d2,d3,d4,d5,d6,d7,d8⟩:=nine qD;have f0:=aj qD 0;have f1:=aj qD 1;have f2:=aj qD 2;have f3:=aj qD 3;have f4:=aj qD 4;have f5:=aj qD 5;have f6:=aj qD 6;have f7:=aj qD 7;have f8:=aj qD 8;exact Aa9):P:=h
theorem apN.Aa9(h:P:=by
 open ayk in exact ahJ):P:=h
theorem apO.Aa9(h:P:=by
 have hnl:=aA kK;have hrl:=aA qD;clear q0 q1 q2 HST;dsimp only at e0;subst e0;go_wp2_with fail;refine aW (λW' hW'=>?_)
 have e4:W'.heap[w.heap.size+1]?=some (.cells (fP n.id n.par a_k n.kids.length aK n.next jl n.pu.length bJ dW n.out.length aQ eH n.seen.length aL n.old (some ⟨g,off,none⟩) n.reqs.length aU) 40 (0,0)):=by
  exact aAZ
 have gu:aC [w.heap.size+1] W1 W':=by
  exact aA1
 open ar5 in exact aAO):P:=h
theorem apP.Aa9(h:P:=by
 have hnl:=aA kK;have hrl:=aA qD;first|dsimp only at e0|skip
 subst e0;have HQ3:=Hq q3;have HQS:=Hq (And.intro q0 (And.intro q1 (And.intro q2 q3)));generalize n.reqs[i].k=qk at *;exact AaN):P:=h
theorem apQ.Aa9(h:P:=by
 have hnl:=aA kK;open ayj in exact ahJ):P:=h
theorem apR.Aa9(h:P:=by
 have hrl:=aA qD;go_wp2_with fail;refine aW (λW' hW'=>?_)
 have e4:W'.heap[w.heap.size+2]?=some (.cells (dH n A1) 40 (0,0)):=by
  rw [hW'];exact GR.setW_blk (dH n A1).toList (o:=0) (xs:=gN.toList) qD
 have gu:aC [w.heap.size+2] X W':=by
  rw [hW'];exact aM (dH n A1).toList X 0
 open ayg in exact ahH):P:=h
theorem aaQ(h:P:=by
 rw [hmo] at ZJ;unfold mY at ZJ;have Ro:=Hq (λW (ha:bZ W A.k n.kids)=>FX n A mF W hkl ha);rw [h2] at Ro;clear hmo h2;have lI:=Hq (h.nine hB);clear h;go_in
 go_upto_region 1 with fail;refine wp_at (λW0 hW=>?_);exact AbE):P:=h
theorem apS.AbE(h:P:=by
 obtain⟨e1,e2,e3,e4⟩:=gI w (.cells (dH n A) 40) (.cells (bX 0 mF mT mI mL mk mN) 98) (.cells gN 40);open aDY in exact Yk3):P:=h
theorem apT.AbE(h:P:=by
 obtain⟨e1,e2,e3,e4⟩:=gI w (.cells (dH n A) 40) (.cells (bX 0 mF mT mI mL mk mN) 98) (.cells gN 40);open aDZ in exact Yk3):P:=h
theorem apU.AbE(h:P:=by
 obtain⟨e1,e2,e3,e4⟩:=gI w (.cells (dH n A) 40) (.cells (bX mK mF mT mI mL mk mN) 98) (.cells gN 40);open aD0 in exact Yk3):P:=h
theorem apV.AbE(h:P:=by
 obtain⟨e1,e2,e3,e4⟩:=gI w (.cells (dH n A) 40) (.cells (bX 2 mF mT mI mL mk mN) 98) (.cells gN 40);open aD1 in exact Yk3):P:=h
theorem apW.AbE(h:P:=by
 obtain⟨e1,e2,e3,e4⟩:=gI w (.cells (dH n A) 40) (.cells (bX 1 mF mT mI mL mk mN) 98) (.cells gN 40);open aD2 in exact Yk3):P:=h
theorem aAy(h:P:=by
 go_upto_region 1 with fail;have y0:=cell_regrown c0;have y1:=cell_regrown c1;clear c0 c1;refine dz Aab ?_;show gT _ _ _ _ 14 (Array.replicate 14 false) _ _
 refine tk [0,1,2,3,4,5,6,7] ?_;iterate 8 (refine AJ (λK hK=>?_);go_simp;refine hK _ ?_;clear hK K)
 refine jK ?_;refine aP 8 rfl Aab Aab Aab (λ_ _ _ _ h=>h) (λK hK=>?_);go_simp
 first
  |(refine hK _ ?_;clear hK K)
  |(apply Exists.intro
    refine⟨λ_=>?_,hK _ ?_⟩
    (exact HC _ (R7 _))
    clear hK K)
 refine tk [9,10,11,12,13] ?_;iterate 5 (refine AJ (λK hK=>?_);go_simp;refine hK _ ?_;clear hK K)
 refine jK ?_;refine fu Aab (λz hz=>?_);have HZ:=Hq hz;have Jc:=Hq (aN H hz);clear hz y0 y1 R7 HC H;go_simp;go_wp2_with fail;refine(HG _ Jc).mono ?_;rintro e w1 ⟨rfl,rfl⟩;go_wp2_with fail;exact AfO):P:=h
theorem apX.AfO(h:P:=by
 exact⟨rfl,rfl,HZ⟩):P:=h
theorem apY.AfO(h:P:=by
 go_ret;exact⟨rfl,jE.set Jc _,(dR.of_below HZ).trans (dR.set _)⟩):P:=h
theorem aAz(h:P:=by
 open au6 in exact agL):P:=h
theorem apZ.AfJ(h:P:=by
 rintro e W3 ⟨A1,G1,cc,rfl,Zp,hb3,_,_⟩;have lK:=Hq (au yR hb3);have HB3:=Hq (gY.trans (hb3.mono gY.size));have lI:=Hq Zp;have hrs:=aA yR;clear hb3 Zp c0 c1 c2 c3 c4 c5 c6 c7 c8 hnl Ng CY aku yR;exact aBn):P:=h
theorem ap0.AfJ(h:P:=by
 rintro e W3 ⟨A1,G1,cc,rfl,Zp,hb3,hP1,hP2,hR1,hR2⟩;have lK:=Hq (au yR hb3);have lJ:=Hq (au CY hb3);have Kh:=Hq (au aku hb3);have HB3:=Hq (gY.trans (hb3.mono gY.size));have HPR:=Hq (And.intro (And.intro hP1 hP2) (And.intro hR1 hR2));have lI:=Hq (Zp.flat (b:=0) (Nat.zero_le _));have Zz:=Hq (λx (hx:x < w.heap.size+3)=>Xm (b:=0) (Nat.zero_le _) (Zp.lo x (by have:=aA yR;omega)));have hrs:=aA yR;have H9:=Hq (abE 0 cc);generalize xA 0 cc=c at *;have Gl:=Hq (Zz (w.heap.size+2) Aaa);have Nf:=Hq (Zz w.heap.size Aaa);clear hb3 Zp hP1 hP2 hR1 hR2 c0 c1 c2 c3 c4 c5 c6 c7 c8 hnl Ng CY aku yR;obtain⟨d0,d1,d2,d3,d4,d5,d6,d7,d8⟩:=nine lJ;have f0:=aj lJ 0;have f1:=aj lJ 1;have f2:=aj lJ 2;have f3:=aj lJ 3;have f4:=aj lJ 4;have f5:=aj lJ 5;have f6:=aj lJ 6;have f7:=aj lJ 7;have f8:=aj lJ 8;obtain⟨⟨p0,p1,p2,p3,p4,p5,p6,p7,p8,p9,nX⟩,_⟩:=aO Kh;have hnl:=aA lJ;have hol:=aA Kh;go_upto_region 5 with fail;refine wp_at (λX hX=>?_)
 have e5:X.heap[w.heap.size]?=some (.cells (dH n A1) 40 (0,0)):=by
  exact aA5
 have hkx:aC [w.heap.size] W3 X:=by
  exact aBe
 have iG:=Hq e5;have HOX:=Hq ((hkx.block _ (aA Kh) Aac).trans Kh);have qD:=Hq ((hkx.block _ (aA lK) Aac).trans lK);have jP:=Hq (HB3.trans (hkx.below (B:=w.heap.size) (λx hx=>by have:x=w.heap.size:=Aaf;omega) HB3.size));have AQ:=Hq (lI.kc (k:=9) (KC.keeps hkx (λx hx=>by have:x=w.heap.size:=Aaf;rw [this];exact Nf)) Aaa);exact Kk0):P:=h
theorem akM(h:P:=by
 obtain⟨pk,pm,pf,ps⟩:=p;unfold iD at hp;simp only[Bool.and_eq_true] at hp;obtain⟨⟨⟨⟨_,a1⟩,a2⟩,a3⟩,a4⟩:=hp;have b1:0<=pm/\pm<=1000000000:=of_decide_eq_true a1;have b2:0<=pf/\pf<=1000000000:=of_decide_eq_true a2;have b3:0<=ps/\ps<=1000000000:=of_decide_eq_true a3;obtain⟨Nq,a11⟩:=b1;obtain⟨a20,a21⟩:=b2;obtain⟨a30,a31⟩:=b3;obtain⟨h10,h11⟩:=h1;obtain⟨h20,h21⟩:=h2;obtain⟨h30,h31⟩:=h3;clear a1 a2 a3 a4;exact AcZ):P:=h
theorem ap1.AcZ(h:P:=by
 dsimp only at hf;clear he;rcases hf with hf|⟨hf,hs⟩
 all_goals
  go_in
  go_upto_region 5 with fail
  refine Fo.wp_at (λV hV=>?_)
  obtain⟨_,hC,hbel⟩:=Ai (w:=w) (w1:=V) (by rw [hV];exact Below.refl _ _)
  have HC:=Hq hC
  have cZ:=Hq hbel
  have vv:=(HE.below hbel).var 4 Aaa
  have hsz:=(show w.heap.size+1+1 < V.heap.size from Fo.lt_of_blk hC)
  obtain⟨⟨r0,r1,r2,r3⟩,s0,s1,s2,s3⟩:=gD hC
  clear hC hbel hV
  go_region
  all_goals
   go_wp2_with fail
   refine Fo.bodyPost_at (λW' hW'=>?_)
   obtain⟨⟨t0,t1,t2,t3⟩,_⟩:=gD (show W'.heap[w.heap.size+1+1]?=some (.cells (iZ ⟨#[]⟩ 0 0 0) 108 (0,0)) by rw [hW'];exact Fo.four_set (w:=V.drew) HC)
   have hbb:aI w W':=by rw [hW'];exact Fo.four_below (w:=V.drew) (cZ.trans ⟨rfl,rfl,rfl,Nat.le_refl _,λ_ _=>rfl⟩) Aaa
   exact bodyPost_ret (v:= .tuple #[.agg (iZ ⟨#[]⟩ 0 0 0),tL (E 4)]) (by simp[results,results303,go_sem,t0,t1,t2,t3]) rfl ⟨rfl,hbb⟩):P:=h
theorem ap2.AcZ(h:P:=by
 dsimp only at hf hs;clear hok he;open az9 in exact aii):P:=h
theorem ap3.AcZ(h:P:=by
 dsimp only at hf hs;clear hok;open az8 in exact aii):P:=h
theorem aAA(h:P:=by
 have tq:=Hq gu;clear gu;refine aH 12 rfl Aab Aad ?_;go_simp;refine aH 13 rfl Aab Aad ?_;go_simp;refine wpAny_done Aab ?_;go_simp;go_wp2_with fail;refine aW (λW' hW'=>?_);subst hW';have gu:=ah tq;open ayf in exact ahH):P:=h
theorem ap4.Ac9(h:P:=by
 exact bodyPost_ret (v:= .tuple #[(fQ n A1),.slice (some ⟨y.heap.size,0,none⟩) 1 1,.int .i64 0]) Aay rfl ⟨A1,some ⟨y.heap.size,0,none⟩,1,rfl,HAT,HMT,ow⟩):P:=h
theorem ap5.Ac9(h:P:=by
 exact bodyPost_ret (v:= .tuple #[(fQ n A1),.slice (some ⟨x.heap.size,0,none⟩) 1 1,.int .i64 0]) Aay rfl ⟨A1,some ⟨x.heap.size,0,none⟩,1,rfl,HAT,HMT,ow⟩):P:=h
theorem aAB(h:P:=by
 obtain⟨c0,c1,c2,c3,c4,c5,c6,c7,c8⟩:=nine pE;have cf:=aj pE 8;have hnl:=aA pE;obtain⟨i0,hi,hz0,hz1,hz2⟩:=info_parts wD;obtain⟨a8,Et,W8,hrun,Pe,GD,⟨g8,rfl⟩,hc8⟩:=run_copy_row (P:=prog) aS Aaa W7 38 95 i0 (.agg (dZ 0 ByteArray.empty 0 0)) 40 underlying38 hi hz0 hz1 hz2 rfl (some ⟨gv,1*4,none⟩) IT (vc - 1) aeg (iM _) Aai Aaa;rw [hIT,Nat.one_mul] at hrun;have WL:=Hq hrun;have ru:=Hq (au pE GD);have yS:=Hq (au mP GD);have ad7:=Hq (au ZR GD);have J7:=Hq (Dx.trans (GD.mono Dx.size));have HL8:=Hq (LO.own (en:=aJ) Pe);have hz7:w.heap.size+3<=W7.heap.size:=by have:=aA ZR;omega
 exact AdC):P:=h
theorem ap6.AdC(h:P:=by
 skip
 open axX in exact ahz):P:=h
theorem ap7.AdC(h:P:=by
 have Zh:=Hq (HP7.below GD);open axW in exact ahz):P:=h
theorem Da(h:P:=by
 unfold jN;have nW:=Hq (λW (h:aI w W)=>qj n A W (hz.mono Aaa) (ha.below h));rw [hok] at nW;exact AaU):P:=h
theorem ap8.AaU(h:P:=by
 have Ec:=Hq (λW=>jv ⟨K,no,k,nn,⟨mK,mF,mT,mI,mL,mk,mN⟩⟩ W Aam Aam);open anI in exact Em):P:=h
theorem ap9.AaU(h:P:=by
 have Ng:=Hq (λW (h:aI w W)=>uF n A W hz (ha.below h));clear hz ha hok;go_in
 go_upto_region 2 with fail;refine wp_at (λW1 hW=>?_);open atZ in exact agu):P:=h
theorem aqa.AaU(h:P:=by
 have jB:=Hq (λW A1 G1 c (hB:0<=W.heap.size) (h9:∀x,6 < c x->c x=9) (hp:((∃g,A1.p=some ⟨g,0,none⟩)/\n.pu.length<=A1.cp)/\(∃g,A1.r=some ⟨g,0,none⟩)/\n.reqs.length<=A1.cr) (hN:NQ W 0 n A1 G1 c)=>QZ n A1 G1 c no W 0 hB h9 hz hp.1.1 hp.1.2 (cu hok).2.2.2.2.2 hN);unfold iF at jB;generalize bC n no=GV at *;obtain⟨N1,Ch⟩:=GV;dsimp only at jB ⊢;have Ec:=Hq (λW=>jv ⟨2,no,k,nn,⟨mK,mF,mT,mI,mL,mk,mN⟩⟩ W Aam Aam);open anJ in exact Em):P:=h
theorem aqb.AaU(h:P:=by
 have jB:=Hq (λW A1 G1 c (hB:0<=W.heap.size) (h9:∀x,6 < c x->c x=9) (hp:((∃g,A1.p=some ⟨g,0,none⟩)/\n.pu.length<=A1.cp)/\(∃g,A1.r=some ⟨g,0,none⟩)/\n.reqs.length<=A1.cr) (hN:NQ W 0 n A1 G1 c)=>YH n A1 G1 c 1 no k nn mK mF mT mI mL mk mN W 0 hB h9 hz hk hp.1.1 hp.1.2 hp.2.1 hp.2.2 (cu hok).2.2.2.2.2 hN);unfold iF at jB;generalize fU n no k nn=GV at *;obtain⟨N1,Ch⟩:=GV;dsimp only at jB ⊢;have Ec:=Hq (λW=>jv ⟨1,no,k,nn,⟨mK,mF,mT,mI,mL,mk,mN⟩⟩ W Aam Aam);open anK in exact Em):P:=h
theorem aqc.AaU(h:P:=by
 have hpz:(decide (n.par < 0))=false:=by
  exact ajh
 have jB:=Hq (λW A1 G1 c (hB:0<=W.heap.size) (h9:∀x,6 < c x->c x=9) (hp:((∃g,A1.p=some ⟨g,0,none⟩)/\n.pu.length<=A1.cp)/\(∃g,A1.r=some ⟨g,0,none⟩)/\n.reqs.length<=A1.cr) (hN:NQ W 0 n A1 G1 c)=>QO n A1 G1 c n.par k nn W 0 hB h9 hz hk hp.1.1 hp.1.2 (by have h:=(cu hok).2.2.2.1;unfold fK at h;simp at h;omega) hN);unfold fG at jB;generalize fD n n.par k nn=GV at *;obtain⟨N1,L1,b1⟩:=GV;dsimp only at jB ⊢;generalize (if b1=true then(0:Int) else 1)=Ch at *;have Ec:=Hq (λW=>jv ⟨4,no,k,nn,⟨mK,mF,mT,mI,mL,mk,mN⟩⟩ W Aam Aam);open anL in exact Em):P:=h
theorem aqd.AaU(h:P:=by
 have hmo:dw ⟨mK,mF,mT,mI,mL,mk,mN⟩=true:=by
  have h:=hop;unfold cK at h;dsimp only at h;rw [if_neg Aaa,if_neg Aaa,if_neg Aaa,if_neg Aaa,if_pos rfl,Bool.and_eq_true] at h;exact h.2
 have jB:=Hq (λW A1 G1 c (hB:0<=W.heap.size) (h9:∀x,6 < c x->c x=9) (hp:((∃g,A1.p=some ⟨g,0,none⟩)/\n.pu.length<=A1.cp)/\(∃g,A1.r=some ⟨g,0,none⟩)/\n.reqs.length<=A1.cr) (hN:NQ W 0 n A1 G1 c)=>adk n A1 G1 c mK mF mT mI mL mk mN W 0 hB h9 hz hmk hok hmo hp.1.1 hp.1.2 hN);clear hmo;unfold fG at jB;generalize Ck n ⟨mK,mF,mT,mI,mL,mk,mN⟩=GV at *;obtain⟨N1,L1,Ch⟩:=GV;dsimp only at jB ⊢;have Ec:=Hq (λW=>jv ⟨6,no,k,nn,⟨mK,mF,mT,mI,mL,mk,mN⟩⟩ W Aam Aam);open anM in exact Em):P:=h
theorem aqe.AaU(h:P:=by
 have hpz:(decide (n.par < 0))=true:=by rw [hpar];rfl
 clear hpar;have Ec:=Hq (λW=>jv ⟨4,no,k,nn,⟨mK,mF,mT,mI,mL,mk,mN⟩⟩ W Aam Aam);open anN in exact Em):P:=h
theorem aqf.AaU(h:P:=by
 have hpz:(decide (n.par < 0))=true:=by rw [hpar];rfl
 clear hpar;have Ec:=Hq (λW=>jv ⟨3,no,k,nn,⟨mK,mF,mT,mI,mL,mk,mN⟩⟩ W Aam Aam);open anO in exact Em):P:=h
theorem aqg.AaU(h:P:=by
 have hpg:(decide (n.par≥0))=false:=by rw [hpar];rfl
 have aCx:(decide (0<=n.par))=false:=hpg;clear hpar
 have jB:=Hq (λW (A1:bV) (hp:(∃g,A1.p=some ⟨g,0,none⟩)/\n.pu.length<=A1.cp) (hN:aG W A1.p n.pu)=>(by
  obtain⟨⟨g,hg⟩,hc⟩:=hp
  rw [hg] at hN ⊢
  have:=FU g 0 A1.cp n.pu k nn W (Nat.le_trans hz.p Aaa) hc hz.pk hk hN
  rw [hu] at this
  exact this:Calls prog 106 #[.slice A1.p n.pu.length A1.cp,.string k,.int .i64 nn] W (iV W (RL,true))))
 clear hu;unfold iV at jB;have Ec:=Hq (λW=>jv ⟨0,no,k,nn,⟨mK,mF,mT,mI,mL,mk,mN⟩⟩ W Aam Aam);open anP in exact Em):P:=h
theorem aqh.AaU(h:P:=by
 have hpg:(decide (n.par≥0))=false:=by rw [hpar];rfl
 have aCx:(decide (0<=n.par))=false:=hpg;clear hpar
 have jB:=Hq (λW (A1:bV) (hp:(∃g,A1.p=some ⟨g,0,none⟩)/\n.pu.length<=A1.cp) (hN:aG W A1.p n.pu)=>(by
  obtain⟨⟨g,hg⟩,hc⟩:=hp
  rw [hg] at hN ⊢
  have:=FU g 0 A1.cp n.pu k nn W (Nat.le_trans hz.p Aaa) hc hz.pk hk hN
  rw [hu] at this
  exact this:Calls prog 106 #[.slice A1.p n.pu.length A1.cp,.string k,.int .i64 nn] W (iV W (RL,false))))
 exact Zk9):P:=h
theorem aqi.AaU(h:P:=by
 have hpg:(decide (n.par≥0))=true:=by
  have h:=(cu hok).1;unfold eP at h;simp only[Bool.and_eq_true,decide_eq_true_eq] at h;exact decide_eq_true Aaa
 have aCx:(decide (0<=n.par))=true:=hpg
 have jB:=Hq (λW (A1:bV) (hp:(∃g,A1.p=some ⟨g,0,none⟩)/\n.pu.length<=A1.cp) (hN:aG W A1.p n.pu)=>(by
  obtain⟨⟨g,hg⟩,hc⟩:=hp
  rw [hg] at hN ⊢
  have:=FU g 0 A1.cp n.pu k nn W (Nat.le_trans hz.p Aaa) hc hz.pk hk hN
  rw [hu] at this
  exact this:Calls prog 106 #[.slice A1.p n.pu.length A1.cp,.string k,.int .i64 nn] W (iV W (RL,ok))))
 exact Zk9):P:=h
theorem aqj.AaU(h:P:=by
 have jB:=Hq (λW A1 (hN:dx W A1 n)=>adl n A1 W (hz.mono Aaa) hN);rw [show ac0 n=n.out.map (nZ n) from if_pos hok] at jB;unfold AL at jB;dsimp only at jB ⊢;generalize n.out.map (nZ n)=L1 at *;have Ec:=Hq (λW=>jv ⟨5,no,k,nn,⟨mK,mF,mT,mI,mL,mk,mN⟩⟩ W Aam Aam);open anQ in exact Em):P:=h
theorem aAC(h:P:=by
 open axw in exact aaC):P:=h
theorem aqk.AfB(h:P:=by
 open axG in exact ahw):P:=h
theorem aql.AfB(h:P:=by
 open avK in exact ag1):P:=h
theorem WX(h:P:=by
 have vW:=Hq (show aI w V by rw [hV];exact((Below.refl _ _).alloc (Nat.le_refl _) _).alloc Aac _);have hgV:=dG hblk;obtain⟨p0,p1,p2,p3,p4,p5,p6⟩:=tF hblk;clear hV hblk;exact Aa5):P:=h
theorem aqm.Aa5(h:P:=by
 have cO:∀d os,Calls prog 344 #[.agg #[.int .i64 F,.int .i64 T,.int .i64 I]] (Sort.grow (redrawn V d) os) λe w''=>e= .returned (.bool false)/\∃p:Regrown,w''=Sort.grow (redrawn V p.d) p.os:=λd os=>Calls.regrown_of (HO _)
 open apl in exact Ou):P:=h
theorem aqn.Aa5(h:P:=by
 have cO:∀d os,Calls prog 343 #[.agg #[.int .i64 F,.int .i64 T,.int .i64 I,.int .i64 L,.string k,.int .i64 N]] (Sort.grow (redrawn V d) os) λe w''=>e= .returned (.bool true)/\∃p:Regrown,w''=Sort.grow (redrawn V p.d) p.os:=λd os=>Calls.regrown_of (HO _)
 have cM:∀d os,Calls prog 259 #[.iface 284 (.agg #[.int .i64 F,.int .i64 T,.int .i64 I,.int .i64 L,.string k,.int .i64 N])] (Sort.grow (redrawn V d) os) λe w''=>e= .returned (mY ⟨1,F,T,I,L,k,N⟩)/\∃p:Regrown,w''=Sort.grow (redrawn V p.d) p.os:=λd os=>Calls.regrown_of (HM _)
 open apm in exact Ou):P:=h
theorem aqo.Aa5(h:P:=by
 have cO:∀d os,Calls prog 343 #[.agg #[.int .i64 F,.int .i64 T,.int .i64 I,.int .i64 L,.string k,.int .i64 N]] (Sort.grow (redrawn V d) os) λe w''=>e= .returned (.bool false)/\∃p:Regrown,w''=Sort.grow (redrawn V p.d) p.os:=λd os=>Calls.regrown_of (HO _)
 open apn in exact Ou):P:=h
theorem aqp.Aa5(h:P:=by
 have cO:∀d os,Calls prog 342 #[.agg #[.int .i64 F,.int .i64 T,.string k,.int .i64 N]] (Sort.grow (redrawn V d) os) λe w''=>e= .returned (.bool false)/\∃p:Regrown,w''=Sort.grow (redrawn V p.d) p.os:=λd os=>Calls.regrown_of (HO _)
 open apo in exact Ou):P:=h
theorem aqr.Aa5(h:P:=by
 have cO:∀d os,Calls prog 342 #[.agg #[.int .i64 F,.int .i64 T,.string k,.int .i64 N]] (Sort.grow (redrawn V d) os) λe w''=>e= .returned (.bool true)/\∃p:Regrown,w''=Sort.grow (redrawn V p.d) p.os:=λd os=>Calls.regrown_of (HO _)
 have cM:∀d os,Calls prog 259 #[.iface 282 (.agg #[.int .i64 F,.int .i64 T,.string k,.int .i64 N])] (Sort.grow (redrawn V d) os) λe w''=>e= .returned (mY ⟨0,F,T,0,0,k,N⟩)/\∃p:Regrown,w''=Sort.grow (redrawn V p.d) p.os:=λd os=>Calls.regrown_of (HM _)
 open aps in exact Ou):P:=h
theorem aqs.Aa5(h:P:=by
 have cO:∀d os,Calls prog 344 #[.agg #[.int .i64 F,.int .i64 T,.int .i64 I]] (Sort.grow (redrawn V d) os) λe w''=>e= .returned (.bool true)/\∃p:Regrown,w''=Sort.grow (redrawn V p.d) p.os:=λd os=>Calls.regrown_of (HO _)
 have cM:∀d os,Calls prog 259 #[.iface 286 (.agg #[.int .i64 F,.int .i64 T,.int .i64 I])] (Sort.grow (redrawn V d) os) λe w''=>e= .returned (mY ⟨2,F,T,I,0,ByteArray.empty,0⟩)/\∃p:Regrown,w''=Sort.grow (redrawn V p.d) p.os:=λd os=>Calls.regrown_of (HM _)
 open apt in exact Ou):P:=h
theorem aAD(h:P:=by
 have WL:=Hq hrun;clear hrun Jq Xy XG jM k9 hn9 Zh HN8 J7 HK8;have c5n:=(nine ru).2.2.2.2.2.1;obtain⟨s0,s1,s2,s3⟩:=gG Z0;have c5w:=(nine xJ).2.2.2.2.2.1;have f5w:=aj xJ 5;have hn8:=aA ru;have hs8:=aA Z0;go_upto_region 10 with(at_builtin;refine gK rfl _ _ 36 rfl _ _ rfl rfl _ _ WL ?_)
 refine wp_at (λZ9 hZ=>?_);have ND:Hid (Z9.heap[w.heap.size]?=some (.cells (fP n.id n.par a_k n.kids.length aK (n.next+1) av RL.length cv a6 (n.out.length+1) c6 eH n.seen.length aL n.old gH n.reqs.length aU) 40 (0,0))):=by rw [hZ];exact oD xJ
 have akA:Hid (Z9.heap[w.heap.size+1]?=some (.cells gN 40 (0,0))):=by rw [hZ];exact iT kZ Aaa
 exact AfP):P:=h
theorem aqt.AfP(h:P:=by
 have aef:Hid (Z9.heap[sb]?=some (.cells (fA n.next dst key pf) 91 (0,0))):=by rw [hZ];exact iT R6 Aaa
 have Dz:Hid (∀W' W'',aC [w.heap.size+1] Z9 W'->Out c w W' W''->RM W'' ⟨a_k,av,a6,eH,gH,aK,cv,c6,aL,aU⟩ ⟨n.id,n.par,n.kids,n.next+1,RL,n.out++[⟨n.next,dst,key,pf⟩],n.seen,n.old,n.reqs⟩):=λW' W'' hk ho=>by
  obtain⟨F,hk2,hF⟩:=ho
  refine iG W'' ⟨w.heap.size::(w.heap.size+1)::F,aC.trans (b:=Z9) (by rw [hZ];exact(aC.set _).mono (λx hx=>Aav)) (aC.trans (hk.mono (λx hx=>Aav)) (hk2.mono (λx hx=>Aaj))),λy hy=>?_⟩
  rcases List.mem_cons.1 hy with h1|h1
  .exact .inl (.inl h1)
  .exact ajL
 open avC in exact agX):P:=h
theorem aqu.AfP(h:P:=by
 have aef:Hid (Z9.heap[sb]?=some (.cells (fA n.next dst key most) 91 (0,0))):=by rw [hZ];exact iT R6 Aaa
 have Dz:Hid (∀W' W'',aC [w.heap.size+1] Z9 W'->Out c w W' W''->RM W'' ⟨a_k,av,a6,eH,gH,aK,cv,c6,aL,aU⟩ ⟨n.id,n.par,n.kids,n.next+1,RL,n.out++[⟨n.next,dst,key,most⟩],n.seen,n.old,n.reqs⟩):=λW' W'' hk ho=>by
  obtain⟨F,hk2,hF⟩:=ho
  refine iG W'' ⟨w.heap.size::(w.heap.size+1)::F,aC.trans (b:=Z9) (by rw [hZ];exact(aC.set _).mono (λx hx=>Aav)) (aC.trans (hk.mono (λx hx=>Aav)) (hk2.mono (λx hx=>Aaj))),λy hy=>?_⟩
  rcases List.mem_cons.1 hy with h1|h1
  .exact .inl (.inl h1)
  .exact ajL
 open avB in exact agX):P:=h
theorem aev(h:P:=by
 open arB in exact aex):P:=h
theorem aqv.AbT(h:P:=by
 refine aP 10 rfl Aab Aab Aab (λ_ _ _ _ h=>h) (λK hK=>?_);open apJ in exact aeu):P:=h
theorem aqw.AbT(h:P:=by
 refine aP 10 rfl Aab Aab Aab (λ_ _ _ _ h=>h) (λK hK=>?_);open apK in exact aeu):P:=h
theorem aqx.AbT(h:P:=by
 refine aP 5 rfl Aab Aab Aab (λ_ _ _ _ h=>h) (λK hK=>?_);open apL in exact aeu):P:=h
theorem aqy.AbT(h:P:=by
 exact AbY):P:=h
theorem WY(h:P:=by
 have HW1:=Hq (h.step (ay w (.cells (bY K no k nn mK mF mT mI mL mk mN) 100)));have yQ:=Hq (heap_alloc_new w (.cells (bY K no k nn mK mF mT mI mL mk mN) 100));exact Aa1):P:=h
theorem aqz.Aa1(h:P:=by
 clear h he hR hz hk hpar;open awU in exact Vn):P:=h
theorem aqA.Aa1(h:P:=by
 clear h hR hpar;obtain⟨c0,c1,c2,c3,c4,c5,c6,c7,c8,c9⟩:=jH HW1.blk;have hwl:=aA HW.blk;have hne:wb≠w.heap.size:=Aaa
 go_in
 go_upto_region 1 with fail;have y1:=cell_regrown c1;clear c0 c1 c2 c3 c4 c5 c6 c7 c8 c9;open avJ in exact ag1):P:=h
theorem aqB.Aa1(h:P:=by
 have hq2:(n.par == -1)=false:=Abg
 clear h hR hpar;open awT in exact Vn):P:=h
theorem aqC.Aa1(h:P:=by
 have hq2:(n.par == -1)=false:=Abg
 clear h hR hpar;generalize fD n n.par k nn=gv at *;obtain⟨gn,gl,gb⟩:=gv;dsimp only at Ed ⊢;open awS in exact Vn):P:=h
theorem aqD.Aa1(h:P:=by
 clear h ho;obtain⟨⟨p0,p1,p2,p3,p4,p5,p6,p7,p8,p9,nX⟩,_⟩:=aO yQ;have hpl:=aA yQ;go_in
 go_wp2_with fail;refine(HIO _).mono ?_;rintro e w2 ⟨rfl,hb2⟩;have HW2:=Hq (HW1.step hb2);have rz:=Hq (au yQ hb2);clear hb2 HW1 yQ p0 p1 p2 p3 p4 p5 p6 p7 p8 p9 nX HIO;exact AaF):P:=h
theorem aqE.Aa1(h:P:=by
 open awR in exact Vn):P:=h
theorem wO(h:P:=by
 obtain⟨id,par,kids,next,pu,out,seen,old,reqs⟩:=n;obtain⟨ak,ap,ao,as',ar,ck,cp,co,cs,cr⟩:=A;exact AaS):P:=h
theorem aqF.AaS(h:P:=by
 dsimp only at hl HA HD Ei wV Nt D9 ⊢;cases h1:uh id
 case' false=>
  have HP:=Hq (HD (by rw [h1];rfl));clear HD Ei wV Nt D9;go_in
  go_wp2_with (first|(go_at_call 100;refine(nH _ false _ h1).mono ?_;rintro e w1 ⟨rfl,rfl⟩))
  exact wP
 cases h2:decide (-1<=par/\par<=29)
 case' false=>
  have HP:=Hq (HD (by rw [h2];simp));clear HD Ei wV Nt D9;go_in
  go_wp2_with (first|(go_at_call 100;refine(nH _ true _ h1).mono ?_;rintro e w1 ⟨rfl,rfl⟩)|(go_at_call 18;refine(yc _ _ _ false _ h2).mono ?_;rintro e w1 ⟨rfl,rfl⟩))
  exact wP
 by_cases h3:par=id
 case' pos=>
  have hb3:(par == id)=true:=by simp[h3]
  have HP:=Hq (HD (by simp[h3]));clear h3 HD Ei wV Nt D9;exact aiw
 have hb3:(par == id)=false:=by simp[h3]
 by_cases h4:kids.length<=30
 case' neg=>
  have hb4:decide ((30:Int) < kids.length)=true:=decide_eq_true Aaa;have HP:=Hq (HD (by simp[h4]));clear HD Ei wV Nt D9;exact aiw
 have hb4:decide ((30:Int) < kids.length)=false:=decide_eq_false Aaa;have nW:=Hq (Ei h1 (of_decide_eq_true h2) h3 h4);clear HD Ei;open ayF in exact ahO):P:=h
theorem aqG.AaS(h:P:=by
 dsimp only at hl hl2 HA HS qC HD wV Nt D9 Ro jP ⊢;go_in
 go_upto_if 12 with fail;open asE in exact aaq):P:=h
theorem aqH.AaS(h:P:=by
 dsimp only at NH HPU Np Ro HOT NJ HD jP ⊢;have hlo:=hz.o;have hlr:=hz.r;dsimp only at hlo hlr;clear ha hz;go_in
 go_upto_region 1 with fail;open asD in exact aaq):P:=h
theorem aqI.AaS(h:P:=by
 obtain⟨si,st,sx,sn⟩:=s;dsimp only at hl HA HLY yJ Dy HP HR HO HB ⊢;obtain⟨c0,c1,c2,c3,c4,c5,c6,c7,c8⟩:=nine HP;obtain⟨d0,d1,d2,d3⟩:=gG HR;go_in
 go_wp2_with fail;go_loopw [5,13] (λlv i wr=>∃k:Nat,k<=out.length/\i= .int .i64 k/\lv= .int .i64 si/\(out.take k).find? (λo=>decide (o.t=st))=none/\Below (((w.alloc (.cells (dH ⟨id,par,kids,next,pu,out,seen,old,reqs⟩ ⟨ak,ap,ao,as',ar,ck,cp,co,cs,cr⟩) 40)).alloc (.cells (fA si st sx sn) 91)).alloc (.cells zm7 98)).heap.size (((w.alloc (.cells (dH ⟨id,par,kids,next,pu,out,seen,old,reqs⟩ ⟨ak,ap,ao,as',ar,ck,cp,co,cs,cr⟩) 40)).alloc (.cells (fA si st sx sn) 91)).alloc (.cells zm7 98)) wr) (λ_ i _=>out.length - (intOf i).toNat)
 case atStart=>exact⟨0,Nat.zero_le _,rfl,rfl,rfl,Below.refl _ _⟩
 case round=>
  obtain⟨k,hk,rfl,rfl,hno,hbx⟩:=hrel;have HN:=Hq hno;have yQ:=Hq (au HP hbx);have HR1:=Hq (au HR hbx);have Kg:=Hq (au HO hbx);have HB1:=Hq (HB.trans (hbx.mono HB.size));have jP:=Hq hbx;clear hno hbx c0 c1 c2 c3 c4 c5 c6 c7 c8 d0 d1 d2 d3;obtain⟨c0,c1,c2,c3,c4,c5,c6,c7,c8⟩:=nine yQ;obtain⟨d0,d1,d2,d3⟩:=gG HR1;have hrz:=aA Kg;have aHx:w.heap.size+1 < wr.heap.size:=Aaa
  have aHw:w.heap.size < wr.heap.size:=Aaa
  by_cases hlt:k < out.length
  .obtain⟨g,off,e0,hgw,q0,q1,q2,q3⟩:=SentAt.four (GR.At.below HA HB1) k hlt;(try dsimp only at e0 q0 q1 q2 q3)
   subst e0;by_cases ht:(out[k]).t=st
   .have HY:=Hq (HLY k hlt HN ht);have hb:((out[k]).t == st)=true:=by simp[ht]
    clear ht HLY yJ Dy;generalize out[k]=sk at *;obtain⟨ui,ut,ux,un⟩:=sk;dsimp only at q0 q1 q2 q3 hb HY;have hyy:=ah HY;subst hyy;go_upto_region 8 with fail;refine wp_at (λW3 hW3=>?_);have hbw:aI wr W3:=by rw [hW3];exact ay wr _
    open arD in exact aAK
   .have HS:=Hq (yJ k hlt HN ht);have hb:((out[k]).t == st)=false:=by simp[ht]
    clear ht HLY yJ Dy;generalize out[k]=sk at *;obtain⟨ui,ut,ux,un⟩:=sk;dsimp only at q0 q1 q2 q3 hb;go_wp2_with fail;go_roundw
    case rel=>exact⟨k+1,Aaa,Aah,rfl,HS,jP.alloc jP.size _⟩
    case measure=>simp[intOf];omega
  .open asR in exact Oi):P:=h
theorem aqJ.AaS(h:P:=by
 dsimp only at hl HA HLY yJ Dy c0 c1 c2 c3 c4 c5 c6 c7 c8 ⊢;go_in
 go_wp2_with fail;go_loop [7] (λi=>∃k:Nat,k<=out.length/\i= .int .i64 k/\(out.take k).find? (λo=>decide (o.t=t))=none) (λi=>out.length - (intOf i).toNat)
 case atStart=>exact⟨0,Nat.zero_le _,rfl,rfl⟩
 case round=>
  obtain⟨k,hk,rfl,hno⟩:=hrel;have HN:=Hq hno;clear hno;by_cases hlt:k < out.length
  .obtain⟨g,off,e0,hgw,q0,q1,q2,q3⟩:=SentAt.four HA k hlt;subst e0;by_cases ht:(out[k]).t=t
   .have HY:=Hq (HLY k hlt HN ht);have hb:((out[k]).t == t)=true:=by simp[ht]
    clear ht HLY yJ Dy;generalize out[k]=sk at *;obtain⟨si,st,sx,sn⟩:=sk;dsimp only at q0 q1 q2 q3 hb HY;go_wp2_with fail;go_ret;exact⟨Mf HY.symm,ay w _⟩
   .have HS:=Hq (yJ k hlt HN ht);have hb:((out[k]).t == t)=false:=by simp[ht]
    clear ht HLY yJ Dy;generalize out[k]=sk at *;obtain⟨si,st,sx,sn⟩:=sk;dsimp only at q0 q1 q2 q3 hb;go_wp2_with fail;go_round
    case rel=>exact⟨k+1,Aaa,Aah,HS⟩
    case measure=>simp[intOf];omega
  .open asQ in exact Oi):P:=h
theorem aqK.AaS(h:P:=by
 obtain⟨bk,bp,bo,bs',br,dk,dp,dO,ds,dr⟩:=A';dsimp only at HK HP HO HS HR HA0 HB0 nL ⊢;go_in
 obtain⟨c0,c1,c2,c3,c4,c5,c6,c7,c8⟩:=nine HA0;obtain⟨d0,d1,d2,d3,d4,d5,d6,d7,d8⟩:=nine HB0;go_wp2_with fail;refine(HK _ nL).mono ?_;rintro e w1 ⟨rfl,hb1⟩;have HA1:=Hq (au HA0 hb1);have HB1:=Hq (au HB0 hb1);have qZ:=Hq (nL.trans (hb1.mono nL.size));clear hb1 c0 c1 c2 c3 c4 c5 c6 c7 c8 d0 d1 d2 d3 d4 d5 d6 d7 d8;obtain⟨c0,c1,c2,c3,c4,c5,c6,c7,c8⟩:=nine HA1;obtain⟨d0,d1,d2,d3,d4,d5,d6,d7,d8⟩:=nine HB1;go_wp2_with fail;refine(HP _ qZ).mono ?_;rintro e w2 ⟨rfl,hb1⟩;have HA2:=Hq (au HA1 hb1);have HB2:=Hq (au HB1 hb1);have HL2:=Hq (qZ.trans (hb1.mono qZ.size));clear hb1 c0 c1 c2 c3 c4 c5 c6 c7 c8 d0 d1 d2 d3 d4 d5 d6 d7 d8;obtain⟨c0,c1,c2,c3,c4,c5,c6,c7,c8⟩:=nine HA2;obtain⟨d0,d1,d2,d3,d4,d5,d6,d7,d8⟩:=nine HB2;go_wp2_with fail;refine(HO _ HL2).mono ?_;rintro e w3 ⟨rfl,hb1⟩;have HA3:=Hq (au HA2 hb1);have HB3:=Hq (au HB2 hb1);have qC:=Hq (HL2.trans (hb1.mono HL2.size));clear hb1 c0 c1 c2 c3 c4 c5 c6 c7 c8 d0 d1 d2 d3 d4 d5 d6 d7 d8;obtain⟨c0,c1,c2,c3,c4,c5,c6,c7,c8⟩:=nine HA3;obtain⟨d0,d1,d2,d3,d4,d5,d6,d7,d8⟩:=nine HB3;go_wp2_with fail;refine(HS _ qC).mono ?_;rintro e w4 ⟨rfl,hb1⟩;have HA4:=Hq (au HA3 hb1);have nK:=Hq (au HB3 hb1);have Gh:=Hq (qC.trans (hb1.mono qC.size));clear hb1 c0 c1 c2 c3 c4 c5 c6 c7 c8 d0 d1 d2 d3 d4 d5 d6 d7 d8;obtain⟨c0,c1,c2,c3,c4,c5,c6,c7,c8⟩:=nine HA4;obtain⟨d0,d1,d2,d3,d4,d5,d6,d7,d8⟩:=nine nK;go_wp2_with fail;refine(HR _ Gh).mono ?_;rintro e w5 ⟨rfl,hb1⟩;have HA5:=Hq (au HA4 hb1);have gY:=Hq (au nK hb1);have HL5:=Hq (Gh.trans (hb1.mono Gh.size));clear hb1 c0 c1 c2 c3 c4 c5 c6 c7 c8 d0 d1 d2 d3 d4 d5 d6 d7 d8;obtain⟨c0,c1,c2,c3,c4,c5,c6,c7,c8⟩:=nine HA5;obtain⟨d0,d1,d2,d3,d4,d5,d6,d7,d8⟩:=nine gY;go_wp2_with fail;go_ret;exact⟨rfl,HL5⟩):P:=h
theorem aqL.AaS(h:P:=by
 dsimp only at Ob HTP Np HTS HTR ⊢;go_in
 go_upto_region 4 with fail;refine wp_at (λW0 hW0=>?_);obtain⟨hP,hR,hO,hB⟩:=zh w (.cells (dH ⟨id,par,kids,next,pu,out,seen,old,reqs⟩ ⟨ak,ap,ao,as',ar,ck,cp,co,cs,cr⟩) 28) (.cells (fP 0 0 none 0 0 0 none 0 0 none 0 0 none 0 0 0 none 0 0) 40) (.cells (fP id par none 0 0 0 none 0 0 none 0 0 none 0 0 0 none 0 0) 40);rw [<-hW0] at hP hR hO hB;have T0:=Hq (TN.mk hP hR hO (rows:=[]) (λx hx=>by cases hx) hB);clear hP hR hO hB hW0;obtain⟨c0,c1,c2,c3,c4,c5,c6,c7,c8⟩:=nine T0.par;go_wp2_with fail;refine(Ob _ T0.bel).mono ?_;rintro e w1 ⟨rfl,hblk,hb⟩;have hg:w.heap.size+1+1 < W0.heap.size:=aA (ah T0).out;have U0:=Hq ((T0.step hb).add [(W0.heap.size,_)] (λx hx=>by rw [List.mem_singleton] at hx;subst hx;exact⟨hg,hblk⟩));have o0:=aA hblk;clear hblk hb hg T0;clear c0 c1 c2 c3 c4 c5 c6 c7 c8;obtain⟨c0,c1,c2,c3,c4,c5,c6,c7,c8⟩:=nine U0.par;obtain⟨d0,d1,d2,d3,d4,d5,d6,d7,d8⟩:=nine (ah U0).out;have f0:=aj (ah U0).out 0;have f1:=aj (ah U0).out 1;have f2:=aj (ah U0).out 2;have f3:=aj (ah U0).out 3;have f4:=aj (ah U0).out 4;have f5:=aj (ah U0).out 5;have f6:=aj (ah U0).out 6;have f7:=aj (ah U0).out 7;have f8:=aj (ah U0).out 8;go_upto_region 6 with fail;refine wp_at (λW1 hW=>?_);have T1:=(U0.put 2 (.slice (some ⟨W0.heap.size,0,none⟩) kids.length kids.length)).put 3 (.int .i64 next);rw [<-hW] at T1;replace T1:=Hq T1
 have hz1:W1.heap.size=w1.heap.size:=Acb
 rw [<-hz1] at o0;clear d0 d1 d2 d3 d4 d5 d6 d7 d8 f0 f1 f2 f3 f4 f5 f6 f7 f8;clear c0 c1 c2 c3 c4 c5 c6 c7 c8;clear hW hz1 U0;obtain⟨c0,c1,c2,c3,c4,c5,c6,c7,c8⟩:=nine T1.par;go_wp2_with fail;refine(HTP _ T1.bel).mono ?_;rintro e w2 ⟨rfl,hblk,hb⟩;have hg:w.heap.size+1+1 < W1.heap.size:=aA (ah T1).out;have U1:=Hq ((T1.step hb).add [(W1.heap.size,_)] (λx hx=>by rw [List.mem_singleton] at hx;subst hx;exact⟨hg,hblk⟩));have o1:=aA hblk;clear hblk hb hg T1;clear c0 c1 c2 c3 c4 c5 c6 c7 c8;obtain⟨c0,c1,c2,c3,c4,c5,c6,c7,c8⟩:=nine U1.par;obtain⟨d0,d1,d2,d3,d4,d5,d6,d7,d8⟩:=nine (ah U1).out;have f0:=aj (ah U1).out 0;have f1:=aj (ah U1).out 1;have f2:=aj (ah U1).out 2;have f3:=aj (ah U1).out 3;have f4:=aj (ah U1).out 4;have f5:=aj (ah U1).out 5;have f6:=aj (ah U1).out 6;have f7:=aj (ah U1).out 7;have f8:=aj (ah U1).out 8;go_upto_region 7 with fail;refine wp_at (λW2 hW=>?_);have T2:=U1.put 4 (.slice (some ⟨W1.heap.size,0,none⟩) pu.length pu.length);rw [<-hW] at T2;replace T2:=Hq T2
 have hz2:W2.heap.size=w2.heap.size:=Acb
 rw [<-hz2] at o1;clear d0 d1 d2 d3 d4 d5 d6 d7 d8 f0 f1 f2 f3 f4 f5 f6 f7 f8;clear c0 c1 c2 c3 c4 c5 c6 c7 c8;clear hW hz2 U1;obtain⟨c0,c1,c2,c3,c4,c5,c6,c7,c8⟩:=nine T2.par;go_wp2_with fail;refine(Np _ T2.bel).mono ?_;rintro e w3 ⟨rfl,hblk,hb⟩;have hg:w.heap.size+1+1 < W2.heap.size:=aA (ah T2).out;have U2:=Hq ((T2.step hb).add [(W2.heap.size,_)] (λx hx=>by rw [List.mem_singleton] at hx;subst hx;exact⟨hg,hblk⟩));have o2:=aA hblk;clear hblk hb hg T2;clear c0 c1 c2 c3 c4 c5 c6 c7 c8;obtain⟨c0,c1,c2,c3,c4,c5,c6,c7,c8⟩:=nine U2.par;obtain⟨d0,d1,d2,d3,d4,d5,d6,d7,d8⟩:=nine (ah U2).out;have f0:=aj (ah U2).out 0;have f1:=aj (ah U2).out 1;have f2:=aj (ah U2).out 2;have f3:=aj (ah U2).out 3;have f4:=aj (ah U2).out 4;have f5:=aj (ah U2).out 5;have f6:=aj (ah U2).out 6;have f7:=aj (ah U2).out 7;have f8:=aj (ah U2).out 8;go_upto_region 8 with fail;refine wp_at (λW3 hW=>?_);have T3:=U2.put 5 (.slice (some ⟨W2.heap.size,0,none⟩) out.length out.length);rw [<-hW] at T3;replace T3:=Hq T3
 have hz3:W3.heap.size=w3.heap.size:=Acb
 rw [<-hz3] at o2;clear d0 d1 d2 d3 d4 d5 d6 d7 d8 f0 f1 f2 f3 f4 f5 f6 f7 f8;clear c0 c1 c2 c3 c4 c5 c6 c7 c8;clear hW hz3 U2;obtain⟨c0,c1,c2,c3,c4,c5,c6,c7,c8⟩:=nine T3.par;go_wp2_with fail;refine(HTS _ T3.bel).mono ?_;rintro e w4 ⟨rfl,⟨TT,II,hblk,hTl,hII,hIm⟩,hb⟩;have hg:w.heap.size+1+1 < W3.heap.size:=aA (ah T3).out;have Ei:=Hq hTl;have HII:=Hq (λi hi=>(hII i hi).2.2.1);have HIM:=Hq hIm
 have U3:=Hq ((T3.step hb).add ((W3.heap.size,.cells (GR.flat fV TT).toArray 110 (0,0))::(List.range seen.length).map λi=>(II i,.cells (GR.flat bf (seen.getD i default).ids).toArray 3 (0,0))) (λx hx=>by
  rcases List.mem_cons.1 hx with rfl|hx
  .exact⟨hg,hblk⟩
  .obtain⟨i,hi,rfl⟩:=List.mem_map.1 hx;have h:=hII i (List.mem_range.1 hi)
   exact⟨Nat.lt_trans hg h.1,h.2.2.2⟩))
 have o3:W3.heap.size < w4.heap.size/\∀i,i < seen.length->W3.heap.size < II i/\II i < w4.heap.size:=⟨aA hblk,λi hi=>⟨(hII i hi).1,(hII i hi).2.1⟩⟩;clear hblk hb hg hTl hII hIm T3;clear c0 c1 c2 c3 c4 c5 c6 c7 c8;obtain⟨c0,c1,c2,c3,c4,c5,c6,c7,c8⟩:=nine U3.par;obtain⟨d0,d1,d2,d3,d4,d5,d6,d7,d8⟩:=nine (ah U3).out;have f0:=aj (ah U3).out 0;have f1:=aj (ah U3).out 1;have f2:=aj (ah U3).out 2;have f3:=aj (ah U3).out 3;have f4:=aj (ah U3).out 4;have f5:=aj (ah U3).out 5;have f6:=aj (ah U3).out 6;have f7:=aj (ah U3).out 7;have f8:=aj (ah U3).out 8;go_upto_region 10 with fail;refine wp_at (λW4 hW=>?_);have T4:=(U3.put 6 (.slice (some ⟨W3.heap.size,0,none⟩) seen.length seen.length)).put 7 (.int .i64 old);rw [<-hW] at T4;replace T4:=Hq T4
 have xW:W4.heap.size=w4.heap.size:=Acb
 rw [<-xW] at o3;clear d0 d1 d2 d3 d4 d5 d6 d7 d8 f0 f1 f2 f3 f4 f5 f6 f7 f8;clear c0 c1 c2 c3 c4 c5 c6 c7 c8;clear hW xW U3;obtain⟨c0,c1,c2,c3,c4,c5,c6,c7,c8⟩:=nine T4.par;go_wp2_with fail;refine(HTR _ T4.bel).mono ?_;rintro e w5 ⟨rfl,hblk,hb⟩;have hg:w.heap.size+1+1 < W4.heap.size:=aA (ah T4).out;have U4:=Hq ((T4.step hb).add [(W4.heap.size,_)] (λx hx=>by rw [List.mem_singleton] at hx;subst hx;exact⟨hg,hblk⟩));have o4:=aA hblk;clear hblk hb hg T4;clear c0 c1 c2 c3 c4 c5 c6 c7 c8;obtain⟨c0,c1,c2,c3,c4,c5,c6,c7,c8⟩:=nine U4.par;obtain⟨d0,d1,d2,d3,d4,d5,d6,d7,d8⟩:=nine (ah U4).out;have f0:=aj (ah U4).out 0;have f1:=aj (ah U4).out 1;have f2:=aj (ah U4).out 2;have f3:=aj (ah U4).out 3;have f4:=aj (ah U4).out 4;have f5:=aj (ah U4).out 5;have f6:=aj (ah U4).out 6;have f7:=aj (ah U4).out 7;have f8:=aj (ah U4).out 8;go_upto_region 11 with fail;refine wp_at (λW5 hW=>?_);have T5:=U4.put 8 (.slice (some ⟨W4.heap.size,0,none⟩) reqs.length reqs.length);rw [<-hW] at T5;replace T5:=Hq T5
 have hz5:W5.heap.size=w5.heap.size:=Acb
 rw [<-hz5] at o4;clear d0 d1 d2 d3 d4 d5 d6 d7 d8 f0 f1 f2 f3 f4 f5 f6 f7 f8;clear c0 c1 c2 c3 c4 c5 c6 c7 c8;clear hW hz5 U4;obtain⟨d0,d1,d2,d3,d4,d5,d6,d7,d8⟩:=nine (show W5.heap[w.heap.size+1+1]?=some (.cells (dH ⟨id,par,kids,next,pu,out,seen,old,reqs⟩ ⟨some ⟨W0.heap.size,0,none⟩,some ⟨W1.heap.size,0,none⟩,some ⟨W2.heap.size,0,none⟩,some ⟨W3.heap.size,0,none⟩,some ⟨W4.heap.size,0,none⟩,kids.length,pu.length,out.length,seen.length,reqs.length⟩) 40 (0,0)) from(ah T5).out);obtain⟨r0,r1,r2,r3,r4,r5,r6,r7,r8⟩:=nine T5.res;have f0:=aj T5.res 0;have f1:=aj T5.res 1;have f2:=aj T5.res 2;have f3:=aj T5.res 3;have f4:=aj T5.res 4;have f5:=aj T5.res 5;have f6:=aj T5.res 6;have f7:=aj T5.res 7;have f8:=aj T5.res 8;have hlt:=aA T5.res;go_wp2_with fail;refine aW (λW' hW'=>?_);have hR:=acS (b0:= .int .i64 id) (b1:= .int .i64 par) (b2:= .slice (some ⟨W0.heap.size,0,none⟩) kids.length kids.length) (b3:= .int .i64 next) (b4:= .slice (some ⟨W1.heap.size,0,none⟩) pu.length pu.length) (b5:= .slice (some ⟨W2.heap.size,0,none⟩) out.length out.length) (b6:= .slice (some ⟨W3.heap.size,0,none⟩) seen.length seen.length) (b7:= .int .i64 old) (b8:= .slice (some ⟨W4.heap.size,0,none⟩) reqs.length reqs.length) T5.res;have hK:=TY (w:=W5) (g:=w.heap.size+1) (b0:= .int .i64 id) (b1:= .int .i64 par) (b2:= .slice (some ⟨W0.heap.size,0,none⟩) kids.length kids.length) (b3:= .int .i64 next) (b4:= .slice (some ⟨W1.heap.size,0,none⟩) pu.length pu.length) (b5:= .slice (some ⟨W2.heap.size,0,none⟩) out.length out.length) (b6:= .slice (some ⟨W3.heap.size,0,none⟩) seen.length seen.length) (b7:= .int .i64 old) (b8:= .slice (some ⟨W4.heap.size,0,none⟩) reqs.length reqs.length);rw [<-hW'] at hR hK;clear d0 d1 d2 d3 d4 d5 d6 d7 d8 r0 r1 r2 r3 r4 r5 r6 r7 r8 f0 f1 f2 f3 f4 f5 f6 f7 f8 hW';obtain⟨x0,x1,x2,x3,x4,x5,x6,x7,x8⟩:=nine hR;have hrow:=T5.rows;have eZ:=T5.bel.trans (hK.below (B:=w.heap.size) (λx hx=>Aak) T5.bel.size);have q0:=hrow _ (List.mem_append_left _ (List.mem_append_left _ (List.mem_append_left _ (List.mem_append_left _ (List.mem_append_right _ (List.mem_singleton.2 rfl))))));have q1:=hrow _ (List.mem_append_left _ (List.mem_append_left _ (List.mem_append_left _ (List.mem_append_right _ (List.mem_singleton.2 rfl)))));have q2:=hrow _ (List.mem_append_left _ (List.mem_append_left _ (List.mem_append_right _ (List.mem_singleton.2 rfl))));have q3:=hrow _ (List.mem_append_left _ (List.mem_append_right _ (List.mem_cons_self ..)));have q4:=hrow _ (List.mem_append_right _ (List.mem_singleton.2 rfl));have q5:=λi (hi:i < seen.length)=>hrow (II i,_) (List.mem_append_left _ (List.mem_append_right _ (List.mem_cons_of_mem _ (List.mem_map.2 ⟨i,List.mem_range.2 hi,rfl⟩))))
 dsimp only at q0 q1 q2 q3 q4 q5;obtain⟨o3,o3i⟩:=o3;refine bodyPost_ret (v:=fQ ⟨id,par,kids,next,pu,out,seen,old,reqs⟩ ⟨some ⟨W0.heap.size,0,none⟩,some ⟨W1.heap.size,0,none⟩,some ⟨W2.heap.size,0,none⟩,some ⟨W3.heap.size,0,none⟩,some ⟨W4.heap.size,0,none⟩,kids.length,pu.length,out.length,seen.length,reqs.length⟩) (by simp[results,results22,go_sem,x0,x1,x2,x3,x4,x5,x6,x7,x8]) rfl ⟨_,rfl,⟨W0.heap.size,W1.heap.size,W2.heap.size,W3.heap.size,W4.heap.size,II⟩,?_,?_,eZ⟩
 .refine rF.keeps (w:=W5) (F:=[w.heap.size+1]) ⟨GR.W.of_blk aX q0.2,GR.W.of_blk aZ q1.2,GR.W.of_blk bQ q2.2,iL.of q3.2 Ei (λi hi=>⟨HII i hi,(q5 i hi).2⟩),GR.W.of_blk aS q4.2⟩ hK (λx hx=>?_)
  have hx':w.heap.size+1+1 < x:=by
   rcases aY.mem_all.1 hx with h|h|h|h|h|h
   .rw [(eD h).1];exact q0.1
   .rw [(eD h).1];exact q1.1
   .rw [(eD h).1];exact q2.1
   .rw [(eD h).1];exact q3.1
   .obtain⟨i,hi,rfl,_⟩:=uo h;exact(q5 i hi).1
   .rw [(eD h).1];exact q4.1
  simp;omega
 .have hs5:=hK.size;have o4':=o4
  have hI:∀x∈wR II seen,W3.heap.size < x/\x < W4.heap.size:=λx hx=>by
   obtain⟨i,hi,rfl,_⟩:=uo hx
   exact o3i i hi
  refine⟨?_,λx hx=>?_⟩
  .unfold aY.all;dsimp only;rw [List.nodup_append,List.nodup_append,List.nodup_append,List.nodup_append,List.nodup_append];refine⟨jr _ _,⟨jr _ _,⟨jr _ _,⟨jr _ _,⟨ae0 HIM,jr _ _,?_⟩,?_⟩,?_⟩,?_⟩,?_⟩
   all_goals
    intro a ha b hb
    (try simp only[List.mem_append] at hb)
   .have:=hI a ha;rw [(eD hb).1];omega
   .rw [(eD ha).1];rcases hb with hb|hb
    .have:=hI b hb;omega
    .rw [(eD hb).1];omega
   .rw [(eD ha).1];rcases hb with hb|hb|hb
    .rw [(eD hb).1];omega
    .have:=hI b hb;omega
    .rw [(eD hb).1];omega
   .rw [(eD ha).1];rcases hb with hb|hb|hb|hb
    .rw [(eD hb).1];omega
    .rw [(eD hb).1];omega
    .have:=hI b hb;omega
    .rw [(eD hb).1];omega
   .rw [(eD ha).1];rcases hb with hb|hb|hb|hb|hb
    .rw [(eD hb).1];omega
    .rw [(eD hb).1];omega
    .rw [(eD hb).1];omega
    .have:=hI b hb;omega
    .rw [(eD hb).1];omega
  .have hq:=q0.1;rcases aY.mem_all.1 hx with h|h|h|h|h|h
   .rw [(eD h).1];dsimp only;omega
   .rw [(eD h).1];dsimp only;omega
   .rw [(eD h).1];dsimp only;omega
   .rw [(eD h).1];dsimp only;omega
   .have:=hI x h;omega
   .rw [(eD h).1];dsimp only;omega):P:=h
theorem aqM.AaS(h:P:=by
 obtain⟨si,st,sx,sn⟩:=s;dsimp only at hl HLW hP hR hO hB ⊢;have HP:=Hq hP;have HR:=Hq hR;have HO:=Hq hO;have HB:=Hq hB;clear ha hP hR hO hB Zi;go_in
 go_upto_region 1 with fail;refine wp_at (λW hW=>?_);rw [<-hW] at HP HR HO HB;have aDy:=Hq (HLW W HB);have hz2:w.heap.size+1+1 < W.heap.size:=aA HO;have hz1:w.heap.size+1 < W.heap.size:=Aaa
 have hz0:w.heap.size < W.heap.size:=Aaa
 have hne0:w.heap.size+1+1≠w.heap.size:=Aaa
 have hne1:w.heap.size+1+1≠w.heap.size+1:=Aaa
 clear hW HLW;obtain⟨c0,c1,c2,c3,c4,c5,c6,c7,c8⟩:=nine HP;obtain⟨d0,d1,d2,d3⟩:=gG HR
 go_region_held (λw'=>(w'.cell? ⟨w.heap.size,0,none⟩=some (.int .i64 id)/\w'.cell? ⟨w.heap.size,1,none⟩=some (.int .i64 par)/\w'.cell? ⟨w.heap.size,2,none⟩=some (.slice ak kids.length ck)/\w'.cell? ⟨w.heap.size,3,none⟩=some (.int .i64 next)/\w'.cell? ⟨w.heap.size,4,none⟩=some (.slice ap pu.length cp)/\w'.cell? ⟨w.heap.size,5,none⟩=some (.slice ao out.length co)/\w'.cell? ⟨w.heap.size,6,none⟩=some (.slice as' seen.length cs)/\w'.cell? ⟨w.heap.size,7,none⟩=some (.int .i64 old)/\w'.cell? ⟨w.heap.size,8,none⟩=some (.slice ar reqs.length cr))/\w'.cell? ⟨w.heap.size+1,0,none⟩=some (.int .i64 si)/\w'.cell? ⟨w.heap.size+1,1,none⟩=some (.int .i64 st)/\w'.cell? ⟨w.heap.size+1,2,none⟩=some (.string sx)/\w'.cell? ⟨w.heap.size+1,3,none⟩=some (.int .i64 sn)) (first|go_keep|(refine⟨⟨?_,?_,?_,?_,?_,?_,?_,?_,?_⟩,?_,?_,?_,?_⟩<;>first|exact aFv hne0 (by assumption)|exact aFv hne1 (by assumption)))
  (first
   |(go_at_call 183;refine(aDy W.drew rfl).mono ?_;rintro e w5 ⟨rfl,hb5⟩;have hb6:aI W w5:=⟨hb5.os,hb5.tape,hb5.output,hb5.size,hb5.block⟩;clear hb5;have Nk:=Hq (au HP hb6);have R4:=Hq (au HR hb6);have Nj:=Hq (au HO hb6);have gY:=Hq (HB.trans (hb6.mono HB.size));clear hb6;obtain⟨y0,y1,y2,y3,y4,y5,y6,y7,y8⟩:=nine Nk;obtain⟨z0,z1,z2,z3⟩:=gG R4;obtain⟨r0,r1,r2,r3,r4,r5,r6⟩:=jG Nj;have f0:=aj Nj 0;have f1:=aj Nj 1;have f2:=aj Nj 2;have f3:=aj Nj 3;have f4:=aj Nj 4;have f5:=aj Nj 5;have f6:=aj Nj 6))
 all_goals
  go_wp2_with fail
  refine aW (λW' hW'=>?_)
  have hR:=yG (b0:= .int .i64 1) (b1:= .int .i64 id) (b2:= .int .i64 st) (b3:= .int .i64 si) (b4:= .int .i64 LO) (b5:= .string sx) (b6:= .int .i64 sn) Nj
  have hK:=uD (w:=w5) (g:=w.heap.size+1+1) (b0:= .int .i64 1) (b1:= .int .i64 id) (b2:= .int .i64 st) (b3:= .int .i64 si) (b4:= .int .i64 LO) (b5:= .string sx) (b6:= .int .i64 sn)
  rw [<-hW'] at hR hK
  obtain⟨x0,x1,x2,x3,x4,x5,x6⟩:=jG hR
  refine bodyPost_ret (v:= .agg (bX 1 id st si LO sx sn)) (by simp[results,results149,go_sem,x0,x1,x2,x3,x4,x5,x6]) rfl ⟨rfl,gY.trans (hK.below (λx hx=>by have:x=w.heap.size+1+1:=Aaf;omega) gY.size)⟩):P:=h
theorem aqN.AaS(h:P:=by
 dsimp only at hlo HAO Ki nW Ed NH ⊢;go_in
 go_upto_region 1 with fail;refine wp_at (λW0 hW0=>?_);rw [<-hW0] at Ki;have HB0:Hid (aI w W0):=by rw [hW0];exact ay w _
 have ae8:w.heap.size < W0.heap.size:=aA Ki;have aHt:w.heap.size≠W0.heap.size:=Aaa
 clear hW0;have amQ:Hid ((W0.alloc (.cells #[] 98)).ownsRow W0.heap.size 98 7 (.slice (some ⟨W0.heap.size,0,none⟩) 0 0) 0 []):=World.ownsRow_lit (base:=W0.heap.size) (e:=98) (size:=7) W0 #[] 0 (Nat.le_refl _) Aae rfl;go_wp2_with fail;go_loopw [3,4] (λov i wr=>∃(k:Nat) (va:Option Addr) (vc:Nat),k<=out.length/\i= .int .i64 k/\ov= .slice va k vc/\wr.ownsRow W0.heap.size 98 7 (.slice va k vc) k (GR.flat lu ((out.take k).map PM))/\aI W0 wr/\(0 < k->OK=true)) (λ_ i _=>out.length - (intOf i).toNat)
 case atStart=>exact⟨0,some ⟨W0.heap.size,0,none⟩,0,Nat.zero_le _,rfl,rfl,amQ,ay W0 _,λh=>Aaa⟩
 case round=>
  obtain⟨k,va,vc,hk,rfl,rfl,hown,hbel,hpos⟩:=hrel;have HO:=Hq hown;have cZ:=Hq hbel;have HW:=Hq (HB0.trans (hbel.mono HB0.size));have yQ:=Hq (au Ki hbel);clear hown hbel amQ;obtain⟨c0,c1,c2,c3,c4,c5,c6,c7,c8⟩:=nine yQ;by_cases hlt:k < out.length
  .obtain⟨g,off,e0,hg,q0,q1,q2,q3⟩:=SentAt.four (GR.At.below HAO HB0) k hlt;subst e0;have amW:=Hq (nW wr HW);go_wp2_with fail;refine amW.mono ?_;rintro e w4 ⟨rfl,hb4⟩;have HO4:=Hq (GR.own_below HO hb4);have DY:=Hq (cZ.trans (hb4.mono cZ.size));clear hb4 amW c0 c1 c2 c3 c4 c5 c6 c7 c8 yQ cZ HW HO;have WH:=Hq (au Ki DY);have HW4:=Hq (HB0.trans (DY.mono HB0.size));cases hOK:OK
   .have hk0:k=0:=by
     rcases Nat.eq_zero_or_pos k with h|h
     .exact h
     .exact absurd (hpos h) (by rw [hOK];simp)
    subst hk0;have HE:Hid (L=[]):=by rw [ah NH,hOK];rfl
    clear hpos hOK NH;go_wp2_with fail;go_ret;rw [ah HE];exact AL.of_own rfl HO4 Aaa HW4
   .clear hpos;have akw:=Hq (Ed out[k] w4 HW4);have HT:=Hq (show(out.take (k+1)).map PM=(out.take k).map PM++[PM out[k]] by rw [List.take_succ_eq_append_getElem hlt,List.map_append];rfl);generalize out[k]=sk at *;generalize PM sk=mk at *;obtain⟨si,st,sx,sn⟩:=sk;obtain⟨mK,mF,mT,mI,mL,mk,mN⟩:=mk;dsimp only at q0 q1 q2 q3;have HQ0:=Hq q0;have HQ1:=Hq q1;have HQ2:=Hq q2;have HQ3:=Hq q3;have x0:=(DY.cell (p:=⟨g,off+k*4,none⟩) hg).trans q0;have x1:=(DY.cell (p:=⟨g,off+k*4+1,none⟩) hg).trans q1;have x2:=(DY.cell (p:=⟨g,off+k*4+2,none⟩) hg).trans q2;have x3:=(DY.cell (p:=⟨g,off+k*4+3,none⟩) hg).trans q3;clear q0 q1 q2 q3;obtain⟨c0,c1,c2,c3,c4,c5,c6,c7,c8⟩:=nine WH;go_wp2_with fail
    go_region_held_law (λw'=>(w'.cell? ⟨w.heap.size,0,none⟩=some (.int .i64 id)/\w'.cell? ⟨w.heap.size,1,none⟩=some (.int .i64 par)/\w'.cell? ⟨w.heap.size,2,none⟩=some (.slice ak kids.length ck)/\w'.cell? ⟨w.heap.size,3,none⟩=some (.int .i64 next)/\w'.cell? ⟨w.heap.size,4,none⟩=some (.slice ap pu.length cp)/\w'.cell? ⟨w.heap.size,5,none⟩=some (.slice (some ⟨g,off,none⟩) out.length co)/\w'.cell? ⟨w.heap.size,6,none⟩=some (.slice as' seen.length cs)/\w'.cell? ⟨w.heap.size,7,none⟩=some (.int .i64 old)/\w'.cell? ⟨w.heap.size,8,none⟩=some (.slice ar reqs.length cr))/\w'.cell? ⟨g,off+k*4,none⟩=some (.int .i64 si)/\w'.cell? ⟨g,off+k*4+1,none⟩=some (.int .i64 st)/\w'.cell? ⟨g,off+k*4+2,none⟩=some (.string sx)/\w'.cell? ⟨g,off+k*4+3,none⟩=some (.int .i64 sn)) (go_keep)
     (first
      |((go_at_call 149);(refine(akw w4.drew rfl).mono ?_);(rintro e w5 ⟨rfl,hb5⟩);(have hb6:aI w4 w5:=⟨hb5.os,hb5.tape,hb5.output,hb5.size,hb5.block⟩);(clear hb5);(have Nj:=Hq (GR.own_below HO4 hb6));(have fO:=Hq (DY.trans (hb6.mono DY.size)));(clear hb6);(have Nk:=Hq (au Ki fO));(obtain⟨y0,y1,y2,y3,y4,y5,y6,y7,y8⟩:=nine Nk);(have u0:=(fO.cell (p:=⟨g,off+k*4,none⟩) hg).trans HQ0);(have u1:=(fO.cell (p:=⟨g,off+k*4+1,none⟩) hg).trans HQ1);(have u2:=(fO.cell (p:=⟨g,off+k*4+2,none⟩) hg).trans HQ2);(have u3:=(fO.cell (p:=⟨g,off+k*4+3,none⟩) hg).trans HQ3))
      |((refine BX _ rfl (.tmp 17) (.tmp 25) 41 rfl W0.heap.size 98 i0 (.agg (bX 0 0 0 0 0 ByteArray.empty 0)) 7 64 underlying41 hi hz0 hz1 hz2 rfl Aae (.slice va k vc) k (GR.flat lu ((out.take k).map PM)) Aal (Nj.alloc _) ⟨w5.heap.size,0,none⟩ 1 1 (lu ⟨mK,mF,mT,mI,mL,mk,mN⟩) Aal rfl (World.news_of_block (heap_alloc_new w5 _)) (OX _) Aai Aaa (Nat.le_trans fO.size Aac) ?_);(intro v6 w6 hown6 qz Pd);(have Jp:w6.ownsRow W0.heap.size 98 7 v6 (k+1) (GR.flat lu ((out.take (k+1)).map PM)):=by rw [ah HT,iW];exact hown6);(obtain⟨va6,vc6,hv6,_⟩:=GR.own_at (enc:=lu) (sz:=7) (l:=(out.take (k+1)).map PM) qO (by rw [List.length_map,List.length_take,Nat.min_eq_left Aaa];exact Jp));(rw [List.length_map,List.length_take,Nat.min_eq_left Aaa] at hv6);(subst hv6);(have HO6:=Hq Jp);(have Ns:=Hq (show aI W0 w6 from(fO.alloc fO.size _).trans (KJ qz (λk e=>(Nj.lt k e).1) (Nat.le_trans fO.size Aac))));(clear hown6 qz Pd Jp);(have ZQ:=Hq (au Ki Ns));(obtain⟨z0,z1,z2,z3,z4,z5,z6,z7,z8⟩:=nine ZQ);(have t0:=(Ns.cell (p:=⟨g,off+k*4,none⟩) hg).trans HQ0);(have t1:=(Ns.cell (p:=⟨g,off+k*4+1,none⟩) hg).trans HQ1);(have t2:=(Ns.cell (p:=⟨g,off+k*4+2,none⟩) hg).trans HQ2);(have t3:=(Ns.cell (p:=⟨g,off+k*4+3,none⟩) hg).trans HQ3))
      |fail)
    all_goals
     go_wp2_with fail
     go_roundw
     case rel=>exact⟨k+1,va6,vc6,Aaa,Aah,rfl,HO6,Ns,λ_=>hOK⟩
     case measure=>simp[intOf];omega
  .open asP in exact Oi):P:=h
theorem aqO.AaS(h:P:=by
 dsimp only at hl HD HA wV jB yJ UO jP ⊢;clear ha;go_in
 go_upto_region 1 with fail;refine wp_at (λW0 hW0=>?_);have hblk:W0.heap[w.heap.size]?=some (.cells (dH ⟨id,par,kids,next,pu,out,seen,old,reqs⟩ ⟨ak,ap,ao,as',ar,ck,cp,co,cs,cr⟩) 40 (0,0)):=by rw [hW0];exact jP
 have nL:Hid (aI w W0):=by rw [hW0];exact ay w _
 obtain⟨c0,c1,c2,c3,c4,c5,c6,c7,c8⟩:=nine hblk;clear hW0 jP hblk;obtain⟨bb,hbb⟩:∃bb,(!(uh id&&(decide (par= -1)||(uh par&&decide (par≠id)))))=bb:=⟨_,rfl⟩;have eZ:=Hq hbb;clear hbb;go_cut [27] (λr wx=>r= .bool bb/\wx=W0)
 case first=>
  cases h1:uh id
  case' false=>
   have HV:=Hq (show bb=true by rw [<-ah eZ];simp[h1])
   have H1:=Hq (λw1=>isNode id false w1 h1)
   clear eZ h1
   go_wp2_with (go_at_call 201;refine(H1 _).mono ?_;rintro e w1 ⟨rfl,rfl⟩)
   go_meet
   case rel=>exact⟨Aan,rfl⟩
  have H1:=Hq (λw1=>isNode id true w1 h1);by_cases h2:par= -1
  case' pos=>
   have HV:=Hq (show bb=false by rw [<-ah eZ];simp[h1,h2])
   have hb2:(par != -1)=false:=by simp[h2]
   clear eZ h1 h2
   go_wp2_with (go_at_call 201;refine(H1 _).mono ?_;rintro e w1 ⟨rfl,rfl⟩)
   go_meet
   case rel=>exact⟨Aan,rfl⟩
  have hb2:(par != -1)=true:=by simp[h2]
  cases h3:uh par
  case' false=>
   have HV:=Hq (show bb=true by rw [<-ah eZ];simp[h2,h3])
   have H3:=Hq (λw1=>isNode par false w1 h3)
   clear eZ h1 h2 h3
   go_wp2_with (first|(go_at_call_of 201 id;refine(H1 _).mono ?_;rintro e w1 ⟨rfl,rfl⟩)|(go_at_call_of 201 par;refine(H3 _).mono ?_;rintro e w1 ⟨rfl,rfl⟩))
   go_meet
   case rel=>exact⟨Aan,rfl⟩
  have H3:=Hq (λw1=>isNode par true w1 h3);by_cases h4:par=id
  case' pos=>
   have HV:=Hq (show bb=true by rw [<-ah eZ,decide_eq_false h2,decide_eq_false (show¬(par≠id) from λh=>h h4)];simp)
   have hb4:(par == id)=true:=by simp[h4]
   subst h4
   clear eZ h1 h2 h3
   go_wp2_with (go_at_call 201;refine(H1 _).mono ?_;rintro e w1 ⟨rfl,rfl⟩)
   go_meet
   case rel=>exact⟨Aan,rfl⟩
  have HV:=Hq (show bb=false by rw [<-ah eZ];simp[h1,h3,h4]);have hb4:(par == id)=false:=by simp[h4]
  clear eZ h1 h2 h3;go_wp2_with (first|(go_at_call_of 201 id;refine(H1 _).mono ?_;rintro e w1 ⟨rfl,rfl⟩)|(go_at_call_of 201 par;refine(H3 _).mono ?_;rintro e w1 ⟨rfl,rfl⟩))
  go_meet
  case rel=>exact⟨Aan,rfl⟩
 case rest=>
  obtain⟨rfl,rfl⟩:=hcut;cases hbv:bb
  case' true=>
   have HP:Hid (TT=false):=by
    have h:=ah eZ;rw [hbv] at h;rw [ah HD];generalize (uh id&&(decide (par= -1)||(uh par&&decide (par≠id))))=X at *;cases X
    .rfl
    .cases h
   clear eZ HD;subst hbv;go_wp2_with fail;go_ret;exact⟨aF HP.symm,nL⟩
  have nW:Hid (TT=gZ KB iN kids):=by
   have h:=ah eZ;rw [hbv] at h;rw [ah HD];generalize (uh id&&(decide (par= -1)||(uh par&&decide (par≠id))))=X at *;cases X
   .cases h
   .rfl
  clear eZ HD;subst hbv;go_wp2_with fail;go_loop [3,31] (λlv i=>∃(k:Nat) (y:Int),k<=kids.length/\i= .int .i64 k/\lv= .int .i64 y/\y=xB (λx=>x) (-1) (kids.take k)/\gZ KB iN (kids.take k)=true) (λ_ i=>kids.length - (intOf i).toNat)
  case atStart=>exact⟨0,-1,Nat.zero_le _,rfl,rfl,rfl,rfl⟩
  case round=>
   obtain⟨k,y,hk,rfl,rfl,hy,hall⟩:=hrel;have kX:=Hq hall;have HY:=Hq hy;clear hall hy;by_cases hlt:k < kids.length
   case' neg=>
    have hke:k=kids.length:=Aaa
    subst hke;have hnlt:decide ((kids.length:Int) < (kids.length:Int))=false:=Aac
    have HF:Hid (TT=true):=by
     exact VD
    go_wp2_with fail;go_ret;exact⟨aF HF.symm,nL⟩
   obtain⟨g,off,rfl,hgw,q0⟩:=bZ.one (GR.At.below HA nL) k hlt;have HBAD:Hid (gZ KB iN (kids.take (k+1))=false->TT=false):=λh=>nW.trans (wV _ h)
   have iG:Hid (gZ KB iN (kids.take (k+1))=(KB kids[k]&&decide (y < kids[k]))):=by
    exact ai3
   have Dy:=Hq (yJ k hlt);have CX:=Hq (UO kids[k]);clear jB yJ wV UO;generalize kids[k]=x at *;cases h1:uh x
   case' false=>
    have H1:=Hq (λw1=>isNode x false w1 h1);have HV:=Hq (HBAD (by rw [ah iG,ah CX];simp[h1]));clear HBAD iG CX h1;exact aeG
   have H1:=Hq (λw1=>isNode x true w1 h1);by_cases h2:y < x
   case' neg=>
    have hb2:decide (x<=y)=true:=decide_eq_true Aaa;have HV:=Hq (HBAD (by rw [ah iG,ah CX];simp[h2]));clear HBAD iG CX h1;exact aeG
   have hb2:decide (x<=y)=false:=decide_eq_false Aaa;by_cases h3:x=id
   case' pos=>
    have hb3:(x == id)=true:=by simp[h3]
    have HV:=Hq (HBAD (by rw [ah iG,ah CX];simp[h3]));clear HBAD iG CX h1 h3;exact aeG
   have hb3:(x == id)=false:=by simp[h3]
   by_cases h4:x=par
   case' pos=>
    have hb4:(x == par)=true:=by simp[h4]
    have HV:=Hq (HBAD (by rw [ah iG,ah CX];simp[h4]));clear HBAD iG CX h1 h4;exact aeG
   have hb4:(x == par)=false:=by simp[h4]
   have HV:=Hq (show gZ KB iN (kids.take (k+1))=true by rw [ah iG,ah CX];simp[h1,h2,h3,h4]);clear HBAD iG CX h1;go_wp2_with (go_at_call 201;refine(H1 _).mono ?_;rintro e w1 ⟨rfl,rfl⟩)
   exact ajv):P:=h
theorem aqP.AaS(h:P:=by
 dsimp only at hlo HD wV jB yJ HLB UO jP ⊢;generalize (λs t:Rq=>iN s.no t.no)=RR at *;cases h1:qy old
 case' false=>
  have HP:=Hq (show TT=false by rw [ah HD,h1];rfl);have H1:=Hq (λw1=>j6 old false w1 h1);exact ajc
 have H1:=Hq (λw1=>j6 old true w1 h1);have hold:0<=old/\old<=1000000000:=of_decide_eq_true h1;obtain⟨ho1,ho2⟩:=hold;by_cases h0:reqs.length<=30
 case' neg=>
  have HP:=Hq (show TT=false by rw [ah HD,decide_eq_false h0];simp);have hb0:decide ((30:Int) < reqs.length)=true:=decide_eq_true Aaa;exact ajc
 have hb0:decide ((30:Int) < reqs.length)=false:=decide_eq_false Aaa;have nW:Hid (TT=gZ KB RR reqs):=by rw [ah HD,h1,decide_eq_true h0];rfl
 clear HD h1;go_in
 go_wp2_with (go_at_call 207;refine(H1 _).mono ?_;rintro e w9 ⟨rfl,rfl⟩)
 go_loopw [3,21] (λlv i wr=>∃(k:Nat) (y:Int),k<=reqs.length/\i= .int .i64 k/\lv= .int .i64 y/\y=xB (λs=>s.no) old (reqs.take k)/\gZ KB RR (reqs.take k)=true/\wr.heap[w.heap.size]?=some (.cells (dH ⟨id,par,kids,next,pu,out,seen,old,reqs⟩ ⟨ak,ap,ao,as',ar,ck,cp,co,cs,cr⟩) 40 (0,0))/\aI w wr) (λ_ i _=>reqs.length - (intOf i).toNat)
 case atStart=>exact⟨0,old,Nat.zero_le _,rfl,rfl,rfl,rfl,jP,ay w _⟩
 case round=>
  open aym in exact ahK):P:=h
theorem aqQ.AaS(h:P:=by
 dsimp only at hlo HD wV jB yJ HLB UO Ro jP ⊢;generalize (λs t:jw=>iN s.i t.i)=RR at *;by_cases h0:out.length<=40
 case' neg=>
  have HP:=Hq (show TT=false by rw [ah HD,decide_eq_false h0];rfl);have hb0:decide ((40:Int) < out.length)=true:=decide_eq_true Aaa;go_in
  go_wp2_with fail;exact wP
 have hb0:decide ((40:Int) < out.length)=false:=decide_eq_false Aaa;have nW:Hid (TT=gZ KB RR out):=by rw [ah HD,decide_eq_true h0];rfl
 clear HD;go_in
 go_wp2_with fail;go_loopw [3,13] (λlv i wr=>∃(k:Nat) (y:Int),k<=out.length/\i= .int .i64 k/\lv= .int .i64 y/\y=xB (λs=>s.i) 0 (out.take k)/\gZ KB RR (out.take k)=true/\wr.heap[w.heap.size]?=some (.cells (dH ⟨id,par,kids,next,pu,out,seen,old,reqs⟩ ⟨ak,ap,ao,as',ar,ck,cp,co,cs,cr⟩) 40 (0,0))/\aI w wr) (λ_ i _=>out.length - (intOf i).toNat)
 case atStart=>exact⟨0,0,Nat.zero_le _,rfl,rfl,rfl,rfl,jP,ay w _⟩
 case round=>
  open ayl in exact ahK):P:=h
theorem aqR.AaS(h:P:=by
 dsimp only at hl HC jP RJ ⊢;clear ha;go_in
 go_wp2_with fail;refine HC.mono ?_;rintro e w1 ⟨v,rfl,hown,hb1⟩;have HB1:=Hq ((ay w _).trans (hb1.mono Aac));have Kg:=Hq (GR.own_lower (b':=w.heap.size) hown Aac);obtain⟨c0,c1,_⟩:=nine (au jP hb1);clear hown hb1 HC;go_upto_if 9 with fail;go_cut [3] (λr wx=>wx.ownsRow w.heap.size 3 1 r NB.length (GR.flat bf NB)/\aI w wx)
 case first=>
  by_cases hp:par= -1
  .have hb:(par != -1)=false:=by simp[hp]
   have HE:=Hq (RJ.1 hp);clear hp;go_wp2_with fail;go_meet
   case rel=>exact⟨by rw [ah HE];exact Kg,HB1⟩
  .have hb:(par != -1)=true:=by simp[hp]
   have HE:=Hq (RJ.2 hp);clear hp;have ho:=ah Kg;go_wp2_with (at_builtin;refine wpList_append_own _ rfl _ _ 22 rfl w.heap.size 3 i0 (.int .i64 0) 1 8 underlying22 hi hz0 hz1 hz2 rfl Aae _ _ _ rfl (ho.alloc _) ⟨w1.heap.size,0,none⟩ 1 1 [.int .i64 par] rfl rfl ?c1 ?c2 ?c3 ?c4 ?c5 ?_)
   case c1=>exact cell_one_new _ _ _
   case c2=>intro u hu;simp at hu;subst hu;rfl
   case c3=>unfold maxLen;omega
   case c4=>omega
   case c5=>have:=HB1.size;simp;omega
   intro v' w6 hown' hgrow _;have wL:=Hq (GR.below_append HB1 HB1.size ho hgrow)
   have HO6:Hid (w6.ownsRow w.heap.size 3 1 v' NB.length (GR.flat bf NB)):=by
    rw [ah HE,GR.flat_append,List.length_append];exact hown'
   clear hgrow ho hown';go_wp2_with fail;go_meet
   case rel=>exact⟨HO6,wL⟩
 case rest=>
  obtain⟨ho,hb⟩:=hcut;have HS:=Hq (afF w.heap.size _ NB wc hln hb.size ho);have HB2:=Hq hb;clear ho hb c0 c1;go_wp2_with fail;refine HS.mono ?_;rintro e w3 ⟨rfl,ho3,hb3⟩;have IZ:=Hq ho3;have HB3:=Hq (HB2.trans hb3);clear ho3 hb3;go_wp2_with fail;go_ret;exact⟨_,rfl,IZ,HB3⟩):P:=h
theorem aqS.AaS(h:P:=by
 dsimp only at NH HPU HOT HSE HRE HD jP ⊢;go_in
 go_upto_region 1 with fail;open asC in exact aaq):P:=h
theorem aqT.AaS(h:P:=by
 dsimp only at hls HA HD HSK RJ jP ⊢;go_in
 go_wp2_with fail;refine RJ.mono ?_;rintro e w1 ⟨v,rfl,hown,hb1⟩;have HB1:=Hq ((ay w _).trans (hb1.mono Aac));have AO:=Hq (au jP hb1);have hFL:=ah yJ;subst hFL;obtain⟨fa,fc,rfl,hF⟩:=GR.own_at (enc:=bf) (sz:=1) aX hown;have HF:=Hq hF;obtain⟨c0,c1,c2,c3,c4,c5,c6,c7,c8⟩:=nine AO;clear hown hb1 RJ jP yJ hF;by_cases hlen:seen.length=F.length
 case' neg=>
  have hbn:((seen.length:Int) != (F.length:Int))=true:=Aag
  have HP:=Hq (show TT=false by
   rw [ah HD,decide_eq_false (show¬seen.map (·.f)=F from λh=>hlen (by rw [<-h,List.length_map]))]
   rfl)
  clear HD;go_wp2_with fail;go_ret;exact⟨aF HP.symm,HB1⟩
 have hbn:((seen.length:Int) != (F.length:Int))=false:=Aag
 have Dy:=Hq hlen;clear hlen;go_wp2_with fail;go_loopw [17] (λi wr=>∃k:Nat,k<=seen.length/\i= .int .i64 k/\(seen.take k).map (·.f)=F.take k/\(seen.take k).all uV=true/\aI w1 wr) (λi _=>seen.length - (intOf i).toNat)
 case atStart=>exact⟨0,Nat.zero_le _,rfl,rfl,rfl,Below.refl _ _⟩
 case round=>
  obtain⟨k,hk,rfl,hm,hall,hbx⟩:=hrel;have HM:=Hq hm;have kX:=Hq hall;have jP:=Hq hbx;have Gf:=Hq (au AO hbx);have cZ:=Hq (HB1.trans (hbx.mono HB1.size));clear hm hall hbx;by_cases hlt:k < seen.length
  case' neg=>
   have hke:k=seen.length:=Aaa
   subst hke;have hnlt:decide ((seen.length:Int) < (seen.length:Int))=false:=Aac
   have HP:=Hq (show TT=true by
    have h1:=ah HM
    have h2:=ah kX
    rw [List.take_length] at h1 h2
    rw [ah Dy,List.take_length] at h1
    rw [ah HD,decide_eq_true h1,h2]
    rfl)
   go_wp2_with fail;go_ret;exact⟨aF HP.symm,cZ⟩
  have aFS:k < F.length:=by rw [<-ah Dy];exact hlt
  obtain⟨g,off,b,c,e0,hgw,q0,q1,q2,hI⟩:=iy.below (dx.s HA) cZ k hlt;obtain⟨g2,off2,e2,alz,p0⟩:=bZ.one (GR.At.below HF jP) k aFS;(try dsimp only at e0 q0 q1 q2 hI)
  subst e0 e2;have GK:=ah HSK _ (List.getElem_mem hlt);have HI:=Hq hI;have HST:=Hq (λh3 h4=>YC hlt Dy.symm HM kX h3 h4);have AY:=Hq (λh3=>Yz (F:=F) hlt Dy.symm h3);have Zk:=Hq (λh4=>YA hlt h4);clear hI;generalize seen[k]=sk at *;generalize F[k]=y at *;obtain⟨fr,lo,ids⟩:=sk;dsimp only at q0 q1 q2 HI GK HST AY Zk;go_upto_region 7 with fail;open ayS in exact ahU):P:=h
theorem aqU.AaS(h:P:=by
 dsimp only at HK HP HO HS HR HQ jP hkl ⊢;go_in
 go_wp2_with fail;refine(HK _ _ Aaa Aaa).mono ?_;rintro e w0 ⟨rfl,rfl⟩;have nL:=Hq (ay w (.cells (dH ⟨id,par,kids,next,pu,out,seen,old,reqs⟩ ⟨ak,ap,ao,as',ar,ck,cp,co,cs,cr⟩) 28));have HB0:=Hq jP;obtain⟨z0,hz0⟩:∃zz:Int,(if (kids.length:Int)<=z then z - (kids.length:Int) else -1)=zz:=⟨_,rfl⟩;rw [hz0];by_cases hk:(kids.length:Int)<=z
 case' neg=>
  rw [if_neg hk] at hz0;subst hz0;go_wp2_with fail;go_ret;exact⟨-1,rfl,nL,.inl rfl⟩
 rw [if_pos hk] at hz0;have q0:0<=z0:=Aaa
 have q1:z0<=1048576:=Aaa
 have q2:decide (z0 < 0)=false:=decide_eq_false Aaa;clear hz0 jP;obtain⟨c0,c1,c2,c3,c4,c5,c6,c7,c8⟩:=nine HB0;go_wp2_with fail;refine(HP _ _ nL Aaa Aaa).mono ?_;rintro e w1 ⟨z1,rfl,hb1,hcase⟩;have HB1:=Hq (au HB0 hb1);have qZ:=Hq (nL.trans (hb1.mono nL.size));clear hb1 c0 c1 c2 c3 c4 c5 c6 c7 c8;obtain⟨c0,c1,c2,c3,c4,c5,c6,c7,c8⟩:=nine HB1;rcases hcase with rfl|⟨p0,p1,p2,p3⟩
 case' inl=>
  go_wp2_with fail;go_ret;exact⟨-1,rfl,qZ,.inl rfl⟩
 have K1:=Hq (And.intro p2 p3);have q3:decide (z1 < 0)=false:=decide_eq_false Aaa;clear p2 p3;go_wp2_with fail;refine(HO _ _ qZ Aaa Aaa).mono ?_;rintro e w2 ⟨z2,rfl,hb1,hcase⟩;have HB2:=Hq (au HB1 hb1);have HL2:=Hq (qZ.trans (hb1.mono qZ.size));clear hb1 c0 c1 c2 c3 c4 c5 c6 c7 c8;obtain⟨c0,c1,c2,c3,c4,c5,c6,c7,c8⟩:=nine HB2;rcases hcase with rfl|⟨p0,p1,p2,p3⟩
 case' inl=>
  go_wp2_with fail;go_ret;exact⟨-1,rfl,HL2,.inl rfl⟩
 have K2:=Hq (And.intro p2 p3);have q4:decide (z2 < 0)=false:=decide_eq_false Aaa;clear p2 p3;go_wp2_with fail;refine(HS _ _ HL2 Aaa Aaa).mono ?_;rintro e w3 ⟨z3,rfl,hb1,hcase⟩;have HB3:=Hq (au HB2 hb1);have qC:=Hq (HL2.trans (hb1.mono HL2.size));clear hb1 c0 c1 c2 c3 c4 c5 c6 c7 c8;obtain⟨c0,c1,c2,c3,c4,c5,c6,c7,c8⟩:=nine HB3;rcases hcase with rfl|⟨p0,p1,p2,p3⟩
 case' inl=>
  go_wp2_with fail;go_ret;exact⟨-1,rfl,qC,.inl rfl⟩
 have K3:=Hq (And.intro p2 p3);have q5:decide (z3 < 0)=false:=decide_eq_false Aaa;clear p2 p3;go_wp2_with fail;refine(HR _ _ qC Aaa Aaa).mono ?_;rintro e w4 ⟨z4,rfl,hb1,hcase⟩;have nK:=Hq (au HB3 hb1);have Gh:=Hq (qC.trans (hb1.mono qC.size));clear hb1 c0 c1 c2 c3 c4 c5 c6 c7 c8;obtain⟨c0,c1,c2,c3,c4,c5,c6,c7,c8⟩:=nine nK;rcases hcase with rfl|⟨p0,p1,p2,p3⟩
 case' inl=>
  go_wp2_with fail;go_ret;exact⟨-1,rfl,Gh,.inl rfl⟩
 have K4:=Hq (And.intro p2 p3);have q6:decide (z4 < 0)=false:=decide_eq_false Aaa;clear p2 p3;go_wp2_with fail;go_ret;exact⟨z4,rfl,Gh,.inr ⟨p0,p1,HQ Aaa K1 K2 K3 K4⟩⟩):P:=h
theorem aAE(h:P:=by
 obtain⟨gp,hgp⟩:=hP;obtain⟨gr,hgr⟩:=hR;subst hgp;subst hgr;have Rt:=Hq (λW (ha:aG W (some ⟨gp,0,none⟩) n.pu)=>YL gp 0 bJ n.pu k nn W (Nat.le_trans hz.p Aaa) uJ hz.pk hkz ha);unfold iV at Rt;rw [hu] at Rt;have hp:=jc hok;have NJ:=Hq (λW1 (ha:gF W1 (some ⟨gr,0,none⟩) n.reqs)=>Ah n (⟨a_k,(some ⟨gp,0,none⟩),dW,eH,(some ⟨gr,0,none⟩),aK,bJ,aQ,aL,aU⟩:bV) no W1 Aaa hp.1 ha);rw [show rX n.reqs no= -1 by unfold rX;rw [hf];rfl] at NJ;have Gi:=Hq hp.1;have aHp:=hp.2.1;clear hp hok hf hu hkz hz uJ;unfold iF;have H9:=Hq h9;clear h9;have lI:=Hq (h.nine hB);clear h;exact AfR):P:=h
theorem aqV.AfR(h:P:=by
 open aEL in exact aAe):P:=h
theorem aqW.AfR(h:P:=by
 open aEM in exact aAe):P:=h
end Go.Proofs.YtohmklmkjmlpjaaGreatDoor
