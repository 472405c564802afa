/-
  Parts of proofs that stand more than once, each said once.
-/
import Derived.Test.YtfmdndhliinhpaaGreatDoorRaZ1
namespace Go.Proofs.YtfmdndhliinhpaaGreatDoor
set_option maxRecDepth 100000
variable{P:Prop}
theorem af6.Ka28(h:P:=by
 have q3z:z.cell? ⟨g,i*4+3,none⟩=some (.int .i64 0):=(HZ.cell (p:=⟨g,i*4+3,none⟩) hg).trans HQ3
 have g3:z.frozen? ⟨g,i*4+3,none⟩=false:=by
  obtain⟨g',rest,e',_,hb'⟩:=wW Cz.r (show 0 < n.reqs.length by omega);simp only[Option.some.injEq,Addr.mk.injEq,and_true] at e';obtain rfl:=e';exact aj hb' _
 have f4n:=aj Ik 4
 have hgn:g≠w.heap.size:=fun e=>by
  have h1:=Cz.cr g ((hgb g).2 rfl)
  rw [e] at h1
  have h2:newC w.heap.size 9 c w.heap.size=9:=aW (Nat.le_refl _)
  rw [h2] at h1
  cases h1
 have auW:g≠w.heap.size+1:=fun e=>by
  have h1:=Cz.cr g ((hgb g).2 rfl)
  rw [e] at h1
  have h2:newC w.heap.size 9 c (w.heap.size+1)=9:=aW (by omega)
  rw [h2] at h1
  cases h1
 go_upto_region 13 with fail;refine wp_at (fun Z2 hZ=>?_);have jg:Hid (Z2.heap[w.heap.size]?=some (.cells #[.int .i64 n.id,.int .i64 n.par,.slice a_k n.kids.length aK,.int .i64 n.next,.slice av RL.length cv,.slice dP n.out.length aO,.slice dS n.seen.length aL,.int .i64 n.old,.slice (some ⟨g,0,none⟩) n.reqs.length aT] 30 (0,0))):=by rw [hZ];exact(Below.heap_setCell _ _ _ _ (Ne.symm hgn)).trans (mV Ik)
 have iW:Hid (Z2.heap[w.heap.size+1]?=some (.cells iV 30 (0,0))):=by rw [hZ];exact((Below.heap_setCell _ _ _ _ (Ne.symm auW)).trans (Below.heap_setCell _ _ _ _ (show w.heap.size+1≠w.heap.size by omega))).trans yg
 have jK:=Cz.kc (k:=9) (KC.set (g:=w.heap.size) (i:=4) (v:= .slice av RL.length cv) (aW (Nat.le_refl _))) (by omega);have kB:KC (newC w.heap.size 9 c) 6 (z.setCell ⟨w.heap.size,4,none⟩ (.slice av RL.length cv)) Z2:=by rw [hZ];exact KC.set (jK.cr g ((hgb g).2 rfl))
 have hwx:w.heap.size < x.heap.size∧g < x.heap.size:=by
  have:=aA jG;omega
 have hpz:Z2.ownsRow x.heap.size 84 4 (.slice av RL.length cv) RL.length (GR.flat eG RL):=by
  rw [hZ];exact dB (dB Iq (aC.set _) (fun y hy=>by have:y=w.heap.size:=(by simpa using hy);omega)) (aC.set _) (fun y hy=>by have:y=g:=(by simpa using hy);omega)
 have hrz:=(jK.r.stored (i*4+3) (.int .i64 2)).1;rw [Jj 2 n.reqs i hi,←hZ] at hrz;have Sb:=hide (And.intro (kB.w jK.k jK.ck (by omega)) (And.intro hpz (And.intro (kB.own jK.o jK.co (by omega)) (And.intro (kB.seenQ jK.sq jK.c4 jK.ci (by omega) (by omega)) hrz))));have jr:=hide (And.intro jK.ck (And.intro jK.co (And.intro jK.c4 (And.intro jK.ci (And.intro jK.cr jK.ni)))))
 have acP:Hid (Below B w Z2):=by
  have hg0:B≤g:=hBg;rw [hZ];exact((tZ.mono hB).setCell (p:=⟨w.heap.size,4,none⟩) hB _).setCell (p:=⟨g,i*4+3,none⟩) hg0 _
 have asi:Hid (Apart c w Z2):=fun x hx hc=>by
  have hxg:x≠g:=fun e=>by
   have h1:=Cz.cr g ((hgb g).2 rfl)
   rw [←e,dR hx] at h1
   omega
  rw [hZ]
  exact(Below.heap_setCell _ _ _ _ hxg).trans ((Below.heap_setCell _ _ _ _ (Nat.ne_of_lt hx)).trans (tZ.block x hx))
 clear hZ jK kB hpz hrz q3z g3 f4n c0 c1 c2 c3 c4 c5 c6 c7 c8 d0 d1 d2 d3 d4 d5 d6 d7 d8 f0 f1 f2 f3 f4 f5 f6 f7 f8 hnl hrl;obtain⟨c0,c1,c2,c3,c4,c5,c6,c7,c8⟩:=nine jg;obtain⟨d0,d1,d2,d3,d4,d5,d6,d7,d8⟩:=nine iW;have f0:=aj iW 0;have f1:=aj iW 1;have f2:=aj iW 2;have f3:=aj iW 3;have f4:=aj iW 4;have f5:=aj iW 5;have f6:=aj iW 6;have f7:=aj iW 7;have f8:=aj iW 8;have hnl:=aA jg;have hrl:=aA iW;go_wp2_with fail;refine aR (fun W' hW'=>?_)
 have e4:W'.heap[w.heap.size+1]?=some (.cells #[.int .i64 n.id,.int .i64 n.par,.slice a_k n.kids.length aK,.int .i64 n.next,.slice av RL.length cv,.slice dP n.out.length aO,.slice dS n.seen.length aL,.int .i64 n.old,.slice (some ⟨g,0,none⟩) n.reqs.length aT] 30 (0,0)):=by
  rw [hW'];exact GR.setW_blk [.int .i64 n.id,.int .i64 n.par,.slice a_k n.kids.length aK,.int .i64 n.next,.slice av RL.length cv,.slice dP n.out.length aO,.slice dS n.seen.length aL,.int .i64 n.old,.slice (some ⟨g,0,none⟩) n.reqs.length aT] (o:=0) (xs:=[.int .i64 0,.int .i64 0,.slice none 0 0,.int .i64 0,.slice none 0 0,.slice none 0 0,.slice none 0 0,.int .i64 0,.slice none 0 0]) iW
 have fu:aC [w.heap.size+1] Z2 W':=by
  rw [hW'];exact aM [.int .i64 n.id,.int .i64 n.par,.slice a_k n.kids.length aK,.int .i64 n.next,.slice av RL.length cv,.slice dP n.out.length aO,.slice dS n.seen.length aL,.int .i64 n.old,.slice (some ⟨g,0,none⟩) n.reqs.length aT] Z2 0
 have HAT:=hide (fun W'' (ho:Out c w W' W'')=>(show RM W'' ⟨a_k,av,dP,dS,(some ⟨g,0,none⟩),aK,cv,aO,aL,aT⟩ (bZ (setPu n RL) (n.reqs.set i (iY n.reqs[i]))) from by
  have kF:KC (newC w.heap.size 9 c) 9 Z2 W'':=(KC.keeps fu (fun y hy=>by have:y=w.heap.size+1:=(by simpa using hy);rw [this];exact aW (by omega))).trans (KC.out H9 ho)
  have hpF:W''.ownsRow x.heap.size 84 4 (.slice av RL.length cv) RL.length (GR.flat eG RL):=by
   obtain⟨F,hk,hF⟩:=ho;exact dB (dB Sb.2.1 fu (fun y hy=>by have:y=w.heap.size+1:=(by simpa using hy);have:=aA qb;omega)) hk (fun y hy=>by have:=(hF y hy).1;have:=aA qb;omega)
  have Yn:∀g',av.map (fun y=>y.block)=some g'→6 < newC w.heap.size 9 c g':=fun g' hg'=>by
   have h1:=qO hpF (kZ hpF hg')
   have h2:=aA qb
   rw [aW (by omega)]
   omega
  have hrF:W''.ownsRow B 43 4 (.slice (some ⟨g,0,none⟩) (n.reqs.set i (iY n.reqs[i])).length aT) (n.reqs.set i (iY n.reqs[i])).length (GR.flat aJ (n.reqs.set i (iY n.reqs[i]))):=by
   rw [List.length_set];exact kF.own Sb.2.2.2.2 jr.2.2.2.2.1 (by omega)
  exact RM.of (n:=bZ (setPu n RL) (n.reqs.set i (iY n.reqs[i]))) (A:=⟨a_k,av,dP,dS,(some ⟨g,0,none⟩),aK,cv,aO,aL,aT⟩) (c:=newC w.heap.size 9 c) (kF.w Sb.1 jr.1 (by omega)) jr.1 (kF.seenQ Sb.2.2.2.1 jr.2.2.1 jr.2.2.2.1 (by omega) (by omega)) jr.2.2.1 jr.2.2.2.1 jr.2.2.2.2.2
   (GR.own_ati aV hpF) (fun g' hg' _=> .inr (Yn g' hg')) (kF.own Sb.2.2.1 jr.2.1 (by omega)) (fun y hy=> .inl (jr.2.1 y hy)) hrF (fun y hy=> .inl (jr.2.2.2.2.1 y hy))
   (fun g' hg' _ h6=>⟨fun e=>by have:=jr.2.1 g' e;omega,fun e=>by have:=jr.2.2.2.2.1 g' e;omega⟩) (fun y hy h6=>by have:=jr.2.1 y hy;omega)))
 have lH:Hid (Below B w W'):=acP.trans (fu.below (fun x hx=>by have:x=w.heap.size+1:=(by simpa using hx);omega) (Nat.le_trans hB acP.size));have qg:=hide (Apart.keeps (c:=c) asi acP.size fu (fun x hx=>by have:x=w.heap.size+1:=(by simpa using hx);omega));obtain⟨x0,x1,x2,x3,x4,x5,x6,x7,x8⟩:=nine e4;clear hW' e4 fu;exact bodyPost_ret (v:= .tuple #[.agg #[.int .i64 n.id,.int .i64 n.par,.slice a_k n.kids.length aK,.int .i64 n.next,.slice av RL.length cv,.slice dP n.out.length aO,.slice dS n.seen.length aL,.int .i64 n.old,.slice (some ⟨g,0,none⟩) n.reqs.length aT],.int .i64 0]) (by simp[results,Tryz.results61,go_sem,x0,x1,x2,x3,x4,x5,x6,x7,x8]) rfl ⟨⟨a_k,av,dP,dS,(some ⟨g,0,none⟩),aK,cv,aO,aL,aT⟩,by rw [show fU (bZ (setPu n RL) (n.reqs.set i (iY n.reqs[i]))) ⟨a_k,av,dP,dS,(some ⟨g,0,none⟩),aK,cv,aO,aL,aT⟩= .agg #[.int .i64 n.id,.int .i64 n.par,.slice a_k n.kids.length aK,.int .i64 n.next,.slice av RL.length cv,.slice dP n.out.length aO,.slice dS n.seen.length aL,.int .i64 n.old,.slice (some ⟨g,0,none⟩) n.reqs.length aT] from by simp[fU,fO,bZ,setPu]],HAT,lH,qg⟩):P:=h
theorem apF(h:P:=by
 open anj in exact Tf):P:=h
theorem af7.Ka29(h:P:=by
 have UD:=ay x3 (.cells #[.int .i64 no,.string k,.int .i64 nn,.int .i64 0] 43);have CF:=hide (heap_alloc_new x3 (.cells #[.int .i64 no,.string k,.int .i64 nn,.int .i64 0] 43));open aks in exact SG):P:=h
theorem af8.Ka29(h:P:=by
 have UD:=ay x3 (.cells #[.int .i64 no,.string k,.int .i64 nn,.int .i64 1] 43);have CF:=hide (heap_alloc_new x3 (.cells #[.int .i64 no,.string k,.int .i64 nn,.int .i64 1] 43));open akr in exact SG):P:=h
theorem apG(h:P:=by
 have hml:=aA vN;have oI:=hide (au iW (ay W2 (.cells #[] 32)));have EZ:=hide (RZ.kc (k:=9) (KC.of_below (ay W2 (.cells #[] 32))) (by omega));have rP:=hide (HB2.trans ((ay W2 (.cells #[] 32)).mono HB2.size));obtain⟨c0,c1,c2,c3,c4,c5,c6,c7,c8⟩:=nine jg;open ag7 in exact PD):P:=h
theorem af9.Ka30(h:P:=by
 exact bodyPost_ret (v:= .tuple #[.agg #[.int .i64 n.id,.int .i64 n.par,.slice A.k n.kids.length A.ck,.int .i64 n.next,.slice A.p n.pu.length A.cp,.slice A.o n.out.length A.co,.slice A.s n.seen.length A.cs,.int .i64 n.old,.slice A.r n.reqs.length A.cr],.slice (some ⟨W2.heap.size,0,none⟩) 0 0,.int .i64 3]) (by simp[results,Tryz.results63,go_sem,x0,x1,x2,x3,x4,x5,x6,x7,x8]) rfl ⟨A,some ⟨W2.heap.size,0,none⟩,0,rfl,HAT,fun W'' _ i hi=>by simp at hi,lH,qg⟩):P:=h
theorem aga.Ka30(h:P:=by
 exact bodyPost_ret (v:= .tuple #[.agg #[.int .i64 n.id,.int .i64 n.par,.slice A.k n.kids.length A.ck,.int .i64 n.next,.slice A.p n.pu.length A.cp,.slice A.o n.out.length A.co,.slice A.s n.seen.length A.cs,.int .i64 n.old,.slice A.r n.reqs.length A.cr],.slice (some ⟨W2.heap.size,0,none⟩) 0 0,.int .i64 1]) (by simp[results,Tryz.results63,go_sem,x0,x1,x2,x3,x4,x5,x6,x7,x8]) rfl ⟨A,some ⟨W2.heap.size,0,none⟩,0,rfl,HAT,fun W'' _ i hi=>by simp at hi,lH,qg⟩):P:=h
theorem apH(h:P:=by
 obtain⟨K,no,k,nn,⟨mK,mF,mT,mI,mL,mk,mN⟩⟩:=o;first|dsimp only at * |skip
 go_enter Tryz.func7,Tryz.ntmps7
 go_upto_region 1 with fail;refine wp_at (fun W0 hW=>?_);open ak8 in exact SK):P:=h
theorem agb.Ka31(h:P:=by
 have ae1:=hide (HDO W2 W0 wb A1 G1 Jb _ HW2 (HE.below HB));have Zr:=hide (au HO HW2.keep);obtain⟨⟨p0,p1,p2,p3,p4,p5,p6,p7,p8,p9,mZ⟩,_⟩:=bX Zr;have hol:=aA Zr;go_wp2_with fail;refine ae1.mono ?_;rintro e W3 ⟨rfl,A2,G2,cc3,v3,hW3⟩;have HW3:=hide hW3;clear hW3 HDO ae1 p0 p1 p2 p3 p4 p5 p6 p7 p8 p9 mZ hol HW2 Zr
 obtain⟨a3,cp3,hv3⟩:∃a cp,v3= .slice a RR.2.1.length cp:=by
  obtain⟨a,cp,he,_⟩:=GR.own_at (enc:=je) (sz:=7) mG HW3.m;exact⟨a,cp,he⟩
 subst hv3;rw [List.nil_append] at HW3;obtain⟨n3,L3,Uo⟩:=RR;first|dsimp only at * |skip
 obtain⟨c0,c1,c2,c3,c4,c5,c6,c7,c8,c9⟩:=iI HW3.blk;have hwl:=aA HW3.blk;clear c0 c1 c2 c3 c4 c5 c6 c7 c8 c9;go_upto_region 5 with fail;refine lG (by kernel_rfl) ?_;show sU _ _ _ _ 8 (Array.replicate 8 false) _ _
 open akX in exact SH):P:=h
theorem agc.Ka31(h:P:=by
 have HR2:=hide (au HR HW2.keep);obtain⟨c0,c1,c2,c3,c4,c5,c6,c7,c8,c9⟩:=iI HW2.blk;open amQ in exact aaE):P:=h
theorem LW(h:P:=by
 refine wp_region_quiet_below (by kernel_rfl) (by kernel_rfl) ?_;repeat (first|go_big_quiet_step (exact cO _ _)|quiet_step (exact cO _ _))
 refine wpQuiet_nil ?_;intro _ hw';obtain⟨⟨dq,osq⟩,hw''⟩:=hw';subst hw'';have kD:=hide (D7.trans ((below_regrown _ dq osq).mono D7.size));exact Ka32):P:=h
theorem agd.Ka32(h:P:=by
 clear cO y0 y1 y2 y3 y4 y5 y6;exact abA):P:=h
theorem agf.Ka32(h:P:=by
 clear cO y0 y1 y2 y3 y4 y5 y6;go_wp2_with fail;exact bodyPost_ret (v:= .tuple #[tK ⟨1,F,T,I,L,k,N⟩,.bool false]) (by simp[results,Tryz.results102,go_sem,tK]) rfl ⟨by rw [ah HP],kD⟩):P:=h
theorem agh.Ka32(h:P:=by
 clear cO y0 y1 y2 y3 y4 y5 y6;exact abz):P:=h
theorem agi.Ka32(h:P:=by
 clear y0 y1 y2 y3 cO
 all_goals
  go_wp2_with fail
  go_ret
  exact⟨aD HBAD.symm,kD⟩):P:=h
theorem agj.Ka32(h:P:=by
 clear y0 y1 y2 y3 cO
 all_goals
  go_wp2_with fail
  go_roundw
  case rel=>exact⟨0+1,by omega,by go_num,by rw [ah fP,ah kQ,ah AL];rfl,kD⟩
  case measure=>simp[intOf];omega):P:=h
theorem agk.Ka32(h:P:=by
 clear y0 y1 y2 y3 y4 cO
 all_goals
  go_wp2_with fail
  go_roundw
  case rel=>exact⟨(j+1)+1,by omega,by go_num,by rw [ah fP,ah kQ,ah AL];rfl,kD⟩
  case measure=>simp[intOf];omega):P:=h
theorem agl.Ka32(h:P:=by
 clear y0 y1 y2 y3 y4 cO
 all_goals
  go_wp2_with fail
  go_ret
  exact⟨aD HBAD.symm,kD⟩):P:=h
theorem apI(h:P:=by
 cases h3:eU lo
 case' false=>
  have cS:=EF lo false W1 h3
  have HV:=hide (show bb=true by rw [←ah eP];simp[h3])
  clear eP
  refine wp_region_quiet_below (by kernel_rfl) (by kernel_rfl) ?_
  repeat (first|go_big_quiet_step ((first|(go_at_call 24;exact cN _ _)|(go_at_call 21;exact cS _ _)))|quiet_step ((first|(go_at_call 24;exact cN _ _)|(go_at_call 21;exact cS _ _))))
  refine wpQuiet_nil ?_
  intro _ hw'
  obtain⟨⟨dq,osq⟩,hw''⟩:=hw'
  subst hw''
  go_wp2_with fail
  go_meet
  case rel=>exact uN
 have cS:=EF lo true W1 h3;by_cases h4:ids.length≤40
 case' neg=>
  have hq:decide ((40:Int) < ids.length)=true:=decide_eq_true (by omega)
  have HV:=hide (show bb=true by rw [←ah eP];simp[h4])
  clear eP
  refine wp_region_quiet_below (by kernel_rfl) (by kernel_rfl) ?_
  repeat (first|go_big_quiet_step ((first|(go_at_call 24;exact cN _ _)|(go_at_call 21;exact cS _ _)))|quiet_step ((first|(go_at_call 24;exact cN _ _)|(go_at_call 21;exact cS _ _))))
  refine wpQuiet_nil ?_
  intro _ hw'
  obtain⟨⟨dq,osq⟩,hw''⟩:=hw'
  subst hw''
  go_wp2_with fail
  go_meet
  case rel=>exact uN
 have hq:decide ((40:Int) < ids.length)=false:=decide_eq_false (by omega);exact Ka33):P:=h
theorem agm.Ka33(h:P:=by
 have HV:=hide (show bb=false by rw [←ah eP];simp[h1,h3,h4,h2]);exact arb):P:=h
theorem agn.Ka33(h:P:=by
 have HV:=hide (show bb=false by rw [←ah eP];simp[h1,h3,h4]);exact arb):P:=h
theorem TA(h:P:=by
 open akQ in exact Om):P:=h
theorem agp.Ka34(h:P:=by
 try simp only [hq2]
 refine eO 4 rfl (by kernel_rfl) (by kernel_rfl) (by kernel_rfl) (fun _ _ _ _ h => h) (fun K hK => ?_);open atr in exact SI):P:=h
theorem agq.Ka34(h:P:=by
 refine eO 2 rfl (by kernel_rfl) (by kernel_rfl) (by kernel_rfl) (fun _ _ _ _ h => h) (fun K hK => ?_);open att in exact SI):P:=h
theorem agr.Ka34(h:P:=by
 exact Ka12):P:=h
theorem ags.Ka34(h:P:=by
 refine eO 8 rfl (by kernel_rfl) (by kernel_rfl) (by kernel_rfl) (fun _ _ _ _ h => h) (fun K hK => ?_);open atv in exact SI):P:=h
theorem agt.Ka34(h:P:=by
 refine eO 6 rfl (by kernel_rfl) (by kernel_rfl) (by kernel_rfl) (fun _ _ _ _ h => h) (fun K hK => ?_);open atw in exact SI):P:=h
theorem apJ(h:P:=by
 open amM in exact aaC):P:=h
theorem agu.Ka35(h:P:=by
 have CF:=hide (show y3.heap[x2.heap.size]?=some (.cells #[.int .i64 no,.string k,.int .i64 nn,.int .i64 0] 43 (0,0)) from by rw [uR.block _ (aA (ah uK)) (fun hm=>ah EW _ hm.symm rfl)];exact uK);open anw in exact Ti):P:=h
theorem agv.Ka35(h:P:=by
 have CF:=hide (show y3.heap[x2.heap.size]?=some (.cells #[.int .i64 no,.string k,.int .i64 nn,.int .i64 1] 43 (0,0)) from by rw [uR.block _ (aA (ah uK)) (fun hm=>ah EW _ hm.symm rfl)];exact uK);open anu in exact Ti):P:=h
theorem ada(h:P:=by
 obtain⟨rfl,hs3,hk3⟩:=hcut;clear m0 m1 m2 m3 m4 m5 m6 s00 s01 s02 sf hml hsl2;go_upto_region 7 with fail;refine wp_at (fun W3 hW3=>?_);subst hW3;have XC:=hide hs3;have kE:=hide (hk3.obj jg (fun hx=>by simp at hx;omega));have Pj:=hide (hk3.obj vN (fun hx=>by simp at hx;omega));have kH:=hide (hk3.obj iW (fun hx=>by simp at hx;omega));have HB3:=hide (HB2.trans (hk3.below (B:=w.heap.size) (fun x hx=>by simp at hx;omega) HB2.size));have afd:=hide (afc.kc (k:=9) (KC.keeps hk3 (fun x hx=>by have:x=sb:=(by simpa using hx);rw [this];exact aW (by omega))) (by omega));have afq:=hide (afp.keeps hk3 (fun x hx hm=>by have h1:=hilt x hx;simp at hm;omega));clear hs3 hk3 jg vN iW HB2 afc afp Pw;have awn:=aA XC;obtain⟨i0,hi0,hz0,hz1',hz2⟩:=info_parts qA;go_upto_block 2 with fail;exact Ka36):P:=h
theorem agw.Ka36(h:P:=by
 go_cut [9] from 15 (fun v wx=>∃g cp,v= .slice (some ⟨g,0,none⟩) (aQ s0 mL).length cp∧wx.ownsRow W3.heap.size 3 1 v (aQ s0 mL).length (GR.flat aP (aQ s0 mL))∧(aQ s0 mL=[]→cp=0)∧Below W3.heap.size W3 wx)
 case first=>
  exact Za9
 case rest=>
  open atz in exact ac7):P:=h
theorem agx.Ka36(h:P:=by
 go_cut [9] from 15 (fun v wx=>∃g cp,v= .slice (some ⟨g,0,none⟩) (aQ s0 mL).length cp∧wx.ownsRow W3.heap.size 3 1 v (aQ s0 mL).length (GR.flat aP (aQ s0 mL))∧(aQ s0 mL=[]→cp=0)∧Below W3.heap.size W3 wx)
 case first=>
  exact Za9
 case rest=>
  open aty in exact ac7):P:=h
theorem agy.Ka36(h:P:=by
 go_cut [9] from 15 (fun v wx=>∃g cp,v= .slice (some ⟨g,0,none⟩) (aQ s0 mL).length cp∧wx.ownsRow W3.heap.size 3 1 v (aQ s0 mL).length (GR.flat aP (aQ s0 mL))∧(aQ s0 mL=[]→cp=0)∧Below W3.heap.size W3 wx)
 case first=>
  exact Za9
 case rest=>
  open atx in exact ac7):P:=h
theorem LX(h:P:=by
 clear e5 hkx hX d0 d1 d2 d3 d4 d5 d6 d7 d8 f0 f1 f2 f3 f4 f5 f6 f7 f8 p0 p1 p2 p3 p4 p5 p6 p7 p8 p9 mZ hnl hol kE E8 kH HB3 l7 jd;obtain⟨c0,c1,c2,c3,c4,c5,c6,c7,c8⟩:=nine fP;obtain⟨⟨p0,p1,p2,p3,p4,p5,p6,p7,p8,p9,mZ⟩,_⟩:=bX HOX;have hnl:=aA fP;have hol:=aA HOX;exact Ka37):P:=h
theorem agz.Ka37(h:P:=by
 go_wp2_with fail;refine(jr X A1 G1 c (Nat.zero_le _) H9 HPR xZ).mono ?_;rintro e W5 ⟨A2,rfl,hat,hb5,hap⟩;open amO in exact aaD):P:=h
theorem agA.Ka37(h:P:=by
 open aji in exact aqd):P:=h
theorem agB.Ka37(h:P:=by
 go_wp2_with fail;refine(jr X A1 G1 c (Nat.zero_le _) H9 HPR xZ).mono ?_;rintro e W5 ⟨A2,ma,mc,rfl,hat,hmt,hb5,hap⟩;have Xi:=hide hmt;clear hmt;open amN in exact aaD):P:=h
theorem agC.Ka37(h:P:=by
 go_upto_region 23 with fail;clear p0 p1 p2 p3 p4 p5 p6 p7 p8 p9 mZ hol;open ahM in exact TB):P:=h
theorem agD.Ka37(h:P:=by
 go_upto_region 26 with fail;have hrx:=aA qb;have y0:=gB (b:=w.heap.size+2) (by omega) c0;have y1:=gB (b:=w.heap.size+2) (by omega) c1;have y2:=gB (b:=w.heap.size+2) (by omega) c2;have y3:=gB (b:=w.heap.size+2) (by omega) c3;have y4:=gB (b:=w.heap.size+2) (by omega) c4;have y5:=gB (b:=w.heap.size+2) (by omega) c5;have y6:=gB (b:=w.heap.size+2) (by omega) c6;have y7:=gB (b:=w.heap.size+2) (by omega) c7;have y8:=gB (b:=w.heap.size+2) (by omega) c8;have z2:=gB (b:=w.heap.size+2) (by omega) p2;have z3:=gB (b:=w.heap.size+2) (by omega) p3;have hwb:w.heap.size+2≤X.heap.size:=by omega
 clear c0 c1 c2 c3 c4 c5 c6 c7 c8 p0 p1 p2 p3 p4 p5 p6 p7 p8 p9 mZ;refine nR 12 (w.heap.size+2) (by kernel_rfl) ?_;show iG _ _ _ _ _ _ 14 (Array.replicate 14 false) _ _
 refine tk [0,1,2,3,4,5,6,7,8,9] ?_;iterate 10 (refine tkB hwb (fun K hK=>?_);go_simp;first|refine hK _ ?_|(apply Exists.intro;refine⟨fun _=>?_,hK _ ?_⟩;rfl);clear hK K)
 refine kK ?_;clear y0 y1 y2 y3 y4 y5 y6 y7 y8 z2 z3 hwb hnl hol fP HOX;refine jZ 10 11 rfl rfl (by kernel_rfl) (by rfl) (by rfl) (by decide) (by decide) (fun x hx=>?_) (fun x hx=>?_)
 ·go_simp;refine⟨(ay x _).mono (by have:=hx.size;omega),?_⟩;have Cv:=hide (Ge.trans hx (ay x (.cells #[.int .i64 0,.int .i64 n.id,.int .i64 n.par,.int .i64 0,.int .i64 0,.string k,.int .i64 nn] 32)));have HM1:=hide (heap_alloc_new x (.cells #[.int .i64 0,.int .i64 n.id,.int .i64 n.par,.int .i64 0,.int .i64 0,.string k,.int .i64 nn] 32));have hxs:=hx.size;clear hx;refine gW 11 rfl (by kernel_rfl) (by rfl) (by decide) (fun y hy=>?_);have HY:=hide (Ge.trans Cv hy);have HMY:=hide (au HM1 hy);have Hu:=hide (au qb HY);clear hy HM1 Cv;open alK in exact aai
 ·have Hu:=hide (au qb hx);have hxs:=hx.size;open alJ in exact aai):P:=h
theorem agE.Ka37(h:P:=by
 go_upto_region 19 with fail;open afR in exact Fh):P:=h
theorem agF.Ka37(h:P:=by
 open ajh in exact aqd):P:=h
theorem apK(h:P:=by
 obtain⟨gp,UG⟩:=hP;subst UG;have Le:=hide (fun W (ha:aH W (some ⟨gp,0,none⟩) n.pu)=>V7 gp 0 bq n.pu mk mN W (Nat.le_trans hz.p (by omega)) qZ hz.pk hmk ha);unfold gX at Le;rw [hu] at Le;clear hu hz qZ;open anG in exact aaO):P:=h
theorem agG.Ka38(h:P:=by
 go_cut [7] from 15 (fun j wx=>j= .int .i64 (i:Nat)∧Ge W0 wx)
 case first=>
  exact adt
 case rest=>
  open afF in exact ac9):P:=h
theorem agH.Ka38(h:P:=by
 go_cut [7] from 15 (fun j wx=>j= .int .i64 (i:Nat)∧Ge W0 wx)
 case first=>
  exact adt
 case rest=>
  open afG in exact ac9):P:=h
theorem apL(h:P:=by
 have hwb:wc.heap.size≤wc.heap.size:=Nat.le_refl _;have y8:=gB hnl c8;have z0:=gB Jp q0;have z1:=gB Jp q1;have z2:=gB Jp q2;have z3:=gB Jp q3;clear c0 c1 c2 c3 c4 c5 c6 c7 c8 q0 q1 q2 q3;have hpc:pos≤aT:=by omega
 have CJ:=hide (show iD wc (some ⟨gr,0,none⟩) (n.reqs.take pos) from GR.At.take HA5 pos)
 obtain⟨AD,hAD,hDR⟩:∃AD,(if aT=pos then some (⟨gr,0,none⟩:Addr) else some ⟨gr,pos*4,none⟩)=AD∧iD wc AD (n.reqs.drop pos):=by
  exact auq
 have HDR:=hide hDR;clear hDR;refine nR 15 wc.heap.size (by kernel_rfl) ?_;show iG _ _ _ _ _ _ 16 (Array.replicate 16 false) _ _
 refine tk [1,2,3,4,6,9,10,11,12] ?_;iterate 9 (refine tkB hwb (fun K hK=>?_);go_simp;first|refine hK _ ?_|(apply Exists.intro;refine⟨fun _=>?_,hK _ ?_⟩;rfl);clear hK K)
 refine kK ?_;clear y8 z0 z1 z2 z3;have hlt1:(n.reqs.take pos).length=pos:=by rw [List.length_take];omega
 have Qd:(n.reqs.drop pos).length=n.reqs.length - pos:=by rw [List.length_drop]
 exact Ka39):P:=h
theorem agI.Ka39(h:P:=by
 have hL1:(n.reqs.take pos++[(⟨no,k,nn,0⟩:Rq)]).length=pos+1:=by rw [List.length_append,hlt1];rfl
 have hL2:(n.reqs.take pos++[(⟨no,k,nn,0⟩:Rq)]++n.reqs.drop pos).length=pos+1+(n.reqs.length - pos):=by rw [List.length_append,hL1,Qd]
 obtain⟨i0,hi,hz0,hz1,hz2⟩:=info_parts tL;have HG0:=hide (Below.refl wc.heap.size wc);refine jZ 0 7 rfl rfl (by kernel_rfl) (by rfl) (by rfl) (by decide) (by decide) (fun x1 hx1=>?_) (fun x1 hx1=>?_)
 ·open aiX in exact aqa
 ·open amC in exact SV):P:=h
theorem agJ.Ka39(h:P:=by
 have hL1:(n.reqs.take pos++[(⟨no,k,nn,1⟩:Rq)]).length=pos+1:=by rw [List.length_append,hlt1];rfl
 have hL2:(n.reqs.take pos++[(⟨no,k,nn,1⟩:Rq)]++n.reqs.drop pos).length=pos+1+(n.reqs.length - pos):=by rw [List.length_append,hL1,Qd]
 obtain⟨i0,hi,hz0,hz1,hz2⟩:=info_parts tL;have HG0:=hide (Below.refl wc.heap.size wc);refine jZ 0 7 rfl rfl (by kernel_rfl) (by rfl) (by rfl) (by decide) (by decide) (fun x1 hx1=>?_) (fun x1 hx1=>?_)
 ·open aiW in exact aqa
 ·open amA in exact SV):P:=h
theorem apM(h:P:=by
 have hq2 : IntKind.i64.wrap (100 + (q : Int)) = 100 + q := IntWalk.i64_in _ ⟨by omega, by omega⟩;exact Ka40):P:=h
theorem agK.Ka40(h:P:=by
 go_upto_block 8 with fail;go_cut [3] (fun p wx => p = .pointer (some ⟨g, 0, none⟩) ∧ ∃ (n' : Nd) (hp' : 0 < n'.seen.length), qh w c g n' A1 wx ∧ n'.seen[0].ids.length = n.seen[0].ids.length + 1)
 case first =>
   go_upto_region 27 with fail;refine wp_at (fun W hW => ?_);subst hW;obtain ⟨g2, cq, w7, hrun, hbw, hbg, hbs, hN⟩ := ah kQ (W.drew.alloc (.cells #[.int .i64 (100 + q)] 3)) W.heap.size (100 + q) 24 (by exact ⟨rfl, rfl, rfl, by simp, fun k hk => by first | rfl | exact Below.heap_alloc _ _ _ hk⟩) (heap_alloc_new W.drew _) (by omega);have og : w7.heap[g]? = some (.cells (fO n A1) 30 (0, 0)) := hbg.trans (ah HS).own;obtain ⟨e0, e1, e2, e3, e4, e5, e6, e7, e8⟩ := nine og;rw [ah HA] at e6;have x2 : w7.cell? ⟨gs', 2, none⟩ = some (.slice b n.seen[0].ids.length cc) := (World.cell?_of_block (w := W) hbs).trans hcell;have xf : w7.frozen? ⟨gs', 2, none⟩ = false := (World.frozen?_of_block (w := W) hbs).trans hfree;have hn1 : g ≠ W.heap.size := by omega
   have hn2 : W.heap.size ≠ g := by omega
   have hn3 : gs' ≠ W.heap.size := by omega
   have hn4 : W.heap.size ≠ gs' := by omega
   have hz7 := hbw.size;have HN := hide (hN w7 (Below.refl _ _));clear hN hbw hbg hbs og kQ e0 e1 e2 e3 e4 e5 e7 e8 c0 c1 c2 c3 c4 c5 c7 c8
   go_region_law
     (refine zZ _ rfl (.tmp 119) (.tmp 122) 24 rfl _ _ (by simp [Act.eval]) (by simp [Act.eval]) _ _ hrun ?_)
   all_goals
     go_wp2_with fail
     go_meet
     case rel => exact ⟨rfl, _, by simpa [bn] using hpn, ah HN, by simp [bn]⟩
 case rest =>
   obtain ⟨rfl, n', hp', hS', hl'⟩ := hcut;obtain ⟨gs2, b2, Jb, hA2, _, _, _, hcell2, _, _⟩ := hS'.seen0 hp';have eg : gs2 = gs' := by have h := hA2.symm.trans (ah HA); simpa using h
   subst eg;have HS' := hide hS';have HM2 := hide hcell2;clear hS' HS hcell2;go_wp2_with fail;go_roundw
   case rel => exact ⟨q + 1, n', hp', by go_num, by omega, ah HS'⟩
   case measure =>
     rw [ah HM, ah HM2];simp [tV];omega):P:=h
theorem agL.Ka40(h:P:=by
 clear d0 d1 d2 d3 d4 d5 d6 d7 d8;go_upto_block 6 with fail;go_cut [3] (fun p wx => p = .pointer (some ⟨g, 0, none⟩) ∧ ∃ (n' : Nd) (A' : bQ), qh w c g n' A' wx ∧ n'.reqs.length = n.reqs.length + 1)
 case first =>
   go_upto_region 21 with fail;refine wp_region_any (by kernel_rfl) ?_;show wpAny _ _ _ _ 11 (Array.replicate 11 false) _ _
   refine Pb (fun Y hY => ?_);have En := hide ((ah uM).draw ((ah uM).cur.keep_below hY) (Keeps.of_below hY));clear hY uM;open aoH in exact abe
 case rest =>
   obtain ⟨rfl, n', A', hS', hl'⟩ := hcut;have HS' := hide hS';clear hS' uM HS;go_wp2_with fail;go_roundw
   case rel => exact ⟨q + 1, n', A', by go_num, by omega, ah HS'⟩
   case measure =>
     rw [ah HM, (nine (ah HS').own).2.2.2.2.2.2.2.2];simp [tV];omega):P:=h
theorem apN(h:P:=by
 have hm1:¬mI < bY s0 mL:=fun h=>by unfold lT at hhas;rw [decide_eq_true h] at hhas;simp at hhas
 have hd:decide (mI < bY s0 mL)=false:=decide_eq_false hm1;have hb:hasB (aQ s0 mL) mI=false:=by unfold lT at hhas;rw [hd] at hhas;simpa using hhas
 rw [hb] at Rz;obtain⟨c0,c1,c2,c3,c4,c5,c6,c7,c8⟩:=nine nH;have hnl:=aA nH;go_wp2_with (go_at_call 54;refine(Rz _ Xf.at).mono ?_;rintro e wh ⟨rfl,rfl⟩)
 refine(Le W7 Xp.at.p).mono ?_;rintro e W8 ⟨v8,rfl,avb,UR,Ap⟩;obtain⟨av,cv,rfl,_⟩:=GR.own_at (enc:=eG) (sz:=4) aV UR;have HRW:=hide (rT.own aV UR);have aeS:=hide (au Rp Ap);have oC:=hide (au nH Ap);have afb:=hide (au Xm Ap);have vQ:=hide (au lN Ap);have afl:=hide (au XE Ap);have ae5:=hide (Xf.below Ap);have acV:=hide (Xp.kc (k:=9) (KC.of_below Ap) (by omega));have acM:=hide (acL.trans (Ap.mono (by omega)));have acT:=hide (acS.step (by omega) Ap);have hz8:W7.heap.size≤W8.heap.size:=Ap.size;clear Ap avb UR Le Rz c0 c1 c2 c3 c4 c5 c6 c7 c8 m0 m1 m2 m3 m4 m5 m6 s70 s71 s72 hnl hml avo Rp nH Xm lN XE Xf Xp acL acS;exact Ka41):P:=h
theorem agM.Ka41(h:P:=by
 have hb9:=ay W8 (.cells #[] 32);have uJ:=hide (au oC hb9);have jV:=hide (au vQ hb9);have Xq:=hide (acV.kc (k:=9) (KC.of_below hb9) (by omega));have Xc:=hide (acM.trans (hb9.mono (by omega)));have Xh:=hide (acT.step (by omega) hb9);have hz9:(W8.alloc (.cells #[] 32)).heap.size=W8.heap.size+1:=by simp
 clear hb9;obtain⟨c0,c1,c2,c3,c4,c5,c6,c7,c8⟩:=nine oC;obtain⟨d0,d1,d2,d3,d4,d5,d6,d7,d8⟩:=nine jV;have f0:=aj jV 0;have f1:=aj jV 1;have f2:=aj jV 2;have f3:=aj jV 3;have f4:=aj jV 4;have f5:=aj jV 5;have f6:=aj jV 6;have f7:=aj jV 7;have f8:=aj jV 8;have hnl:=aA oC;have hrl:=aA jV;cases ok
 ·exact aqp
 ·have h40:40≤(aQ s0 mL).length:=by
   rcases hgn with h|h
   ·cases h
   ·exact h
  have auN:decide ((40:Int)≤((aQ s0 mL).length:Int))=true:=decide_eq_true (by omega);exact aqp):P:=h
theorem agN.Ka41(h:P:=by
 obtain⟨c0,c1,c2,c3,c4,c5,c6,c7,c8⟩:=nine oC;have cf:=aj oC 4;have hnl:=aA oC;have auN:decide ((40:Int)≤((aQ s0 mL).length:Int))=false:=decide_eq_false (by omega);go_upto_region 22 with fail;refine wp_at (fun W9 Mr=>?_);have hnb:w.heap.size≠gi:=by omega
 have Eu:aC [w.heap.size] W8 W9:=by rw [Mr];exact aC.set _
 have uJ:Hid (W9.heap[w.heap.size]?=some (.cells #[.int .i64 n.id,.int .i64 n.par,.slice a_k n.kids.length aK,.int .i64 n.next,.slice av RL.length cv,.slice dP n.out.length aO,.slice (some ⟨G.s,0,none⟩) n.seen.length aL,.int .i64 n.old,.slice fA n.reqs.length aT] 30 (0,0))):=by rw [Mr];exact bg oC 4 _
 have Xn:=hide (Eu.obj afb (fun hx=>by simp at hx));have jV:=hide (Eu.obj vQ (fun hx=>by simp at hx));have LJ:=hide (Eu.obj afl (fun hx=>by simp at hx;omega));have aeT:=hide (Eu.obj aeS (fun hx=>by simp at hx;omega));have acR:=hide (ae5.keeps Eu (fun x hx hm=>by have h1:=(fD hx).1;simp at hm;omega));have Xq:=hide (acV.kc (k:=9) (KC.keeps Eu (fun x hx=>by have:x=w.heap.size:=(by simpa using hx);rw [this];exact Ac _ (Nat.le_refl _) hnb)) (by omega));have Xc:=hide (acM.trans (Eu.below (B:=B) (fun x hx=>by simp at hx;omega) (by omega)));have Xh:=hide (Apart.keeps (c:=c) acT (by omega) Eu (fun x hx=>by have:x=w.heap.size:=(by simpa using hx);omega));have HP9:=hide (HRW.keeps Eu (fun x hx=>by simp at hx;omega));have hz9:W8.heap.size≤W9.heap.size:=Eu.size;clear Mr Eu HRW oC afb vQ afl aeS ae5 acV acM acT c0 c1 c2 c3 c4 c5 c6 c7 c8 cf hnl;obtain⟨m0,m1,m2,m3,m4,m5,m6⟩:=iZ Xn;have hml:=aA Xn;obtain⟨pos,hpos⟩:∃pos,((aQ s0 mL).takeWhile (fun y=>decide (y < mI))).length=pos:=⟨_,rfl⟩;have RA:=hide (show jy (aQ s0 mL) mI=(aQ s0 mL).take pos++([mI]++(aQ s0 mL).drop pos) by rw [←hpos];exact Vl _ _);have hpl:pos≤(aQ s0 mL).length:=by rw [←hpos];exact ar9 _ _
 have Ai:=hide hpos;clear hpos;go_upto_block 4 with fail;go_cut [14] from 15 (fun j wx=>j= .int .i64 (pos:Nat)∧Ge W9 wx)
 case first=>
  go_wp2_with fail;go_loopw [14] (fun j wr=>∃x q:Nat,x≤(aQ s0 mL).length∧j= .int .i64 x∧(∀y (hy:y < (aQ s0 mL).length),y < x→(aQ s0 mL)[y] < mI)∧wr=W9.drewN q) (fun j _=>(aQ s0 mL).length - (intOf j).toNat)
  case atStart=>exact⟨0,0,Nat.zero_le _,rfl,fun y hy h=>(by omega),rfl⟩
  case round=>
   obtain⟨x,q,hx,rfl,hlo,rfl⟩:=hrel;have RI:=hide hlo;clear hlo;by_cases hlt:x < (aQ s0 mL).length
   ·obtain⟨_,hgb,hcell⟩:=(ah acR) x hlt;open ank in exact aaK
   ·have hje:x=(aQ s0 mL).length:=by omega
    subst hje;have HJ:=hide (Wn (l:=aQ s0 mL) (x:=mI) (Nat.le_refl _) RI (fun h=>absurd h (Nat.lt_irrefl _)));have UE:decide (((aQ s0 mL).length:Int) < ((aQ s0 mL).length:Int))=false:=by simp
    exact arh
 case rest=>
  obtain⟨rfl,hge⟩:=hcut;clear m0 m1 m2 m3 m4 m5 m6 hml;go_upto_region 25 with fail;refine wp_at (fun qY auH=>?_);subst auH;have Zo:=hide (au uJ hge);have RY:=hide (au Xn hge);have Zu:=hide (au jV hge);have Si:=hide (au LJ hge);have YV:=hide (au aeT hge);have NI:=hide (acR.below hge);have Zn:=hide (Xq.kc (k:=9) (KC.of_below hge) (by omega));have YX:=hide (Xc.trans (hge.mono (by omega)));have Zh:=hide (Xh.step (by omega) hge);have Xv:=hide (HP9.below hge);have aww:W9.heap.size≤qY.heap.size:=hge.size;clear hge uJ Xn jV LJ aeT acR Xq Xc Xh HP9;have arX:=aA Si;have avY:∀x∈fp gi (aQ s0 mL),x < qY.heap.size:=LQ NI;go_cut [14] from 15 (fun _ wx=>∃g2 cq2,qY.heap.size≤g2∧wx.ownsRow qY.heap.size 3 1 (.slice (some ⟨g2,0,none⟩) ((aQ s0 mL).length+1) cq2) ((aQ s0 mL).length+1) (GR.flat aP (jy (aQ s0 mL) mI))∧wx.heap[sb]?=some (.cells #[.int .i64 mF,.int .i64 (bY s0 mL),.slice (some ⟨g2,0,none⟩) ((aQ s0 mL).length+1) cq2] 57 (0,0))∧aC [sb] qY wx)
  case first=>
   obtain⟨m0,m1,m2,m3,m4,m5,m6⟩:=iZ RY;have hml:=aA RY;have hwb:qY.heap.size≤qY.heap.size:=Nat.le_refl _;have y3:=gB hml m3;clear m0 m1 m2 m3 m4 m5 m6;have hpc:pos≤Jc:=by omega
   have CJ:=hide (show dM qY (some ⟨gi,0,none⟩) ((aQ s0 mL).take pos) from GR.At.take NI.at pos)
   obtain⟨AD,hAD,hDR⟩:∃AD,(if Jc=pos then some (⟨gi,0,none⟩:Addr) else some ⟨gi,pos,none⟩)=AD∧dM qY AD ((aQ s0 mL).drop pos):=by
    by_cases hcz:Jc=pos
    ·refine⟨_,rfl,?_⟩;rw [show(aQ s0 mL).drop pos=[] by apply List.drop_eq_nil_of_le;omega];exact GR.at_nil _ _
    ·refine⟨_,rfl,?_⟩;rw [if_neg hcz];have h:=GR.At.drop NI.at pos;rw [Nat.mul_one] at h;exact h
   have HDR:=hide hDR;clear hDR;refine nR 14 qY.heap.size (by kernel_rfl) ?_;show iG _ _ _ _ _ _ 15 (Array.replicate 15 false) _ _
   refine tk [1,2,3,5,6,9,10,11] ?_;iterate 8 (refine tkB hwb (fun K hK=>?_);go_simp;first|refine hK _ ?_|(apply Exists.intro;refine⟨fun _=>?_,hK _ ?_⟩;rfl);clear hK K)
   refine kK ?_;clear y3;have hlt1:((aQ s0 mL).take pos).length=pos:=by rw [List.length_take];omega
   have Qd:((aQ s0 mL).drop pos).length=(aQ s0 mL).length - pos:=by rw [List.length_drop]
   have hL1:((aQ s0 mL).take pos++[mI]).length=pos+1:=by rw [List.length_append,hlt1];rfl
   have hL2:((aQ s0 mL).take pos++[mI]++(aQ s0 mL).drop pos).length=pos+1+((aQ s0 mL).length - pos):=by rw [List.length_append,hL1,Qd]
   have HG0:=hide (Below.refl qY.heap.size qY);refine jZ 0 7 rfl rfl (by kernel_rfl) (by rfl) (by rfl) (by decide) (by decide) (fun x1 hx1=>?_) (fun x1 hx1=>?_)
   ·open ak3 in exact ZV
   ·open ak2 in exact ZV
  case rest=>
   obtain⟨g2,cq2,hg2,hown2,arW,FI⟩:=hcut;have Sj:=hide arW;have NV:=hide (FI.obj Zo (fun hx=>by simp at hx;omega));have Zv:=hide (FI.obj Zu (fun hx=>by simp at hx;omega));have YW:=hide (FI.obj YV (fun hx=>by simp at hx;omega));have R4:=hide (Zn.kc (k:=9) (KC.keeps FI (fun x hx=>by have:x=sb:=(by simpa using hx);rw [this];exact Ac _ (by omega) (by omega))) (by omega));have YZ:=hide (YX.trans (FI.below (B:=B) (fun x hx=>by simp at hx;omega) (by omega)));have Zi:=hide (Apart.keeps (c:=c) Zh (by omega) FI (fun x hx=>by have:x=sb:=(by simpa using hx);omega));have afh:=hide (Xv.keeps FI (fun x hx=>by simp at hx;omega));have awx:qY.heap.size≤wc.heap.size:=FI.size;have Uy:(jy (aQ s0 mL) mI).length=(aQ s0 mL).length+1:=by rw [ah RA];simp;omega
   have UN:wc.ownsRow qY.heap.size 3 1 (.slice (some ⟨g2,0,none⟩) (jy (aQ s0 mL) mI).length cq2) (jy (aQ s0 mL) mI).length (GR.flat aP (jy (aQ s0 mL) mI)):=by rw [Uy];exact hown2
   have HW2:=hide (WO.of_own (SE (l:=jy (aQ s0 mL) mI) aN UN) UN (fun e=>by rw [e] at Uy;simp at Uy))
   have Il:Hid (∀g,av.map (fun y=>y.block)=some g→0 < RL.length→W7.heap.size≤g∧g < qY.heap.size):=fun g hg hp=>by
    obtain⟨g',off,e,hgl,_⟩:=Xv.1 0 hp
    have h2:=Xv.2 g' off e
    rw [e] at hg
    cases hg
    exact⟨h2,hgl⟩
   have auR:g2 < wc.heap.size:=(hown2.lt g2 rfl).2;have adX:g2≠gi:=by omega
   have arK:i < (n.seen.set i ⟨mF,bY s0 mL,aQ s0 mL⟩).length:=by rw [List.length_set];exact hi
   have HNP:=hide (R4.seenPut i arK ⟨mF,bY s0 mL,jy (aQ s0 mL) mI⟩ (some ⟨g2,0,none⟩) cq2 g2 HW2 (fun x hx=>by rw [(fD hx).1];exact Ac _ (by omega) adX));obtain⟨T,hT,hlT,hrT⟩:=R4.s;obtain⟨_,_,hcT⟩:=hT i (by rw [hlT];exact arK);open ajG in exact aqj):P:=h
theorem apO(h:P:=by
 go_simp;refine (gT c 4 _ (ah En).cur (by omega) (by omega)).mono ?_;rintro e w6 ⟨y, rfl, hy0, hy1, hc6, Lh⟩;have XA := hide ((ah En).draw hc6 Lh);clear hc6 Lh;obtain ⟨d0, d1, d2, d3, d4, d5, d6, d7, d8⟩ := nine (ah XA).own;obtain ⟨k0, k1, k2, k3, k4, k5, k6, k7, k8⟩ := nine ((ah XA).new (.cells #[.int .i64 (100 + q), .string ⟨#[97]⟩, .int .i64 1, .int .i64 y] 43)).own;obtain ⟨a', cp', w7, hrun, hbg, hS7⟩ := ((ah XA).new (.cells #[.int .i64 (100 + q), .string ⟨#[97]⟩, .int .i64 1, .int .i64 y] 43)).reqsPut ⟨100 + q, ⟨#[97]⟩, 1, y⟩ (by show (⟨#[97]⟩ : ByteArray).size ≤ 1048576; decide) w6.heap.size (heap_alloc_new w6 _) (by omega);have HS7 := hide hS7;have og : w7.heap[g]? = some (.cells (fO n A) 30 (0, 0)) := hbg.trans ((ah XA).new _).own;obtain ⟨e0, e1, e2, e3, e4, e5, e6, e7, e8⟩ := nine og;have f8 := aj og 8;have av1 := aA og;clear hS7 og hbg;go_simp;refine eO 6 rfl (by kernel_rfl) (by kernel_rfl) (by kernel_rfl) (fun _ _ _ _ h => h) (fun K hK => ?_);exact Ka42):P:=h
theorem agO.Ka42(h:P:=by
 open asF in exact Ya3):P:=h
theorem agP.Ka42(h:P:=by
 open asG in exact Ya3):P:=h
theorem adb(h:P:=by
 have HN:=hide (fun w1=>aS n true w1 hn);have HP:=hide (show R=(decide (no=0)&&true&&true&&kN ⟨mK,mF,mT,mI,mL,mk,mN⟩) by rw [←ah HR];simp[cZ,hk,hn]);open aoj in exact aa1):P:=h
theorem agQ.Ka43(h:P:=by
 have hX:W.heap[w.heap.size+1]?=some (.cells #[.int .i64 4,.int .i64 0,.string k,.int .i64 n,.int .i64 0,.int .i64 0,.int .i64 0,.int .i64 0,.int .i64 0,.string ⟨#[]⟩,.int .i64 0] 34 (0,0)):=by rw [hW];exact(jR w _ _).2
 have hY:W.heap[w.heap.size]?=some (.cells #[.int .i64 4,.int .i64 no,.string k,.int .i64 n,.int .i64 mK,.int .i64 mF,.int .i64 mT,.int .i64 mI,.int .i64 mL,.string mk,.int .i64 mN] 34 (0,0)):=by rw [hW];exact(jR w _ _).1
 exact adz):P:=h
theorem agR.Ka43(h:P:=by
 have hX:W.heap[w.heap.size+1]?=some (.cells #[.int .i64 3,.int .i64 0,.string k,.int .i64 n,.int .i64 0,.int .i64 0,.int .i64 0,.int .i64 0,.int .i64 0,.string ⟨#[]⟩,.int .i64 0] 34 (0,0)):=by rw [hW];exact(jR w _ _).2
 have hY:W.heap[w.heap.size]?=some (.cells #[.int .i64 3,.int .i64 no,.string k,.int .i64 n,.int .i64 mK,.int .i64 mF,.int .i64 mT,.int .i64 mI,.int .i64 mL,.string mk,.int .i64 mN] 34 (0,0)):=by rw [hW];exact(jR w _ _).1
 exact adz):P:=h
theorem agS.Ka43(h:P:=by
 have hX:W.heap[w.heap.size+1]?=some (.cells #[.int .i64 0,.int .i64 0,.string k,.int .i64 n,.int .i64 0,.int .i64 0,.int .i64 0,.int .i64 0,.int .i64 0,.string ⟨#[]⟩,.int .i64 0] 34 (0,0)):=by rw [hW];exact(jR w _ _).2
 have hY:W.heap[w.heap.size]?=some (.cells #[.int .i64 0,.int .i64 no,.string k,.int .i64 n,.int .i64 mK,.int .i64 mF,.int .i64 mT,.int .i64 mI,.int .i64 mL,.string mk,.int .i64 mN] 34 (0,0)):=by rw [hW];exact(jR w _ _).1
 exact adz):P:=h
theorem apP(h:P:=by
 clear hz hok hm hL he HR hw hF hks hb HID;generalize (takeN n o.m).1=n' at *;open alg in exact SL):P:=h
theorem agT.Ka44(h:P:=by
 obtain⟨c0,c1,c2,c3,c4,c5,c6,c7,c8,c9⟩:=iI HY.blk;obtain⟨⟨p0,p1,p2,p3,p4,p5,p6⟩,_⟩:=ig AO;have ad8:=aA HY.blk;have avS:=aA AO;go_upto_region 10 with fail;have y0:=cell_regrown c0;have z1:=cell_regrown p1;have z3:=cell_regrown p3;clear c0 c1 c2 c3 c4 c5 c6 c7 c8 c9 p0 p1 p2 p3 p4 p5 p6;refine bJ 11 (by kernel_rfl) ?_;show dZ _ _ _ _ _ 12 (Array.replicate 12 false) _ _
 refine tk [0,1,2,3,4,5,6,7,8,9,10] ?_;iterate 11 (refine oJ (fun K hK=>?_);go_simp;refine hK _ ?_;clear hK K)
 refine kK ?_;clear y0 z1 z3;refine aZ (by kernel_rfl) (fun x hx=>?_);have Em:=hide (En x A' G' c' n' (HY.step hx));clear hx;refine aF 11 rfl (by kernel_rfl) (by rfl) ?_;go_simp;refine Em.mono ?_;rintro e z ⟨rfl,c2,v2,hZ⟩;have HZ:=hide hZ;clear hZ Em;refine wpAny_done (by kernel_rfl) ?_;go_simp;go_wp2_with fail;go_ret;exact⟨rfl,A',G',c2,v2,HZ⟩):P:=h
theorem agU.Ka44(h:P:=by
 go_wp2_with fail;go_ret;exact⟨rfl,A',G',c',v,by rw [List.append_nil];exact HY⟩):P:=h
theorem XJ(h:P:=by
 have hbw:Below wr.heap.size wr W1:=by rw [hW1];exact ay wr _
 have xX:=hide (au ET hbw);have rF:=hide (fG.trans (hbw.mono fG.size));exact Ka45):P:=h
theorem agV.Ka45(h:P:=by
 have HI1:=hide (GR.At.below HI hbw);have hgw1:=hbw.size;have HKI:=hide (GR.At.below HA rF)
 have zM:Hid ((k=0∧pv=true)∨∃(j:Nat) (y:Int),k=j+1∧pv=decide (y < fr)∧W1.cell? ⟨g,off+j*3,none⟩=some (.int .i64 y)):=by
  rcases xR with h|⟨j,y,h1,h2,h3⟩
  ·exact .inl h
  ·exact .inr ⟨j,y,h1,h2,(hbw.cell (p:=⟨g,off+j*3,none⟩) hgw).trans h3⟩
 clear hW1 hbw q0 q1 q2 c0 c1 c2 c3 c4 c5 c6 xR HI ET;obtain⟨d0,d1,d2⟩:=three HW1;open alM in exact aaj):P:=h
theorem agW.Ka45(h:P:=by
 have hgw1:=hbw.size
 have zM:Hid ((k=0∧pv=true)∨∃(j:Nat) (y:Int),k=j+1∧pv=decide (y < si)∧W1.cell? ⟨g,off+j*4,none⟩=some (.int .i64 y)):=by
  exact abJ
 clear hW1 hbw q0 q1 q2 q3 c0 c1 c2 c3 c4 c5 c6 c7 c8 xR ET;obtain⟨d0,d1,d2,d3⟩:=fC HW1;open alL in exact aaj):P:=h
theorem agX.Ka45(h:P:=by
 clear hW1 hbw q0 q1 q2 q3 ET;obtain⟨d0,d1,d2,d3⟩:=fC HW1;go_cut [56] (fun r wx=>r= .bool bb∧wx=W1)
 case first=>
  by_cases g1:y < si
  case' neg=>
   have hb1:decide (si≤y)=true:=decide_eq_true (by omega)
   have HV:=hide (show bb=true by rw [←ah eP];simp[g1])
   clear eP xS
   go_wp2_with (fail)
   go_meet
   case rel=>exact⟨by rw [ah HV],rfl⟩
  have hb1:decide (si≤y)=false:=decide_eq_false (by omega);cases g2:nS si
  case' false=>
   have Hg2:=hide (fun w1=>jw si false w1 g2)
   have HV:=hide (show bb=true by rw [←ah eP];simp[g2])
   clear eP xS
   go_wp2_with (first|(go_at_call 74;refine(Hg2 _).mono ?_;rintro e w9 ⟨rfl,rfl⟩))
   go_meet
   case rel=>exact⟨by rw [ah HV],rfl⟩
  have Hg2:=hide (fun w1=>jw si true w1 g2);cases g3:keyOk sx.data.toList
  case' false=>
   have Hg3:=hide (fun w1=>gJ sx false w1 g3)
   have HV:=hide (show bb=true by rw [←ah eP];simp[g3])
   clear eP xS
   go_wp2_with (first|(go_at_call 74;refine(Hg2 _).mono ?_;rintro e w9 ⟨rfl,rfl⟩)|(go_at_call 71;refine(Hg3 _).mono ?_;rintro e w9 ⟨rfl,rfl⟩))
   go_meet
   case rel=>exact⟨by rw [ah HV],rfl⟩
  have Hg3:=hide (fun w1=>gJ sx true w1 g3);cases g4:eU sn
  case' false=>
   have Hg4:=hide (fun w1=>aS sn false w1 g4)
   have HV:=hide (show bb=true by rw [←ah eP];simp[g4])
   clear eP xS
   go_wp2_with (first|(go_at_call 74;refine(Hg2 _).mono ?_;rintro e w9 ⟨rfl,rfl⟩)|(go_at_call 71;refine(Hg3 _).mono ?_;rintro e w9 ⟨rfl,rfl⟩)|(go_at_call 40;refine(Hg4 _).mono ?_;rintro e w9 ⟨rfl,rfl⟩))
   go_meet
   case rel=>exact⟨by rw [ah HV],rfl⟩
  have Hg4:=hide (fun w1=>aS sn true w1 g4);by_cases g5:0≤st
  case' neg=>
   have hb5:decide (st < 0)=true:=decide_eq_true (by omega)
   have HV:=hide (show bb=true by rw [←ah eP];simp[g5])
   clear eP xS
   go_wp2_with (first|(go_at_call 74;refine(Hg2 _).mono ?_;rintro e w9 ⟨rfl,rfl⟩)|(go_at_call 71;refine(Hg3 _).mono ?_;rintro e w9 ⟨rfl,rfl⟩)|(go_at_call 40;refine(Hg4 _).mono ?_;rintro e w9 ⟨rfl,rfl⟩))
   go_meet
   case rel=>exact⟨by rw [ah HV],rfl⟩
  have hb5:decide (st < 0)=false:=decide_eq_false (by omega);by_cases g6:st≤2
  case' neg=>
   have hb6:decide (2 < st)=true:=decide_eq_true (by omega)
   have HV:=hide (show bb=true by rw [←ah eP];simp[g6])
   clear eP xS
   go_wp2_with (first|(go_at_call 74;refine(Hg2 _).mono ?_;rintro e w9 ⟨rfl,rfl⟩)|(go_at_call 71;refine(Hg3 _).mono ?_;rintro e w9 ⟨rfl,rfl⟩)|(go_at_call 40;refine(Hg4 _).mono ?_;rintro e w9 ⟨rfl,rfl⟩))
   go_meet
   case rel=>exact⟨by rw [ah HV],rfl⟩
  have hb6:decide (2 < st)=false:=decide_eq_false (by omega);have HV:=hide (show bb=false by rw [←ah eP];simp[g1,g2,g3,g4,g5,g6]);clear eP xS;go_wp2_with (first|(go_at_call 74;refine(Hg2 _).mono ?_;rintro e w9 ⟨rfl,rfl⟩)|(go_at_call 71;refine(Hg3 _).mono ?_;rintro e w9 ⟨rfl,rfl⟩)|(go_at_call 40;refine(Hg4 _).mono ?_;rintro e w9 ⟨rfl,rfl⟩))
  go_meet
  case rel=>exact⟨by rw [ah HV],rfl⟩
 case rest=>
  obtain⟨rfl,rfl⟩:=hcut;clear eP;cases hbv:bb
  ·have HG:=hide (show gH KB RR (reqs.take (k+1))=true by rw [ah xS,hbv];rfl);subst hbv;clear HBAD xS;go_wp2_with fail;go_roundw
   case rel=>exact⟨k+1,si,by omega,by go_num,rfl,Ae.symm,HG,xX,rF⟩
   case measure=>simp[intOf];omega
  ·have HP:=hide (HBAD (by rw [ah xS,hbv];rfl));subst hbv;clear HBAD xS;go_wp2_with fail;go_ret;exact⟨aD HP.symm,rF⟩):P:=h
theorem agY.Ka45(h:P:=by
 clear hW1 hbw q0 q1 q2 q3 ET;obtain⟨d0,d1,d2,d3⟩:=fC HW1;obtain⟨c0,c1,c2,c3,c4,c5,c6,c7,c8⟩:=nine xX;go_cut [46] (fun r wx=>r= .bool bb∧Below W1.heap.size W1 wx)
 case first=>
  by_cases h1:y < si
  case' neg=>
   have HV:=hide (show bb=true by rw [←ah eP];simp[h1])
   have hb1:decide (si≤y)=true:=decide_eq_true (by omega)
   clear eP xS
   go_wp2_with fail
   go_meet
   case rel=>exact⟨by rw [ah HV],Below.refl _ _⟩
  have hb1:decide (si≤y)=false:=decide_eq_false (by omega);by_cases h2:si < next
  case' neg=>
   have HV:=hide (show bb=true by rw [←ah eP];simp[h2])
   have hb2:decide (next≤si)=true:=decide_eq_true (by omega)
   clear eP xS
   go_wp2_with fail
   go_meet
   case rel=>exact⟨by rw [ah HV],Below.refl _ _⟩
  have hb2:decide (next≤si)=false:=decide_eq_false (by omega);go_wp2_with fail;refine(Hq _ _ rF).mono ?_;rintro e w2 ⟨rfl,hb3⟩;have HB3:=hide hb3;have HW2:=hide (au HW1 hb3);clear hb3 d0 d1 d2 d3 c0 c1 c2 c3 c4 c5 c6 c7 c8;obtain⟨d0,d1,d2,d3⟩:=fC HW2;cases h3:NN st
  case' false=>
   have HV:=hide (show bb=true by rw [←ah eP];simp[h3])
   clear eP xS h3
   go_wp2_with fail
   go_meet
   case rel=>exact⟨by rw [ah HV],HB3⟩
  cases h4:keyOk sx.data.toList
  case' false=>
   have HV:=hide (show bb=true by rw [←ah eP];simp[h4])
   have H4:=hide (fun w1=>gJ sx false w1 h4)
   clear eP xS h3 h4
   go_wp2_with (go_at_call 71;refine(H4 _).mono ?_;rintro e w9 ⟨rfl,rfl⟩)
   go_meet
   case rel=>exact⟨by rw [ah HV],HB3⟩
  have H4:=hide (fun w1=>gJ sx true w1 h4);have HV:=hide (show bb= !eU sn by rw [←ah eP];simp[h1,h2,h3,h4]);have H5:=hide (fun w1=>aS sn _ w1 rfl);clear eP xS h3 h4;go_wp2_with (first|(go_at_call 71;refine(H4 _).mono ?_;rintro e w9 ⟨rfl,rfl⟩)|(go_at_call 40;refine(H5 _).mono ?_;rintro e w9 ⟨rfl,rfl⟩))
  go_meet
  case rel=>exact⟨by rw [ah HV],HB3⟩
 case rest=>
  obtain⟨rfl,hbx⟩:=hcut;open al1 in exact Ow):P:=h
theorem ade(h:P:=by
 obtain⟨hjun,oj,hoj,hall⟩:=mem_ready.1 hj
 have hnot:∀e∈oj.after,Region.binds md e=true→e.on≠i:=fun e he hb heq=>by
  have h2:=hall e he hb
  have h0:=(mem_ready.1 hr).1
  rw [heq] at h2
  rcases Nat.lt_or_ge i listed.size with h'|h'
  ·simp[h'] at h0 h2;rw [h0] at h2;cases h2
  ·simp[Array.getElem?_eq_none h'] at h2
 have h2:=Q6 hoj (hfree j oj hoj hji hjun hnot) (fun cs b=>hsel i oi cs b hi) (fun cs b=>hsel j oj cs b hoj) hQ h1;refine wpOp_mono (fun a' y hy2=>?_) h2;obtain⟨⟨hs1,hs2⟩,hg,hm⟩:=hy2;exact Ka46):P:=h
theorem agZ.Ka46(h:P:=by
 refine⟨hg,ih (listed.setIfInBounds j true) a' y ?_ (ready_mono hr (Ne.symm hji)) ?_ ?_⟩
 ·exact TH
 ·unfold nX at *;rw [hs1,hs2];exact hy.imp (fun⟨p,q⟩=>⟨p,fun z hz=>q z (Ge.trans (Ge.trans hx hg) hz)⟩) id
 ·rw [Array.setIfInBounds_comm _ _ hji];exact hm):P:=h
theorem ag0.Ka46(h:P:=by
 have hwy:Below b w y:=(hx.mono hb).trans hg;refine⟨hg,ih (listed.setIfInBounds j true) a' y (Nat.le_trans hb hwy.size) (Bb hcl hj) ?_ (ready_mono hr (Ne.symm hji)) ?_ ?_⟩
 ·exact TH
 ·unfold Aj at *;rw [hs1,hs2];exact hy.imp (fun⟨p,q⟩=>⟨p,fun z hz=>q z (hwy.trans hz)⟩) id
 ·rw [Array.setIfInBounds_comm _ _ hji];exact hm):P:=h
theorem ag1.Ka46(h:P:=by
 refine⟨hg,ih (listed.setIfInBounds j true) a' y (Bb hcl hj) ?_ (ready_mono hr (Ne.symm hji)) ?_ ?_⟩
 ·exact TH
 ·unfold nX at *;rw [hs1,hs2];exact hy.imp (fun⟨p,q⟩=>⟨p,fun z hz=>q z (Ge.trans (Ge.trans hx hg) hz)⟩) id
 ·rw [Array.setIfInBounds_comm _ _ hji];exact hm):P:=h
theorem adf(h:P:=by
 open anN in exact aaP):P:=h
theorem ag2.Ka47(h:P:=by
 obtain⟨c0,c1,c2,c3,c4,c5,c6,c7,c8⟩:=nine jG;open ahL in exact TB):P:=h
theorem ag3.Ka47(h:P:=by
 obtain⟨g,e0,hBg,hgb⟩:∃g,fA=some ⟨g,0,none⟩∧B≤g∧(∀x,(Value.slice fA n.reqs.length aT).ownBlock=some x↔x=g):=by
  exact aus
 obtain⟨g',off,e0',hg,q0,q1,q2,q3⟩:=iD.four Ag.at.r i hi;rw [e0] at e0';simp only[Option.some.injEq,Addr.mk.injEq,and_true] at e0';obtain⟨rfl,rfl⟩:=e0';rw [Nat.zero_add] at q0 q1 q2 q3;rw [ah HST] at q3;obtain⟨c0,c1,c2,c3,c4,c5,c6,c7,c8⟩:=nine jG;open ahK in exact TB):P:=h
theorem ag4.Ka47(h:P:=by
 obtain⟨g,off,e0,hg,q0,q1,q2,q3⟩:=iD.four Ag.at.r i hi;rw [ah HST] at q3;obtain⟨c0,c1,c2,c3,c4,c5,c6,c7,c8⟩:=nine jG;open ahJ in exact TB):P:=h
theorem PD(h:P:=by
 obtain⟨d0,d1,d2,d3,d4,d5,d6,d7,d8⟩:=nine oI;have f0:=aj oI 0;have f1:=aj oI 1;have f2:=aj oI 2;have f3:=aj oI 3;have f4:=aj oI 4;have f5:=aj oI 5;have f6:=aj oI 6;have f7:=aj oI 7;have f8:=aj oI 8;exact Ka48):P:=h
theorem ag5.Ka48(h:P:=by
 have hnl:=aA jG;open alA in exact aad):P:=h
theorem ag6.Ka48(h:P:=by
 have hrl:=aA oI;go_wp2_with fail;refine aR (fun W' hW'=>?_)
 have e4:W'.heap[w.heap.size+2]?=some (.cells #[.int .i64 N1.id,.int .i64 N1.par,.slice A2.k N1.kids.length A2.ck,.int .i64 N1.next,.slice A2.p N1.pu.length A2.cp,.slice A2.o N1.out.length A2.co,.slice A2.s N1.seen.length A2.cs,.int .i64 N1.old,.slice A2.r N1.reqs.length A2.cr] 30 (0,0)):=by
  rw [hW'];exact GR.setW_blk [.int .i64 N1.id,.int .i64 N1.par,.slice A2.k N1.kids.length A2.ck,.int .i64 N1.next,.slice A2.p N1.pu.length A2.cp,.slice A2.o N1.out.length A2.co,.slice A2.s N1.seen.length A2.cs,.int .i64 N1.old,.slice A2.r N1.reqs.length A2.cr] (o:=0) (xs:=[.int .i64 0,.int .i64 0,.slice none 0 0,.int .i64 0,.slice none 0 0,.slice none 0 0,.slice none 0 0,.int .i64 0,.slice none 0 0]) oI
 have fu:aC [w.heap.size+2] (W5.alloc (.cells #[.int .i64 N1.id,.int .i64 N1.par,.slice A2.k N1.kids.length A2.ck,.int .i64 N1.next,.slice A2.p N1.pu.length A2.cp,.slice A2.o N1.out.length A2.co,.slice A2.s N1.seen.length A2.cs,.int .i64 N1.old,.slice A2.r N1.reqs.length A2.cr] 30)) W':=by
  rw [hW'];exact aM [.int .i64 N1.id,.int .i64 N1.par,.slice A2.k N1.kids.length A2.ck,.int .i64 N1.next,.slice A2.p N1.pu.length A2.cp,.slice A2.o N1.out.length A2.co,.slice A2.s N1.seen.length A2.cs,.int .i64 N1.old,.slice A2.r N1.reqs.length A2.cr] (W5.alloc (.cells #[.int .i64 N1.id,.int .i64 N1.par,.slice A2.k N1.kids.length A2.ck,.int .i64 N1.next,.slice A2.p N1.pu.length A2.cp,.slice A2.o N1.out.length A2.co,.slice A2.s N1.seen.length A2.cs,.int .i64 N1.old,.slice A2.r N1.reqs.length A2.cr] 30)) 0
 have HAT:=hide (fun W'' (ho:zD w W' W'')=>Ro W'' (ho.out (c:=c) ((aC.of_below (ay W5 (.cells #[.int .i64 N1.id,.int .i64 N1.par,.slice A2.k N1.kids.length A2.ck,.int .i64 N1.next,.slice A2.p N1.pu.length A2.cp,.slice A2.o N1.out.length A2.co,.slice A2.s N1.seen.length A2.cs,.int .i64 N1.old,.slice A2.r N1.reqs.length A2.cr] 30))).trans fu) hrx Rv));have lH:Hid (Below w.heap.size w W'):=rP.trans (fu.below (fun x hx=>by have:x=w.heap.size+2:=(by simpa using hx);omega) rP.size);obtain⟨x0,x1,x2,x3,x4,x5,x6,x7,x8⟩:=nine e4;clear hW' e4 fu;exact bodyPost_ret (v:= .tuple #[.agg #[.int .i64 N1.id,.int .i64 N1.par,.slice A2.k N1.kids.length A2.ck,.int .i64 N1.next,.slice A2.p N1.pu.length A2.cp,.slice A2.o N1.out.length A2.co,.slice A2.s N1.seen.length A2.cs,.int .i64 N1.old,.slice A2.r N1.reqs.length A2.cr],.slice (some ⟨W0.heap.size,0,none⟩) 0 0,.int .i64 zh]) (by simp[results,Tryz.results30,go_sem,x0,x1,x2,x3,x4,x5,x6,x7,x8]) rfl ⟨A2,some ⟨W0.heap.size,0,none⟩,0,rfl,HAT,fun W'' _ i hi=>by simp at hi,lH⟩):P:=h
theorem ag7.Ka48(h:P:=by
 have hnl:=aA jg;open alz in exact aad):P:=h
theorem ag8.Ka48(h:P:=by
 have hnl:=aA yc;have hrl:=aA oI;go_wp2_with fail;refine aR (fun W' hW'=>?_)
 have e4:W'.heap[w.heap.size+2]?=some (.cells #[.int .i64 n.id,.int .i64 n.par,.slice A.k n.kids.length A.ck,.int .i64 n.next,.slice A.p n.pu.length A.cp,.slice a (FL n.out.length).length cp,.slice A.s n.seen.length A.cs,.int .i64 n.old,.slice A.r n.reqs.length A.cr] 30 (0,0)):=by
  rw [hW'];exact GR.setW_blk [.int .i64 n.id,.int .i64 n.par,.slice A.k n.kids.length A.ck,.int .i64 n.next,.slice A.p n.pu.length A.cp,.slice a (FL n.out.length).length cp,.slice A.s n.seen.length A.cs,.int .i64 n.old,.slice A.r n.reqs.length A.cr] (o:=0) (xs:=[.int .i64 0,.int .i64 0,.slice none 0 0,.int .i64 0,.slice none 0 0,.slice none 0 0,.slice none 0 0,.int .i64 0,.slice none 0 0]) oI
 have fu:aC [w.heap.size+2] (Z.alloc (.cells #[] 32)) W':=by
  rw [hW'];exact aM [.int .i64 n.id,.int .i64 n.par,.slice A.k n.kids.length A.ck,.int .i64 n.next,.slice A.p n.pu.length A.cp,.slice a (FL n.out.length).length cp,.slice A.s n.seen.length A.cs,.int .i64 n.old,.slice A.r n.reqs.length A.cr] (Z.alloc (.cells #[] 32)) 0
 have HAT:=hide (fun W'' (ho:Out c w W' W'')=>(show RM W'' ⟨A.k,A.p,a,A.s,A.r,A.ck,A.cp,cp,A.cs,A.cr⟩ (setOut n (FL n.out.length)) from by
  have kF:KC (newC w.heap.size 9 c) 9 (Z.alloc (.cells #[] 32)) W'':=(KC.keeps fu (fun y hy=>by have:y=w.heap.size+2:=(by simpa using hy);rw [this];exact aW (by omega))).trans (KC.out H9 ho)
  have hoF:W''.ownsRow W2.heap.size 55 4 (.slice a (FL n.out.length).length cp) (FL n.out.length).length (GR.flat aU (FL n.out.length)):=by
   obtain⟨F,hk,hF⟩:=ho;exact(dB (dB HOA fu (fun y hy=>by have:y=w.heap.size+2:=(by simpa using hy);omega)) hk (fun y hy=>by have:=(hF y hy).1;omega))
  have h5:=EZ.kc (k:=9) kF (by omega)
  exact NQ.put h5 h5 (setOut n (FL n.out.length)) ⟨A.k,A.p,a,A.s,A.r,A.ck,A.cp,cp,A.cs,A.cr⟩ rfl rfl rfl rfl h5.p.at (fun g' hg' hp'=> .inl (h5.cpB h5 g' hg' hp')) hoF (fun y hy=> .inr (by have h1:=qO hoF hy;rw [aW (by omega)];omega)) h5.r (fun y hy=> .inl (h5.cr y hy))
   (fun g' hg' hp' h6=>by have:=h5.cpB h5 g' hg' hp';omega) (fun y hy h6 e=>by have:=h5.cr y e;omega)))
 open amb in exact aao):P:=h
theorem ag9.Ka48(h:P:=by
 have hnl:=aA EZ;have hrl:=aA oI;go_wp2_with fail;refine aR (fun W' hW'=>?_)
 have e4:W'.heap[w.heap.size+2]?=some (.cells #[.int .i64 N1.id,.int .i64 N1.par,.slice A1.k N1.kids.length A1.ck,.int .i64 N1.next,.slice A1.p N1.pu.length A1.cp,.slice A1.o N1.out.length A1.co,.slice A1.s N1.seen.length A1.cs,.int .i64 N1.old,.slice A1.r N1.reqs.length A1.cr] 30 (0,0)):=by
  rw [hW'];exact GR.setW_blk [.int .i64 N1.id,.int .i64 N1.par,.slice A1.k N1.kids.length A1.ck,.int .i64 N1.next,.slice A1.p N1.pu.length A1.cp,.slice A1.o N1.out.length A1.co,.slice A1.s N1.seen.length A1.cs,.int .i64 N1.old,.slice A1.r N1.reqs.length A1.cr] (o:=0) (xs:=[.int .i64 0,.int .i64 0,.slice none 0 0,.int .i64 0,.slice none 0 0,.slice none 0 0,.slice none 0 0,.int .i64 0,.slice none 0 0]) oI
 have fu:aC [w.heap.size+2] (W3.alloc (.cells #[.int .i64 N1.id,.int .i64 N1.par,.slice A1.k N1.kids.length A1.ck,.int .i64 N1.next,.slice A1.p N1.pu.length A1.cp,.slice A1.o N1.out.length A1.co,.slice A1.s N1.seen.length A1.cs,.int .i64 N1.old,.slice A1.r N1.reqs.length A1.cr] 30)) W':=by
  rw [hW'];exact aM [.int .i64 N1.id,.int .i64 N1.par,.slice A1.k N1.kids.length A1.ck,.int .i64 N1.next,.slice A1.p N1.pu.length A1.cp,.slice A1.o N1.out.length A1.co,.slice A1.s N1.seen.length A1.cs,.int .i64 N1.old,.slice A1.r N1.reqs.length A1.cr] (W3.alloc (.cells #[.int .i64 N1.id,.int .i64 N1.par,.slice A1.k N1.kids.length A1.ck,.int .i64 N1.next,.slice A1.p N1.pu.length A1.cp,.slice A1.o N1.out.length A1.co,.slice A1.s N1.seen.length A1.cs,.int .i64 N1.old,.slice A1.r N1.reqs.length A1.cr] 30)) 0
 have HAT:=hide (fun W'' (ho:Out c w W' W'')=>(show RM W'' A1 N1 from(by
  obtain⟨F,hk,hF⟩:=ho
  exact Ro _ ⟨(w.heap.size+2)::F,aC.trans (b:=W') ((aC.of_below (ay W3 (.cells #[.int .i64 N1.id,.int .i64 N1.par,.slice A1.k N1.kids.length A1.ck,.int .i64 N1.next,.slice A1.p N1.pu.length A1.cp,.slice A1.o N1.out.length A1.co,.slice A1.s N1.seen.length A1.cs,.int .i64 N1.old,.slice A1.r N1.reqs.length A1.cr] 30))).trans (fu.mono (fun x hx=>by simp at hx;simp[hx]))) (hk.mono (fun x hx=>by simp[hx])),fun y hy=>by
   rcases List.mem_cons.1 hy with h1|h1
   ·exact OE
   ·exact⟨Nat.lt_of_lt_of_le (hF y h1).1 h02,by rw [dR (hF y h1).1];exact(hF y h1).2⟩⟩)))
 have WB:=hide (fun W'' (ho:Out c w W' W'')=>(show GR.At je 7 W'' ma L1 from(by
  obtain⟨F,hk,hF⟩:=ho
  exact Xi _ ⟨(w.heap.size+2)::F,aC.trans (b:=W') ((aC.of_below (ay W3 (.cells #[.int .i64 N1.id,.int .i64 N1.par,.slice A1.k N1.kids.length A1.ck,.int .i64 N1.next,.slice A1.p N1.pu.length A1.cp,.slice A1.o N1.out.length A1.co,.slice A1.s N1.seen.length A1.cs,.int .i64 N1.old,.slice A1.r N1.reqs.length A1.cr] 30))).trans (fu.mono (fun x hx=>by simp at hx;simp[hx]))) (hk.mono (fun x hx=>by simp[hx])),fun y hy=>by
   rcases List.mem_cons.1 hy with h1|h1
   ·exact OE
   ·exact⟨Nat.lt_of_lt_of_le (hF y h1).1 h02,by rw [dR (hF y h1).1];exact(hF y h1).2⟩⟩)))
 open ama in exact aao):P:=h
theorem aha.Ka48(h:P:=by
 have hnl:=aA jG;have hrl:=aA oI;go_wp2_with fail;rw [yB];go_upto_region 5 with fail;go_wp2_with fail;have EZ:=hide (Ag.kc (k:=9) (KC.of_below (ay W1 (.cells #[] 32))) (by omega));have rP:=hide (HB1.trans ((ay W1 (.cells #[] 32)).mono HB1.size));refine aR (fun W' hW'=>?_)
 have e4:W'.heap[w.heap.size+1]?=some (.cells #[.int .i64 n.id,.int .i64 n.par,.slice A.k n.kids.length A.ck,.int .i64 n.next,.slice A.p n.pu.length A.cp,.slice A.o n.out.length A.co,.slice A.s n.seen.length A.cs,.int .i64 n.old,.slice A.r n.reqs.length A.cr] 30 (0,0)):=by
  exact aqH
 have fu:aC [w.heap.size+1] (W1.alloc (.cells #[] 32)) W':=by
  rw [hW'];exact aM [.int .i64 n.id,.int .i64 n.par,.slice A.k n.kids.length A.ck,.int .i64 n.next,.slice A.p n.pu.length A.cp,.slice A.o n.out.length A.co,.slice A.s n.seen.length A.cs,.int .i64 n.old,.slice A.r n.reqs.length A.cr] (W1.alloc (.cells #[] 32)) 0
 have HAT:=hide (fun W'' (ho:Out c w W' W'')=>(EZ.kc (k:=9) ((KC.keeps fu (fun x hx=>by have:x=w.heap.size+1:=(by simpa using hx);rw [this];exact aW (by omega))).trans (KC.out H9 ho)) (by omega)).rm);have lH:Hid (Below B w W'):=(rP.mono hB).trans (fu.below (fun x hx=>by have:x=w.heap.size+1:=(by simpa using hx);omega) (Nat.le_trans hB (rP.mono hB).size));have qg:=hide (Apart.keeps (c:=c) (Apart.of_below rP) (rP.mono hB).size fu (fun x hx=>by have:x=w.heap.size+1:=(by simpa using hx);omega));obtain⟨x0,x1,x2,x3,x4,x5,x6,x7,x8⟩:=nine e4;clear hW' e4 fu;exact bodyPost_ret (v:= .tuple #[.agg #[.int .i64 n.id,.int .i64 n.par,.slice A.k n.kids.length A.ck,.int .i64 n.next,.slice A.p n.pu.length A.cp,.slice A.o n.out.length A.co,.slice A.s n.seen.length A.cs,.int .i64 n.old,.slice A.r n.reqs.length A.cr],.slice (some ⟨W1.heap.size,0,none⟩) 0 0,.int .i64 1]) (by simp[results,Tryz.results64,go_sem,x0,x1,x2,x3,x4,x5,x6,x7,x8]) rfl ⟨A,some ⟨W1.heap.size,0,none⟩,0,rfl,HAT,fun W'' _ i hi=>by simp at hi,lH,qg⟩):P:=h
theorem apQ(h:P:=by
 have qx:Below Z6.heap.size Z6 Z7:=by
  rw [hZ];exact ay Z6 _
 have nH:=hide (au kS qx);have lN:=hide (au iX qx);have HN7:=hide (HN6.kc (k:=9) (KC.of_below qx) (by omega));have Zt:=hide (GR.own_below R5 qx);have zF:=hide (uj.trans (qx.mono (Nat.le_trans hB uj.size)));have HK7:=hide (HK6.step uj.size qx);have hsb:w.heap.size+1 < Z6.heap.size:=aA iX;generalize Z6.heap.size=sb at *;clear hZ qx kS iX HN6 R5 uj HK6 c3n hn6;have c3n:=(nine nH).2.2.2.1;have f3n:=aj nH 3;have hn7:=aA nH;go_upto_region 9 with fail;refine wp_at (fun Z8 hZ=>?_);have oC:Hid (Z8.heap[w.heap.size]?=some (.cells #[.int .i64 n.id,.int .i64 n.par,.slice a_k n.kids.length aK,.int .i64 (n.next+1),.slice av RL.length cv,.slice dP n.out.length aO,.slice dS n.seen.length aL,.int .i64 n.old,.slice fA n.reqs.length aT] 30 (0,0))):=by rw [hZ];exact mV nH
 have vQ:Hid (Z8.heap[w.heap.size+1]?=some (.cells iV 30 (0,0))):=by rw [hZ];exact jB lN (by omega)
 exact Ka49):P:=h
theorem ahb.Ka49(h:P:=by
 have Sd:Hid (Z8.heap[sb]?=some (.cells #[.int .i64 n.next,.int .i64 dst,.string key,.int .i64 most] 55 (0,0))):=by rw [hZ];exact jB HS7 (by omega)
 open aiz in exact ap3):P:=h
theorem ahc.Ka49(h:P:=by
 have Sd:Hid (Z8.heap[sb]?=some (.cells #[.int .i64 n.next,.int .i64 dst,.string key,.int .i64 pf] 55 (0,0))):=by rw [hZ];exact jB HS7 (by omega)
 open aiy in exact ap3):P:=h
theorem XK(h:P:=by
 have h1:pE F=true:=by unfold lI at hr;simp only[Bool.and_eq_true] at hr;exact hr.1.1
 have h2:pE T=true:=by unfold lI at hr;simp only[Bool.and_eq_true] at hr;exact hr.1.2
 have hft:¬F=T:=by unfold lI at hr;simp only[Bool.and_eq_true,decide_eq_true_iff] at hr;exact hr.2
 have H1:=hide (fun w1=>jS F true w1 h1);have H2:=hide (fun w1=>jS T true w1 h2);clear h1 h2;exact Ka50):P:=h
theorem ahd.Ka50(h:P:=by
 have HP:=hide (show dw ⟨K,F,T,I,L,k,N⟩=false by simp[dw,hr,k0,k1,k2]);clear hr;go_enter Tryz.func91,Tryz.ntmps91
 go_wp2_with (first|(go_at_call_of 53 F;refine(H1 _).mono ?_;rintro e w1 ⟨rfl,rfl⟩)|(go_at_call_of 53 T;refine(H2 _).mono ?_;rintro e w1 ⟨rfl,rfl⟩))
 exact PK):P:=h
theorem ahe.Ka50(h:P:=by
 cases hc2:eU I
 case' false=>
  have HP:=hide (show dw ⟨2,F,T,I,L,k,N⟩=false by simp[dw,hr,hc2])
  have oH:=hide (fun w1=>dW I false w1 hc2)
  clear hr hc2
  go_enter Tryz.func91,Tryz.ntmps91
  go_wp2_with (first|(go_at_call_of 53 F;refine(H1 _).mono ?_;rintro e w1 ⟨rfl,rfl⟩)|(go_at_call_of 53 T;refine(H2 _).mono ?_;rintro e w1 ⟨rfl,rfl⟩)|(go_at_call_of 21 I;refine(oH _).mono ?_;rintro e w1 ⟨rfl,rfl⟩))
  go_ret
  exact⟨aD HP.symm,ay w _⟩
 have oH:=hide (fun w1=>dW I true w1 hc2);by_cases hz:k.size=0
 case' neg=>
  have hne:k.toList.isEmpty=false:=yO k (by omega)
  have HP:=hide (show dw ⟨2,F,T,I,L,k,N⟩=false by simp[dw,hr,hc2,hz])
  clear hr hc2
  go_enter Tryz.func91,Tryz.ntmps91
  go_wp2_with (first|(go_at_call_of 53 F;refine(H1 _).mono ?_;rintro e w1 ⟨rfl,rfl⟩)|(go_at_call_of 53 T;refine(H2 _).mono ?_;rintro e w1 ⟨rfl,rfl⟩)|(go_at_call_of 21 I;refine(oH _).mono ?_;rintro e w1 ⟨rfl,rfl⟩))
  go_ret
  exact⟨aD HP.symm,ay w _⟩
 obtain rfl:=eq_empty k hz;by_cases hzN:N=0
 case' neg=>
  have HP:=hide (show dw ⟨2,F,T,I,L,ByteArray.empty,N⟩=false by simp[dw,hr,hc2,hz,hzN])
  have he:(N == 0)=false:=by simp[hzN]
  clear hr hc2
  go_enter Tryz.func91,Tryz.ntmps91
  go_wp2_with (first|(go_at_call_of 53 F;refine(H1 _).mono ?_;rintro e w1 ⟨rfl,rfl⟩)|(go_at_call_of 53 T;refine(H2 _).mono ?_;rintro e w1 ⟨rfl,rfl⟩)|(go_at_call_of 21 I;refine(oH _).mono ?_;rintro e w1 ⟨rfl,rfl⟩))
  go_ret
  exact⟨aD (by first|exact HP.symm|exact he.trans HP.symm),ay w _⟩
 subst hzN;by_cases hzL:L=0
 case' neg=>
  have HP:=hide (show dw ⟨2,F,T,I,L,ByteArray.empty,0⟩=false by simp[dw,hr,hc2,hz,hzL])
  have he:(L == 0)=false:=by simp[hzL]
  clear hr hc2
  go_enter Tryz.func91,Tryz.ntmps91
  go_wp2_with (first|(go_at_call_of 53 F;refine(H1 _).mono ?_;rintro e w1 ⟨rfl,rfl⟩)|(go_at_call_of 53 T;refine(H2 _).mono ?_;rintro e w1 ⟨rfl,rfl⟩)|(go_at_call_of 21 I;refine(oH _).mono ?_;rintro e w1 ⟨rfl,rfl⟩))
  go_ret
  exact⟨aD (by first|exact HP.symm|exact he.trans HP.symm),ay w _⟩
 subst hzL;have HP:=hide (show dw ⟨2,F,T,I,0,ByteArray.empty,0⟩=true by simp[dw,hr,hc2,hz]);clear hr hc2;go_enter Tryz.func91,Tryz.ntmps91
 go_wp2_with (first|(go_at_call_of 53 F;refine(H1 _).mono ?_;rintro e w1 ⟨rfl,rfl⟩)|(go_at_call_of 53 T;refine(H2 _).mono ?_;rintro e w1 ⟨rfl,rfl⟩)|(go_at_call_of 21 I;refine(oH _).mono ?_;rintro e w1 ⟨rfl,rfl⟩))
 exact PK):P:=h
theorem ahf.Ka50(h:P:=by
 cases hc2:keyOk k.data.toList
 case' false=>
  have HP:=hide (show dw ⟨1,F,T,I,L,k,N⟩=false by simp[dw,hr,hc2])
  have oH:=hide (fun w1=>lD k false w1 hs hc2)
  clear hr hc2
  go_enter Tryz.func91,Tryz.ntmps91
  go_wp2_with (first|(go_at_call_of 53 F;refine(H1 _).mono ?_;rintro e w1 ⟨rfl,rfl⟩)|(go_at_call_of 53 T;refine(H2 _).mono ?_;rintro e w1 ⟨rfl,rfl⟩)|(go_at_call_of 25 k;refine(oH _).mono ?_;rintro e w1 ⟨rfl,rfl⟩))
  go_ret
  exact⟨aD HP.symm,ay w _⟩
 have oH:=hide (fun w1=>lD k true w1 hs hc2);cases hc3:eU N
 case' false=>
  have HP:=hide (show dw ⟨1,F,T,I,L,k,N⟩=false by simp[dw,hr,hc2,hc3])
  have K8:=hide (fun w1=>dW N false w1 hc3)
  clear hr hc2 hc3
  go_enter Tryz.func91,Tryz.ntmps91
  go_wp2_with (first|(go_at_call_of 53 F;refine(H1 _).mono ?_;rintro e w1 ⟨rfl,rfl⟩)|(go_at_call_of 53 T;refine(H2 _).mono ?_;rintro e w1 ⟨rfl,rfl⟩)|(go_at_call_of 25 k;refine(oH _).mono ?_;rintro e w1 ⟨rfl,rfl⟩)|(go_at_call_of 21 N;refine(K8 _).mono ?_;rintro e w1 ⟨rfl,rfl⟩))
  go_ret
  exact⟨aD HP.symm,ay w _⟩
 have K8:=hide (fun w1=>dW N true w1 hc3);cases hc4:eU I
 case' false=>
  have HP:=hide (show dw ⟨1,F,T,I,L,k,N⟩=false by simp[dw,hr,hc2,hc3,hc4])
  have Y9:=hide (fun w1=>dW I false w1 hc4)
  clear hr hc2 hc3 hc4
  go_enter Tryz.func91,Tryz.ntmps91
  go_wp2_with (first|(go_at_call_of 53 F;refine(H1 _).mono ?_;rintro e w1 ⟨rfl,rfl⟩)|(go_at_call_of 53 T;refine(H2 _).mono ?_;rintro e w1 ⟨rfl,rfl⟩)|(go_at_call_of 25 k;refine(oH _).mono ?_;rintro e w1 ⟨rfl,rfl⟩)|(go_at_call_of 21 N;refine(K8 _).mono ?_;rintro e w1 ⟨rfl,rfl⟩)|(go_at_call_of 21 I;refine(Y9 _).mono ?_;rintro e w1 ⟨rfl,rfl⟩))
  go_ret
  exact⟨aD HP.symm,ay w _⟩
 have Y9:=hide (fun w1=>dW I true w1 hc4);cases Aq:decide (1≤L∧L≤I)
 case' false=>
  have HP:=hide (show dw ⟨1,F,T,I,L,k,N⟩=false by simp[dw,hr,hc2,hc3,hc4,Aq])
  have Lr:=hide (fun w1=>qC L 1 I false w1 Aq)
  clear hr hc2 hc3 hc4 Aq
  go_enter Tryz.func91,Tryz.ntmps91
  go_wp2_with (first|(go_at_call_of 53 F;refine(H1 _).mono ?_;rintro e w1 ⟨rfl,rfl⟩)|(go_at_call_of 53 T;refine(H2 _).mono ?_;rintro e w1 ⟨rfl,rfl⟩)|(go_at_call_of 25 k;refine(oH _).mono ?_;rintro e w1 ⟨rfl,rfl⟩)|(go_at_call_of 21 N;refine(K8 _).mono ?_;rintro e w1 ⟨rfl,rfl⟩)|(go_at_call_of 21 I;refine(Y9 _).mono ?_;rintro e w1 ⟨rfl,rfl⟩)|(go_at_call 23;refine(Lr _).mono ?_;rintro e w1 ⟨rfl,rfl⟩))
  go_ret
  exact⟨aD HP.symm,ay w _⟩
 have Lr:=hide (fun w1=>qC L 1 I true w1 Aq);have HP:=hide (show dw ⟨1,F,T,I,L,k,N⟩=true by simp[dw,hr,hc2,hc3,hc4,Aq]);clear hr hc2 hc3 hc4 Aq;go_enter Tryz.func91,Tryz.ntmps91
 go_wp2_with (first|(go_at_call_of 53 F;refine(H1 _).mono ?_;rintro e w1 ⟨rfl,rfl⟩)|(go_at_call_of 53 T;refine(H2 _).mono ?_;rintro e w1 ⟨rfl,rfl⟩)|(go_at_call_of 25 k;refine(oH _).mono ?_;rintro e w1 ⟨rfl,rfl⟩)|(go_at_call_of 21 N;refine(K8 _).mono ?_;rintro e w1 ⟨rfl,rfl⟩)|(go_at_call_of 21 I;refine(Y9 _).mono ?_;rintro e w1 ⟨rfl,rfl⟩)|(go_at_call 23;refine(Lr _).mono ?_;rintro e w1 ⟨rfl,rfl⟩))
 exact PK):P:=h
theorem ahg.Ka50(h:P:=by
 cases hc2:keyOk k.data.toList
 case' false=>
  have HP:=hide (show dw ⟨0,F,T,I,L,k,N⟩=false by simp[dw,hr,hc2])
  have oH:=hide (fun w1=>lD k false w1 hs hc2)
  clear hr hc2
  go_enter Tryz.func91,Tryz.ntmps91
  go_wp2_with (first|(go_at_call_of 53 F;refine(H1 _).mono ?_;rintro e w1 ⟨rfl,rfl⟩)|(go_at_call_of 53 T;refine(H2 _).mono ?_;rintro e w1 ⟨rfl,rfl⟩)|(go_at_call_of 25 k;refine(oH _).mono ?_;rintro e w1 ⟨rfl,rfl⟩))
  go_ret
  exact⟨aD HP.symm,ay w _⟩
 have oH:=hide (fun w1=>lD k true w1 hs hc2);cases hc3:eU N
 case' false=>
  have HP:=hide (show dw ⟨0,F,T,I,L,k,N⟩=false by simp[dw,hr,hc2,hc3])
  have K8:=hide (fun w1=>dW N false w1 hc3)
  clear hr hc2 hc3
  go_enter Tryz.func91,Tryz.ntmps91
  go_wp2_with (first|(go_at_call_of 53 F;refine(H1 _).mono ?_;rintro e w1 ⟨rfl,rfl⟩)|(go_at_call_of 53 T;refine(H2 _).mono ?_;rintro e w1 ⟨rfl,rfl⟩)|(go_at_call_of 25 k;refine(oH _).mono ?_;rintro e w1 ⟨rfl,rfl⟩)|(go_at_call_of 21 N;refine(K8 _).mono ?_;rintro e w1 ⟨rfl,rfl⟩))
  go_ret
  exact⟨aD HP.symm,ay w _⟩
 have K8:=hide (fun w1=>dW N true w1 hc3);by_cases hzI:I=0
 case' neg=>
  have HP:=hide (show dw ⟨0,F,T,I,L,k,N⟩=false by simp[dw,hr,hc2,hc3,hzI])
  have he:(I == 0)=false:=by simp[hzI]
  clear hr hc2 hc3
  go_enter Tryz.func91,Tryz.ntmps91
  go_wp2_with (first|(go_at_call_of 53 F;refine(H1 _).mono ?_;rintro e w1 ⟨rfl,rfl⟩)|(go_at_call_of 53 T;refine(H2 _).mono ?_;rintro e w1 ⟨rfl,rfl⟩)|(go_at_call_of 25 k;refine(oH _).mono ?_;rintro e w1 ⟨rfl,rfl⟩)|(go_at_call_of 21 N;refine(K8 _).mono ?_;rintro e w1 ⟨rfl,rfl⟩))
  go_ret
  exact⟨aD (by first|exact HP.symm|exact he.trans HP.symm),ay w _⟩
 subst hzI;by_cases hzL:L=0
 case' neg=>
  have HP:=hide (show dw ⟨0,F,T,0,L,k,N⟩=false by simp[dw,hr,hc2,hc3,hzL])
  have he:(L == 0)=false:=by simp[hzL]
  clear hr hc2 hc3
  go_enter Tryz.func91,Tryz.ntmps91
  go_wp2_with (first|(go_at_call_of 53 F;refine(H1 _).mono ?_;rintro e w1 ⟨rfl,rfl⟩)|(go_at_call_of 53 T;refine(H2 _).mono ?_;rintro e w1 ⟨rfl,rfl⟩)|(go_at_call_of 25 k;refine(oH _).mono ?_;rintro e w1 ⟨rfl,rfl⟩)|(go_at_call_of 21 N;refine(K8 _).mono ?_;rintro e w1 ⟨rfl,rfl⟩))
  go_ret
  exact⟨aD (by first|exact HP.symm|exact he.trans HP.symm),ay w _⟩
 subst hzL;have HP:=hide (show dw ⟨0,F,T,0,0,k,N⟩=true by simp[dw,hr,hc2,hc3]);clear hr hc2 hc3;go_enter Tryz.func91,Tryz.ntmps91
 go_wp2_with (first|(go_at_call_of 53 F;refine(H1 _).mono ?_;rintro e w1 ⟨rfl,rfl⟩)|(go_at_call_of 53 T;refine(H2 _).mono ?_;rintro e w1 ⟨rfl,rfl⟩)|(go_at_call_of 25 k;refine(oH _).mono ?_;rintro e w1 ⟨rfl,rfl⟩)|(go_at_call_of 21 N;refine(K8 _).mono ?_;rintro e w1 ⟨rfl,rfl⟩))
 exact PK):P:=h
theorem IX(h:P:=by
 go_simp;refine aF 2 rfl (by kernel_rfl) (by rfl) ?_;go_simp;refine aF 4 rfl (by kernel_rfl) (by rfl) ?_;go_simp;refine wpAny_done (by kernel_rfl) ?_;go_simp;go_wp2_with fail;exact Ka51):P:=h
theorem ahh.Ka51(h:P:=by
 go_meet
 case rel=>exact⟨rfl,GR.setW_blk [.int .i64 n.id,.int .i64 n.par,.slice a_k n.kids.length aK,.int .i64 n.next,.slice av RL.length cv,.slice dP n.out.length aO,.slice dS n.seen.length aL,.int .i64 IH.no,.slice (some ⟨g8,0,none⟩) n.reqs.length Ba] (o:=0) (xs:=[.int .i64 0,.int .i64 0,.slice none 0 0,.int .i64 0,.slice none 0 0,.slice none 0 0,.slice none 0 0,.int .i64 0,.slice none 0 0]) tu,(aC.of_below hg3).trans (aM [.int .i64 n.id,.int .i64 n.par,.slice a_k n.kids.length aK,.int .i64 n.next,.slice av RL.length cv,.slice dP n.out.length aO,.slice dS n.seen.length aL,.int .i64 IH.no,.slice (some ⟨g8,0,none⟩) n.reqs.length Ba] x2 0)⟩):P:=h
theorem ahi.Ka51(h:P:=by
 go_meet
 case rel=>exact⟨rfl,GR.setW_blk [.int .i64 n.id,.int .i64 n.par,.slice a_k n.kids.length aK,.int .i64 n.next,.slice av RL.length cv,.slice dP n.out.length aO,.slice dS n.seen.length aL,.int .i64 IH.no,.slice (some ⟨g8,0,none⟩) n.reqs.length Ba] (o:=0) (xs:=[.int .i64 0,.int .i64 0,.slice none 0 0,.int .i64 0,.slice none 0 0,.slice none 0 0,.slice none 0 0,.int .i64 0,.slice none 0 0]) tu,(aC.of_below hx).trans (aM [.int .i64 n.id,.int .i64 n.par,.slice a_k n.kids.length aK,.int .i64 n.next,.slice av RL.length cv,.slice dP n.out.length aO,.slice dS n.seen.length aL,.int .i64 IH.no,.slice (some ⟨g8,0,none⟩) n.reqs.length Ba] x 0)⟩):P:=h
theorem ahj.Ka51(h:P:=by
 go_meet
 case rel=>exact⟨rfl,GR.setW_blk [.int .i64 n.id,.int .i64 n.par,.slice a_k n.kids.length aK,.int .i64 n.next,.slice av RL.length cv,.slice dP n.out.length aO,.slice dS n.seen.length aL,.int .i64 n.old,.slice (some ⟨gv,0,none⟩) (n.reqs.length+1) vc] (o:=0) (xs:=[.int .i64 0,.int .i64 0,.slice none 0 0,.int .i64 0,.slice none 0 0,.slice none 0 0,.slice none 0 0,.int .i64 0,.slice none 0 0]) tu,(aC.of_below hg3).trans (aM [.int .i64 n.id,.int .i64 n.par,.slice a_k n.kids.length aK,.int .i64 n.next,.slice av RL.length cv,.slice dP n.out.length aO,.slice dS n.seen.length aL,.int .i64 n.old,.slice (some ⟨gv,0,none⟩) (n.reqs.length+1) vc] x2 0)⟩):P:=h
theorem ahk.Ka51(h:P:=by
 go_meet
 case rel=>exact⟨rfl,GR.setW_blk [.int .i64 n.id,.int .i64 n.par,.slice a_k n.kids.length aK,.int .i64 n.next,.slice av RL.length cv,.slice dP n.out.length aO,.slice dS n.seen.length aL,.int .i64 n.old,.slice (some ⟨gv,0,none⟩) (n.reqs.length+1) vc] (o:=0) (xs:=[.int .i64 0,.int .i64 0,.slice none 0 0,.int .i64 0,.slice none 0 0,.slice none 0 0,.slice none 0 0,.int .i64 0,.slice none 0 0]) tu,(aC.of_below hx).trans (aM [.int .i64 n.id,.int .i64 n.par,.slice a_k n.kids.length aK,.int .i64 n.next,.slice av RL.length cv,.slice dP n.out.length aO,.slice dS n.seen.length aL,.int .i64 n.old,.slice (some ⟨gv,0,none⟩) (n.reqs.length+1) vc] x 0)⟩):P:=h
theorem ahl.Ka51(h:P:=by
 go_meet
 case rel=>exact⟨rfl,GR.setW_blk [.int .i64 n.id,.int .i64 n.par,.slice a_k n.kids.length aK,.int .i64 n.next,.slice (some ⟨gp,0,none⟩) n.pu.length bq,.slice dP n.out.length aO,.slice dS n.seen.length aL,.int .i64 IH.no,.slice (some ⟨g8,0,none⟩) n.reqs.length Ba] (o:=0) (xs:=[.int .i64 0,.int .i64 0,.slice none 0 0,.int .i64 0,.slice none 0 0,.slice none 0 0,.slice none 0 0,.int .i64 0,.slice none 0 0]) tu,(aC.of_below hg3).trans (aM [.int .i64 n.id,.int .i64 n.par,.slice a_k n.kids.length aK,.int .i64 n.next,.slice (some ⟨gp,0,none⟩) n.pu.length bq,.slice dP n.out.length aO,.slice dS n.seen.length aL,.int .i64 IH.no,.slice (some ⟨g8,0,none⟩) n.reqs.length Ba] x2 0)⟩):P:=h
theorem ahm.Ka51(h:P:=by
 go_meet
 case rel=>exact⟨rfl,GR.setW_blk [.int .i64 n.id,.int .i64 n.par,.slice a_k n.kids.length aK,.int .i64 n.next,.slice (some ⟨gp,0,none⟩) n.pu.length bq,.slice dP n.out.length aO,.slice dS n.seen.length aL,.int .i64 IH.no,.slice (some ⟨g8,0,none⟩) n.reqs.length Ba] (o:=0) (xs:=[.int .i64 0,.int .i64 0,.slice none 0 0,.int .i64 0,.slice none 0 0,.slice none 0 0,.slice none 0 0,.int .i64 0,.slice none 0 0]) tu,(aC.of_below hx).trans (aM [.int .i64 n.id,.int .i64 n.par,.slice a_k n.kids.length aK,.int .i64 n.next,.slice (some ⟨gp,0,none⟩) n.pu.length bq,.slice dP n.out.length aO,.slice dS n.seen.length aL,.int .i64 IH.no,.slice (some ⟨g8,0,none⟩) n.reqs.length Ba] x 0)⟩):P:=h
theorem ahn.Ka51(h:P:=by
 go_meet
 case rel=>exact⟨rfl,GR.setW_blk [.int .i64 n.id,.int .i64 n.par,.slice a_k n.kids.length aK,.int .i64 n.next,.slice (some ⟨gp,0,none⟩) n.pu.length bq,.slice dP n.out.length aO,.slice dS n.seen.length aL,.int .i64 n.old,.slice (some ⟨gv,0,none⟩) (n.reqs.length+1) vc] (o:=0) (xs:=[.int .i64 0,.int .i64 0,.slice none 0 0,.int .i64 0,.slice none 0 0,.slice none 0 0,.slice none 0 0,.int .i64 0,.slice none 0 0]) tu,(aC.of_below hg3).trans (aM [.int .i64 n.id,.int .i64 n.par,.slice a_k n.kids.length aK,.int .i64 n.next,.slice (some ⟨gp,0,none⟩) n.pu.length bq,.slice dP n.out.length aO,.slice dS n.seen.length aL,.int .i64 n.old,.slice (some ⟨gv,0,none⟩) (n.reqs.length+1) vc] x2 0)⟩):P:=h
theorem aho.Ka51(h:P:=by
 go_meet
 case rel=>exact⟨rfl,GR.setW_blk [.int .i64 n.id,.int .i64 n.par,.slice a_k n.kids.length aK,.int .i64 n.next,.slice (some ⟨gp,0,none⟩) n.pu.length bq,.slice dP n.out.length aO,.slice dS n.seen.length aL,.int .i64 n.old,.slice (some ⟨gv,0,none⟩) (n.reqs.length+1) vc] (o:=0) (xs:=[.int .i64 0,.int .i64 0,.slice none 0 0,.int .i64 0,.slice none 0 0,.slice none 0 0,.slice none 0 0,.int .i64 0,.slice none 0 0]) tu,(aC.of_below hx).trans (aM [.int .i64 n.id,.int .i64 n.par,.slice a_k n.kids.length aK,.int .i64 n.next,.slice (some ⟨gp,0,none⟩) n.pu.length bq,.slice dP n.out.length aO,.slice dS n.seen.length aL,.int .i64 n.old,.slice (some ⟨gv,0,none⟩) (n.reqs.length+1) vc] x 0)⟩):P:=h
theorem apR(h:P:=by
 obtain⟨IH,IT,hIQ⟩:∃IH IT,IQ=IH::IT:=by
  exact aqo
 subst hIQ;have hIT:IT.length=n.reqs.length:=by have:=ah Zm;simp at this;omega
 have y0:wc.cell? ⟨gv,0,none⟩=some (.int .i64 IH.no):=by
  exact aqn
 have HTA:=hide (show iD wc (some ⟨gv,1*4,none⟩) IT from GR.At.drop (HL6.lies aY).1 1);have avq:=(HL6.lies aY).2 gv 0 rfl;obtain⟨c0,c1,c2,c3,c4,c5,c6,c7,c8⟩:=nine kS;have cf:=aj kS 7;have hnl:=aA kS;have auM:decide ((30:Int) < ((n.reqs.length+1:Nat):Int))=true:=decide_eq_true (by omega);go_upto_region 19 with fail;refine wp_at (fun W7 Hy=>?_);have awr:¬vc=1:=by omega
 have aws:1≤vc:=by omega
 exact Ka52):P:=h
theorem ahp.Ka52(h:P:=by
 have nH:Hid (W7.heap[w.heap.size]?=some (.cells #[.int .i64 n.id,.int .i64 n.par,.slice a_k n.kids.length aK,.int .i64 n.next,.slice av RL.length cv,.slice dP n.out.length aO,.slice dS n.seen.length aL,.int .i64 IH.no,.slice (some ⟨gv,0,none⟩) (n.reqs.length+1) vc] 30 (0,0))):=by rw [Hy];exact bg kS 7 _
 have lN:Hid (W7.heap[w.heap.size+2]?=some (.cells iV 30 (0,0))):=by rw [Hy];exact fV _ (by omega) iX
 have R6:Hid (W7.heap[W1.heap.size]?=some (.cells #[.int .i64 no,.string k,.int .i64 nn,.int .i64 0] 43 (0,0))):=by rw [Hy];exact fV _ (by omega) zN
 open ao8 in exact abn):P:=h
theorem ahq.Ka52(h:P:=by
 have nH:Hid (W7.heap[w.heap.size]?=some (.cells #[.int .i64 n.id,.int .i64 n.par,.slice a_k n.kids.length aK,.int .i64 n.next,.slice (some ⟨gp,0,none⟩) n.pu.length bq,.slice dP n.out.length aO,.slice dS n.seen.length aL,.int .i64 IH.no,.slice (some ⟨gv,0,none⟩) (n.reqs.length+1) vc] 30 (0,0))):=by rw [Hy];exact bg kS 7 _
 have lN:Hid (W7.heap[w.heap.size+2]?=some (.cells iV 30 (0,0))):=by rw [Hy];exact fV _ (by omega) iX
 have R6:Hid (W7.heap[W1.heap.size]?=some (.cells #[.int .i64 no,.string k,.int .i64 nn,.int .i64 1] 43 (0,0))):=by rw [Hy];exact fV _ (by omega) zN
 open ao7 in exact abn):P:=h
theorem yt(h:P:=by
 unfold jU;have mg:=hide (fun W (h:Below w.heap.size w W)=>vH n A W (hz.mono (by omega)) (ha.below h));rw [hok] at mg;exact Ka53):P:=h
theorem ahr.Ka53(h:P:=by
 have NY:=hide (fun W=>jo ⟨K,no,k,nn,⟨mK,mF,mT,mI,mL,mk,mN⟩⟩ W (by unfold maxLen;dsimp only;omega) (by unfold maxLen;dsimp only;omega));open afT in exact AR):P:=h
theorem ahs.Ka53(h:P:=by
 open aoY in exact abl):P:=h
theorem aht.Ka53(h:P:=by
 have jr:=hide (fun W A1 G1 c (hB:0≤W.heap.size) (h9:∀x,6 < c x→c x=9) (hp:((∃g,A1.p=some ⟨g,0,none⟩)∧n.pu.length≤A1.cp)∧(∃g,A1.r=some ⟨g,0,none⟩)∧n.reqs.length≤A1.cr) (hN:NQ W 0 n A1 G1 c)=>KF n A1 G1 c no W 0 hB h9 hz hp.1.1 hp.1.2 (bf hok).2.2.2.2.2 hN);unfold gL at jr;generalize aI n no=GV at *;obtain⟨N1,zh⟩:=GV;dsimp only at jr ⊢;have NY:=hide (fun W=>jo ⟨2,no,k,nn,⟨mK,mF,mT,mI,mL,mk,mN⟩⟩ W (by unfold maxLen;dsimp only;omega) (by unfold maxLen;dsimp only;omega));open afU in exact AR):P:=h
theorem ahu.Ka53(h:P:=by
 have jr:=hide (fun W A1 G1 c (hB:0≤W.heap.size) (h9:∀x,6 < c x→c x=9) (hp:((∃g,A1.p=some ⟨g,0,none⟩)∧n.pu.length≤A1.cp)∧(∃g,A1.r=some ⟨g,0,none⟩)∧n.reqs.length≤A1.cr) (hN:NQ W 0 n A1 G1 c)=>QS n A1 G1 c 1 no k nn mK mF mT mI mL mk mN W 0 hB h9 hz hk hp.1.1 hp.1.2 hp.2.1 hp.2.2 (bf hok).2.2.2.2.2 hN);unfold gL at jr;generalize bV n no k nn=GV at *;obtain⟨N1,zh⟩:=GV;dsimp only at jr ⊢;have NY:=hide (fun W=>jo ⟨1,no,k,nn,⟨mK,mF,mT,mI,mL,mk,mN⟩⟩ W (by unfold maxLen;dsimp only;omega) (by unfold maxLen;dsimp only;omega));open afV in exact AR):P:=h
theorem ahv.Ka53(h:P:=by
 have hpz:(decide (n.par < 0))=false:=by
  exact abM
 have jr:=hide (fun W A1 G1 c (hB:0≤W.heap.size) (h9:∀x,6 < c x→c x=9) (hp:((∃g,A1.p=some ⟨g,0,none⟩)∧n.pu.length≤A1.cp)∧(∃g,A1.r=some ⟨g,0,none⟩)∧n.reqs.length≤A1.cr) (hN:NQ W 0 n A1 G1 c)=>Kt n A1 G1 c n.par k nn W 0 hB h9 hz hk hp.1.1 hp.1.2 (by have h:=(bf hok).2.2.2.1;unfold eU at h;simp at h;omega) hN);unfold eT at jr;generalize eu n n.par k nn=GV at *;obtain⟨N1,L1,b1⟩:=GV;dsimp only at jr ⊢;generalize (if b1=true then(0:Int) else 1)=zh at *;have NY:=hide (fun W=>jo ⟨4,no,k,nn,⟨mK,mF,mT,mI,mL,mk,mN⟩⟩ W (by unfold maxLen;dsimp only;omega) (by unfold maxLen;dsimp only;omega));open afW in exact AR):P:=h
theorem ahw.Ka53(h:P:=by
 have hmo:dw ⟨mK,mF,mT,mI,mL,mk,mN⟩=true:=by
  have h:=hop;unfold cZ at h;dsimp only at h;rw [if_neg (by omega),if_neg (by omega),if_neg (by omega),if_neg (by omega),if_pos rfl,Bool.and_eq_true] at h;exact h.2
 have jr:=hide (fun W A1 G1 c (hB:0≤W.heap.size) (h9:∀x,6 < c x→c x=9) (hp:((∃g,A1.p=some ⟨g,0,none⟩)∧n.pu.length≤A1.cp)∧(∃g,A1.r=some ⟨g,0,none⟩)∧n.reqs.length≤A1.cr) (hN:NQ W 0 n A1 G1 c)=>Wh n A1 G1 c mK mF mT mI mL mk mN W 0 hB h9 hz hmk hok hmo hp.1.1 hp.1.2 hN);clear hmo;unfold eT at jr;generalize zk n ⟨mK,mF,mT,mI,mL,mk,mN⟩=GV at *;obtain⟨N1,L1,zh⟩:=GV;dsimp only at jr ⊢;have NY:=hide (fun W=>jo ⟨6,no,k,nn,⟨mK,mF,mT,mI,mL,mk,mN⟩⟩ W (by unfold maxLen;dsimp only;omega) (by unfold maxLen;dsimp only;omega));open afX in exact AR):P:=h
theorem ahx.Ka53(h:P:=by
 have hpz:(decide (n.par < 0))=true:=by rw [hpar];rfl
 clear hpar;have NY:=hide (fun W=>jo ⟨4,no,k,nn,⟨mK,mF,mT,mI,mL,mk,mN⟩⟩ W (by unfold maxLen;dsimp only;omega) (by unfold maxLen;dsimp only;omega));open afY in exact AR):P:=h
theorem ahy.Ka53(h:P:=by
 have hpz:(decide (n.par < 0))=true:=by rw [hpar];rfl
 clear hpar;have NY:=hide (fun W=>jo ⟨3,no,k,nn,⟨mK,mF,mT,mI,mL,mk,mN⟩⟩ W (by unfold maxLen;dsimp only;omega) (by unfold maxLen;dsimp only;omega));open afZ in exact AR):P:=h
theorem ahz.Ka53(h:P:=by
 have hpg:(decide (n.par≥0))=false:=by rw [hpar];rfl
 have arS:(decide (0≤n.par))=false:=hpg;clear hpar
 have jr:=hide (fun W (A1:bQ) (hp:(∃g,A1.p=some ⟨g,0,none⟩)∧n.pu.length≤A1.cp) (hN:aH W A1.p n.pu)=>(by
  obtain⟨⟨g,hg⟩,hc⟩:=hp
  rw [hg] at hN ⊢
  have:=Cb g 0 A1.cp n.pu k nn W (Nat.le_trans hz.p (by omega)) hc hz.pk hk hN
  rw [hu] at this
  exact this:Calls Tryz.prog 59 #[.slice A1.p n.pu.length A1.cp,.string k,.int .i64 nn] W (gX W (RL,true))))
 clear hu;unfold gX at jr;have NY:=hide (fun W=>jo ⟨0,no,k,nn,⟨mK,mF,mT,mI,mL,mk,mN⟩⟩ W (by unfold maxLen;dsimp only;omega) (by unfold maxLen;dsimp only;omega));open af0 in exact AR):P:=h
theorem ahA.Ka53(h:P:=by
 have hpg:(decide (n.par≥0))=false:=by rw [hpar];rfl
 have arS:(decide (0≤n.par))=false:=hpg;clear hpar
 have jr:=hide (fun W (A1:bQ) (hp:(∃g,A1.p=some ⟨g,0,none⟩)∧n.pu.length≤A1.cp) (hN:aH W A1.p n.pu)=>(by
  obtain⟨⟨g,hg⟩,hc⟩:=hp
  rw [hg] at hN ⊢
  have:=Cb g 0 A1.cp n.pu k nn W (Nat.le_trans hz.p (by omega)) hc hz.pk hk hN
  rw [hu] at this
  exact this:Calls Tryz.prog 59 #[.slice A1.p n.pu.length A1.cp,.string k,.int .i64 nn] W (gX W (RL,false))))
 exact Za5):P:=h
theorem ahB.Ka53(h:P:=by
 have hpg:(decide (n.par≥0))=true:=by
  have h:=(bf hok).1;unfold dx at h;simp only[Bool.and_eq_true,decide_eq_true_eq] at h;exact decide_eq_true (by omega)
 have arS:(decide (0≤n.par))=true:=hpg
 have jr:=hide (fun W (A1:bQ) (hp:(∃g,A1.p=some ⟨g,0,none⟩)∧n.pu.length≤A1.cp) (hN:aH W A1.p n.pu)=>(by
  obtain⟨⟨g,hg⟩,hc⟩:=hp
  rw [hg] at hN ⊢
  have:=Cb g 0 A1.cp n.pu k nn W (Nat.le_trans hz.p (by omega)) hc hz.pk hk hN
  rw [hu] at this
  exact this:Calls Tryz.prog 59 #[.slice A1.p n.pu.length A1.cp,.string k,.int .i64 nn] W (gX W (RL,ok))))
 exact Za5):P:=h
theorem ahC.Ka53(h:P:=by
 have jr:=hide (fun W A1 (hN:dQ W A1 n)=>Wi n A1 W (hz.mono (by omega)) hN);rw [show VO n=n.out.map (mP n) from if_pos hok] at jr;unfold xW at jr;dsimp only at jr ⊢;generalize n.out.map (mP n)=L1 at *;have NY:=hide (fun W=>jo ⟨5,no,k,nn,⟨mK,mF,mT,mI,mL,mk,mN⟩⟩ W (by unfold maxLen;dsimp only;omega) (by unfold maxLen;dsimp only;omega));open af2 in exact AR):P:=h
theorem ahD.Ka53(h:P:=by
 have hpz:(decide (n.par < 0))=false:=by
  exact abM
 have NY:=hide (fun W=>jo ⟨3,no,k,nn,⟨mK,mF,mT,mI,mL,mk,mN⟩⟩ W (by unfold maxLen;dsimp only;omega) (by unfold maxLen;dsimp only;omega));open af3 in exact AR):P:=h
theorem XL(h:P:=by
 rintro e wf ⟨f, rfl, hin, hcx, hkx⟩;have HS2 := hide (((ah mW).new _).draw hcx hkx);clear hcx hkx hin mW;open apk in exact abr):P:=h
theorem ahE.Ka54(h:P:=by
 go_meet
 case rel => exact ⟨rfl, ⟨K, f, k, n, ⟨mK, mF, mT, mI, mL, mk, mN⟩⟩, (ah HS2).put 1 (.int .i64 f) rfl, gs, gm⟩):P:=h
theorem ahF.Ka54(h:P:=by
 go_meet
 case rel => exact ⟨rfl, ⟨K, no, k, f, ⟨mK, mF, mT, mI, mL, mk, mN⟩⟩, (ah HS2).put 3 (.int .i64 f) rfl, gs, gm⟩):P:=h
theorem ahG.Ka54(h:P:=by
 go_meet
 case rel => exact ⟨rfl, ⟨f, no, k, n, ⟨mK, mF, mT, mI, mL, mk, mN⟩⟩, (ah HS2).put 0 (.int .i64 f) rfl, gs, gm⟩):P:=h
theorem ahH.Ka54(h:P:=by
 go_meet
 case rel => exact ⟨rfl, ⟨6, 0, ⟨#[]⟩, 0, ⟨0, f, 1, 0, 0, key, (1 + y)⟩⟩, (ah HS2).far (o' := ⟨6, 0, ⟨#[]⟩, 0, ⟨0, f, 1, 0, 0, key, (1 + y)⟩⟩) (dV (Below.refl _ _) (Nat.le_refl _)) (iy (ah HS2).own), by dsimp only; first | exact hks | decide, by dsimp only; first | exact hks | decide⟩):P:=h
theorem TB(h:P:=by
 obtain⟨d0,d1,d2,d3,d4,d5,d6,d7,d8⟩:=nine qb;have f0:=aj qb 0;have f1:=aj qb 1;have f2:=aj qb 2;have f3:=aj qb 3;have f4:=aj qb 4;have f5:=aj qb 5;have f6:=aj qb 6;have f7:=aj qb 7;have f8:=aj qb 8;exact Ka55):P:=h
theorem ahI.Ka55(h:P:=by
 open alC in exact aae):P:=h
theorem ahJ.Ka55(h:P:=by
 have hnl:=aA jG;have hrl:=aA qb;clear q0 q1 q2 HST;dsimp only at e0;subst e0;go_wp2_with fail;refine aR (fun W' hW'=>?_)
 have e4:W'.heap[w.heap.size+1]?=some (.cells #[.int .i64 n.id,.int .i64 n.par,.slice a_k n.kids.length aK,.int .i64 n.next,.slice iH n.pu.length bq,.slice dP n.out.length aO,.slice dS n.seen.length aL,.int .i64 n.old,.slice (some ⟨g,off,none⟩) n.reqs.length aT] 30 (0,0)):=by
  exact aui
 have fu:aC [w.heap.size+1] W1 W':=by
  exact aup
 open ajx in exact aqe):P:=h
theorem ahK.Ka55(h:P:=by
 have hnl:=aA jG;have hrl:=aA qb;first|dsimp only at e0|skip
 subst e0;have HQ3:=hide q3;have HQS:=hide (And.intro q0 (And.intro q1 (And.intro q2 q3)));generalize n.reqs[i].k=qk at *;exact Ka19):P:=h
theorem ahL.Ka55(h:P:=by
 have hnl:=aA jG;open alB in exact aae):P:=h
theorem ahM.Ka55(h:P:=by
 have hrl:=aA qb;go_wp2_with fail;refine aR (fun W' hW'=>?_)
 have e4:W'.heap[w.heap.size+2]?=some (.cells #[.int .i64 n.id,.int .i64 n.par,.slice A1.k n.kids.length A1.ck,.int .i64 n.next,.slice A1.p n.pu.length A1.cp,.slice A1.o n.out.length A1.co,.slice A1.s n.seen.length A1.cs,.int .i64 n.old,.slice A1.r n.reqs.length A1.cr] 30 (0,0)):=by
  rw [hW'];exact GR.setW_blk [.int .i64 n.id,.int .i64 n.par,.slice A1.k n.kids.length A1.ck,.int .i64 n.next,.slice A1.p n.pu.length A1.cp,.slice A1.o n.out.length A1.co,.slice A1.s n.seen.length A1.cs,.int .i64 n.old,.slice A1.r n.reqs.length A1.cr] (o:=0) (xs:=[.int .i64 0,.int .i64 0,.slice none 0 0,.int .i64 0,.slice none 0 0,.slice none 0 0,.slice none 0 0,.int .i64 0,.slice none 0 0]) qb
 have fu:aC [w.heap.size+2] X W':=by
  rw [hW'];exact aM [.int .i64 n.id,.int .i64 n.par,.slice A1.k n.kids.length A1.ck,.int .i64 n.next,.slice A1.p n.pu.length A1.cp,.slice A1.o n.out.length A1.co,.slice A1.s n.seen.length A1.cs,.int .i64 n.old,.slice A1.r n.reqs.length A1.cr] X 0
 open aod in exact aaZ):P:=h
theorem TF(h:P:=by
 rw [hmo] at RJ;unfold qd at RJ;have Hq:=hide (fun W (ha:dM W A.k n.kids)=>xE n A mF W hkl ha);rw [h2] at Hq;clear hmo h2;have l7:=hide (h.nine hB);clear h;go_enter Tryz.func63,Tryz.ntmps63
 go_upto_region 1 with fail;refine wp_at (fun W0 hW=>?_);exact Ka56):P:=h
theorem ahN.Ka56(h:P:=by
 obtain⟨e1,e2,e3,e4⟩:=fJ w (.cells (fO n A) 30) (.cells #[.int .i64 0,.int .i64 mF,.int .i64 mT,.int .i64 mI,.int .i64 mL,.string mk,.int .i64 mN] 32) (.cells iV 30);open asR in exact Ya5):P:=h
theorem ahO.Ka56(h:P:=by
 obtain⟨e1,e2,e3,e4⟩:=fJ w (.cells (fO n A) 30) (.cells #[.int .i64 0,.int .i64 mF,.int .i64 mT,.int .i64 mI,.int .i64 mL,.string mk,.int .i64 mN] 32) (.cells iV 30);open asS in exact Ya5):P:=h
theorem ahP.Ka56(h:P:=by
 obtain⟨e1,e2,e3,e4⟩:=fJ w (.cells (fO n A) 30) (.cells #[.int .i64 mK,.int .i64 mF,.int .i64 mT,.int .i64 mI,.int .i64 mL,.string mk,.int .i64 mN] 32) (.cells iV 30);open asT in exact Ya5):P:=h
theorem ahQ.Ka56(h:P:=by
 obtain⟨e1,e2,e3,e4⟩:=fJ w (.cells (fO n A) 30) (.cells #[.int .i64 2,.int .i64 mF,.int .i64 mT,.int .i64 mI,.int .i64 mL,.string mk,.int .i64 mN] 32) (.cells iV 30);open asU in exact Ya5):P:=h
theorem ahR.Ka56(h:P:=by
 obtain⟨e1,e2,e3,e4⟩:=fJ w (.cells (fO n A) 30) (.cells #[.int .i64 1,.int .i64 mF,.int .i64 mT,.int .i64 mI,.int .i64 mL,.string mk,.int .i64 mN] 32) (.cells iV 30);open asV in exact Ya5):P:=h
theorem apS(h:P:=by
 open alx in exact aac):P:=h
theorem ahS.Ka57(h:P:=by
 rintro e W3 ⟨A1,G1,cc,rfl,Rj,hb3,_,_⟩;have kH:=hide (au vP hb3);have HB3:=hide (jd.trans (hb3.mono jd.size));have l7:=hide Rj;have hrs:=aA vP;clear hb3 Rj c0 c1 c2 c3 c4 c5 c6 c7 c8 hnl Ls zL acW vP;exact aqw):P:=h
theorem ahT.Ka57(h:P:=by
 rintro e W3 ⟨A1,G1,cc,rfl,Rj,hb3,hP1,hP2,hR1,hR2⟩;have kH:=hide (au vP hb3);have kE:=hide (au zL hb3);have E8:=hide (au acW hb3);have HB3:=hide (jd.trans (hb3.mono jd.size));have HPR:=hide (And.intro (And.intro hP1 hP2) (And.intro hR1 hR2));have l7:=hide (Rj.flat (b:=0) (Nat.zero_le _));have Rv:=hide (fun x (hx:x < w.heap.size+3)=>PW (b:=0) (Nat.zero_le _) (Rj.lo x (by have:=aA vP;omega)));have hrs:=aA vP;have H9:=hide (Us 0 cc);generalize uD 0 cc=c at *;have oH:=hide (Rv (w.heap.size+2) (by omega));have yZ:=hide (Rv w.heap.size (by omega));clear hb3 Rj hP1 hP2 hR1 hR2 c0 c1 c2 c3 c4 c5 c6 c7 c8 hnl Ls zL acW vP;obtain⟨d0,d1,d2,d3,d4,d5,d6,d7,d8⟩:=nine kE;have f0:=aj kE 0;have f1:=aj kE 1;have f2:=aj kE 2;have f3:=aj kE 3;have f4:=aj kE 4;have f5:=aj kE 5;have f6:=aj kE 6;have f7:=aj kE 7;have f8:=aj kE 8;obtain⟨⟨p0,p1,p2,p3,p4,p5,p6,p7,p8,p9,mZ⟩,_⟩:=bX E8;have hnl:=aA kE;have hol:=aA E8;go_upto_region 5 with fail;refine wp_at (fun X hX=>?_)
 have e5:X.heap[w.heap.size]?=some (.cells #[.int .i64 n.id,.int .i64 n.par,.slice A1.k n.kids.length A1.ck,.int .i64 n.next,.slice A1.p n.pu.length A1.cp,.slice A1.o n.out.length A1.co,.slice A1.s n.seen.length A1.cs,.int .i64 n.old,.slice A1.r n.reqs.length A1.cr] 30 (0,0)):=by
  exact aug
 have hkx:aC [w.heap.size] W3 X:=by
  exact auh
 have fP:=hide e5;have HOX:=hide ((hkx.block _ (aA E8) (by simp)).trans E8);have qb:=hide ((hkx.block _ (aA kH) (by simp)).trans kH);have kR:=hide (HB3.trans (hkx.below (B:=w.heap.size) (fun x hx=>by have:x=w.heap.size:=(by simpa using hx);omega) HB3.size));have xZ:=hide (l7.kc (k:=9) (KC.keeps hkx (fun x hx=>by have:x=w.heap.size:=(by simpa using hx);rw [this];exact yZ)) (by omega));exact Ka0):P:=h
theorem adg(h:P:=by
 obtain⟨pk,pm,pf,ps⟩:=p;unfold fT at hp;simp only[Bool.and_eq_true] at hp;obtain⟨⟨⟨⟨_,a1⟩,a2⟩,a3⟩,a4⟩:=hp;have b1:0≤pm∧pm≤1000000000:=of_decide_eq_true a1;have b2:0≤pf∧pf≤1000000000:=of_decide_eq_true a2;have b3:0≤ps∧ps≤1000000000:=of_decide_eq_true a3;obtain⟨a10,a11⟩:=b1;obtain⟨a20,a21⟩:=b2;obtain⟨a30,a31⟩:=b3;obtain⟨h10,h11⟩:=h1;obtain⟨h20,h21⟩:=h2;obtain⟨OJ,h31⟩:=h3;clear a1 a2 a3 a4;exact Ka58):P:=h
theorem ahU.Ka58(h:P:=by
 dsimp only at hf;clear he;rcases hf with hf|⟨hf,hs⟩
 all_goals
  go_enter Tryz.func159,Tryz.ntmps159
  go_upto_region 5 with fail
  refine Fo.wp_at (fun V hV=>?_)
  obtain⟨_,hC,hbel⟩:=xJ (w:=w) (w1:=V) (by rw [hV];exact Below.refl _ _)
  have HC:=hide hC
  have fG:=hide hbel
  have vv:=(HE.below hbel).var 3 (by omega)
  have hsz:=(show w.heap.size+1+1 < V.heap.size from Fo.lt_of_blk hC)
  obtain⟨⟨r0,r1,r2,r3⟩,s0,s1,s2,s3⟩:=eZ hC
  clear hC hbel hV
  go_region
  all_goals
   go_wp2_with fail
   refine Fo.bodyPost_at (fun W' hW'=>?_)
   obtain⟨⟨t0,t1,t2,t3⟩,_⟩:=eZ (show W'.heap[w.heap.size+1+1]?=some (.cells #[.string ⟨#[]⟩,.int .i64 0,.int .i64 0,.int .i64 0] 84 (0,0)) by rw [hW'];exact Fo.four_set (w:=V.drew) HC)
   have hbb:Below w.heap.size w W':=by rw [hW'];exact Fo.four_below (w:=V.drew) (fG.trans ⟨rfl,rfl,rfl,Nat.le_refl _,fun _ _=>rfl⟩) (by omega)
   exact bodyPost_ret (v:= .tuple #[.agg #[.string ⟨#[]⟩,.int .i64 0,.int .i64 0,.int .i64 0],qw (E 3)]) (by simp[results,Tryz.results159,go_sem,t0,t1,t2,t3]) rfl ⟨rfl,hbb⟩):P:=h
theorem ahV.Ka58(h:P:=by
 dsimp only at hf hs;clear hok he;open apv in exact abx):P:=h
theorem ahW.Ka58(h:P:=by
 dsimp only at hf hs;clear hok;open apu in exact abx):P:=h
theorem XM(h:P:=by
 clear h ho;obtain⟨⟨p0,p1,p2,p3,p4,p5,p6,p7,p8,p9,mZ⟩,_⟩:=bX rG;have hpl:=aA rG;go_enter Tryz.func15,Tryz.ntmps15
 go_wp2_with fail;refine(HIO _).mono ?_;rintro e w2 ⟨rfl,hb2⟩;have HW2:=hide (HW1.step hb2);have ze:=hide (au rG hb2);clear hb2 HW1 rG p0 p1 p2 p3 p4 p5 p6 p7 p8 p9 mZ HIO;exact Ka59):P:=h
theorem ahX.Ka59(h:P:=by
 obtain rfl:=ah HKQ;obtain⟨⟨p0,p1,p2,p3,p4,p5,p6,p7,p8,p9,mZ⟩,_⟩:=bX ze;have ad6:=aA ze;go_upto_region 4 with fail;refine wp_at (fun W hW=>?_);have e1:W.heap[w2.heap.size]?=some (.cells #[.func (.func 46) #[.pointer (some ⟨wb,0,none⟩)] #[],.func (.func 47) #[.pointer (some ⟨wb,0,none⟩)] #[],.func (.func 48) #[.pointer (some ⟨wb,0,none⟩)] #[],.func (.func 49) #[.pointer (some ⟨wb,0,none⟩)] #[],.func (.func 50) #[.pointer (some ⟨wb,0,none⟩)] #[],.func (.func 51) #[.pointer (some ⟨wb,0,none⟩)] #[],.func (.func 52) #[.pointer (some ⟨wb,0,none⟩)] #[]] 82 (0,0)):=by rw [hW];exact heap_alloc_new _ _
 have e2:=ay w2 (.cells #[.func (.func 46) #[.pointer (some ⟨wb,0,none⟩)] #[],.func (.func 47) #[.pointer (some ⟨wb,0,none⟩)] #[],.func (.func 48) #[.pointer (some ⟨wb,0,none⟩)] #[],.func (.func 49) #[.pointer (some ⟨wb,0,none⟩)] #[],.func (.func 50) #[.pointer (some ⟨wb,0,none⟩)] #[],.func (.func 51) #[.pointer (some ⟨wb,0,none⟩)] #[],.func (.func 52) #[.pointer (some ⟨wb,0,none⟩)] #[]] 82);rw [←hW] at e2;have vR:=hide (HW2.step e2);have Pp:=hide (au ze e2);exact Ka1):P:=h
theorem ahY.Ka59(h:P:=by
 go_wp2_with fail;go_ret;exact⟨rfl,A,G,c,v,by rw [List.append_nil];exact HW2⟩):P:=h
theorem ahZ.Ka59(h:P:=by
 obtain⟨⟨p0,p1,p2,p3,p4,p5,p6,p7,p8,p9,mZ⟩,_⟩:=bX ze;have ad6:=aA ze;have hK6:=ah HK6;go_wp2_with fail;refine(HAD w2 HW2).mono ?_;rintro e w3 ⟨rfl,hb3⟩;have HW3:=hide (HW2.step hb3);clear hb3 p0 p1 p2 p3 p4 p5 p6 p7 p8 p9 mZ HAD;go_wp2_with fail;go_ret;exact⟨rfl,A,G,c,v,by rw [List.append_nil];exact HW3⟩):P:=h
theorem ah0.Ka59(h:P:=by
 obtain rfl:=ah HKQ;obtain⟨⟨p0,p1,p2,p3,p4,p5,p6,p7,p8,p9,mZ⟩,_⟩:=bX ze;have ad6:=aA ze;go_wp2_with fail;refine(HAD w2 HW2).mono ?_;rintro e w3 ⟨rfl,hb3⟩;have HW3:=hide (HW2.step hb3);have Q8:=hide (au ze hb3);clear hb3 HAD;go_upto_region 4 with fail;refine wp_at (fun W hW=>?_);have e1:W.heap[w3.heap.size]?=some (.cells #[.func (.func 46) #[.pointer (some ⟨wb,0,none⟩)] #[],.func (.func 47) #[.pointer (some ⟨wb,0,none⟩)] #[],.func (.func 48) #[.pointer (some ⟨wb,0,none⟩)] #[],.func (.func 49) #[.pointer (some ⟨wb,0,none⟩)] #[],.func (.func 50) #[.pointer (some ⟨wb,0,none⟩)] #[],.func (.func 51) #[.pointer (some ⟨wb,0,none⟩)] #[],.func (.func 52) #[.pointer (some ⟨wb,0,none⟩)] #[]] 82 (0,0)):=by rw [hW];exact heap_alloc_new _ _
 have e2:=ay w3 (.cells #[.func (.func 46) #[.pointer (some ⟨wb,0,none⟩)] #[],.func (.func 47) #[.pointer (some ⟨wb,0,none⟩)] #[],.func (.func 48) #[.pointer (some ⟨wb,0,none⟩)] #[],.func (.func 49) #[.pointer (some ⟨wb,0,none⟩)] #[],.func (.func 50) #[.pointer (some ⟨wb,0,none⟩)] #[],.func (.func 51) #[.pointer (some ⟨wb,0,none⟩)] #[],.func (.func 52) #[.pointer (some ⟨wb,0,none⟩)] #[]] 82);rw [←hW] at e2;have vR:=hide (HW3.step e2);have Pp:=hide (au Q8 e2);have c0:W.cell? ⟨w3.heap.size,6,none⟩=some (.func (.func 52) #[.pointer (some ⟨wb,0,none⟩)] #[]):=cell_of_row W _ 6 _ _ (0,0) e1;exact Za7):P:=h
theorem apT(h:P:=by
 open ajS in exact adn):P:=h
theorem ah1.Ka60(h:P:=by
 open anB in exact aaN):P:=h
theorem ah2.Ka60(h:P:=by
 open ame in exact aaq):P:=h
theorem apU(h:P:=by
 have qg:=hide fu;clear fu;refine aF 12 rfl (by kernel_rfl) (by rfl) ?_;go_simp;refine aF 13 rfl (by kernel_rfl) (by rfl) ?_;go_simp;refine wpAny_done (by kernel_rfl) ?_;go_simp;go_wp2_with fail;refine aR (fun W' hW'=>?_);subst hW';have fu:=ah qg;open aoc in exact aaZ):P:=h
theorem ah3.Ka61(h:P:=by
 exact bodyPost_ret (v:= .tuple #[.agg #[.int .i64 n.id,.int .i64 n.par,.slice A1.k n.kids.length A1.ck,.int .i64 n.next,.slice A1.p n.pu.length A1.cp,.slice A1.o n.out.length A1.co,.slice A1.s n.seen.length A1.cs,.int .i64 n.old,.slice A1.r n.reqs.length A1.cr],.slice (some ⟨y.heap.size,0,none⟩) 1 1,.int .i64 0]) (by simp[results,Tryz.results30,go_sem,x0,x1,x2,x3,x4,x5,x6,x7,x8]) rfl ⟨A1,some ⟨y.heap.size,0,none⟩,1,rfl,HAT,WB,lH⟩):P:=h
theorem ah4.Ka61(h:P:=by
 exact bodyPost_ret (v:= .tuple #[.agg #[.int .i64 n.id,.int .i64 n.par,.slice A1.k n.kids.length A1.ck,.int .i64 n.next,.slice A1.p n.pu.length A1.cp,.slice A1.o n.out.length A1.co,.slice A1.s n.seen.length A1.cs,.int .i64 n.old,.slice A1.r n.reqs.length A1.cr],.slice (some ⟨x.heap.size,0,none⟩) 1 1,.int .i64 0]) (by simp[results,Tryz.results30,go_sem,x0,x1,x2,x3,x4,x5,x6,x7,x8]) rfl ⟨A1,some ⟨x.heap.size,0,none⟩,1,rfl,HAT,WB,lH⟩):P:=h
theorem PE(h:P:=by
 have D7:=hide (show Below w.heap.size w V by rw [hV];exact((Below.refl _ _).alloc (Nat.le_refl _) _).alloc (by simp) _);have hgV:=fH hblk;obtain⟨p0,p1,p2,p3,p4,p5,p6⟩:=Uk hblk;clear hV hblk;exact Ka62):P:=h
theorem ah5.Ka62(h:P:=by
 have cO:∀d os,Calls Tryz.prog 194 #[.agg #[.int .i64 F,.int .i64 T,.int .i64 I]] (Sort.grow (redrawn V d) os) fun e w''=>e= .returned (.bool false)∧∃p:Regrown,w''=Sort.grow (redrawn V p.d) p.os:=fun d os=>Calls.regrown_of (HO _)
 open aiH in exact PG):P:=h
theorem ah6.Ka62(h:P:=by
 have cO:∀d os,Calls Tryz.prog 193 #[.agg #[.int .i64 F,.int .i64 T,.int .i64 I,.int .i64 L,.string k,.int .i64 N]] (Sort.grow (redrawn V d) os) fun e w''=>e= .returned (.bool true)∧∃p:Regrown,w''=Sort.grow (redrawn V p.d) p.os:=fun d os=>Calls.regrown_of (HO _)
 have cM:∀d os,Calls Tryz.prog 122 #[.iface 142 (.agg #[.int .i64 F,.int .i64 T,.int .i64 I,.int .i64 L,.string k,.int .i64 N])] (Sort.grow (redrawn V d) os) fun e w''=>e= .returned (qd ⟨1,F,T,I,L,k,N⟩)∧∃p:Regrown,w''=Sort.grow (redrawn V p.d) p.os:=fun d os=>Calls.regrown_of (HM _)
 open aiG in exact PG):P:=h
theorem ah7.Ka62(h:P:=by
 have cO:∀d os,Calls Tryz.prog 193 #[.agg #[.int .i64 F,.int .i64 T,.int .i64 I,.int .i64 L,.string k,.int .i64 N]] (Sort.grow (redrawn V d) os) fun e w''=>e= .returned (.bool false)∧∃p:Regrown,w''=Sort.grow (redrawn V p.d) p.os:=fun d os=>Calls.regrown_of (HO _)
 open aiF in exact PG):P:=h
theorem ah8.Ka62(h:P:=by
 have cO:∀d os,Calls Tryz.prog 192 #[.agg #[.int .i64 F,.int .i64 T,.string k,.int .i64 N]] (Sort.grow (redrawn V d) os) fun e w''=>e= .returned (.bool false)∧∃p:Regrown,w''=Sort.grow (redrawn V p.d) p.os:=fun d os=>Calls.regrown_of (HO _)
 open aiE in exact PG):P:=h
theorem ah9.Ka62(h:P:=by
 have cO:∀d os,Calls Tryz.prog 192 #[.agg #[.int .i64 F,.int .i64 T,.string k,.int .i64 N]] (Sort.grow (redrawn V d) os) fun e w''=>e= .returned (.bool true)∧∃p:Regrown,w''=Sort.grow (redrawn V p.d) p.os:=fun d os=>Calls.regrown_of (HO _)
 have cM:∀d os,Calls Tryz.prog 122 #[.iface 140 (.agg #[.int .i64 F,.int .i64 T,.string k,.int .i64 N])] (Sort.grow (redrawn V d) os) fun e w''=>e= .returned (qd ⟨0,F,T,0,0,k,N⟩)∧∃p:Regrown,w''=Sort.grow (redrawn V p.d) p.os:=fun d os=>Calls.regrown_of (HM _)
 open aiD in exact PG):P:=h
theorem aia.Ka62(h:P:=by
 have cO:∀d os,Calls Tryz.prog 194 #[.agg #[.int .i64 F,.int .i64 T,.int .i64 I]] (Sort.grow (redrawn V d) os) fun e w''=>e= .returned (.bool true)∧∃p:Regrown,w''=Sort.grow (redrawn V p.d) p.os:=fun d os=>Calls.regrown_of (HO _)
 have cM:∀d os,Calls Tryz.prog 122 #[.iface 144 (.agg #[.int .i64 F,.int .i64 T,.int .i64 I])] (Sort.grow (redrawn V d) os) fun e w''=>e= .returned (qd ⟨2,F,T,I,0,ByteArray.empty,0⟩)∧∃p:Regrown,w''=Sort.grow (redrawn V p.d) p.os:=fun d os=>Calls.regrown_of (HM _)
 open aiC in exact PG):P:=h
theorem apV(h:P:=by
 have Pv:=hide hrun;clear hrun Ev Qb Qh jK k9 hn9 Q9 HN8 Cw HK8;have c5n:=(nine oC).2.2.2.2.2.1;obtain⟨s0,s1,s2,s3⟩:=fC Sd;have c5w:=(nine uJ).2.2.2.2.2.1;have f5w:=aj uJ 5;have hn8:=aA oC;have hs8:=aA Sd;go_upto_region 10 with(at_builtin;refine eX rfl _ _ 26 rfl _ _ rfl rfl _ _ Pv ?_)
 refine wp_at (fun Z9 hZ=>?_);have Ik:Hid (Z9.heap[w.heap.size]?=some (.cells #[.int .i64 n.id,.int .i64 n.par,.slice a_k n.kids.length aK,.int .i64 (n.next+1),.slice av RL.length cv,.slice a6 (n.out.length+1) c6,.slice dS n.seen.length aL,.int .i64 n.old,.slice fA n.reqs.length aT] 30 (0,0))):=by rw [hZ];exact mV uJ
 have ac4:Hid (Z9.heap[w.heap.size+1]?=some (.cells iV 30 (0,0))):=by rw [hZ];exact jB jV (by omega)
 exact Ka63):P:=h
theorem aib.Ka63(h:P:=by
 have XF:Hid (Z9.heap[sb]?=some (.cells #[.int .i64 n.next,.int .i64 dst,.string key,.int .i64 pf] 55 (0,0))):=by rw [hZ];exact jB LJ (by omega)
 have Cz:Hid (∀W' W'',aC [w.heap.size+1] Z9 W'→Out c w W' W''→RM W'' ⟨a_k,av,a6,dS,fA,aK,cv,c6,aL,aT⟩ ⟨n.id,n.par,n.kids,n.next+1,RL,n.out++[⟨n.next,dst,key,pf⟩],n.seen,n.old,n.reqs⟩):=fun W' W'' hk ho=>by
  obtain⟨F,hk2,hF⟩:=ho
  refine fP W'' ⟨w.heap.size::(w.heap.size+1)::F,aC.trans (b:=Z9) (by rw [hZ];exact(aC.set _).mono (fun x hx=>by simp at hx;simp[hx])) (aC.trans (hk.mono (fun x hx=>by simp at hx;simp[hx])) (hk2.mono (fun x hx=>by simp[hx]))),fun y hy=>?_⟩
  rcases List.mem_cons.1 hy with h1|h1
  ·exact .inl (.inl h1)
  ·exact acg
 open al9 in exact aan):P:=h
theorem aic.Ka63(h:P:=by
 have XF:Hid (Z9.heap[sb]?=some (.cells #[.int .i64 n.next,.int .i64 dst,.string key,.int .i64 most] 55 (0,0))):=by rw [hZ];exact jB LJ (by omega)
 have Cz:Hid (∀W' W'',aC [w.heap.size+1] Z9 W'→Out c w W' W''→RM W'' ⟨a_k,av,a6,dS,fA,aK,cv,c6,aL,aT⟩ ⟨n.id,n.par,n.kids,n.next+1,RL,n.out++[⟨n.next,dst,key,most⟩],n.seen,n.old,n.reqs⟩):=fun W' W'' hk ho=>by
  obtain⟨F,hk2,hF⟩:=ho
  refine fP W'' ⟨w.heap.size::(w.heap.size+1)::F,aC.trans (b:=Z9) (by rw [hZ];exact(aC.set _).mono (fun x hx=>by simp at hx;simp[hx])) (aC.trans (hk.mono (fun x hx=>by simp at hx;simp[hx])) (hk2.mono (fun x hx=>by simp[hx]))),fun y hy=>?_⟩
  rcases List.mem_cons.1 hy with h1|h1
  ·exact .inl (.inl h1)
  ·exact acg
 open al8 in exact aan):P:=h
theorem apW(h:P:=by
 obtain⟨c0,c1,c2,c3,c4,c5,c6,c7,c8⟩:=nine nH;have cf:=aj nH 8;have hnl:=aA nH;obtain⟨i0,hi,hz0,hz1,hz2⟩:=info_parts tL;obtain⟨a8,Ba,W8,hrun,zl,Ap,⟨g8,rfl⟩,hc8⟩:=run_copy_row (P:=Tryz.prog) aY (by omega) W7 28 43 i0 (.agg #[.int .i64 0,.string ByteArray.empty,.int .i64 0,.int .i64 0]) 40 Tryz.underlying28 hi hz0 hz1 hz2 rfl (some ⟨gv,1*4,none⟩) IT (vc - 1) ac5 (gQ _) (by unfold maxLen;omega) (by omega);rw [hIT,Nat.one_mul] at hrun;have Pv:=hide hrun;have oC:=hide (au nH Ap);have vQ:=hide (au lN Ap);have Xw:=hide (au R6 Ap);have Cw:=hide (zF.trans (Ap.mono zF.size));have HL8:=hide (LO.own (en:=aJ) zl);have hz7:w.heap.size+3≤W7.heap.size:=by have:=aA R6;omega
 exact Ka64):P:=h
theorem aie.Ka64(h:P:=by
 skip
 open anS in exact aaQ):P:=h
theorem aif.Ka64(h:P:=by
 have Q9:=hide (Zt.below Ap);open anR in exact aaQ):P:=h
theorem apX(h:P:=by
 have hat:jA l k=(fT l[k]&&(k == 0|| !sle l[k].k (l.getD (k - 1) default).k)):=by unfold jA;rw [getD_at l k hlt]
 exact Ka65):P:=h
end Go.Proofs.YtfmdndhliinhpaaGreatDoor
