/-
  Parts of proofs that stand more than once, each said once.
-/
import Derived.Test.YtbolgdleijjgfaaGreatDoorRsZ4
namespace Go.Proofs.YtbolgdleijjgfaaGreatDoor
open Go.Proofs.Tryz
set_option maxRecDepth 100000
variable{P:Prop}
theorem awf.AbR(h:P:=by
 have h1:=GR.C.set h0 (k*4) (.int .i64 (jO m).no);have hB:=GR.C.below h1 HB1;have h2:=GR.C.set hB (k*4+1) (.string (jO m).k);have h3:=GR.C.set h2 (k*4+2) (.int .i64 (jO m).n);have h4:=GR.C.set h3 (k*4+3) (.int .i64 (jO m).s);have hf:=GR.flat_set aL 4 aV (jH jO 4 s l k) k (jO m) Abq;have h5:=GR.C.toW (enc:=aL) (l:=(jH jO 4 s l k).set k (jO m)) aV Aaa (by rw [<-hf];exact h4);have hmk:jO m=jO (s+4*k):=Abf
 rw [hmk,xI jO 4 s l k hlt,<-hmk] at h5;refine⟨k+1,m+4,Aaa,Aaf,Aaf,by have:=ah HM;omega,h5,?_⟩;exact(((((HK.trans (dx (aA.set _) hpos)).trans (aA.of_below HB1)).trans (dx (aA.set _) hpos)).trans (dx (aA.set _) hpos)).trans (dx (aA.set _) hpos))):P:=h
theorem ahv(h:P:=by
 have hVO:= @aFC prog 288 _ (λargs=>ReflectliteValue.unpack (args.getD 0 (.tuple #[]))) func288 Aab Aab Aab Aab;exact AdB):P:=h
theorem awg.AdB(h:P:=by
 have hTY:= @aFC prog 289 _ (ReflectliteValue.methodAny (ReflectliteValue.valueError "reflectlite.Value.Type" 0) (λt _ _ _=>ReflectliteType.toType t)) func289 Aab Aab Aab Aab;have hIN:= @aFC prog 290 _ (ReflectliteValue.method (ReflectliteValue.valueError "reflectlite.Value.IsNil" 0) ReflectliteValue.isNil) func290 Aab Aab Aab Aab;have hKI:= @aFC prog 334 _ (ReflectliteType.abiMethod λt=>do pure (.int .u8 (<-Rtype.kind t))) func334 Aab Aab Aab Aab;have hEL:= @aFC prog 352 _ (ReflectliteType.method ReflectliteType.elem) func352 Aab Aab Aab Aab;have hIM:= @aFC prog 353 _ (ReflectliteType.relation "Implements" ReflectliteType.implements_) func353 Aab Aab Aab Aab;have f1:=As.valueOfPtr;have f2:=As.typePtr;have f3:=As.methodKind;have f4:=As.kindPtr;have f5:=As.methodElem;have f6:=As.elemType;have f7:=As.kindStruct;have f8:=As.methodImplements;have f9:=As.implements;have hgl:=World.lt_of_cell hg;have htl:=World.lt_of_cell ht;simp only at hgl htl;have n8:=As.isNil ⟨w.heap.size,0,none⟩ ⟨tb,0,none⟩ ((w.alloc (.cells #[.pointer (some ⟨tb,0,none⟩)] 291)).alloc (.cells #[.pointer (some ⟨6,291,none⟩),.pointer (some ⟨w.heap.size,0,none⟩),.int .u64 150] 322)) Aac
 have hg2:((w.alloc (.cells #[.pointer (some ⟨tb,0,none⟩)] 291)).alloc (.cells #[.pointer (some ⟨6,291,none⟩),.pointer (some ⟨w.heap.size,0,none⟩),.int .u64 150] 322)).cell? ⟨0,0,none⟩=some (.iface 340 (.agg #[.pointer (some ⟨6,247,none⟩)])):=by
  rw [aE4 _ _ ⟨0,0,none⟩ (by simp<;>omega),aE4 _ _ ⟨0,0,none⟩ hgl];exact hg
 go_in
 go_wp2_with (go_at_call 291;refine(HAS _ ⟨tb,0,none⟩ ⟨w.heap.size,0,none⟩ old _ ?_ ?_ ?_).mono ?_;(simp);(rw [aE4 _ _ ⟨tb,0,none⟩ Aah,aE4 _ _ ⟨tb,0,none⟩ htl];exact ht);(rw [aFN _ _ ⟨tb,0,none⟩ Aah,aFN _ _ ⟨tb,0,none⟩ (Nat.ne_of_lt htl)];exact hf);rintro e w' ⟨rfl,hbel⟩)
 go_ret;exact⟨rfl,(((aEY _ _).alloc Aaa _).alloc Aah _).trans hbel⟩):P:=h
theorem awh.AdB(h:P:=by
 have hEL:= @aFC prog 301 _ (ReflectliteValue.method (ReflectliteValue.valueError "reflectlite.Value.Elem" 0) ReflectliteValue.elem) func301 Aab Aab Aab Aab;have hST:= @aFC prog 302 _ ReflectliteValue.set func302 Aab Aab Aab Aab;have f1:=As.typeOfNo;have f2:=As.typeOfUnread;have f3:=As.methodAssignableTo;have f4:=As.assignNo;have f5:=As.assignUnread;have f6:=As.noAs;have f7:=As.hasUnwrap;have f8:=As.methodUnwrap;have f9:=As.valueOfNo;have hal:a.block < w.heap.size:=World.lt_of_cell ha;have htl:t.block < w.heap.size:=World.lt_of_cell ht;exact Ael):P:=h
theorem aaY(h:P:=by
 have z2:=aEL p2;have z3:=aEL p3;clear c0 c1 c2 c3 c4 c5 c6 c7 c8 c9 p0 p1 p2 p3 p4 p5 p6 p7 p8 p9 oD;exact Ab8):P:=h
theorem awi.Ab8(h:P:=by
 refine rg 20 Ge 23 ?_;open au3 in exact aaT):P:=h
theorem awj.Ab8(h:P:=by
 refine rg 16 Ge 17 ?_;refine tk [0,1,2,3,4,5,6,7,8,9,10,11,12,13,14,15] ?_;iterate 16 (refine iO (λK hK=>?_);go_simp;refine hK _ ?_;clear hK K)
 refine jf ?_;clear y0 y1 z2 z3;refine aU Aab (λx hx=>?_);have JM:=Hq (HSY x c v (HW1.step hx));clear hx;refine an 16 ?_;go_simp;refine JM.mono ?_;rintro e y ⟨rfl,c',v',hY⟩;have HY:=Hq hY;clear hY JM;refine ad ?_;go_simp;go_wp2_with fail;go_ret;exact⟨rfl,c',v',HY⟩):P:=h
theorem awk.Ab8(h:P:=by
 refine rg 17 Ge 20 ?_;open au4 in exact aaT):P:=h
theorem ahw(h:P:=by
 have c4:V.cell? ⟨g,off+j*4,none⟩=some (.string q):=by rw [hV,aE4 _ _ _ hgw];exact d0
 have hgq:g < V.heap.size:=by rw [hV];simp;omega
 clear hblk hV c0 c1 c2 c3 d0;exact AdS):P:=h
theorem awl.AdS(h:P:=by
 open avq in exact ahf):P:=h
theorem awm.AdS(h:P:=by
 open avp in exact ahe):P:=h
theorem ahx(h:P:=by
 go_wp2_with fail;refine(HCM _).mono ?_;rintro e w1 ⟨rfl,hb1⟩;have HB1:=Hq (HB.trans (hb1.mono HB.size));exact Aev):P:=h
theorem awn.Aev(h:P:=by
 have HE:Hid (RF=(ln - no == 0)):=by
  show RF=_
  rw [ah HFP,aF2,aFo,beq_iff_eq];omega
 clear hb1 q0 q1 q2 q3 HFP;go_wp2_with fail;go_ret2
 exact⟨by rw [ah HE];rfl,HB1⟩):P:=h
theorem awo.Aev(h:P:=by
 clear hb1 q0 q1 q2 q3;by_cases hc:ln - no < 0
 .go_wp2_with fail;go_roundw
  case rel=>exact⟨m+1,q,by
   rcases aFX R (m+1) with h9|h9
   .have:=ah HHM Aaa;omega
   .exact h9,h3,h4,Aaf,rfl,HB1⟩
  case measure=>simp[intOf];omega
 .go_wp2_with fail;go_roundw
  case rel=>exact⟨p,m,h2,by
   rcases aFX m R with h9|h9
   .have:=ah HLM h9;omega
   .exact h9,Aaa,rfl,rfl,HB1⟩
  case measure=>simp[intOf];omega):P:=h
theorem ahy(h:P:=by
 go_in
 go_wp2_with fail;refine(HO _).mono ?_;rintro e w1 ⟨rfl,hb1⟩;obtain⟨hA,hC,hbel⟩:=Bu hb1;have HC:=Hq hC;have aY:=Hq hbel;exact AcZ):P:=h
theorem awp.AcZ(h:P:=by
 obtain⟨⟨p0,p1,p2,p3⟩,_⟩:=fP hA;obtain⟨⟨r0,r1,r2,r3⟩,s0,s1,s2,s3⟩:=fP hC;clear hb1 hA hC hbel;go_wp2_with fail;clear r0 r1 r2 r3;refine Fo.bodyPost_at (λW' hW'=>?_);obtain⟨⟨r0,r1,r2,r3⟩,_⟩:=fP (show W'.heap[w.heap.size+1+1]?=some (.cells (iR pk (pm+dm*n) (pf+df*n) (ps+ds*n)) 155 (0,0)) by rw [hW'];exact Fo.four_set HC);have hbb:aH w W':=by rw [hW'];exact Fo.four_below aY Aaa
 exact aET (v:= .tuple #[.agg (iR pk (pm+dm*n) (pf+df*n) (ps+ds*n)),.nilIface]) (by simp[results,results305,go_sem,r0,r1,r2,r3]) rfl ⟨rfl,hbb⟩):P:=h
theorem awq.AcZ(h:P:=by
 have ve:=(HE.below hbel).var 5 Aaa;have hsz:=(show w.heap.size+1+1 < w1.heap.size from Fo.lt_of_blk hC);have hve:5 < w.heap.size:=aFO _ _ (HE.var 5 Aaa);obtain⟨⟨r0,r1,r2,r3⟩,s0,s1,s2,s3⟩:=fP hC;clear hb1 hA hC hbel;go_wp2_with fail;go_region
 all_goals
  go_wp2_with fail
  refine Fo.bodyPost_at (λW' hW'=>?_)
  obtain⟨⟨t0,t1,t2,t3⟩,_⟩:=fP (show W'.heap[w.heap.size+1+1]?=some (.cells (iR ⟨#[]⟩ 0 0 0) 155 (0,0)) by rw [hW'];exact Fo.four_set (w:=w1.drew) HC)
  have hbb:aH w W':=by rw [hW'];exact Fo.four_below (w:=w1.drew) (aY.trans ⟨rfl,rfl,rfl,aEM _,λ_ _=>rfl⟩) Aaa
  exact aET (v:= .tuple #[.agg (iR ⟨#[]⟩ 0 0 0),uJ (E 5)]) (by simp[results,results305,go_sem,t0,t1,t2,t3]) rfl ⟨rfl,hbb⟩):P:=h
theorem aa0(h:P:=by
 have HB1:=Hq (aj HB0 hb1);have uq:=Hq (pJ.trans (hb1.mono pJ.size));exact Ab2):P:=h
theorem awr.Ab2(h:P:=by
 clear hb1 c0 c1 c2 c3 c4 c5 c6 c7 c8;obtain⟨c0,c1,c2,c3,c4,c5,c6,c7,c8⟩:=nine HB1;exact Ab0):P:=h
theorem aws.Ab2(h:P:=by
 clear hb1 c0 c1 c2 c3 c4 c5 c6 c7 c8 N9;obtain⟨c0,c1,c2,c3,c4,c5,c6,c7,c8⟩:=nine HB1;cases h1:PL
 case' false=>
  have HV:=Hq (show bb=true by rw [<-ah eT];simp[h1])
  clear eT h1
  go_wp2_with fail
  go_meet
  case rel=>exact⟨Aam,HB1,uq⟩
 go_wp2_with fail;refine(HPU _ uq).mono ?_;rintro e w2 ⟨rfl,hb1⟩;have HB2:=Hq (aj HB1 hb1);have HL2:=Hq (uq.trans (hb1.mono uq.size));clear hb1 c0 c1 c2 c3 c4 c5 c6 c7 c8 HPU;obtain⟨c0,c1,c2,c3,c4,c5,c6,c7,c8⟩:=nine HB2;cases h2:PS
 case' false=>
  have HV:=Hq (show bb=true by rw [<-ah eT];simp[h2])
  clear eT h2
  go_wp2_with fail
  go_meet
  case rel=>exact⟨Aam,HB2,HL2⟩
 go_wp2_with fail;refine(Oc _ HL2).mono ?_;rintro e w3 ⟨rfl,hb1⟩;have HB3:=Hq (aj HB2 hb1);have qX:=Hq (HL2.trans (hb1.mono HL2.size));clear hb1 c0 c1 c2 c3 c4 c5 c6 c7 c8 Oc;obtain⟨c0,c1,c2,c3,c4,c5,c6,c7,c8⟩:=nine HB3;cases h3:TD
 case' false=>
  have HV:=Hq (show bb=true by rw [<-ah eT];simp[h3])
  clear eT h3
  go_wp2_with fail
  go_meet
  case rel=>exact⟨Aam,HB3,qX⟩
 cases h4:fH next
 case' false=>
  have HV:=Hq (show bb=true by rw [<-ah eT];simp[h4])
  clear eT h1 h2 h3
  go_wp2_with (go_at_call 90;refine(eG _ _ _ h4).mono ?_;rintro e w9 ⟨rfl,rfl⟩)
  go_meet
  case rel=>exact⟨Aam,HB3,qX⟩
 by_cases h5:out.length<=40
 case' neg=>
  have hq:decide ((40:Int) < out.length)=true:=aEO Aaa
  have HV:=Hq (show bb=true by rw [<-ah eT];simp[h5])
  clear eT h1 h2 h3
  go_wp2_with (go_at_call 90;refine(eG _ _ _ h4).mono ?_;rintro e w9 ⟨rfl,rfl⟩)
  go_meet
  case rel=>exact⟨Aam,HB3,qX⟩
 have hq:decide ((40:Int) < out.length)=false:=aEN Aaa;cases h6:rA old
 case' false=>
  have Lf:=Hq (λw1=>acH old false w1 h6)
  have HV:=Hq (show bb=true by rw [<-ah eT];simp[h6])
  clear eT h1 h2 h3
  go_wp2_with (first|(go_at_call 90;refine(eG _ _ _ h4).mono ?_;rintro e w9 ⟨rfl,rfl⟩)|(go_at_call 91;refine(Lf _).mono ?_;rintro e w9 ⟨rfl,rfl⟩))
  go_meet
  case rel=>exact⟨Aam,HB3,qX⟩
 have Lf:=Hq (λw1=>acH old true w1 h6);by_cases h7:reqs.length<=30
 case' neg=>
  have hq2:decide ((30:Int) < reqs.length)=true:=aEO Aaa
  have HV:=Hq (show bb=true by rw [<-ah eT];simp[h7])
  clear eT h1 h2 h3
  go_wp2_with (first|(go_at_call 90;refine(eG _ _ _ h4).mono ?_;rintro e w9 ⟨rfl,rfl⟩)|(go_at_call 91;refine(Lf _).mono ?_;rintro e w9 ⟨rfl,rfl⟩))
  go_meet
  case rel=>exact⟨Aam,HB3,qX⟩
 have hq2:decide ((30:Int) < reqs.length)=false:=aEN Aaa;have HV:=Hq (show bb=false by rw [<-ah eT];simp[h1,h2,h3,h4,h5,h6,h7]);clear eT h1 h2 h3;go_wp2_with (first|(go_at_call 90;refine(eG _ _ _ h4).mono ?_;rintro e w9 ⟨rfl,rfl⟩)|(go_at_call 91;refine(Lf _).mono ?_;rintro e w9 ⟨rfl,rfl⟩))
 go_meet
 case rel=>exact⟨Aam,HB3,qX⟩):P:=h
theorem awt.Ab2(h:P:=by
 clear hb1 c0 c1 c2 c3 c4 c5 c6 c7 c8 d0 d1 d2 d3 d4 d5 d6 d7 d8;obtain⟨c0,c1,c2,c3,c4,c5,c6,c7,c8⟩:=nine HA1;obtain⟨d0,d1,d2,d3,d4,d5,d6,d7,d8⟩:=nine HB1;go_wp2_with fail;refine(HP _ uq).mono ?_;rintro e w2 ⟨rfl,hb1⟩;have HA2:=Hq (aj HA1 hb1);have HB2:=Hq (aj HB1 hb1);have HL2:=Hq (uq.trans (hb1.mono uq.size));clear hb1 c0 c1 c2 c3 c4 c5 c6 c7 c8 d0 d1 d2 d3 d4 d5 d6 d7 d8;obtain⟨c0,c1,c2,c3,c4,c5,c6,c7,c8⟩:=nine HA2;obtain⟨d0,d1,d2,d3,d4,d5,d6,d7,d8⟩:=nine HB2;go_wp2_with fail;refine(HO _ HL2).mono ?_;rintro e w3 ⟨rfl,hb1⟩;have HA3:=Hq (aj HA2 hb1);have HB3:=Hq (aj HB2 hb1);have qX:=Hq (HL2.trans (hb1.mono HL2.size));clear hb1 c0 c1 c2 c3 c4 c5 c6 c7 c8 d0 d1 d2 d3 d4 d5 d6 d7 d8;obtain⟨c0,c1,c2,c3,c4,c5,c6,c7,c8⟩:=nine HA3;obtain⟨d0,d1,d2,d3,d4,d5,d6,d7,d8⟩:=nine HB3;go_wp2_with fail;refine(HS _ qX).mono ?_;rintro e w4 ⟨rfl,hb1⟩;have HA4:=Hq (aj HA3 hb1);have mQ:=Hq (aj HB3 hb1);have Ij:=Hq (qX.trans (hb1.mono qX.size));clear hb1 c0 c1 c2 c3 c4 c5 c6 c7 c8 d0 d1 d2 d3 d4 d5 d6 d7 d8;obtain⟨c0,c1,c2,c3,c4,c5,c6,c7,c8⟩:=nine HA4;obtain⟨d0,d1,d2,d3,d4,d5,d6,d7,d8⟩:=nine mQ;go_wp2_with fail;refine(HR _ Ij).mono ?_;rintro e w5 ⟨rfl,hb1⟩;have HA5:=Hq (aj HA4 hb1);have gQ:=Hq (aj mQ hb1);have HL5:=Hq (Ij.trans (hb1.mono Ij.size));clear hb1 c0 c1 c2 c3 c4 c5 c6 c7 c8 d0 d1 d2 d3 d4 d5 d6 d7 d8;obtain⟨c0,c1,c2,c3,c4,c5,c6,c7,c8⟩:=nine HA5;obtain⟨d0,d1,d2,d3,d4,d5,d6,d7,d8⟩:=nine gQ;go_wp2_with fail;go_ret;exact⟨rfl,HL5⟩):P:=h
theorem ahz(h:P:=by
 have h9n:∀x,6 < newC w.heap.size 9 c x->newC w.heap.size 9 c x=9:=λx hx=>by
  by_cases hlt:x < w.heap.size
  .rw [fC hlt] at hx ⊢;exact h9 x hx
  .exact aX Aaa
 exact AdM):P:=h
theorem awu.AdM(h:P:=by
 have OI:=Hq (λW (hBW:B<=W.heap.size) (hN:NQ W B n A G (newC w.heap.size 9 c))=>adz n A G (newC w.heap.size 9 c) 1 mF mT mI mL mk mN W B hBW h9n hz hmk hP yP hok h2 hN);clear h9n hz hP yP hok;unfold gH at OI;dsimp only at OI ⊢;generalize (takeN n ⟨1,mF,mT,mI,mL,mk,mN⟩).1=N1 at *;generalize (if (takeN n ⟨1,mF,mT,mI,mL,mk,mN⟩).2=true then[XY n ⟨1,mF,mT,mI,mL,mk,mN⟩] else[])=L1 at *;generalize (if (takeN n ⟨1,mF,mT,mI,mL,mk,mN⟩).2=true then(0:Int) else 1)=Da at *;unfold gH;have H9:=Hq h9;clear h9;have HMO:=Hq (λW=>kN ⟨1,mF,mT,mI,mL,mk,mN⟩ W Aal);open anQ in exact aa1):P:=h
theorem awv.AdM(h:P:=by
 have HGV:=Hq (λW (hBW:B<=W.heap.size) (hN:NQ W B n A G (newC w.heap.size 9 c))=>Rk n A G (newC w.heap.size 9 c) mF mk mN W B hBW h9n hz hmk hP yP h0 hN);clear h9n hz hP yP;unfold gH at HGV;generalize eY n mF mk mN=GV at *;obtain⟨N1,L1,b1⟩:=GV;dsimp only at HGV ⊢;generalize (if b1=true then(0:Int) else 1)=Da at *;unfold gH;have H9:=Hq h9;clear h9;have HMO:=Hq (λW=>kN ⟨0,mF,mT,mI,mL,mk,mN⟩ W Aal);open anM in exact aa1):P:=h
end Go.Proofs.YtbolgdleijjgfaaGreatDoor
