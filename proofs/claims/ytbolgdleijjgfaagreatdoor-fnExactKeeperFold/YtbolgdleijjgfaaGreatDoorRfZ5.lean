/-
  Parts of proofs that stand more than once, each said once.
-/
import Derived.Test.YtbolgdleijjgfaaGreatDoorRfZ4
namespace Go.Proofs.YtbolgdleijjgfaaGreatDoor
open Go.Proofs.Tryz
set_option maxRecDepth 100000
variable{P:Prop}
theorem avY.AbF(h:P:=by
 go_ret;exact⟨aF HP.symm,pE.trans ((aFl _ dq osq).mono pE.size)⟩):P:=h
theorem avZ.AbF(h:P:=by
 go_meet
 case rel=>exact yR):P:=h
theorem ahl(h:P:=by
 have HO:=Hq (show w1.ownsRow w.heap.size 155 4 v' l.length (GR.flat fA l) by simpa using hown');have hb:aH w w1:=(dS w _).grown hgrow Aac (λk hk=>Acr);exact AdK):P:=h
theorem av0.AdK(h:P:=by
 clear hown' hgrow hlit hnil;go_wp2
 go_ret;exact⟨_,rfl,HNN,HO,hb⟩):P:=h
theorem av1.AdK(h:P:=by
 clear hown' hgrow hlit;go_wp2
 go_ret;exact⟨_,rfl,HO,hb⟩):P:=h
theorem ahm(h:P:=by
 have g3:decide (yQ ps 0 1000000000)=true:=aET h3;have hA3:rM ps=true:=aET h3;have e4:IntKind.i64.wrap (pf+ps)=pf+ps:=IntWalk.i64_in _ ⟨Aaa,Aaa⟩;exact AcV):P:=h
theorem av2.AcV(h:P:=by
 by_cases h4:0<=(pf+ps)/\(pf+ps)<=1000000000
 case' neg=>
  have hA:rM (pf+ps)=false:=aES h4;have g4:decide (yQ (pf+ps) 0 1000000000)=false:=aES h4;have g5:=g4;rw [<-e4] at g4;exact aeF
 have g4:decide (yQ (pf+ps) 0 1000000000)=true:=aET h4;have hA4:rM (pf+ps)=true:=aET h4;have g5:=g4;rw [<-e4] at g4;have EM:=Hq (show oL l 0=true by rw [ah oz];simp[iG,hkb,hA1,hA2,hA3,hA4]);clear oz hA1 hA2 hA3 hA4;open aBx in exact ajN):P:=h
theorem av3.AcV(h:P:=by
 by_cases h4:0<=(pf+ps)/\(pf+ps)<=1000000000
 case' neg=>
  have hA:rM (pf+ps)=false:=aES h4;have g4:decide (yQ (pf+ps) 0 1000000000)=false:=aES h4;have g5:=g4;rw [<-e4] at g4;exact aeE
 have g4:decide (yQ (pf+ps) 0 1000000000)=true:=aET h4;have hA4:rM (pf+ps)=true:=aET h4;have g5:=g4;rw [<-e4] at g4;have EM:=Hq (show oL l (j+1)=true by rw [ah oz];simp[iG,hkb,hA1,hA2,hA3,hA4,ah hsl]);clear oz hA1 hA2 hA3 hA4;open aBw in exact ajN):P:=h
theorem ahn(h:P:=by
 go_wp2_with fail;refine(Og _).mono ?_;rintro e w5 ⟨rfl,hb5⟩;have gX:=Hq (GR.Blk.stepW HB hb5);have fO:=Hq (aZ.trans (hb5.mono aZ.size));exact Ad3):P:=h
theorem av4.Ad3(h:P:=by
 clear hb5 q0 q1 q2 q3 q4 q5 q6;obtain⟨s0,s1,s2,s3,s4,s5,s6⟩:=LA gX k Aaa;have f0:=GR.Blk.free gX (k*7);have f1:=GR.Blk.free gX (k*7+1);have f2:=GR.Blk.free gX (k*7+2);have f3:=GR.Blk.free gX (k*7+3);have f4:=GR.Blk.free gX (k*7+4);have f5:=GR.Blk.free gX (k*7+5);have f6:=GR.Blk.free gX (k*7+6);go_wp2_with fail;go_roundw
 case rel=>
  have h:=GR.Blk.set gX dA k Aaa ⟨mK,mF,mT,mI,mL,mk,mN⟩;rw [ah TS] at h;exact⟨k+1,Aaa,Aaf,h,GR.setW_below (o:=k*7) (aER w.heap.size) (iH ⟨mK,mF,mT,mI,mL,mk,mN⟩) fO⟩
 case measure=>simp[intOf];omega):P:=h
theorem av5.Ad3(h:P:=by
 clear hb5 q0 q1 q2 q3 q4 q5 q6 q7 q8 q9 q10 q11;obtain⟨s0,s1,s2,s3,s4,s5,s6,s7,s8,s9,s10,s11⟩:=DV gX k Aaa;have f0:=GR.Blk.free gX (k*12);have f1:=GR.Blk.free gX (k*12+1);have f2:=GR.Blk.free gX (k*12+2);have f3:=GR.Blk.free gX (k*12+3);have f4:=GR.Blk.free gX (k*12+4);have f5:=GR.Blk.free gX (k*12+5);have f6:=GR.Blk.free gX (k*12+6);have f7:=GR.Blk.free gX (k*12+7);have f8:=GR.Blk.free gX (k*12+8);have f9:=GR.Blk.free gX (k*12+9);have f10:=GR.Blk.free gX (k*12+10);have f11:=GR.Blk.free gX (k*12+11);go_wp2_with fail;go_roundw
 case rel=>
  have h:=GR.Blk.set gX aR k Aaa ⟨⟨oK,Qx,ok,on,⟨mK,mF,mT,mI,mL,mk,mN⟩⟩,ac⟩;rw [ah TS] at h;exact⟨k+1,Aaa,Aaf,h,GR.setW_below (o:=k*12) (aER w.heap.size) (eU ⟨⟨oK,Qx,ok,on,⟨mK,mF,mT,mI,mL,mk,mN⟩⟩,ac⟩) fO⟩
 case measure=>simp[intOf];omega):P:=h
theorem aho(h:P:=by
 have hl:=World.lt_of_cell h;have HG:=Hq (show Handle (w.alloc (.cells #[.int .i64 0] 289)) from h.below ((aE3 _ _).alloc (aER _) _));clear h;go_in
 exact Ady):P:=h
theorem av6.Ady(h:P:=by
 go_wp2_with (go_at_call 268;refine(Pv _ w.heap.size (.int .i64 0) _ ⟨_,rfl⟩ (λtg t a old w h1 h2 h3=>akk p tg t a old w h1 h2 h3) HG ?_ ?_).mono ?_;(simp);(simp);rintro e w' ⟨rfl,hbel⟩)
 go_ret;exact⟨rfl,((aE3 _ _).alloc (aER _) _).trans hbel⟩):P:=h
theorem av7.Ady(h:P:=by
 go_wp2_with (go_at_call 268;refine(Pv _ w.heap.size (.int .i64 0) _ ⟨_,rfl⟩ (λtg t a old w h1 h2 h3=>akj p tg t a old w h1 h2 h3) HG ?_ ?_).mono ?_;(simp);(simp);rintro e w' ⟨rfl,hbel⟩)
 go_ret;exact⟨rfl,((aE3 _ _).alloc (aER _) _).trans hbel⟩):P:=h
theorem ahp(h:P:=by
 rintro e w5 ⟨rfl,hb1⟩;have gX:=Hq (aj nC hb1);have HL5:=Hq (Iu.trans (hb1.mono Iu.size));clear hb1 c0 c1 c2 c3 c4 c5 c6 c7 c8;obtain⟨c0,c1,c2,c3,c4,c5,c6,c7,c8⟩:=nine gX;exact AeB):P:=h
theorem av8.AeB(h:P:=by
 have HP:=Hq (show TT=RQ by rw [ah HD];simp[h1,h2,h3,h4,h5]);clear h1 h2 h3 h4 h5 HD;go_wp2_with fail;go_ret;exact⟨aF HP.symm,HL5⟩):P:=h
theorem av9.AeB(h:P:=by
 go_wp2_with fail;go_ret;exact⟨mU Aaa,HL5⟩):P:=h
theorem aaS(h:P:=by
 generalize l[k]=pu at *;obtain⟨pk,pm,pf,ps⟩:=pu;dsimp only at c0 c1 c2 c3 hf;go_wp2_with fail;exact AbW):P:=h
theorem awc.AbW(h:P:=by
 refine aEY (v:= .agg (iX pk pm pf ps)) (by simp[results,results159,go_sem]) rfl ⟨by rw [ah HX],?_⟩;exact(aE3 _ _).alloc (aER _) _):P:=h
theorem awd.AbW(h:P:=by
 go_roundw
 case rel=>exact⟨k+1,Aaa,Aaf,HX,by first|rfl|trivial⟩
 case measure=>simp[intOf];omega):P:=h
theorem awe.AbW(h:P:=by
 go_roundw
 case rel=>exact⟨k+1,Aaa,Aaf,HX,by first|exact aZ.alloc aZ.size _|exact aZ,by first|(rw [aE4 _ _ _ afa];exact Ig)|exact Ig⟩
 case measure=>simp[intOf];omega):P:=h
theorem OV(h:P:=by
 have q0:(mT != n.id)=false:=Abb
 have q0':(mT == n.id)=true:=Abb
 clear h1;exact AbA):P:=h
theorem awf.AbA(h:P:=by
 subst h3;have q4:(mF == n.par)=false:=by simpa using h4
 clear h4;open awx in exact aht):P:=h
theorem awg.AbA(h:P:=by
 subst h3;have q4:(mF == n.par)=true:=by simp[h4]
 clear h4;unfold gM;have H9:=Hq h9;clear h9;have HMO:=Hq (λW=>lq ⟨0,mF,mT,mI,mL,mk,mN⟩ W Aal);open anE in exact aaX):P:=h
theorem awh.AbA(h:P:=by
 unfold gM;have H9:=Hq h9;clear h9;have HMO:=Hq (λW=>lq ⟨mK,mF,mT,mI,mL,mk,mN⟩ W Aal);open anF in exact aaX):P:=h
theorem awi.AbA(h:P:=by
 subst h3;obtain⟨FL,hFL⟩:∃FL:Nat->List jI,∀k,FL k=(n.out.take k).filter (λs=> !iW ⟨2,mF,mT,mI,mL,mk,mN⟩ s):=⟨_,λ_=>rfl⟩;have HFE:Hid (n.out.filter (λs=> !iW ⟨2,mF,mT,mI,mL,mk,mN⟩ s)=FL n.out.length):=by unfold Hid;rw [hFL,aFh]
 rw [ah HFE];have HF0:Hid (FL 0=[]):=by unfold Hid;rw [hFL];rfl
 have HFS:Hid (∀k (hk:k < n.out.length),FL (k+1)=if n.out[k].i=mI/\n.out[k].t=mF then FL k else FL k++[n.out[k]]):=λk hk=>by
  rw [hFL,hFL,aE0 hk,List.filter_append]
  by_cases e:n.out[k].i=mI/\n.out[k].t=mF
  .rw [aFc e];have e2:(!iW ⟨2,mF,mT,mI,mL,mk,mN⟩ n.out[k])=false:=by unfold iW;rw [aET e];rfl
   rw [List.filter_cons,e2];simp
  .rw [aE2 e];have e2:(!iW ⟨2,mF,mT,mI,mL,mk,mN⟩ n.out[k])=true:=by unfold iW;rw [aES e];rfl
   rw [List.filter_cons,e2];simp
 have HFN:Hid (∀k,(FL k).length<=n.out.length):=λk=>by
  rw [hFL]
  exact aEU (aGK _ _) Abk
 clear hFL HFE;obtain⟨i0,hi,hz0,hz1,hz2⟩:=aFt MF;have HI:=Hq (And.intro hi (And.intro hz0 (And.intro hz1 hz2)));clear hi hz0 hz1 hz2;unfold gM;have H9:=Hq h9;clear h9;have HMO:=Hq (λW=>lq ⟨2,mF,mT,mI,mL,mk,mN⟩ W Aal);open anG in exact aaX):P:=h
theorem awj.AbA(h:P:=by
 subst h3;open aww in exact aht):P:=h
theorem aaT(h:P:=by
 have e1:(m:Int)+1+1=m+2:=Aaa
 have e3:(m:Int)+2+1=m+3:=Aaa
 (try simp only[e1,e3] at HB1 ⊢)
 exact AcC):P:=h
theorem awk.AcC(h:P:=by
 have hB:=GR.C.below h0 HB1;have h1:=GR.C.set hB (k*4) (.string (gF m).k);have h2:=GR.C.set h1 (k*4+1) (.int .i64 (gF m).m);have h3:=GR.C.set h2 (k*4+2) (.int .i64 (gF m).f);have h4:=GR.C.set h3 (k*4+3) (.int .i64 (gF m).s);have hf:=GR.flat_set fA 4 aQ (jW gF 4 s l k) k (gF m) Abq;have h5:=GR.C.toW (enc:=fA) (l:=(jW gF 4 s l k).set k (gF m)) aQ Aaa (by rw [<-hf];exact h4);have hmk:gF m=gF (s+4*k):=Abf
 rw [hmk,xO gF 4 s l k hlt,<-hmk] at h5;refine⟨k+1,m+4,Aaa,Aaf,Aaf,by have:=ah HM;omega,h5,?_⟩;exact(((((HK.trans (aA.of_below HB1)).trans (dG (aA.set _) hpos)).trans (dG (aA.set _) hpos)).trans (dG (aA.set _) hpos)).trans (dG (aA.set _) hpos))):P:=h
theorem awl.AcC(h:P:=by
 have h1:=GR.C.set h0 (k*4) (.int .i64 (iF m).i);have h2:=GR.C.set h1 (k*4+1) (.int .i64 (iF m).t);have hB:=GR.C.below h2 HB1;have h3:=GR.C.set hB (k*4+2) (.string (iF m).k);have h4:=GR.C.set h3 (k*4+3) (.int .i64 (iF m).n);have hf:=GR.flat_set aM 4 aT (jW iF 4 s l k) k (iF m) Abq;have h5:=GR.C.toW (enc:=aM) (l:=(jW iF 4 s l k).set k (iF m)) aT Aaa (by rw [<-hf];exact h4);have hmk:iF m=iF (s+4*k):=Abf
 rw [hmk,xO iF 4 s l k hlt,<-hmk] at h5;refine⟨k+1,m+4,Aaa,Aaf,Aaf,by have:=ah HM;omega,h5,?_⟩;exact(((((HK.trans (dG (aA.set _) hpos)).trans (dG (aA.set _) hpos)).trans (aA.of_below HB1)).trans (dG (aA.set _) hpos)).trans (dG (aA.set _) hpos))):P:=h
theorem awm.AcC(h:P:=by
 have h1:=GR.C.set h0 (k*4) (.int .i64 (jV m).no);have hB:=GR.C.below h1 HB1;have h2:=GR.C.set hB (k*4+1) (.string (jV m).k);have h3:=GR.C.set h2 (k*4+2) (.int .i64 (jV m).n);have h4:=GR.C.set h3 (k*4+3) (.int .i64 (jV m).s);have hf:=GR.flat_set aL 4 aW (jW jV 4 s l k) k (jV m) Abq;have h5:=GR.C.toW (enc:=aL) (l:=(jW jV 4 s l k).set k (jV m)) aW Aaa (by rw [<-hf];exact h4);have hmk:jV m=jV (s+4*k):=Abf
 rw [hmk,xO jV 4 s l k hlt,<-hmk] at h5;refine⟨k+1,m+4,Aaa,Aaf,Aaf,by have:=ah HM;omega,h5,?_⟩;exact(((((HK.trans (dG (aA.set _) hpos)).trans (aA.of_below HB1)).trans (dG (aA.set _) hpos)).trans (dG (aA.set _) hpos)).trans (dG (aA.set _) hpos))):P:=h
theorem ahq(h:P:=by
 have hVO:= @aFH prog 288 _ (λargs=>ReflectliteValue.unpack (args.getD 0 (.tuple #[]))) func288 Aab Aab Aab Aab;exact AdT):P:=h
theorem awn.AdT(h:P:=by
 have hTY:= @aFH prog 289 _ (ReflectliteValue.methodAny (ReflectliteValue.valueError "reflectlite.Value.Type" 0) (λt _ _ _=>ReflectliteType.toType t)) func289 Aab Aab Aab Aab;have hIN:= @aFH prog 290 _ (ReflectliteValue.method (ReflectliteValue.valueError "reflectlite.Value.IsNil" 0) ReflectliteValue.isNil) func290 Aab Aab Aab Aab;have hKI:= @aFH prog 334 _ (ReflectliteType.abiMethod λt=>do pure (.int .u8 (<-Rtype.kind t))) func334 Aab Aab Aab Aab;have hEL:= @aFH prog 352 _ (ReflectliteType.method ReflectliteType.elem) func352 Aab Aab Aab Aab;have hIM:= @aFH prog 353 _ (ReflectliteType.relation "Implements" ReflectliteType.implements_) func353 Aab Aab Aab Aab;have f1:=As.valueOfPtr;have f2:=As.typePtr;have f3:=As.methodKind;have f4:=As.kindPtr;have f5:=As.methodElem;have f6:=As.elemType;have f7:=As.kindStruct;have f8:=As.methodImplements;have f9:=As.implements;have hgl:=World.lt_of_cell hg;have htl:=World.lt_of_cell ht;simp only at hgl htl;have n8:=As.isNil ⟨w.heap.size,0,none⟩ ⟨tb,0,none⟩ ((w.alloc (.cells #[.pointer (some ⟨tb,0,none⟩)] 291)).alloc (.cells #[.pointer (some ⟨6,291,none⟩),.pointer (some ⟨w.heap.size,0,none⟩),.int .u64 150] 322)) Aac
 have hg2:((w.alloc (.cells #[.pointer (some ⟨tb,0,none⟩)] 291)).alloc (.cells #[.pointer (some ⟨6,291,none⟩),.pointer (some ⟨w.heap.size,0,none⟩),.int .u64 150] 322)).cell? ⟨0,0,none⟩=some (.iface 340 (.agg #[.pointer (some ⟨6,247,none⟩)])):=by
  rw [aE9 _ _ ⟨0,0,none⟩ (by simp<;>omega),aE9 _ _ ⟨0,0,none⟩ hgl];exact hg
 go_in
 go_wp2_with (go_at_call 291;refine(HAS _ ⟨tb,0,none⟩ ⟨w.heap.size,0,none⟩ old _ ?_ ?_ ?_).mono ?_;(simp);(rw [aE9 _ _ ⟨tb,0,none⟩ Aah,aE9 _ _ ⟨tb,0,none⟩ htl];exact ht);(rw [aFS _ _ ⟨tb,0,none⟩ Aah,aFS _ _ ⟨tb,0,none⟩ (Nat.ne_of_lt htl)];exact hf);rintro e w' ⟨rfl,hbel⟩)
 go_ret;exact⟨rfl,(((aE3 _ _).alloc Aaa _).alloc Aah _).trans hbel⟩):P:=h
theorem awo.AdT(h:P:=by
 have hEL:= @aFH prog 301 _ (ReflectliteValue.method (ReflectliteValue.valueError "reflectlite.Value.Elem" 0) ReflectliteValue.elem) func301 Aab Aab Aab Aab;have hST:= @aFH prog 302 _ ReflectliteValue.set func302 Aab Aab Aab Aab;have f1:=As.typeOfNo;have f2:=As.typeOfUnread;have f3:=As.methodAssignableTo;have f4:=As.assignNo;have f5:=As.assignUnread;have f6:=As.noAs;have f7:=As.hasUnwrap;have f8:=As.methodUnwrap;have f9:=As.valueOfNo;have hal:a.block < w.heap.size:=World.lt_of_cell ha;have htl:t.block < w.heap.size:=World.lt_of_cell ht;exact Aei):P:=h
theorem aaU(h:P:=by
 have z2:=aEQ p2;have z3:=aEQ p3;clear c0 c1 c2 c3 c4 c5 c6 c7 c8 c9 p0 p1 p2 p3 p4 p5 p6 p7 p8 p9 pz;exact AcE):P:=h
theorem awp.AcE(h:P:=by
 open auq in exact agU):P:=h
theorem awq.AcE(h:P:=by
 refine bC 16 Aab ?_;show fV _ _ _ _ _ 17 (Array.replicate 17 false) _ _
 refine tk [0,1,2,3,4,5,6,7,8,9,10,11,12,13,14,15] ?_;iterate 16 (refine lW (λK hK=>?_);go_simp;refine hK _ ?_;clear hK K)
 refine jh ?_;clear y0 y1 z2 z3;refine aS Aab (λx hx=>?_);have JU:=Hq (HSY x c v (HW1.step hx));clear hx;refine aI 16 rfl Aab Aad ?_;go_simp;refine JU.mono ?_;rintro e y ⟨rfl,c',v',hY⟩;have HY:=Hq hY;clear hY JU;refine wpAny_done Aab ?_;go_simp;go_wp2_with fail;go_ret;exact⟨rfl,c',v',HY⟩):P:=h
theorem awr.AcE(h:P:=by
 refine bC 17 Aab ?_;show fV _ _ _ _ _ 20 (Array.replicate 20 false) _ _
 refine tk [0,1,2,3,4,5,6,7,8,9,10,11,12,13,14,15,16] ?_;iterate 17 (refine lW (λK hK=>?_);go_simp;refine hK _ ?_;clear hK K)
 refine jh ?_;clear y1 z2 z3;refine aS Aab (λx hx=>?_);have JU:=Hq (IG x c v (HW1.step hx));clear hx;refine aI 17 rfl Aab Aad ?_;go_simp;refine JU.mono ?_;rintro e y ⟨rfl,A',G',c',v',hY⟩;have HY:=Hq hY;clear hY JU;refine aI 18 rfl Aab Aad ?_;go_simp;refine aI 19 rfl Aab Aad ?_;go_simp;refine wpAny_done Aab ?_;go_simp;cases gb
 all_goals
  go_wp2_with fail
  go_ret
  exact⟨rfl,A',G',c',v',HY⟩):P:=h
theorem ahr(h:P:=by
 have c4:V.cell? ⟨g,off+j*4,none⟩=some (.string q):=by rw [hV,aE9 _ _ _ hgw];exact d0
 have hgq:g < V.heap.size:=by rw [hV];simp;omega
 clear hblk hV c0 c1 c2 c3 d0;exact Ael):P:=h
theorem aws.Ael(h:P:=by
 open avj in exact ag9):P:=h
theorem awt.Ael(h:P:=by
 open avi in exact ag8):P:=h
theorem ahs(h:P:=by
 go_wp2_with fail;refine(HCM _).mono ?_;rintro e w1 ⟨rfl,hb1⟩;have HB1:=Hq (HB.trans (hb1.mono HB.size));exact Ado):P:=h
theorem awu.Ado(h:P:=by
 have HE:Hid (RF=(ln - no == 0)):=by
  show RF=_
  rw [ah HFP,aF7,aFu,beq_iff_eq];omega
 clear hb1 q0 q1 q2 q3 HFP;go_wp2_with fail;go_ret2
 exact⟨by rw [ah HE];rfl,HB1⟩):P:=h
theorem awv.Ado(h:P:=by
 clear hb1 q0 q1 q2 q3;by_cases hc:ln - no < 0
 .go_wp2_with fail;go_roundw
  case rel=>exact⟨m+1,q,by
   rcases aF2 R (m+1) with h9|h9
   .have:=ah HHM Aaa;omega
   .exact h9,h3,h4,Aaf,rfl,HB1⟩
  case measure=>simp[intOf];omega
 .go_wp2_with fail;go_roundw
  case rel=>exact⟨p,m,h2,by
   rcases aF2 m R with h9|h9
   .have:=ah HLM h9;omega
   .exact h9,Aaa,rfl,rfl,HB1⟩
  case measure=>simp[intOf];omega):P:=h
theorem aht(h:P:=by
 have h9n:∀x,6 < newC w.heap.size 9 c x->newC w.heap.size 9 c x=9:=λx hx=>by
  by_cases hlt:x < w.heap.size
  .rw [fE hlt] at hx ⊢;exact h9 x hx
  .exact aY Aaa
 exact Adi):P:=h
theorem aww.Adi(h:P:=by
 have OM:=Hq (λW (hBW:B<=W.heap.size) (hN:NQ W B n A G (newC w.heap.size 9 c))=>adx n A G (newC w.heap.size 9 c) 1 mF mT mI mL mk mN W B hBW h9n hz hmk hP yX hok h2 hN);clear h9n hz hP yX hok;unfold gM at OM;dsimp only at OM ⊢;generalize (takeN n ⟨1,mF,mT,mI,mL,mk,mN⟩).1=N1 at *;generalize (if (takeN n ⟨1,mF,mT,mI,mL,mk,mN⟩).2=true then[Ya n ⟨1,mF,mT,mI,mL,mk,mN⟩] else[])=L1 at *;generalize (if (takeN n ⟨1,mF,mT,mI,mL,mk,mN⟩).2=true then(0:Int) else 1)=Di at *;unfold gM;have H9:=Hq h9;clear h9;have HMO:=Hq (λW=>lq ⟨1,mF,mT,mI,mL,mk,mN⟩ W Aal);open anH in exact aaX):P:=h
theorem awx.Adi(h:P:=by
 have HGV:=Hq (λW (hBW:B<=W.heap.size) (hN:NQ W B n A G (newC w.heap.size 9 c))=>Rk n A G (newC w.heap.size 9 c) mF mk mN W B hBW h9n hz hmk hP yX h0 hN);clear h9n hz hP yX;unfold gM at HGV;generalize fu n mF mk mN=GV at *;obtain⟨N1,L1,b1⟩:=GV;dsimp only at HGV ⊢;generalize (if b1=true then(0:Int) else 1)=Di at *;unfold gM;have H9:=Hq h9;clear h9;have HMO:=Hq (λW=>lq ⟨0,mF,mT,mI,mL,mk,mN⟩ W Aal);open anD in exact aaX):P:=h
theorem ahu(h:P:=by
 go_in
 go_wp2_with fail;refine(HO _).mono ?_;rintro e w1 ⟨rfl,hb1⟩;obtain⟨hA,hC,hbel⟩:=BF hb1;have HC:=Hq hC;have aZ:=Hq hbel;exact AdU):P:=h
theorem awy.AdU(h:P:=by
 obtain⟨⟨p0,p1,p2,p3⟩,_⟩:=fZ hA;obtain⟨⟨r0,r1,r2,r3⟩,s0,s1,s2,s3⟩:=fZ hC;clear hb1 hA hC hbel;go_wp2_with fail;clear r0 r1 r2 r3;refine Fo.bodyPost_at (λW' hW'=>?_);obtain⟨⟨r0,r1,r2,r3⟩,_⟩:=fZ (show W'.heap[w.heap.size+1+1]?=some (.cells (iX pk (pm+dm*n) (pf+df*n) (ps+ds*n)) 155 (0,0)) by rw [hW'];exact Fo.four_set HC);have hbb:aH w W':=by rw [hW'];exact Fo.four_below aZ Aaa
 exact aEY (v:= .tuple #[.agg (iX pk (pm+dm*n) (pf+df*n) (ps+ds*n)),.nilIface]) (by simp[results,results305,go_sem,r0,r1,r2,r3]) rfl ⟨rfl,hbb⟩):P:=h
theorem awz.AdU(h:P:=by
 have ve:=(HE.below hbel).var 5 Aaa;have hsz:=(show w.heap.size+1+1 < w1.heap.size from Fo.lt_of_blk hC);have hve:5 < w.heap.size:=aFT _ _ (HE.var 5 Aaa);obtain⟨⟨r0,r1,r2,r3⟩,s0,s1,s2,s3⟩:=fZ hC;clear hb1 hA hC hbel;go_wp2_with fail;go_region
 all_goals
  go_wp2_with fail
  refine Fo.bodyPost_at (λW' hW'=>?_)
  obtain⟨⟨t0,t1,t2,t3⟩,_⟩:=fZ (show W'.heap[w.heap.size+1+1]?=some (.cells (iX ⟨#[]⟩ 0 0 0) 155 (0,0)) by rw [hW'];exact Fo.four_set (w:=w1.drew) HC)
  have hbb:aH w W':=by rw [hW'];exact Fo.four_below (w:=w1.drew) (aZ.trans ⟨rfl,rfl,rfl,aER _,λ_ _=>rfl⟩) Aaa
  exact aEY (v:= .tuple #[.agg (iX ⟨#[]⟩ 0 0 0),uN (E 5)]) (by simp[results,results305,go_sem,t0,t1,t2,t3]) rfl ⟨rfl,hbb⟩):P:=h
theorem aaV(h:P:=by
 have HB1:=Hq (aj HB0 hb1);have vW:=Hq (pY.trans (hb1.mono pY.size));exact AcA):P:=h
theorem awC.AcA(h:P:=by
 clear hb1 c0 c1 c2 c3 c4 c5 c6 c7 c8;obtain⟨c0,c1,c2,c3,c4,c5,c6,c7,c8⟩:=nine HB1;exact AbX):P:=h
theorem awD.AcA(h:P:=by
 clear hb1 c0 c1 c2 c3 c4 c5 c6 c7 c8 Oc;obtain⟨c0,c1,c2,c3,c4,c5,c6,c7,c8⟩:=nine HB1;cases h1:PL
 case' false=>
  have HV:=Hq (show bb=true by rw [<-ah eY];simp[h1])
  clear eY h1
  go_wp2_with fail
  go_meet
  case rel=>exact⟨Aam,HB1,vW⟩
 go_wp2_with fail;refine(HPU _ vW).mono ?_;rintro e w2 ⟨rfl,hb1⟩;have HB2:=Hq (aj HB1 hb1);have HL2:=Hq (vW.trans (hb1.mono vW.size));clear hb1 c0 c1 c2 c3 c4 c5 c6 c7 c8 HPU;obtain⟨c0,c1,c2,c3,c4,c5,c6,c7,c8⟩:=nine HB2;cases h2:PS
 case' false=>
  have HV:=Hq (show bb=true by rw [<-ah eY];simp[h2])
  clear eY h2
  go_wp2_with fail
  go_meet
  case rel=>exact⟨Aam,HB2,HL2⟩
 go_wp2_with fail;refine(Og _ HL2).mono ?_;rintro e w3 ⟨rfl,hb1⟩;have HB3:=Hq (aj HB2 hb1);have sH:=Hq (HL2.trans (hb1.mono HL2.size));clear hb1 c0 c1 c2 c3 c4 c5 c6 c7 c8 Og;obtain⟨c0,c1,c2,c3,c4,c5,c6,c7,c8⟩:=nine HB3;cases h3:TD
 case' false=>
  have HV:=Hq (show bb=true by rw [<-ah eY];simp[h3])
  clear eY h3
  go_wp2_with fail
  go_meet
  case rel=>exact⟨Aam,HB3,sH⟩
 cases h4:fJ next
 case' false=>
  have HV:=Hq (show bb=true by rw [<-ah eY];simp[h4])
  clear eY h1 h2 h3
  go_wp2_with (go_at_call 90;refine(eH _ _ _ h4).mono ?_;rintro e w9 ⟨rfl,rfl⟩)
  go_meet
  case rel=>exact⟨Aam,HB3,sH⟩
 by_cases h5:out.length<=40
 case' neg=>
  have hq:decide ((40:Int) < out.length)=true:=aET Aaa
  have HV:=Hq (show bb=true by rw [<-ah eY];simp[h5])
  clear eY h1 h2 h3
  go_wp2_with (go_at_call 90;refine(eH _ _ _ h4).mono ?_;rintro e w9 ⟨rfl,rfl⟩)
  go_meet
  case rel=>exact⟨Aam,HB3,sH⟩
 have hq:decide ((40:Int) < out.length)=false:=aES Aaa;cases h6:rM old
 case' false=>
  have Ll:=Hq (λw1=>acE old false w1 h6)
  have HV:=Hq (show bb=true by rw [<-ah eY];simp[h6])
  clear eY h1 h2 h3
  go_wp2_with (first|(go_at_call 90;refine(eH _ _ _ h4).mono ?_;rintro e w9 ⟨rfl,rfl⟩)|(go_at_call 91;refine(Ll _).mono ?_;rintro e w9 ⟨rfl,rfl⟩))
  go_meet
  case rel=>exact⟨Aam,HB3,sH⟩
 have Ll:=Hq (λw1=>acE old true w1 h6);by_cases h7:reqs.length<=30
 case' neg=>
  have hq2:decide ((30:Int) < reqs.length)=true:=aET Aaa
  have HV:=Hq (show bb=true by rw [<-ah eY];simp[h7])
  clear eY h1 h2 h3
  go_wp2_with (first|(go_at_call 90;refine(eH _ _ _ h4).mono ?_;rintro e w9 ⟨rfl,rfl⟩)|(go_at_call 91;refine(Ll _).mono ?_;rintro e w9 ⟨rfl,rfl⟩))
  go_meet
  case rel=>exact⟨Aam,HB3,sH⟩
 have hq2:decide ((30:Int) < reqs.length)=false:=aES Aaa;have HV:=Hq (show bb=false by rw [<-ah eY];simp[h1,h2,h3,h4,h5,h6,h7]);clear eY h1 h2 h3;go_wp2_with (first|(go_at_call 90;refine(eH _ _ _ h4).mono ?_;rintro e w9 ⟨rfl,rfl⟩)|(go_at_call 91;refine(Ll _).mono ?_;rintro e w9 ⟨rfl,rfl⟩))
 go_meet
 case rel=>exact⟨Aam,HB3,sH⟩):P:=h
theorem awE.AcA(h:P:=by
 clear hb1 c0 c1 c2 c3 c4 c5 c6 c7 c8 d0 d1 d2 d3 d4 d5 d6 d7 d8;obtain⟨c0,c1,c2,c3,c4,c5,c6,c7,c8⟩:=nine HA1;obtain⟨d0,d1,d2,d3,d4,d5,d6,d7,d8⟩:=nine HB1;go_wp2_with fail;refine(HP _ vW).mono ?_;rintro e w2 ⟨rfl,hb1⟩;have HA2:=Hq (aj HA1 hb1);have HB2:=Hq (aj HB1 hb1);have HL2:=Hq (vW.trans (hb1.mono vW.size));clear hb1 c0 c1 c2 c3 c4 c5 c6 c7 c8 d0 d1 d2 d3 d4 d5 d6 d7 d8;obtain⟨c0,c1,c2,c3,c4,c5,c6,c7,c8⟩:=nine HA2;obtain⟨d0,d1,d2,d3,d4,d5,d6,d7,d8⟩:=nine HB2;go_wp2_with fail;refine(HO _ HL2).mono ?_;rintro e w3 ⟨rfl,hb1⟩;have HA3:=Hq (aj HA2 hb1);have HB3:=Hq (aj HB2 hb1);have sH:=Hq (HL2.trans (hb1.mono HL2.size));clear hb1 c0 c1 c2 c3 c4 c5 c6 c7 c8 d0 d1 d2 d3 d4 d5 d6 d7 d8;obtain⟨c0,c1,c2,c3,c4,c5,c6,c7,c8⟩:=nine HA3;obtain⟨d0,d1,d2,d3,d4,d5,d6,d7,d8⟩:=nine HB3;go_wp2_with fail;refine(HS _ sH).mono ?_;rintro e w4 ⟨rfl,hb1⟩;have HA4:=Hq (aj HA3 hb1);have nC:=Hq (aj HB3 hb1);have Iu:=Hq (sH.trans (hb1.mono sH.size));clear hb1 c0 c1 c2 c3 c4 c5 c6 c7 c8 d0 d1 d2 d3 d4 d5 d6 d7 d8;obtain⟨c0,c1,c2,c3,c4,c5,c6,c7,c8⟩:=nine HA4;obtain⟨d0,d1,d2,d3,d4,d5,d6,d7,d8⟩:=nine nC;go_wp2_with fail;refine(HR _ Iu).mono ?_;rintro e w5 ⟨rfl,hb1⟩;have HA5:=Hq (aj HA4 hb1);have gX:=Hq (aj nC hb1);have HL5:=Hq (Iu.trans (hb1.mono Iu.size));clear hb1 c0 c1 c2 c3 c4 c5 c6 c7 c8 d0 d1 d2 d3 d4 d5 d6 d7 d8;obtain⟨c0,c1,c2,c3,c4,c5,c6,c7,c8⟩:=nine HA5;obtain⟨d0,d1,d2,d3,d4,d5,d6,d7,d8⟩:=nine gX;go_wp2_with fail;go_ret;exact⟨rfl,HL5⟩):P:=h
end Go.Proofs.YtbolgdleijjgfaaGreatDoor
