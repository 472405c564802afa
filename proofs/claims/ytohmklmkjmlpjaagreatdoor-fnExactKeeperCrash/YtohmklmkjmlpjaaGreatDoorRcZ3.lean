/-
  Parts of proofs that stand more than once, each said once.
-/
import Derived.Test.YtohmklmkjmlpjaaGreatDoorRcZ2
namespace Go.Proofs.YtohmklmkjmlpjaaGreatDoor
open Go.Proofs.Tryz
set_option maxRecDepth 100000
variable{P:Prop}
theorem aqR.AcN(h:P:=by
 induction fuel with
 |zero=>
  intro listed a w hb hcl _ hr hy H;open axm in exact aa1
 |succ fuel ih=>
  intro listed a w hb hcl hfree hr hy H;open aw9 in exact aa0):P:=h
theorem aqS.AcN(h:P:=by
 induction fuel with
 |zero=>
  intro listed a w hcl _ hr hy H;open axl in exact aa1
 |succ fuel ih=>
  intro listed a w hcl hfree hr hy H;open aw8 in exact aa0):P:=h
theorem ayG(h:P:=by
 open avU in exact ahw):P:=h
theorem aqT.Ae6(h:P:=by
 have r1:=aGj q1;have r2:=aGj q2;have r3:=aGj q3;have e4:=aGj d4;refine dx 23 Aab ?_;show fA _ _ _ _ _ 25 (Array.replicate 25 false) _ _
 refine tk [0,1,2,3,4,5,6,7,8,9,10,11,12,13,14,15,16,17,18,19] ?_;iterate 20 (refine vX (λK hK=>?_);go_simp;refine hK _ ?_;clear hK K)
 refine kD ?_;clear r1 r2 r3 e4;refine dP 20 rfl Aab Aad (λx hx=>?_);go_simp;have HX:=Hq (HZ1.step hx);refine(HUN x HX).mono ?_;rintro e y ⟨a,cp,g5,hg5,rfl,hp,hby⟩;refine⟨hby,?_⟩;have HST:=Hq (λu (hu:Ge y u)=>af2 (cp:=cp) HX (hby.trans (hu.mono hby.size)) hg5 (hp.below hu));clear hby hg5 hp HUN hx;refine tk [21,22] ?_;iterate 2 (refine vX (λK hK=>?_);go_simp;refine hK _ ?_;clear hK K)
 refine kD ?_;refine bE Aab (λu hu=>?_);refine aG 23 rfl Aab Aad ?_;go_simp;refine(HST u hu).mono ?_;rintro e z2 ⟨rfl,A',G',c',hZ2,hA2⟩;have HZ2:=Hq hZ2;have HA2:=Hq (hA2.trans hAr);clear hZ2 HST hu hA2 d0 d1 d2 d3 d4 d5 d6 d7 d8 d9 q0 q1 q2 q3 qf;obtain⟨rl,rb⟩:=r;dsimp only at HZ2 ⊢;refine aG 24 rfl Aab Aad ?_;go_simp;refine wpAny_done Aab ?_;go_simp;cases rb
 .rw [aGr Aac] at HZ2;obtain⟨g6,hA6,_,hg6,⟨s0,s1,s2,s3⟩,sf⟩:=HZ2.reqRow i hil;rw [ah HA2] at hA6;cases hA6
  rw [hs] at s3;go_wp2_with fail;go_ret;exact⟨rfl,A',G',c',HZ2⟩
 .rw [aGC rfl] at HZ2;obtain⟨g6,hA6,_,hg6,⟨s0,s1,s2,s3⟩,sf⟩:=HZ2.reqRow i hil;rw [ah HA2] at hA6;cases hA6
  have zB:=Hq (HZ2.reqSet i hil g HA2);clear HZ2 HZ1 HX HW;go_wp2_with fail;go_ret;exact⟨rfl,A',G',c',zB⟩):P:=h
theorem aqU.Ae6(h:P:=by
 have r3:=aGj q3;refine dB Aab ?_;show iq _ _ _ _ 25 (Array.replicate 25 false) _ _
 refine tk [0,1,2,3,4,5,6,7,8,9,10,11,12,13,14,15,16,17,18,19,20,21,22,23,24] ?_;iterate 25 (refine BA (λK hK=>?_);go_simp;refine hK _ ?_;clear hK K)
 refine kD ?_;refine fF Aab (λx hx=>?_);have HX:=Hq (HZ1.step hx);have x3:=(sG hx).1 g (i*4+3) hgl;clear hx r3;go_simp;go_wp2_with fail;go_ret;exact⟨rfl,A,G,c,HX⟩):P:=h
theorem ayH(h:P:=by
 rw [<-hW] at e1 e2 e3;have HN:=Hq e1;have HR:=Hq e2;have HB0:=Hq e3;have Ig:=Hq (mZ.kc (k:=9) (KC.of_below e3) Aaa);clear hW e1 e2 e3 mZ hbw0;obtain⟨c0,c1,c2,c3,c4,c5,c6,c7,c8⟩:=nine HN;have hnl:=aA HN;go_wp2_with fail;refine(JQ W0 Ig.at.p).mono ?_;open axp in exact ahY):P:=h
theorem aqV.Adr(h:P:=by
 have HI:=Hq (And.intro hi (And.intro hz0 (And.intro hz1 hz2)));clear hi hz0 hz1 hz2;obtain⟨c0,c1,c2,c3,c4,c5,c6,c7,c8⟩:=nine lF;have hnl:=aA lF;have hrl:=aA rD;open arq in exact ayO):P:=h
theorem aqW.Adr(h:P:=by
 have vS:=Hq (au rD (ay W1 (.cells #[] 98)));obtain⟨c0,c1,c2,c3,c4,c5,c6,c7,c8⟩:=nine lF;open aox in exact XP):P:=h
theorem ayI(h:P:=by
 have hat:oC l k=(iI l[k]&&(k == 0|| !sle l[k].k (l.getD (k - 1) default).k)):=by unfold oC;rw [getD_at l k hlt]
 exact AeL):P:=h
theorem aqX.AeL(h:P:=by
 cases k with
 |zero=>
  open atn in exact agT
 |succ j=>
  obtain⟨g,off,rfl,hgw,c0,c1,c2,c3⟩:=aH.four (GR.At.below HA dS) (j+1) hlt;obtain⟨g',off',e',_,d0,_,_,_⟩:=aH.four (GR.At.below HA dS) j Aaa;have eg:g=g'/\off=off':=by injection e' with e';injection e' with e1 e2;exact⟨e1,e2⟩
  obtain⟨rfl,rfl⟩:=eg;have hgd:l.getD j default=l[j]:=getD_at l j Aaa;rw [show j+1 - 1=j from rfl,hgd] at hat;have hgt:decide ((0:Int) < ((j:Int)+1))=true:=aGk Aaa;clear e' hgd;generalize l[j].k=q at *;have og:=Hq hat;have iQ:=Hq (qC (oC l) (j+1));clear hat;generalize l[j+1]=pu at *;obtain⟨pk,pm,pf,ps⟩:=pu;dsimp only at c0 c1 c2 c3 hks;cases hkb:keyOk pk.data.toList
  .have HB:=Hq hkb;have HBAD:=Hq (oD hlt (show oC l (j+1)=false by rw [ah og];simp[iI,ah HB]));clear og iQ;have hkb':=ah HB;exact Zk1
  have hkb':=hkb;cases hbl:Op.bytesLess pk.toList q.toList
  case' true=>
   have hsl:sle pk q=true:=by unfold sle;rw [hbl];rfl
   cases heq:pk.toList == q.toList
   .exact abf
   .exact abf
  cases heq:pk.toList == q.toList
  case' true=>
   have hsl:sle pk q=true:=by unfold sle;rw [hbl,heq];rfl
   exact abf
  have hsl:Hid (sle pk q=false):=by unfold sle;rw [hbl,heq];rfl
  by_cases h1:0<=pm/\pm<=1000000000
  case' neg=>
   have hA:rz pm=false:=aGi h1;have g1:decide (yI pm 0 1000000000)=false:=aGi h1;exact aeY
  have g1:decide (yI pm 0 1000000000)=true:=aGk h1;have hA1:rz pm=true:=aGk h1;by_cases h2:0<=pf/\pf<=1000000000
  case' neg=>
   have hA:rz pf=false:=aGi h2;have g2:decide (yI pf 0 1000000000)=false:=aGi h2;exact aeY
  have g2:decide (yI pf 0 1000000000)=true:=aGk h2;have hA2:rz pf=true:=aGk h2;by_cases h3:0<=ps/\ps<=1000000000
  case' neg=>
   have hA:rz ps=false:=aGi h3;have g3:decide (yI ps 0 1000000000)=false:=aGi h3;exact aeY
  open axy in exact ah0):P:=h
theorem aqY.AeL(h:P:=by
 cases k with
 |zero=>
  open atm in exact agT
 |succ j=>
  have hlt2:j < l.length:=Aaa
  obtain⟨g,off,rfl,hgw,c0,c1,c2,c3⟩:=aH.four (GR.At.below HA dS) (j+1) hlt;obtain⟨g2,off2,e2,alB,d0,d1,d2,d3⟩:=aH.four (GR.At.below HA dS) j hlt2;have e3:g=g2:=by injection e2 with e2;injection e2 with e2 e4
  have e4:off=off2:=by injection e2 with e2;injection e2 with e2 e4
  subst e3 e4;clear e2 alB d1 d2 d3;have hgt:decide ((0:Int) < ((j+1:Nat):Int))=true:=aGk Aaa;have ej:IntKind.i64.wrap (((j+1:Nat):Int) - 1)=(j:Int):=by rw [IntWalk.i64_in _ ⟨by omega,by omega⟩];omega
  rw [show j+1 - 1=j by omega,getD_at l j hlt2] at hat;have og:=Hq hat;have iQ:=Hq (qC (oC l) (j+1));clear hat;generalize l[j+1]=pu at *;generalize l[j]=pq at *;obtain⟨q,qm,qf,qs⟩:=pq;dsimp only at d0;cases hpo:iI pu
  .have HO:=Hq (λw1=>qp pu false w1 hpo);have HBAD:=Hq (oD hlt (show oC l (j+1)=false by rw [ah og,hpo];rfl));clear og iQ hpo;obtain⟨pk,pm,pf,ps⟩:=pu;dsimp only at c0 c1 c2 c3;open anR in exact aa7
  .have HO:=Hq (λw1=>qp pu true w1 hpo);cases hsl:Op.bytesLess q.toList pu.k.toList
   .have HBAD:=Hq (oD hlt (show oC l (j+1)=false by rw [ah og,hpo];dsimp only;rw [<-Qx,hsl];simp));clear og iQ hpo;obtain⟨pk,pm,pf,ps⟩:=pu;dsimp only at c0 c1 c2 c3 hsl;open anQ in exact aa7
   .have EL:=Hq (show oC l (j+1)=true by rw [ah og,hpo];dsimp only;rw [<-Qx,hsl];simp);clear og hpo;obtain⟨pk,pm,pf,ps⟩:=pu;dsimp only at c0 c1 c2 c3 hsl;open anP in exact aa7):P:=h
theorem ayJ(h:P:=by
 go_simp;have EM:=Hq (HG0.trans (hx1.mono HG0.size));have acF:vL.heap.size<=x1.heap.size:=EM.size;clear hx1;refine⟨(ay x1 _).mono acF,?_⟩;exact Aes):P:=h
theorem aqZ.Aes(h:P:=by
 have FC:=ay x1 (.cells #[.int .i64 mI] 3);have akt:=Hq (aGg x1 (.cells #[.int .i64 mI] 3));have yE:=Hq (EM.trans (FC.mono EM.size));clear FC;generalize Uq:x1.alloc (.cells #[.int .i64 mI] 3)=y1 at *;clear Uq;refine gL 0 rfl Aab Aad Aae (λx2 hx2=>?_);go_simp;have uq:=Hq (yE.trans (hx2.mono yE.size));have wH:vL.heap.size<=x2.heap.size:=uq.size;have aks:=Hq (au akt hx2);clear hx2;refine⟨(ay x2 _).mono wH,?_⟩;have Mk:=ay x2 (.cells #[] 3);have Ip:=Hq (show(x2.alloc (.cells #[] 3)).ownsRow vL.heap.size 3 1 (.slice (some ⟨x2.heap.size,0,none⟩) 0 0) 0 (GR.flat aS []) from aGY (base:=vL.heap.size) (e:=3) (size:=1) x2 #[] 0 wH Aai Aac);open auz in exact ahc):P:=h
theorem ara.Aes(h:P:=by
 have FC:=ay x1 (.cells #[] 3);have aaz:=Hq (show(x1.alloc (.cells #[] 3)).ownsRow vL.heap.size 3 1 (.slice (some ⟨x1.heap.size,0,none⟩) 0 0) 0 (GR.flat aS []) from aGY (base:=vL.heap.size) (e:=3) (size:=1) x1 #[] 0 acF Aai Aac);have yE:=Hq (EM.trans (FC.mono EM.size));clear FC;generalize Uq:x1.alloc (.cells #[] 3)=y1 at *;clear Uq;refine nS 4 7 rfl rfl Aab Aad Aad Aae Aae (λx2 hx2=>?_) (λx2 hx2=>?_)
 .have uq:=Hq (yE.trans (hx2.mono yE.size));have wH:vL.heap.size<=x2.heap.size:=uq.size;have ET:=Hq (GR.own_below aaz hx2);clear hx2;obtain⟨v2,y2,Yx,Yv,Yu,aAV⟩:=fV aO Aaa x2 vL.heap.size 22 22 3 i0 (.int .i64 0) 8 underlying22 hi0 hz0 hz1' hz2 rfl (.slice (some ⟨x1.heap.size,0,none⟩) 0 0) 0 (GR.flat aS ([])) ET (some ⟨gi,0,none⟩) ((aY s0 mL).take pos) Po (GR.At.below ES uq) (rJ _) Aai Aaa wH;rw [hlt1] at Yx Yv;refine aHD x2 (.tmp 127) (.tmp 130) 22 22 rfl _ _ Aak Aak v2 y2 Yx ?_;refine⟨(aGs _ _).grown Yu wH (λb hb=>(ET.lt b hb).1),?_⟩;go_simp;have Ls:=Hq (uq.grown Yu wH (λb hb=>(ET.lt b hb).1));have Ip:Hid (y2.ownsRow vL.heap.size 3 1 v2 (pos) (GR.flat aS ((aY s0 mL).take pos))):=Hq (by simpa [GR.flat_nil] using Yv);obtain⟨avR,cvR,acD,_⟩:=GR.own_at (enc:=aS) (sz:=1) (l:=(aY s0 mL).take pos) aO (by rw [hlt1];exact Ip);open awH in exact ahI
 .go_simp;have uq:=Hq (yE.trans (hx2.mono yE.size));have wH:vL.heap.size<=x2.heap.size:=uq.size;have ET:=Hq (GR.own_below aaz hx2);clear hx2;refine⟨(ay x2 _).mono wH,?_⟩;have Mk:=ay x2 (.cells #[.int .i64 mI] 3);have aeE:=Hq (aGg x2 (.cells #[.int .i64 mI] 3));open aul in exact ag7):P:=h
theorem ayK(h:P:=by
 go_simp;have EM:=Hq (HG0.trans (hx1.mono HG0.size));have acF:wc.heap.size<=x1.heap.size:=EM.size;clear hx1;refine⟨(ay x1 _).mono acF,?_⟩;exact Afa):P:=h
theorem arb.Afa(h:P:=by
 have FC:=ay x1 (.cells (fH no k nn st) 95);have akt:=Hq (aGg x1 (.cells (fH no k nn st) 95));have yE:=Hq (EM.trans (FC.mono EM.size));clear FC;generalize Uq:x1.alloc (.cells (fH no k nn st) 95)=y1 at *;clear Uq;refine gL 0 rfl Aab Aad Aae (λx2 hx2=>?_);go_simp;have uq:=Hq (yE.trans (hx2.mono yE.size));have wH:wc.heap.size<=x2.heap.size:=uq.size;have aks:=Hq (au akt hx2);clear hx2;refine⟨(ay x2 _).mono wH,?_⟩;have Mk:=ay x2 (.cells #[] 95);have Ip:=Hq (show(x2.alloc (.cells #[] 95)).ownsRow wc.heap.size 95 4 (.slice (some ⟨x2.heap.size,0,none⟩) 0 0) 0 (GR.flat aJ []) from aGY (base:=wc.heap.size) (e:=95) (size:=4) x2 #[] 0 wH Aai Aac);open auy in exact ahc):P:=h
theorem ard.Afa(h:P:=by
 have FC:=ay x1 (.cells #[] 95);have aaz:=Hq (show(x1.alloc (.cells #[] 95)).ownsRow wc.heap.size 95 4 (.slice (some ⟨x1.heap.size,0,none⟩) 0 0) 0 (GR.flat aJ []) from aGY (base:=wc.heap.size) (e:=95) (size:=4) x1 #[] 0 acF Aai Aac);have yE:=Hq (EM.trans (FC.mono EM.size));clear FC;generalize Uq:x1.alloc (.cells #[] 95)=y1 at *;clear Uq;refine nS 5 7 rfl rfl Aab Aad Aad Aae Aae (λx2 hx2=>?_) (λx2 hx2=>?_)
 .have uq:=Hq (yE.trans (hx2.mono yE.size));have wH:wc.heap.size<=x2.heap.size:=uq.size;have ET:=Hq (GR.own_below aaz hx2);clear hx2;obtain⟨v2,y2,Yx,Yv,Yu,aAV⟩:=fV aN Aaa x2 wc.heap.size 38 38 95 i0 (.agg (fH 0 ByteArray.empty 0 0)) 40 underlying38 hi hz0 hz1 hz2 rfl (.slice (some ⟨x1.heap.size,0,none⟩) 0 0) 0 (GR.flat aJ ([])) ET (some ⟨gr,0,none⟩) (n.reqs.take pos) bC (GR.At.below ES uq) (jq _) Aai Aaa wH;rw [hlt1] at Yx Yv;refine aHD x2 (.tmp 93) (.tmp 97) 38 38 rfl _ _ Aak Aak v2 y2 Yx ?_;refine⟨(aGs _ _).grown Yu wH (λb hb=>(ET.lt b hb).1),?_⟩;go_simp;have Ls:=Hq (uq.grown Yu wH (λb hb=>(ET.lt b hb).1));have Ip:Hid (y2.ownsRow wc.heap.size 95 4 v2 (pos) (GR.flat aJ (n.reqs.take pos))):=Hq (by simpa [GR.flat_nil] using Yv);obtain⟨avR,cvR,acD,_⟩:=GR.own_at (enc:=aJ) (sz:=4) (l:=n.reqs.take pos) aN (by rw [hlt1];exact Ip);open awG in exact ahI
 .go_simp;have uq:=Hq (yE.trans (hx2.mono yE.size));have wH:wc.heap.size<=x2.heap.size:=uq.size;have ET:=Hq (GR.own_below aaz hx2);clear hx2;refine⟨(ay x2 _).mono wH,?_⟩;have Mk:=ay x2 (.cells (fH no k nn st) 95);have aeE:=Hq (aGg x2 (.cells (fH no k nn st) 95));open auk in exact ag7):P:=h
theorem ayL(h:P:=by
 obtain⟨v2,q2⟩:=aGT.1 (hcw 2 Aaa).1;have f2:=(hcw 2 Aaa).2;obtain⟨v3,q3⟩:=aGT.1 (hcw 3 Aaa).1;have f3:=(hcw 3 Aaa).2;obtain⟨v4,q4⟩:=aGT.1 (hcw 4 Aaa).1;have f4:=(hcw 4 Aaa).2;open axF in exact ah4):P:=h
theorem arf.Ad4(h:P:=by
 open axD in exact ah3):P:=h
theorem arh.Ad4(h:P:=by
 exact Ad0):P:=h
theorem ayM(h:P:=by
 have ab9:cand s=⟨s[0].toNat,vw s (gT s 0),vw s (gT s 1),vw s (gT s 2),vw s (gT s 3),j6 s (gT s 4),vw s (jc s (gT s 4))⟩:=by unfold cand;rw [Mq h0];rfl
 have HM:=Hq (show kN s=true->DZ s= .tuple #[oz (cand s),.bool true] from λh=>by unfold DZ nD;rw [h,aGC rfl]);have HZ:=Hq (show kN s=false->DZ s= .tuple #[.agg (bX 0 0 0 0 0 ⟨#[]⟩ 0),.bool false] from Er);have hE:yj s=kR s (jc s (gT s 4)):=rfl;rw [hE] at HO;rw [ab9] at HP HM HO;exact AeH):P:=h
theorem ari.AeH(h:P:=by
 clear ab9 hE e1 e2 e3 e4;have hne:=kX s h0;have hi0:(0:Int) < (s.size:Int):=Aaa
 open auh in exact Wo):P:=h
theorem arj.AeH(h:P:=by
 clear hcs ab9 hE;have hne:=kX s h0;have hi0:(0:Int) < (s.size:Int):=Aaa
 open asX in exact agL):P:=h
theorem ayN(h:P:=by
 have hTi:∀j,j < 3->∃u,wc.cell? ⟨G.s,i*3+j,none⟩=some u/\wc.frozen? ⟨G.s,i*3+j,none⟩=false:=λj hj=>⟨_,(hcT j hj).1.trans (aGo (by rw [bY];exact hj)),(hcT j hj).2⟩
 obtain⟨v0,y0,x0⟩:=hTi 0 Aaa;obtain⟨v1,y1,x1⟩:=hTi 1 Aaa;obtain⟨v2,y2,x2⟩:=hTi 2 Aaa;rw [aIa] at y0 x0;exact Adv):P:=h
theorem ark.Adv(h:P:=by
 clear hTi hcT hrT hT hlT T aAL Mv hown2 agv aan agy aau agi VL agu agk agp aeB;have aE5:G.s < wc.heap.size:=Aaa
 obtain⟨c0,c1,c2,c3,c4,c5,c6,c7,c8⟩:=nine VQ;obtain⟨s40,s41,s42⟩:=CU aav;have hnl:=aA VQ;have aAQ:=aA aav;have aAq:Hid ((lX (aY s0 mL) mI).length=(aY s0 mL).length+1):=ab7;clear ab7;go_upto_region 27 with fail;refine wp_at (λW12 alr=>?_)
 have am3:Hid (NQ W12 B (dM (dM n (n.seen.set i ⟨mF,fK s0 mL,aY s0 mL⟩)) ((n.seen.set i ⟨mF,fK s0 mL,aY s0 mL⟩).set i ⟨mF,fK s0 mL,lX (aY s0 mL) mI⟩)) (⟨a_k,(some ⟨gp,0,none⟩),fP,(some ⟨G.s,0,none⟩),gX,bf,dJ,bJ,bg,bC⟩:bV) ⟨G.k,G.p,G.o,G.s,G.r,tY (tY G.i i gi) i g2⟩ (vV g2 (lX (aY s0 mL) mI) (vV gi (aY s0 mL) (newC w.heap.size 9 c)))):=by
  rw [alr,<-ah aAq];exact HNP
 have Ui:aC [G.s] wc W12:=by
  rw [alr];exact aX [.int .i64 mF,.int .i64 (fK s0 mL),.slice (some ⟨g2,0,none⟩) ((aY s0 mL).length+1) cq2] wc (i*3)
 have agw:=Hq (Ui.obj VQ (λhx=>Aaj));have rE:=Hq (Ui.obj agz (λhx=>Aaj));have amA:=Hq (Ui.obj agj (λhx=>Aaj));have amG:=Hq (agl.trans (Ui.below (B:=B) (λx hx=>Aaj) Aaa));have amU:=Hq (Apart.keeps (c:=c) agq Aaa Ui (λx hx=>by have:x=G.s:=Aah;rw [this];right;omega));have aBS:=Hq (am6.keeps Ui (λx hx=>Aaj));have aBA:Hid (∀x,x < w.heap.size->6 < c x->vV g2 (lX (aY s0 mL) mI) (vV gi (aY s0 mL) (newC w.heap.size 9 c)) x=9):=λx hx h=>by rw [wE (λhm=>by have:=(dQ hm).1;omega)];exact HCO x hx h
 have amM:Hid (∀x,w.heap.size<=x->x≠gi->x≠g2->vV g2 (lX (aY s0 mL) mI) (vV gi (aY s0 mL) (newC w.heap.size 9 c)) x=9):=λx hx h h'=>by rw [wE (λhm=>h' (dQ hm).1)];exact EJ x hx h
 clear alr Ui HNP y0 y1 y2 x0 x1 x2 s40 s41 s42 c0 c1 c2 c3 c4 c5 c6 c7 c8 hnl aAQ VQ agz agj agl agq am6 aav aao HW2;obtain⟨c0,c1,c2,c3,c4,c5,c6,c7,c8⟩:=nine agw;obtain⟨d0,d1,d2,d3,d4,d5,d6,d7,d8⟩:=nine rE;have f0:=aj rE 0;have f1:=aj rE 1;have f2:=aj rE 2;have f3:=aj rE 3;have f4:=aj rE 4;have f5:=aj rE 5;have f6:=aj rE 6;have f7:=aj rE 7;have f8:=aj rE 8;have hnl:=aA agw;have hrl:=aA rE;go_wp2_with fail;refine aP (λW' hW'=>?_)
 have e4:W'.heap[w.heap.size+2]?=some (.cells (iT n.id n.par a_k n.kids.length bf n.next av RL.length cv fP n.out.length bJ (some ⟨G.s,0,none⟩) n.seen.length bg n.old gX n.reqs.length bC) 40 (0,0)):=by
  rw [hW'];exact GR.setW_blk (iT n.id n.par a_k n.kids.length bf n.next av RL.length cv fP n.out.length bJ (some ⟨G.s,0,none⟩) n.seen.length bg n.old gX n.reqs.length bC).toList (o:=0) (xs:=iP.toList) rE
 have fU:aC [w.heap.size+2] W12 W':=by
  rw [hW'];exact aX (iT n.id n.par a_k n.kids.length bf n.next av RL.length cv fP n.out.length bJ (some ⟨G.s,0,none⟩) n.seen.length bg n.old gX n.reqs.length bC).toList W12 0
 have acA:w.heap.size+2≠gi:=Aaa
 have HNF:=Hq (am3.kc (k:=9) (KC.keeps fU (λx hx=>by have:x=w.heap.size+2:=Aah;rw [this];exact amM _ Aaa acA Aaa)) Aaa)
 have HAT:Hid (∀W'',Out c w W' W''->RM W'' (⟨a_k,av,fP,(some ⟨G.s,0,none⟩),gX,bf,cv,bJ,bg,bC⟩:bV) (dM (setPu n RL) (n.seen.set i ⟨mF,fK s0 mL,lX (aY s0 mL) mI⟩))):=λW'' ho=>by
  obtain⟨F,hk,hF⟩:=ho
  have hold:=(HNF.kc (k:=9) (KC.keeps hk (λx hx=>aBA x (hF x hx).1 (hF x hx).2)) Aaa)
  have ho:Out c w W' W'':=⟨F,hk,hF⟩
  have hc9:∀g,av.map (λy=>y.block)=some g->0 < RL.length->vV g2 (lX (aY s0 mL) mI) (vV gi (aY s0 mL) (newC w.heap.size 9 c)) g=9:=λg hg hp=>by
   have h1:=ah Om g hg hp
   exact amM g Aaa Aaa Aaa
  refine NQ.put hold hold (dM (setPu n RL) (n.seen.set i ⟨mF,fK s0 mL,lX (aY s0 mL) mI⟩)) (⟨a_k,av,fP,(some ⟨G.s,0,none⟩),gX,bf,cv,bJ,bg,bC⟩:bV) rfl (by simp only[dM,List.set_set]) rfl rfl ((aBS.keeps fU (λx hx=>Aaj)).out Aaa ho) (λg hg hp=> .inr (by have h3:=hc9 g hg hp;omega)) hold.o (λy hy=> .inl (hold.co y hy)) hold.r (λy hy=> .inl (hold.cr y hy)) (λg hg hp _=>⟨λe=>?_,λe=>?_⟩) (λx hx h6=>by have:=hold.co x hx;omega)
  .have h1:=hold.co g e;have h2:=hc9 g hg hp;omega
  .have h1:=hold.cr g e;have h2:=hc9 g hg hp;omega
 have Hr:Hid (∀W'',Out c w W' W''->GR.At mE 7 W'' (some ⟨ab,0,none⟩) [⟨2,n.id,mF,mI,0,ByteArray.empty,0⟩]):=λW'' ho j hj=>TG (fU.obj amA (λhm=>Acn)) ho Aaa j hj
 have pO:Hid (Below B w W'):=amG.trans (fU.below (λx hx=>by have:x=w.heap.size+2:=Aah;omega) (by have h1:=aA rE;omega));have uy:=Hq (Apart.keeps (c:=c) amU (by have h1:=aA rE;omega) fU (λx hx=>by have:x=w.heap.size+2:=Aah;omega));obtain⟨x0,x1,x2,x3,x4,x5,x6,x7,x8⟩:=nine e4;clear hW' e4 fU
 first
  |exact aGn (v:= .tuple #[.agg (iT n.id n.par a_k n.kids.length bf n.next av RL.length cv fP n.out.length bJ (some ⟨G.s,0,none⟩) n.seen.length bg n.old gX n.reqs.length bC),.slice (some ⟨ab,0,none⟩) 1 1,.int .i64 0]) Abp rfl ⟨(⟨a_k,av,fP,(some ⟨G.s,0,none⟩),gX,bf,cv,bJ,bg,bC⟩:bV),(some ⟨ab,0,none⟩),⟨1,by simp[gP,dG,dM,setPu]⟩,HAT,Hr,pO,uy⟩
  |exact aGn (v:= .tuple #[.agg (iT n.id n.par a_k n.kids.length bf n.next av RL.length cv fP n.out.length bJ (some ⟨G.s,0,none⟩) n.seen.length bg n.old gX n.reqs.length bC),.slice (some ⟨ab,0,none⟩) 1 1,.int .i64 0]) Abp rfl ⟨(⟨a_k,av,fP,(some ⟨G.s,0,none⟩),gX,bf,cv,bJ,bg,bC⟩:bV),(some ⟨ab,0,none⟩),1,by simp[gP,dG,dM,setPu],HAT,Hr,pO,uy⟩):P:=h
theorem arl.Adv(h:P:=by
 clear hTi hcT hrT hT hlT T Ae hb4 akj l7 XB lV HB3 am2 anr aeH;have aE4:G.s < wc.heap.size:=Aaa
 obtain⟨c0,c1,c2,c3,c4,c5,c6,c7,c8⟩:=nine DK;obtain⟨s40,s41,s42⟩:=CU aaw;have sf:=aj aaw 2;have hnl:=aA DK;have hne1:sb≠G.s:=Aaa
 have hne2:G.s≠sb:=Aaa
 go_upto_region 15 with fail;refine wp_at (λW6 PN=>?_);exact AaK):P:=h
theorem akN(h:P:=by
 rw [<-hW] at e2 e3;have Lv:=Hq e2;have HW1:=Hq (HW0.step e3);clear hW e2 e3;generalize w.heap.size+1=B at *;obtain⟨c0,c1,c2,c3,c4,c5,c6,c7,c8,c9⟩:=jW HW1.blk;obtain⟨⟨p0,p1,p2,p3,p4,p5,p6⟩,_⟩:=eT Lv;have hBl:=aA Lv;have aEs:=aA HW1.blk;exact AcK):P:=h
theorem arn.AcK(h:P:=by
 go_upto_region 12 with fail;go_wp2_with fail;refine(HDL W B Lv HW1.no.o).mono ?_;rintro e y ⟨a2,cp2,rfl,hrow,hgr,hx2⟩;have HY:=Hq (HW1.setOut hgr hrow hx2);clear hrow hgr hx2 HDL c0 c1 c2 c3 c4 c5 c6 c7 c8 c9 p0 p1 p2 p3 p4 p5 p6;obtain⟨c0,c1,c2,c3,c4,c5,c6,c7,c8,c9⟩:=jW HY.1;have f5:=aj HY.1 5;have alM:=aA HY.1;go_wp2_with fail;go_ret;exact⟨rfl,_,G,c,v,by rw [aHB];exact HY.2⟩):P:=h
theorem aro.AcK(h:P:=by
 go_wp2_with fail;refine(OV W HW1).mono ?_;rintro e y ⟨rfl,⟨A',G',c',hY⟩,hJ⟩;have HY:=Hq hY;have Il:=Hq (hJ B ⟨1,mF,mT,mI,mL,mk,mN⟩ Lv);clear hY hJ OV p0 p1 p2 p3 p4 p5 p6 c0 c1 c2 c3 c4 c5 c6 c7 c8 c9;exact Ac6):P:=h
theorem arp.AcK(h:P:=by
 have Tg:=Hq (λp:Regrown=>HW1.no.at.below (aHr _ p.d p.os));go_upto_region 4 with fail;open aoO in exact XQ):P:=h
theorem ayO(h:P:=by
 go_wp2_with fail;rw [J5];go_upto_if 20 with fail;go_cut [3] (λl wx=>l= .int .i64 iw/\W1=wx)
 case first=>
  by_cases hq:pf < most
  .rw [aGC hq] at hc;subst hc;have q0:decide (pf < most)=true:=aGk hq;go_wp2_with fail;go_meet
   case rel=>exact⟨rfl,rfl⟩
  .rw [aGr hq] at hc;subst hc;have q0:decide (pf < most)=false:=aGi hq;go_wp2_with fail;go_meet
   case rel=>exact⟨rfl,rfl⟩
 case rest=>
 obtain⟨rfl,rfl⟩:=hcut;clear hc;exact Afk):P:=h
theorem arq.Afk(h:P:=by
 go_upto_region 6 with fail;go_wp2_with fail;refine(HPT W1 vZ.at.p).mono ?_;rintro e W2 ⟨v,rfl,hne,hrow,hb2⟩;obtain⟨av,cv,rfl,_⟩:=GR.own_at (enc:=fD) (sz:=4) aU hrow;have kK:=Hq (au lF hb2);have jS:=Hq (au rD hb2);have HB2:=Hq (HB1.trans (hb2.mono HB1.size));have Bq:=Hq (vZ.kc (k:=9) (KC.of_below hb2) Aaa);have yG:=Hq hrow;have hbs:w.heap.size+1 < W1.heap.size:=hrl;generalize W1.heap.size=bs at *;clear hb2 hne hrow c0 c1 c2 c3 c4 c5 c6 c7 c8 hnl hrl HPT lF rD HB1 vZ;have f4n:=aj kK 4;have c4n:=(nine kK).2.2.2.2.1;have hn2:=aA kK;go_upto_region 7 with fail;refine wp_at (λZ6 hZ=>?_);have nZ:Hid (Z6.heap[w.heap.size]?=some (.cells (iT n.id n.par a_k n.kids.length bf n.next av RL.length cv fP n.out.length bJ gN n.seen.length bg n.old gX n.reqs.length bC) 40 (0,0))):=by rw [hZ];exact pU kK
 have mh:Hid (Z6.heap[w.heap.size+1]?=some (.cells iP 40 (0,0))):=by rw [hZ];exact jA jS Aaa
 have HN6:Hid (NQ Z6 B n (⟨a_k,(some ⟨gp,0,none⟩),fP,gN,gX,bf,dJ,bJ,bg,bC⟩:bV) G (newC w.heap.size 9 c)):=by rw [hZ];exact Bq.kc (k:=9) (KC.set (bQ (aGh _))) Aaa
 have HP6:Hid (Z6.ownsRow bs 108 4 (.slice av RL.length cv) RL.length (GR.flat fD RL)):=by rw [hZ];exact dU yG (aC.set _) (λy hy=>by have:y=w.heap.size:=Aar;omega)
 have zu:Hid (Below B w Z6):=by rw [hZ];exact(HB2.mono hB).setCell (p:=⟨w.heap.size,4,none⟩) hB _
 have VN:Hid (Apart c w Z6):=by rw [hZ];exact(Apart.of_below HB2).keeps HB2.size (aC.set _) (λy hy=>by have:y=w.heap.size:=Aar;omega)
 clear hZ kK jS Bq yG HB2 f4n c4n hn2;have c3n:=(nine nZ).2.2.2.1;have hn6:=aA nZ;go_upto_region 8 with fail;refine wp_at (λZ7 hZ=>?_)
 have HS7:Hid (Z7.heap[Z6.heap.size]?=some (.cells (gV n.next dst key iw) 91 (0,0))):=by
  rw [hZ];exact aGg Z6 _
 have wm:aI Z6 Z7:=by
  rw [hZ];exact ay Z6 _
 have rV:=Hq (au nZ wm);have oV:=Hq (au mh wm);have HN7:=Hq (HN6.kc (k:=9) (KC.of_below wm) Aaa);have HP7:=Hq (GR.own_below HP6 wm);have Ht:=Hq (zu.trans (wm.mono (aGm hB zu.size)));have HK7:=Hq (VN.step zu.size wm);have hsb:w.heap.size+1 < Z6.heap.size:=aA mh;generalize Z6.heap.size=sb at *;clear hZ wm nZ mh HN6 HP6 zu VN c3n hn6;have c3n:=(nine rV).2.2.2.1;have f3n:=aj rV 3;have hn7:=aA rV;go_upto_region 9 with fail;refine wp_at (λZ8 hZ=>?_);have vR:Hid (Z8.heap[w.heap.size]?=some (.cells (iT n.id n.par a_k n.kids.length bf (n.next+1) av RL.length cv fP n.out.length bJ gN n.seen.length bg n.old gX n.reqs.length bC) 40 (0,0))):=by rw [hZ];exact pU rV
 have Io:Hid (Z8.heap[w.heap.size+1]?=some (.cells iP 40 (0,0))):=by rw [hZ];exact jA oV Aaa
 have HS8:Hid (Z8.heap[sb]?=some (.cells (gV n.next dst key iw) 91 (0,0))):=by rw [hZ];exact jA HS7 Aaa
 have HN8:Hid (NQ Z8 B n (⟨a_k,(some ⟨gp,0,none⟩),fP,gN,gX,bf,dJ,bJ,bg,bC⟩:bV) G (newC w.heap.size 9 c)):=by rw [hZ];exact HN7.kc (k:=9) (KC.set (bQ (aGh _))) Aaa
 have HP8:Hid (Z8.ownsRow bs 108 4 (.slice av RL.length cv) RL.length (GR.flat fD RL)):=by rw [hZ];exact dU HP7 (aC.set _) (λy hy=>by have:y=w.heap.size:=Aar;omega)
 have Z4:Hid (Below B w Z8):=by rw [hZ];exact Ht.setCell (p:=⟨w.heap.size,3,none⟩) hB _
 have HK8:Hid (Apart c w Z8):=by rw [hZ];exact HK7.keeps Ht.size (aC.set _) (λy hy=>by have:y=w.heap.size:=Aar;omega)
 clear hZ HK7 rV oV HN7 HP7 Ht HS7 c3n f3n hn7
 obtain⟨a6,c6,W9,hrun,acw,alA,alL⟩:∃a6 c6 W9,(Builtin.append_ #[36,36] 36 #[.slice fP n.out.length bJ,.slice (some ⟨Z8.heap.size,0,none⟩) 1 1]).run prog (Z8.alloc (.cells (gV n.next dst key iw) 91))= .ok (.slice a6 (n.out.length+1) c6) W9/\W9.ownsRow B 91 4 (.slice a6 (n.out.length+1) c6) (n.out.length+1) (GR.flat aM (n.out++[⟨n.next,dst,key,iw⟩]))/\(Z8.alloc (.cells (gV n.next dst key iw) 91)).grownBy W9 (Value.slice fP n.out.length bJ).ownBlock/\∀x,(Value.slice a6 (n.out.length+1) c6).ownBlock=some x->(Value.slice fP n.out.length bJ).ownBlock=some x\/(Z8.alloc (.cells (gV n.next dst key iw) 91)).heap.size<=x:=by
  obtain⟨hi,hz0,hz1,hz2⟩:=ah HI;obtain⟨v',w',hr,ho,hg,hw⟩:=iU (P:=prog) (Z8.alloc (.cells (gV n.next dst key iw) 91)) B 36 36 91 i0 (.agg (gV 0 0 ByteArray.empty 0)) 4 40 underlying36 hi hz0 hz1 hz2 rfl Aae (.slice fP n.out.length bJ) n.out.length (GR.flat aM n.out) (GR.own_below HN8.o (ay Z8 _)) ⟨Z8.heap.size,0,none⟩ 1 1 (aM ⟨n.next,dst,key,iw⟩) rfl (aG3 (aGg Z8 _)) (yN _) Aai Aaa (aGm (aGm hB Z4.size) (ay Z8 _).size);obtain⟨a6,c6,hv6,_⟩:=GR.own_at (enc:=aM) (sz:=4) (l:=n.out++[⟨n.next,dst,key,iw⟩]) aZ (by rw [aGp,jB];exact ho);rw [aGp] at hv6;have hv7:v'= .slice a6 (n.out.length+1) c6:=hv6;subst hv7;exact⟨a6,c6,w',hr,by rw [jB];exact ho,hg,hw⟩
 have ql:=HN8.kc (k:=9) (KC.of_below (ay Z8 (.cells (gV n.next dst key iw) 91))) Aaa;have k9:KC (newC w.heap.size 9 c) 3 (Z8.alloc (.cells (gV n.next dst key iw) 91)) W9:=KC.grown alA ql.co;have hn9:∀x,w.heap.size<=x->newC w.heap.size 9 c x≠3:=λx hx=>by rw [bQ hx];omega
 have DR:=Hq (k9.obj (au vR (ay Z8 (.cells (gV n.next dst key iw) 91))) (hn9 _ (aGh _)));have qz:=Hq (k9.obj (au Io (ay Z8 (.cells (gV n.next dst key iw) 91))) (hn9 _ Aaa));have aax:=Hq (k9.obj (au HS8 (ay Z8 (.cells (gV n.next dst key iw) 91))) (hn9 _ Aaa));have HB9:=Hq (k9.below (B:=B) (Z4.trans ((ay Z8 (.cells (gV n.next dst key iw) 91)).mono (aGm hB Z4.size))) ql.lo Aaa (aGm (aGm hB Z4.size) (ay Z8 _).size));have hZ8:w.heap.size+1 < Z8.heap.size:=aA Io
 have iQ:Hid (∀W',(∃F,aC F W9 W'/\∀y∈F,(y=w.heap.size\/y=w.heap.size+1)\/(y < w.heap.size/\6 < c y))->RM W' ⟨a_k,av,a6,gN,gX,bf,cv,c6,bg,bC⟩ ⟨n.id,n.par,n.kids,n.next+1,RL,n.out++[⟨n.next,dst,key,iw⟩],n.seen,n.old,n.reqs⟩):=λW' hkF=>by
  obtain⟨F,hk,hF⟩:=hkF
  have kF:KC (newC w.heap.size 9 c) 9 W9 W':=KC.keeps hk (λy hy=>by
   rcases hF y hy with h1|h1
   .exact bQ Aaa
   .rw [fE h1.1];exact H9 y h1.2)
  have hr:=(kF.own (k9.own ql.r ql.cr Aaa) ql.cr Aaa)
  have hp:=(dU (k9.own (j:=9) (GR.own_below HP8 (ay Z8 _)) (λx hx=>bQ (by have:=uZ HP8 hx;omega)) Aaa) hk (λy hy=>by
   have:=hF y hy
   omega))
  have ho:W'.ownsRow B 91 4 (.slice a6 (n.out++[(⟨n.next,dst,key,iw⟩:jM)]).length c6) (n.out++[(⟨n.next,dst,key,iw⟩:jM)]).length (GR.flat aM (n.out++[(⟨n.next,dst,key,iw⟩:jM)])):=(by
   rw [aGp]
   exact jK acw (λx hx=>by
    have hx9:=Cv acw hx
    refine hk.block x hx9 (λhm=>?_)
    have hm':=hF x hm
    rcases alL x hx with h1|h1
    .have h2:=ql.co x h1;rcases hm' with h3|h3
     .rw [bQ Aaa] at h2;cases h2
     .rw [fE h3.1] at h2;omega
    .have:=(ay Z8 (.cells (gV n.next dst key iw) 91)).size
     omega))
  have hp9:∀g,av.map (λy=>y.block)=some g->6 < newC w.heap.size 9 c g:=λg hg=>by
   have h1:=uZ hp (tH hp hg)
   rw [bQ Aaa]
   omega
  have ho9:∀x,(Value.slice a6 (n.out++[(⟨n.next,dst,key,iw⟩:jM)]).length c6).ownBlock=some x->(Value.slice fP n.out.length bJ).ownBlock=some x\/(Z8.alloc (.cells (gV n.next dst key iw) 91)).heap.size<=x:=λx hx=>by
   rw [aGp] at hx
   exact alL x hx
  have hz9:(Z8.alloc (.cells (gV n.next dst key iw) 91)).heap.size=Z8.heap.size+1:=Aac
  exact RM.of (n:=⟨n.id,n.par,n.kids,n.next+1,RL,n.out++[⟨n.next,dst,key,iw⟩],n.seen,n.old,n.reqs⟩) (A:=⟨a_k,av,a6,gN,gX,bf,cv,c6,bg,bC⟩) (c:=newC w.heap.size 9 c) (kF.w (k9.w ql.k ql.ck Aaa) ql.ck Aaa) ql.ck (kF.seenQ (k9.seenQ ql.sq ql.c4 ql.ci Aaa Aaa) ql.c4 ql.ci Aaa Aaa) ql.c4 ql.ci ql.ni
   (GR.own_ati aU hp) (λg hg _=> .inr (hp9 g hg)) ho (λx hx=>by
    rcases ho9 x hx with h1|h1
    .exact .inl (ql.co x h1)
    .refine .inr ?_;rw [bQ Aaa]
     omega) hr (λx hx=> .inl (ql.cr x hx))
   (λg hg _ h6=>⟨λe=>by
    rcases ho9 g e with h1|h1
    .have:=ql.co g h1;omega
    .have h2:=Cv HP8 (tH HP8 hg)
     omega,λe=>by have:=ql.cr g e;omega⟩) (λx hx h6 e=>by have:=ql.cr x e;omega)
 have HK9:=Hq ((HK8.step Z4.size (ay Z8 (.cells (gV n.next dst key iw) 91))).grown (aGm Z4.size (ay Z8 _).size) alA (λx hx hlt=>by
  have h1:=ql.co x hx
  rw [fE hlt] at h1
  omega))
 have aar:=Hq hrun;clear hrun acw alA alL ql k9 hn9 HP8 HN8 Z4 HK8;have c5n:=(nine vR).2.2.2.2.2.1;obtain⟨s0,s1,s2,s3⟩:=iO HS8;have c5w:=(nine DR).2.2.2.2.2.1;have f5w:=aj DR 5;have hn8:=aA vR;have hs8:=aA HS8;go_upto_region 10 with(at_builtin;refine gH rfl _ _ 36 rfl _ _ rfl rfl _ _ aar ?_)
 refine wp_at (λZ9 hZ=>?_);have OJ:Hid (Z9.heap[w.heap.size]?=some (.cells (iT n.id n.par a_k n.kids.length bf (n.next+1) av RL.length cv a6 (n.out.length+1) c6 gN n.seen.length bg n.old gX n.reqs.length bC) 40 (0,0))):=by rw [hZ];exact pU DR
 have akv:Hid (Z9.heap[w.heap.size+1]?=some (.cells iP 40 (0,0))):=by rw [hZ];exact jA qz Aaa
 have aky:Hid (Z9.heap[sb]?=some (.cells (gV n.next dst key iw) 91 (0,0))):=by rw [hZ];exact jA aax Aaa
 have Ih:Hid (∀W' W'',aC [w.heap.size+1] Z9 W'->Out c w W' W''->RM W'' ⟨a_k,av,a6,gN,gX,bf,cv,c6,bg,bC⟩ ⟨n.id,n.par,n.kids,n.next+1,RL,n.out++[⟨n.next,dst,key,iw⟩],n.seen,n.old,n.reqs⟩):=λW' W'' hk ho=>by
  obtain⟨F,hk2,hF⟩:=ho
  refine iQ W'' ⟨w.heap.size::(w.heap.size+1)::F,aC.trans (b:=Z9) (by rw [hZ];exact(aC.set _).mono (λx hx=>Aba)) (aC.trans (hk.mono (λx hx=>Aba)) (hk2.mono (λx hx=>Aan))),λy hy=>?_⟩
  rcases aGF.1 hy with h1|h1
  .exact .inl (.inl h1)
  .rcases aGF.1 h1 with h2|h2
   .exact .inl (.inr h2)
   .exact .inr (hF y h2)
 have uo:Hid (Below B w Z9):=by rw [hZ];exact HB9.setCell (p:=⟨w.heap.size,5,none⟩) hB _
 have HKZ:Hid (Apart c w Z9):=by rw [hZ];exact HK9.keeps HB9.size (aC.set _) (λy hy=>by have:y=w.heap.size:=Aar;omega)
 clear hZ HK9 iQ aar DR qz aax HB9 c5n s0 s1 s2 s3 c5w f5w hn8 hs8 vR Io HS8 hZ8;have HNV:Hid (gP ⟨n.id,n.par,n.kids,n.next+1,RL,n.out++[⟨n.next,dst,key,iw⟩],n.seen,n.old,n.reqs⟩ ⟨a_k,av,a6,gN,gX,bf,cv,c6,bg,bC⟩= .agg (iT n.id n.par a_k n.kids.length bf (n.next+1) av RL.length cv a6 (n.out.length+1) c6 gN n.seen.length bg n.old gX n.reqs.length bC)):=by unfold Hid;simp[gP,dG]
 have Il:Hid (∀x,Ge Z9 x->Calls prog 149 #[.agg (iT n.id n.par a_k n.kids.length bf (n.next+1) av RL.length cv a6 (n.out.length+1) c6 gN n.seen.length bg n.old gX n.reqs.length bC),.agg (gV n.next dst key iw)] x (dZ x (oz PM))):=λx hx=>by
  have h1:=Xr ⟨n.id,n.par,n.kids,n.next+1,RL,n.out++[⟨n.next,dst,key,iw⟩],n.seen,n.old,n.reqs⟩ ⟨a_k,av,a6,gN,gX,bf,cv,c6,bg,bC⟩ ⟨n.next,dst,key,iw⟩ x Aag (GR.At.below (Ih Z9 Z9 (aC.refl _ _) Out.refl).at.o hx)
  rw [ah HPM,ah HNV] at h1
  exact h1
 obtain⟨qK,qF,qT,qI,qL,qk,qN⟩:=PM;unfold oz at Il
 have zB:Hid (∀W' mb,aC [w.heap.size+1] Z9 W'->W'.heap[mb]?=some (.cells (bX qK qF qT qI qL qk qN) 98 (0,0))->w.heap.size<=mb->(∀W'',Out c w W' W''->RM W'' ⟨a_k,av,a6,gN,gX,bf,cv,c6,bg,bC⟩ ⟨n.id,n.par,n.kids,n.next+1,RL,n.out++[⟨n.next,dst,key,iw⟩],n.seen,n.old,n.reqs⟩)/\(∀W'',Out c w W' W''->GR.At mE 7 W'' (some ⟨mb,0,none⟩) [⟨qK,qF,qT,qI,qL,qk,qN⟩])/\Below B w W'/\Apart c w W'):=λW' mb hk hm hmb=>by
  refine⟨λW'' ho=>Ih W' W'' hk ho,λW'' ho i hi=>?_,uo.trans (hk.below (λx hx=>by have:x=w.heap.size+1:=Aah;omega) (aGm hB uo.size)),HKZ.keeps uo.size hk (λx hx=>by have:x=w.heap.size+1:=Aah;omega)⟩
  obtain⟨F,hk2,hF⟩:=ho
  have hm2:=hk2.obj hm (λhx=>by have:=(hF mb hx).1;omega)
  refine⟨mb,0,rfl,aA hm2,λj hj=>?_⟩
  have hi0:i=0:=Abu
  subst hi0
  have h1:=aGu W'' mb (0+(0*7+j)) _ _ (0,0) hm2
  rw [h1]
  simp[mE]
 clear Ih uo HKZ HPM;obtain⟨c0,c1,c2,c3,c4,c5,c6,c7,c8⟩:=nine OJ;obtain⟨s0,s1,s2,s3⟩:=iO aky;open aoM in exact XQ):P:=h
theorem ars.Afk(h:P:=by
 go_upto_region 5 with fail;go_wp2_with fail;have HNA:=Hq (vZ.kc (k:=9) (KC.of_below (ay W1 (.cells #[] 98))) Aaa);have vY:=Hq (HB1.trans ((ay W1 (.cells #[] 98)).mono HB1.size));refine aP (λW' hW'=>?_)
 have e4:W'.heap[w.heap.size+1]?=some (.cells (dG n A) 40 (0,0)):=by
  exact abn
 have fU:aC [w.heap.size+1] (W1.alloc (.cells #[] 98)) W':=by
  rw [hW'];exact aX (dG n A).toList (W1.alloc (.cells #[] 98)) 0
 have HAT:=Hq (λW'' (ho:Out c w W' W'')=>(HNA.kc (k:=9) ((KC.keeps fU (λx hx=>by have:x=w.heap.size+1:=Aah;rw [this];exact bQ Aaa)).trans (KC.out H9 ho)) Aaa).rm);have pO:Hid (Below B w W'):=(vY.mono hB).trans (fU.below (λx hx=>by have:x=w.heap.size+1:=Aah;omega) (aGm hB (vY.mono hB).size));have uy:=Hq (Apart.keeps (c:=c) (Apart.of_below vY) (vY.mono hB).size fU (λx hx=>by have:x=w.heap.size+1:=Aah;omega));obtain⟨x0,x1,x2,x3,x4,x5,x6,x7,x8⟩:=nine e4;clear hW' e4 fU;exact aGn (v:= .tuple #[(gP n A),.slice (some ⟨W1.heap.size,0,none⟩) 0 0,.int .i64 1]) Adh rfl ⟨A,some ⟨W1.heap.size,0,none⟩,0,rfl,HAT,λW'' _ i hi=>Aas,pO,uy⟩):P:=h
theorem ayP(h:P:=by
 refine bH 1 20 rfl Aab Aab Aab Aab Aab (λ_ _ _ _ h=>h) (λK hK=>?_);go_simp
 first
  |(refine hK _ ?_;clear hK K)
  |(apply Exists.intro
    refine⟨λ_=>?_,hK _ ?_⟩
    (rfl)
    clear hK K)
 exact Aei):P:=h
theorem aru.Aei(h:P:=by
 have y3:=sH (r:=w.heap.size+2) (iO aeD).2.2.2 Aaa;open auQ in exact ahh):P:=h
theorem arv.Aei(h:P:=by
 have y3:=sH (r:=w.heap.size+2) (iO am9).2.2.2 Aaa;open auP in exact ahh):P:=h
theorem akO(h:P:=by
 refine wp_at (λW0 hW0=>?_);have HB0:Hid (W0.heap[w.heap.size]?=some (.cells (dG ⟨id,par,kids,next,pu,out,seen,old,reqs⟩ ⟨ak,ap,ao,as',ar,ck,cp,co,cs,cr⟩) 40 (0,0))):=by rw [hW0];exact kJ
 have qg:Hid (aI w W0):=by rw [hW0];exact ay w _
 clear hW0 kJ;exact Ab7):P:=h
theorem arw.Ab7(h:P:=by
 obtain⟨c0,c1,c2,c3,c4,c5,c6,c7,c8⟩:=nine HB0;go_wp2_with fail;refine(Om _ qg).mono ?_;rintro e w1 ⟨rfl,hb1⟩;open auM in exact aaL):P:=h
theorem arx.Ab7(h:P:=by
 obtain⟨bb,hbb⟩:∃bb,(!(PL&&PS&&TD&&fO next&&decide (out.length<=40)&&rz old&&decide (reqs.length<=30)))=bb:=⟨_,rfl⟩;have fI:=Hq hbb;clear hbb;obtain⟨c0,c1,c2,c3,c4,c5,c6,c7,c8⟩:=nine HB0;go_cut [44] (λr wx=>r= .bool bb/\wx.heap[w.heap.size]?=some (.cells (dG ⟨id,par,kids,next,pu,out,seen,old,reqs⟩ ⟨ak,ap,ao,as',ar,ck,cp,co,cs,cr⟩) 40 (0,0))/\aI w wx)
 case first=>
  go_wp2_with fail;refine(Om _ qg).mono ?_;rintro e w1 ⟨rfl,hb1⟩;open ayc in exact aa6
 case rest=>
  obtain⟨rfl,hblk,hbel⟩:=hcut;have HB1:=Hq hblk;have yF:=Hq hbel;clear hblk hbel c0 c1 c2 c3 c4 c5 c6 c7 c8 Om HPU Oq HB0 qg;cases hbv:bb
  case' true=>
   have HP:Hid (TT=false):=by
    have h:=ah fI;rw [hbv] at h;rw [ah HD];generalize (PL&&PS&&TD&&fO next&&decide (out.length<=40)&&rz old&&decide (reqs.length<=30))=X at *;cases X
    .rfl
    .cases h
   clear fI HD;subst hbv;go_wp2_with fail;go_ret;exact⟨aF HP.symm,yF⟩
  have HF:Hid (fO next=true/\rz old=true/\TT=(iA OT (λs t=>iX s.i t.i) out&&iA RQ (λs t=>iX s.no t.no) reqs)):=by
   have h:=ah fI;rw [hbv] at h;rw [ah HD];cases h4:fO next<;>cases h6:rz old<;>rw [h4,h6] at h
   all_goals first
    |(simp at h;done)
    |skip
   refine⟨rfl,rfl,?_⟩;generalize (PL&&PS&&TD&&true&&decide (out.length<=40)&&true&&decide (reqs.length<=30))=X at *;cases X
   .cases h
   .rfl
  clear fI HD;subst hbv;obtain⟨hn1,ho1,hTT⟩:=ah HF;have HTT:=Hq hTT;have hn2:1<=next/\next<=1000000000:=aGw hn1;have ho2:0<=old/\old<=1000000000:=aGw ho1;obtain⟨hn3,hn4⟩:=hn2;obtain⟨ho3,ho4⟩:=ho2;clear hn1 ho1 hTT HF;have su:=Hq (λk h=>pX OT (λs t=>iX s.i t.i) out k h);have Ow:=Hq (sJ OT (λs t=>iX s.i t.i) out);have EJ:=Hq (wD OT (λs t=>iX s.i t.i) out);have HDB:=Hq (λk h=>pX RQ (λs t=>iX s.no t.no) reqs k h);have HDF:=Hq (sJ RQ (λs t=>iX s.no t.no) reqs);have HDN:=Hq (wD RQ (λs t=>iX s.no t.no) reqs);generalize (λs t:jM=>iX s.i t.i)=RO at *;generalize (λs t:Rq=>iX s.no t.no)=RR at *;go_wp2_with fail;go_loopw [3] (λi wr=>∃k:Nat,k<=out.length/\i= .int .i64 k/\iA OT RO (out.take k)=true/\wr.heap[w.heap.size]?=some (.cells (dG ⟨id,par,kids,next,pu,out,seen,old,reqs⟩ ⟨ak,ap,ao,as',ar,ck,cp,co,cs,cr⟩) 40 (0,0))/\aI w wr) (λi _=>out.length - (intOf i).toNat)
  case atStart=>exact⟨0,aGB _,rfl,rfl,HB1,yF⟩
  case round=>
   open asQ in exact Wi):P:=h
theorem arz.Ab7(h:P:=by
 obtain⟨al,hal⟩:∃al:Int,(kids.length:Int)+(if 0<=par then 1 else 0)=al:=⟨_,rfl⟩;rw [hal] at HD;go_cut [3] (λr wx=>r= .int .i64 al/\wx=W0)
 case first=>
  by_cases hp:0<=par
  .rw [aGC hp] at hal;have HAL:=Hq hal;clear hal;go_wp2_with fail;go_meet
   case rel=>exact⟨by rw [<-ah HAL],rfl⟩
  .rw [aGr hp] at hal;have HAL:=Hq hal;clear hal;go_wp2_with fail;go_meet
   case rel=>exact⟨by rw [<-ah HAL,Int.add_zero],rfl⟩
 case rest=>
  obtain⟨rfl,rfl⟩:=hcut;clear hal;obtain⟨c0,c1,c2,c3,c4,c5,c6,_⟩:=nine HB0;by_cases hlen:(seen.length:Int)=al
  case' neg=>
   have hbn:((seen.length:Int) != al)=true:=by simpa using hlen
   have HP:Hid (TT=false):=by rw [ah HD,aGi hlen];rfl
   clear hlen HD su Ow EJ Sl HPP HRR;go_wp2_with fail;go_ret;exact⟨aF HP.symm,qg⟩
  have hbn:((seen.length:Int) != al)=false:=by simpa using hlen
  have oN:Hid (TT=iA PP RR seen):=by rw [ah HD,aGk hlen];rfl
  clear hlen HD;go_wp2_with fail;go_loopw [4] (λi wr=>∃k:Nat,k<=seen.length/\i= .int .i64 k/\iA PP RR (seen.take k)=true/\wr.heap[w.heap.size]?=some (.cells (dG ⟨id,par,kids,next,pu,out,seen,old,reqs⟩ ⟨ak,ap,ao,as',ar,ck,cp,co,cs,cr⟩) 40 (0,0))/\aI w wr) (λi _=>seen.length - (intOf i).toNat)
  case atStart=>exact⟨0,aGB _,rfl,rfl,HB0,qg⟩
  case round=>
   open asP in exact Wi):P:=h
theorem ayQ(h:P:=by
 clear h hc;obtain⟨⟨p0,p1,p2,p3,p4,p5,p6,p7,p8,p9,oU⟩,_⟩:=aL SS;have hpl:=aA SS;go_upto_region 3 with fail;have z1:=aGj p1;have z2:=aGj p2;have z3:=aGj p3;clear p0 p1 p2 p3 p4 p5 p6 p7 p8 p9 oU;refine dx 9 Aab ?_;show fA _ _ _ _ _ 10 (Array.replicate 10 false) _ _
 refine tk [0,1,2,3,5,6] ?_;iterate 6 (refine vX (λK hK=>?_);go_simp;refine hK _ ?_;clear hK K)
 refine kD ?_;clear z1 z2 z3;exact AeX):P:=h
theorem arA.AeX(h:P:=by
 refine zo 4 8 rfl rfl Aab Aad Aad (λx hx=>?c1) (λx hx=>?c2)
 case' c1=>
  go_simp
  refine(clone k x Aaa).mono ?_
  rintro e y ⟨rfl,hby⟩
  refine⟨hby,?_⟩
  have HY:=Hq (Ge.trans hx hby)
  clear hx hby
  refine tk [7] ?_
  (refine vX (λK hK=>?_);go_simp;refine hK _ ?_;clear hK K)
  refine kD ?_
  refine dP 8 rfl Aab Aad (λx2 hx2=>?_)
  go_simp
  refine⟨ay x2 _,?_⟩
  have hgl:z.heap.size<=x2.heap.size:=(Ge.trans HY hx2).size
  have Hw:=Hq (aGg x2 (.cells (fH 0 ⟨#[]⟩ 0 0) 95))
  have vY:=Hq (Ge.trans (Ge.trans HY hx2) (ay x2 (.cells (fH 0 ⟨#[]⟩ 0 0) 95)))
  clear hx2 HY
  generalize x2.alloc (.cells (fH 0 ⟨#[]⟩ 0 0) 95)=y2 at *
  generalize x2.heap.size=g at *
  refine bE Aab (λz2 hz2=>?_)
  have lu:=Hq (au Hw hz2)
  have fI:=Hq (Ge.trans vY hz2)
  clear hz2 Hw vY
  have D6:=aA lu
  obtain⟨g0,g1,g2,g3⟩:=iO lu
  have f0:=aj lu 0
  have f1:=aj lu 1
  have f2:=aj lu 2
  have f3:=aj lu 3
  refine aG 9 rfl Aab Aad ?_
  go_simp
  refine wpAny_done Aab ?_
  go_simp
  go_upto_region 4 with fail
  refine wp_at (λW hW=>?_)
  have VK:Hid (W.heap[g]?=some (.cells (fH no k nn 0) 95 (0,0))):=Abv
  have jl:Hid (aI z W):=Abw
  clear hW lu fI D6 g0 g1 g2 g3 f0 f1 f2 f3
 case' c2=>
  go_simp
  refine⟨ay x _,?_⟩
  have hgl:z.heap.size<=x.heap.size:=hx.size
  have Hw:=Hq (aGg x (.cells (fH 0 ⟨#[]⟩ 0 0) 95))
  have vY:=Hq (Ge.trans hx (ay x (.cells (fH 0 ⟨#[]⟩ 0 0) 95)))
  clear hx
  generalize x.alloc (.cells (fH 0 ⟨#[]⟩ 0 0) 95)=y2 at *
  generalize x.heap.size=g at *
  refine dP 4 rfl Aab Aad (λx2 hx2=>?_)
  go_simp
  refine(clone k x2 Aaa).mono ?_
  rintro e y3 ⟨rfl,hby⟩
  refine⟨hby,?_⟩
  have HGC:=Hq (au Hw (Ge.trans hx2 hby))
  have HBC:=Hq (Ge.trans vY (Ge.trans hx2 hby))
  clear hx2 hby Hw vY
  refine tk [7] ?_
  (refine vX (λK hK=>?_);go_simp;refine hK _ ?_;clear hK K)
  refine kD ?_
  refine bE Aab (λz2 hz2=>?_)
  have lu:=Hq (au HGC hz2)
  have fI:=Hq (Ge.trans HBC hz2)
  clear hz2 HGC HBC
  have D6:=aA lu
  obtain⟨g0,g1,g2,g3⟩:=iO lu
  have f0:=aj lu 0
  have f1:=aj lu 1
  have f2:=aj lu 2
  have f3:=aj lu 3
  refine aG 9 rfl Aab Aad ?_
  go_simp
  refine wpAny_done Aab ?_
  go_simp
  go_upto_region 4 with fail
  refine wp_at (λW hW=>?_)
  have VK:Hid (W.heap[g]?=some (.cells (fH no k nn 0) 95 (0,0))):=Abv
  have jl:Hid (aI z W):=Abw
  clear hW lu fI D6 g0 g1 g2 g3 f0 f1 f2 f3
 all_goals
  have HWW:=Hq (HZ.step jl)
  have H6:=Hq (au SS jl)
  clear HZ SS jl
  obtain⟨⟨p0,p1,p2,p3,p4,p5,p6,p7,p8,p9,oU⟩,_⟩:=aL H6
  have hpw:=aA H6
  go_wp2_with fail
  refine(vS W HWW).mono ?_
  rintro e w1 ⟨rfl,hb1⟩
  have HW2:=Hq (HWW.step hb1)
  have HG2:=Hq (au VK hb1)
  clear hb1 vS p0 p1 p2 p3 p4 p5 p6 p7 p8 p9 oU HWW H6 VK
  go_upto_region 5 with fail
  refine wp_at (λV hV=>?_)
  obtain rfl:=hV
  obtain⟨g6,hAr,aFu,aFp,⟨q0,q1,q2,q3⟩,_⟩:=HW2.reqRow i hil
  obtain⟨d0,d1,d2,d3,d4,d5,d6,d7,d8,d9⟩:=jW HW2.blk
  rw [hAr] at d8
  obtain⟨s0,s1,s2,s3⟩:=iO HG2
  have hw2:=aA HW2.blk
  have hg2:=aA HG2
  have aDX:(i:Int) < (n.reqs.length:Int):=Aaa
  generalize n.reqs[i]=lm at *
  obtain⟨ln,lk,lx,ls⟩:=lm
  dsimp only at q0 q1 q2 q3 afu HSQ
  subst afu
  have heq:=aDz ln lk k lx nn ls 0
  have hB:=ah HSQ
  generalize (lk.toList == k.toList&&decide (lx=nn)&&decide (ls=0))=B at *
  subst hB
  have y8:=aGj d8
  have x0:=aGj q0
  have x1:=aGj q1
  have x2:=aGj q2
  have x3:=aGj q3
  have v0:=aGj s0
  have v1:=aGj s1
  have v2:=aGj s2
  have v3:=aGj s3
  clear d0 d1 d2 d3 d4 d5 d6 d7 d8 d9 q0 q1 q2 q3 s0 s1 s2 s3
  refine dB Aab ?_
  show iq _ _ _ _ 13 (Array.replicate 13 false) _ _
  refine tk [0,1,2,3,4,5,6,7,8,9,10,11,12] ?_
  iterate 13 (refine BA (λK hK=>?_);go_simp;refine hK _ ?_;clear hK K)
  refine kD ?_
  refine fF Aab (λV hV=>?_)
  have HW3:=Hq (HW2.step hV)
  clear hV HW2 HG2 y8 x0 x1 x2 x3 v0 v1 v2 v3 heq
  go_simp
  cases SQ
  all_goals
   go_wp2_with fail
   go_ret
   rw [ah HAD]
   exact⟨rfl,A,G,c,HW3⟩):P:=h
theorem arB.AeX(h:P:=by
 refine zo 4 8 rfl rfl Aab Aad Aad (λx hx=>?c1) (λx hx=>?c2)
 case' c1=>
  go_simp
  refine(clone k x Aaa).mono ?_
  rintro e y ⟨rfl,hby⟩
  refine⟨hby,?_⟩
  have HY:=Hq (Ge.trans hx hby)
  clear hx hby
  refine tk [7] ?_
  (refine vX (λK hK=>?_);go_simp;refine hK _ ?_;clear hK K)
  refine kD ?_
  refine dP 8 rfl Aab Aad (λx2 hx2=>?_)
  go_simp
  refine⟨ay x2 _,?_⟩
  have hgl:z.heap.size<=x2.heap.size:=(Ge.trans HY hx2).size
  have Hw:=Hq (aGg x2 (.cells (fH 0 ⟨#[]⟩ 0 0) 95))
  have vY:=Hq (Ge.trans (Ge.trans HY hx2) (ay x2 (.cells (fH 0 ⟨#[]⟩ 0 0) 95)))
  clear hx2 HY
  generalize x2.alloc (.cells (fH 0 ⟨#[]⟩ 0 0) 95)=y2 at *
  generalize x2.heap.size=g at *
  refine bE Aab (λz2 hz2=>?_)
  have lu:=Hq (au Hw hz2)
  have fI:=Hq (Ge.trans vY hz2)
  clear hz2 Hw vY
  have D6:=aA lu
  obtain⟨g0,g1,g2,g3⟩:=iO lu
  have f0:=aj lu 0
  have f1:=aj lu 1
  have f2:=aj lu 2
  have f3:=aj lu 3
  refine aG 9 rfl Aab Aad ?_
  go_simp
  refine wpAny_done Aab ?_
  go_simp
  go_upto_region 4 with fail
  refine wp_at (λW hW=>?_)
  have VK:Hid (W.heap[g]?=some (.cells (fH no k nn 0) 95 (0,0))):=Abv
  have jl:Hid (aI z W):=Abw
  clear hW lu fI D6 g0 g1 g2 g3 f0 f1 f2 f3
 case' c2=>
  go_simp
  refine⟨ay x _,?_⟩
  have hgl:z.heap.size<=x.heap.size:=hx.size
  have Hw:=Hq (aGg x (.cells (fH 0 ⟨#[]⟩ 0 0) 95))
  have vY:=Hq (Ge.trans hx (ay x (.cells (fH 0 ⟨#[]⟩ 0 0) 95)))
  clear hx
  generalize x.alloc (.cells (fH 0 ⟨#[]⟩ 0 0) 95)=y2 at *
  generalize x.heap.size=g at *
  refine dP 4 rfl Aab Aad (λx2 hx2=>?_)
  go_simp
  refine(clone k x2 Aaa).mono ?_
  rintro e y3 ⟨rfl,hby⟩
  refine⟨hby,?_⟩
  have HGC:=Hq (au Hw (Ge.trans hx2 hby))
  have HBC:=Hq (Ge.trans vY (Ge.trans hx2 hby))
  clear hx2 hby Hw vY
  refine tk [7] ?_
  (refine vX (λK hK=>?_);go_simp;refine hK _ ?_;clear hK K)
  refine kD ?_
  refine bE Aab (λz2 hz2=>?_)
  have lu:=Hq (au HGC hz2)
  have fI:=Hq (Ge.trans HBC hz2)
  clear hz2 HGC HBC
  have D6:=aA lu
  obtain⟨g0,g1,g2,g3⟩:=iO lu
  have f0:=aj lu 0
  have f1:=aj lu 1
  have f2:=aj lu 2
  have f3:=aj lu 3
  refine aG 9 rfl Aab Aad ?_
  go_simp
  refine wpAny_done Aab ?_
  go_simp
  go_upto_region 4 with fail
  refine wp_at (λW hW=>?_)
  have VK:Hid (W.heap[g]?=some (.cells (fH no k nn 0) 95 (0,0))):=Abv
  have jl:Hid (aI z W):=Abw
  clear hW lu fI D6 g0 g1 g2 g3 f0 f1 f2 f3
 all_goals
  have HWW:=Hq ((HZ.recol (c':=newC z.heap.size 9 c) (λx hx=>fE hx)).step jl)
  have hcg:newC z.heap.size 9 c g=9:=bQ hgl
  have H6:=Hq (au SS jl)
  have hgw:=aA VK
  have aDV:g≠wb:=by have:=aA HZ.blk;omega
  clear HZ SS jl
  obtain⟨⟨p0,p1,p2,p3,p4,p5,p6,p7,p8,p9,oU⟩,_⟩:=aL H6
  have hpw:=aA H6
  go_wp2_with fail
  refine(vS W _ HWW).mono ?_
  rintro e w1 ⟨rfl,hb1⟩
  have HW2:=Hq (HWW.step hb1)
  have yG:=Hq (au H6 hb1)
  have HG2:=Hq (au VK hb1)
  clear hb1 vS p0 p1 p2 p3 p4 p5 p6 p7 p8 p9 oU HWW H6 VK hgw
  go_upto_region 5 with fail
  refine wp_at (λV hV=>?_)
  obtain rfl:=hV
  refine dB Aab ?_
  show iq _ _ _ _ 13 (Array.replicate 13 false) _ _
  refine tk [0,1,2,3,4,5,6,7,8,9,10,11,12] ?_
  iterate 13 (refine BA (λK hK=>?_);go_simp;refine hK _ ?_;clear hK K)
  refine kD ?_
  refine fF Aab (λV hV=>?_)
  have HW3:=Hq (HW2.step hV)
  have SN:=Hq (au yG hV)
  have OA:=Hq (au HG2 hV)
  clear hV HW2 yG HG2
  obtain⟨c0,c1,c2,c3,c4,c5,c6,c7,c8,c9⟩:=jW HW3.blk
  obtain⟨⟨p0,p1,p2,p3,p4,p5,p6,p7,p8,p9,oU⟩,_⟩:=aL SN
  have hw3:=aA HW3.blk
  have hp3:=aA SN
  go_simp
  go_upto_region 10 with fail
  have y4:=aGj c4
  have z2:=aGj p2
  have z3:=aGj p3
  clear c0 c1 c2 c3 c4 c5 c6 c7 c8 c9 p0 p1 p2 p3 p4 p5 p6 p7 p8 p9 oU
  refine dx 13 Aab ?_
  show fA _ _ _ _ _ 15 (Array.replicate 15 false) _ _
  refine tk [0,1,2,3,4,5,6,7,8,9] ?_
  iterate 10 (refine vX (λK hK=>?_);go_simp;refine hK _ ?_;clear hK K)
  refine kD ?_
  clear y4 z2 z3
  refine dP 10 rfl Aab Aad (λx hx=>?_)
  go_simp
  have HX:=Hq (HW3.step hx)
  refine(OU x _ HX).mono ?_
  rintro e y ⟨a,cp,g5,hg5,rfl,hp,hby⟩
  refine⟨hby,?_⟩
  have hgx:g < x.heap.size:=aGq (aA OA) hx.size
  have HGX:=Hq (au OA (Ge.trans hx hby))
  have HST:=Hq (λu (hu:Ge y u)=>Xo (cp:=cp) HX (hby.trans (hu.mono hby.size)) hg5 (hp.below hu))
  clear hby hg5 hp OU hx OA SN
  refine tk [11,12] ?_
  iterate 2 (refine vX (λK hK=>?_);go_simp;refine hK _ ?_;clear hK K)
  refine kD ?_
  refine bE Aab (λu hu=>?_)
  refine aG 13 rfl Aab Aad ?_
  go_simp
  refine(HST u hu).mono ?_
  rintro e z9 ⟨rfl,A',G',c',hZ9,WR,Ml⟩
  have hc9:c' g=9:=(Ml g hgx).trans hcg
  have HZ9:=Hq hZ9
  have HG9:=Hq (WR g _ aDV (au HGX hu))
  clear hZ9 HST hu WR HGX HX HW3 Ml hcg hgx
  obtain⟨rl,rb⟩:=r
  dsimp only at HZ9 HAD HRL ⊢
  refine aG 14 rfl Aab Aad ?_
  go_simp
  refine wpAny_done Aab ?_
  go_simp
  have h9l:=aA HG9
  obtain⟨s0,s1,s2,s3⟩:=iO HG9
  have sf3:=aj HG9 3
  cases rb
  .rw [aGr Aac] at HZ9;have hrl:=ah HRL rfl;subst hrl;rw [aGr Aac] at HAD;have anu:=Hq (HZ9.kc (k:=9) (KC.set (i:=3) (v:= .int .i64 1) hc9) Aaa);have amO:=Hq (aBp (u:= .int .i64 1) HG9);clear HZ9;go_upto_region 12 with fail;refine wp_at (λY hY=>?_);have aB2:Hid (WK w0 Y wb n A' G' c' v L):=by rw [hY];exact anu
   have amP:Hid (Y.heap[g]?=some (.cells (fH no k nn 1) 95 (0,0))):=by rw [hY];exact amO
   clear hY anu amO HG9 s0 s1 s2 s3 sf3 h9l;have h9l:=aA amP;obtain⟨s0,s1,s2,s3⟩:=iO amP;have HKP:=Hq (aef w0 Y wb n A' G' c' v L ⟨no,k,nn,1⟩ i hil hlen aB2);rw [ah HKN] at HKP;exact aiv
  .rw [aGC rfl] at HZ9;rw [aGC rfl] at HAD;have HKP:=Hq (aef w0 z9 wb (setPu n rl) A' G' c' v L ⟨no,k,nn,0⟩ i hil hlen HZ9);have hki:Df (setPu n rl) ⟨no,k,nn,0⟩ i=rM (setPu n rl) ⟨no,k,nn,0⟩:=ah HKI rl 0;rw [hki] at HKP;clear hki;exact aiv):P:=h
theorem ayR(h:P:=by
 have HF:=Hq hf;have ako:=Hq (WU mp mb n0 _ G ⟨pk,qm,qf,qs⟩ w6 hkey hn0 H7.blk H7.map);have HP6:=Hq H7;obtain⟨⟨p0,p1,p2,p3⟩,_⟩:=gu alJ;clear hf H7 alJ;go_wp2_with fail;refine ako.mono ?_;rintro e w7 ⟨rfl,hm7,hk7⟩;have HP7:=Hq (HP6.turned hk7 hm7);have Ht:=Hq (zu.trans (Dg hk7 HP6.lom (aGm hB zu.size)));clear hm7 hk7 p0 p1 p2 p3;go_wp2_with fail;go_ret;exact Aed):P:=h
theorem arC.Aed(h:P:=by
 exact⟨Ht,.inr ⟨.inr h20,rfl,_,HP7⟩⟩):P:=h
theorem arD.Aed(h:P:=by
 exact⟨Ht,.inr ⟨.inl HF,rfl,_,HP7⟩⟩):P:=h
theorem Tw(h:P:=by
 obtain⟨k,hk,rfl,hB,hbel⟩:=hrel;have HB:=Hq hB;have dS:=Hq hbel;clear hB hbel hmk;exact AaU):P:=h
theorem arE.AaU(h:P:=by
 by_cases hlt:k < l.length
 .obtain⟨g,off,rfl,hgw,q0,q1,q2,q3⟩:=aH.four (GR.At.below HA dS) k hlt;have TS:=Hq (Dn l ⟨ByteArray.empty,0,0,0⟩ k hlt);generalize l[k]=pu at *;obtain⟨pk,pm,pf,ps⟩:=pu;dsimp only at q0 q1 q2 q3;have hln:(l.take k++List.replicate (l.length - k) (⟨ByteArray.empty,0,0,0⟩:Pu)).length=l.length:=Aag
  go_wp2_with fail;refine(agb ⟨pk,pm,pf,ps⟩ _).mono ?_;rintro e w5 ⟨rfl,hb5⟩;have iy:=Hq (LY HB hb5);have fZ:=Hq (dS.trans (hb5.mono dS.size));clear hb5 q0 q1 q2 q3;exact azL
 .exact TA):P:=h
theorem arF.AaU(h:P:=by
 by_cases hlt:k < l.length
 .obtain⟨g,off,rfl,hgw,q0⟩:=dH.one (GR.At.below HA dS) k hlt;have TS:=Hq (ZJ l 0 k hlt);generalize l[k]=pu at *;have hln:(l.take k++List.replicate (l.length - k) (0:Int)).length=l.length:=Aag
  have s0:=mH.one HB k Aaa;have f0:=GR.Blk.free HB k;go_wp2_with fail;first|go_region|skip
  go_roundw
  case rel=>
   have h:=GR.Blk.set HB aO k Aaa pu;rw [ah TS] at h;have h2:=GR.setW_below (o:=k*1) (aGh w.heap.size) (aS pu) dS;rw [Nat.mul_one] at h h2;exact⟨k+1,Aaa,Aaf,h,h2⟩
  case measure=>simp[intOf];omega
 .exact TA):P:=h
theorem arG.AaU(h:P:=by
 by_cases hlt:k < l.length
 .obtain⟨g,off,rfl,hgw,q0,q1,q2,q3⟩:=SentAt.four (GR.At.below HA dS) k hlt;have TS:=Hq (Ob l ⟨0,0,ByteArray.empty,0⟩ k hlt);generalize l[k]=pu at *;obtain⟨pi,pt,pk,pn⟩:=pu;dsimp only at q0 q1 q2 q3;have hln:(l.take k++List.replicate (l.length - k) (⟨0,0,ByteArray.empty,0⟩:jM)).length=l.length:=Aag
  go_wp2_with fail;refine(amh ⟨pi,pt,pk,pn⟩ _).mono ?_;rintro e w5 ⟨rfl,hb5⟩;have iy:=Hq (mq.step HB hb5);have fZ:=Hq (dS.trans (hb5.mono dS.size));clear hb5 q0 q1 q2 q3;obtain⟨s0,s1,s2,s3⟩:=mq.four iy k Aaa;open au9 in exact aaN
 .exact TA):P:=h
theorem arH.AaU(h:P:=by
 by_cases hlt:k < l.length
 .obtain⟨g,off,rfl,hgw,q0,q1,q2,q3⟩:=gZ.four (GR.At.below HA dS) k hlt;have TS:=Hq (RZ l ⟨0,ByteArray.empty,0,0⟩ k hlt);generalize l[k]=pu at *;obtain⟨pno,pk,pn,ps⟩:=pu;dsimp only at q0 q1 q2 q3;have hln:(l.take k++List.replicate (l.length - k) (⟨0,ByteArray.empty,0,0⟩:Rq)).length=l.length:=Aag
  go_wp2_with fail;refine(aBs ⟨pno,pk,pn,ps⟩ _).mono ?_;rintro e w5 ⟨rfl,hb5⟩;have iy:=Hq (qA.step HB hb5);have fZ:=Hq (dS.trans (hb5.mono dS.size));clear hb5 q0 q1 q2 q3;obtain⟨s0,s1,s2,s3⟩:=qA.four iy k Aaa;open au8 in exact aaN
 .exact TA):P:=h
theorem arI.AaU(h:P:=by
 by_cases hlt:k < l.length
 .obtain⟨g,off,rfl,hgw,q0,q1,q2,q3,q4,q5,q6,q7,q8,q9,Xk,q11⟩:=lZ (GR.At.below HA dS) k hlt;have TS:=Hq (Le l ⟨⟨0,0,ByteArray.empty,0,⟨0,0,0,0,0,ByteArray.empty,0⟩⟩,0⟩ k hlt);generalize l[k]=pu at *;have Oq:=Hq (λw1=>ad1 pu w1);obtain⟨⟨oK,QF,ok,on,⟨mK,mF,mT,mI,mL,mk,mN⟩⟩,ac⟩:=pu;dsimp only at q0 q1 q2 q3 q4 q5 q6 q7 q8 q9 Xk q11;have hln:(l.take k++List.replicate (l.length - k) (⟨⟨0,0,ByteArray.empty,0,⟨0,0,0,0,0,ByteArray.empty,0⟩⟩,0⟩:An)).length=l.length:=Aag
  open axA in exact ah1
 .exact TA):P:=h
theorem arJ.AaU(h:P:=by
 by_cases hlt:k < l.length
 .obtain⟨g,off,rfl,hgw,q0,q1,q2,q3,q4,q5,q6⟩:=rF (GR.At.below HA dS) k hlt;have TS:=Hq (Le l ⟨0,0,0,0,0,ByteArray.empty,0⟩ k hlt);generalize l[k]=pu at *;have Oq:=Hq (λw1=>aj6 pu w1);obtain⟨mK,mF,mT,mI,mL,mk,mN⟩:=pu;dsimp only at q0 q1 q2 q3 q4 q5 q6;have hln:(l.take k++List.replicate (l.length - k) (⟨0,0,0,0,0,ByteArray.empty,0⟩:Mg)).length=l.length:=Aag
  open axz in exact ah1
 .exact TA):P:=h
theorem arK.AaU(h:P:=by
 by_cases hlt:k < l.length
 .obtain⟨g,cap',ev,hgl,hgw⟩:=HR.form Aaa;have ea:a=some ⟨g,0,none⟩:=by injection ev
  subst ea;have c0:∀(_:k < l.length),Hid True:=λ_=>trivial
  clear c0 ev;have hcl:_:=dS.cell (p:=⟨g,k,none⟩) hgw;have hce:=HR.cellAt k Aaa;have hck:w.cell? ⟨g,k,none⟩=some (.string l[k].k):=by rw [hce];simp[hlt]
  rw [hck] at hcl;clear hce hck;have TS:=Hq (Dn l ⟨ByteArray.empty,0,0,0⟩ k hlt);have hkk:=ah SI l[k] (aGz hlt);have hgk:=ah HG l[k] (aGz hlt);have alp:=HH.below dS;generalize l[k]=pu at *;have OC:=Hq (MH mp mb n _ G pu.k wr hkk alp.blk alp.map);rw [hgk] at OC;have oN:=Hq (λw1=>FT pu w1 hkk);clear hkk hgk alp;obtain⟨pk,pm,pf,ps⟩:=pu;dsimp only at hcl;have hln:(l.take k++List.replicate (l.length - k) (⟨ByteArray.empty,0,0,0⟩:Pu)).length=l.length:=Aag
  go_wp2_with fail;refine OC.mono ?_;rintro e w4 ⟨rfl,hb4⟩;have nG:=Hq (LY HB hb4);have EA:=Hq (dS.trans (hb4.mono dS.size));clear hb4 OC;go_wp2_with fail;refine(oN _).mono ?_;rintro e w5 ⟨rfl,hb5⟩;have iy:=Hq (LY nG hb5);have fZ:=Hq (EA.trans (hb5.mono EA.size));clear hb5;exact azL
 .exact TA):P:=h
theorem abb(h:P:=by
 go_wp2_with fail;refine H.mono ?_;rintro e w1 ⟨v,rfl,hv,hown,hb⟩;have HV:=Hq hv;have HO:=Hq hown;have HB:=Hq hb;clear hown hb hv;go_wp2_with fail;exact Aa8):P:=h
theorem arL.Aa8(h:P:=by
 exact aGn (v:= .tuple #[v,.bool r.2]) (by simp[results,results148,go_sem]) rfl ⟨v,rfl,HV,HO,HB⟩):P:=h
theorem arM.Aa8(h:P:=by
 exact aGn (v:= .tuple #[v,.bool r.2]) (by simp[results,results147,go_sem]) rfl ⟨v,rfl,HV,HO,HB⟩):P:=h
theorem arN.Aa8(h:P:=by
 exact aGn (v:= .tuple #[v,.bool r.2]) (by simp[results,results152,go_sem]) rfl ⟨v,rfl,HV,HO,HB⟩):P:=h
theorem arO.Aa8(h:P:=by
 exact aGn (v:= .tuple #[v,.bool r.2]) (by simp[results,results184,go_sem]) rfl ⟨v,rfl,HV,HO,HB⟩):P:=h
theorem arP.Aa8(h:P:=by
 exact aGn (v:= .tuple #[v,.bool r.2]) (by simp[results,results106,go_sem]) rfl ⟨v,rfl,HV,HO,HB⟩):P:=h
theorem Iq(h:P:=by
 clear hr;go_in
 go_upto_region 11 with fail;refine wp_at (λV hV=>?_);exact AaS):P:=h
theorem arQ.AaS(h:P:=by
 have hblk:V.heap[w.heap.size]?=some (.cells (bX 2 F T I 0 ByteArray.empty 0) 98 (0,0)):=by rw [hV,aGv _ _ _ Aac];exact aGg w _
 open aCi in exact Yk5):P:=h
theorem arR.AaS(h:P:=by
 have hblk:V.heap[w.heap.size]?=some (.cells (bX 2 F T I 0 ByteArray.empty N) 98 (0,0)):=by rw [hV,aGv _ _ _ Aac];exact aGg w _
 open aCj in exact Yk5):P:=h
theorem arS.AaS(h:P:=by
 have hblk:V.heap[w.heap.size]?=some (.cells (bX 2 F T I L k N) 98 (0,0)):=by rw [hV,aGv _ _ _ Aac];exact aGg w _
 open aCl in exact Yk5):P:=h
theorem arT.AaS(h:P:=by
 have hblk:V.heap[w.heap.size]?=some (.cells (bX 2 F T I L k N) 98 (0,0)):=by rw [hV,aGv _ _ _ Aac];exact aGg w _
 open apU in exact XR):P:=h
theorem arU.AaS(h:P:=by
 have hblk:V.heap[w.heap.size]?=some (.cells (bX 1 F T I L k N) 98 (0,0)):=by rw [hV,aGv _ _ _ Aac];exact aGg w _
 open apV in exact XR):P:=h
theorem arV.AaS(h:P:=by
 have hblk:V.heap[w.heap.size]?=some (.cells (bX 1 F T I L k N) 98 (0,0)):=by rw [hV,aGv _ _ _ Aac];exact aGg w _
 open apW in exact XR):P:=h
theorem arW.AaS(h:P:=by
 have hblk:V.heap[w.heap.size]?=some (.cells (bX 0 F T 0 0 k N) 98 (0,0)):=by rw [hV,aGv _ _ _ Aac];exact aGg w _
 open aCs in exact Yk9):P:=h
theorem arX.AaS(h:P:=by
 have hblk:V.heap[w.heap.size]?=some (.cells (bX 0 F T 0 L k N) 98 (0,0)):=by rw [hV,aGv _ _ _ Aac];exact aGg w _
 open aCt in exact Yk9):P:=h
theorem arY.AaS(h:P:=by
 have hblk:V.heap[w.heap.size]?=some (.cells (bX 0 F T I L k N) 98 (0,0)):=by rw [hV,aGv _ _ _ Aac];exact aGg w _
 open aCu in exact Yk9):P:=h
theorem arZ.AaS(h:P:=by
 have hblk:V.heap[w.heap.size]?=some (.cells (bX 0 F T I L k N) 98 (0,0)):=by rw [hV,aGv _ _ _ Aac];exact aGg w _
 open apX in exact XR):P:=h
theorem abd(h:P:=by
 obtain⟨k,m,hk,rfl,rfl,hm,hR,hkp⟩:=hrel;have HM:=Hq hm;have HR:=Hq hR;have HK:=Hq hkp;clear hR hkp;exact Aa5):P:=h
theorem ar0.Aa5(h:P:=by
 by_cases hlt:k < l.length
 .have hml:=gU mkInt 1 s l k hk;have hk':k < (nN mkInt 1 s l k).length:=Acs
  have hm0:0 < m:=Aaa
  have hm1:(m:Int)<=92233720368547758:=Aaa
  obtain⟨e0,hg0,s0,f0⟩:=GR.W.one HR k hk';subst e0;have HML:=Hq hml;clear hm hml;go_wp2_with fail;go_roundw
  case rel=>
   have hpos:0 < l.length:=Aaa
   have h5:=GR.W.set aO HR k (mkInt m) Acr;have hmk:mkInt m=mkInt (s+1*k):=Abx
   rw [hmk,Eu mkInt 1 s l k hlt,<-hmk,Nat.mul_one] at h5;exact⟨k+1,m+1,Aaa,Aaf,Aaf,by have:=ah HM;omega,h5,HK.trans (jC (aC.set _) hpos)⟩
  case measure=>simp[intOf];omega
 .exact aeV):P:=h
theorem ar1.Aa5(h:P:=by
 by_cases hlt:k < l.length
 .have hml:=gU jX 4 s l k hk;have hk':k < (nN jX 4 s l k).length:=Acs
  have hm0:0 < m:=Aaa
  have hm1:(m:Int)<=92233720368547758:=Aaa
  obtain⟨e0,hg0,⟨s0,s1,s2,s3⟩,f0,f1,f2,f3⟩:=GR.W.fourReq HR k hk';subst e0;have Ol:=Hq (λz w1 (hz:z=((m+1:Nat):Int))=>nM (m+1) z w1 hz Aaa Aaa);open asU in exact aaH
 .exact aeV):P:=h
theorem ar2.Aa5(h:P:=by
 by_cases hlt:k < l.length
 .have hml:=gU iN 4 s l k hk;have hk':k < (nN iN 4 s l k).length:=Acs
  have hm0:0 < m:=Aaa
  have hm1:(m:Int)<=92233720368547758:=Aaa
  obtain⟨e0,hg0,⟨s0,s1,s2,s3⟩,f0,f1,f2,f3⟩:=GR.W.fourSent HR k hk';subst e0;have Ol:=Hq (λz w1 (hz:z=((m+2:Nat):Int))=>nM (m+2) z w1 hz Aaa Aaa);open asT in exact aaH
 .exact aeV):P:=h
theorem ar3.Aa5(h:P:=by
 by_cases hlt:k < l.length
 .have hml:=gU gI 4 s l k hk;have hk':k < (nN gI 4 s l k).length:=Acs
  have hm0:0 < m:=Aaa
  have hm1:(m:Int)<=92233720368547758:=Aaa
  obtain⟨e0,hg0,⟨s0,s1,s2,s3⟩,f0,f1,f2,f3⟩:=GR.W.fourPurse HR k hk';subst e0;have Ol:=Hq (λz w1 (hz:z=((m+0:Nat):Int))=>nM (m+0) z w1 hz Aaa Aaa);open asS in exact aaH
 .exact aeV):P:=h
theorem ar4.Aa5(h:P:=by
 by_cases hlt:k < l.length
 .open atp in exact agU
 .open an9 in exact vT):P:=h
theorem ayS(h:P:=by
 obtain⟨i,hi,hcmp⟩:=Option.map_eq_some_iff.1 Is.comp;obtain⟨j,hj,hjs⟩:=Option.map_eq_some_iff.1 Is.size;have h8:= @aG9 prog 292 _ Extern.ReflectliteType.typeOf func292 Aab Aab Aab Aab;have h32:= @aG9 prog 350 _ Is.cmp func350 Aab Aab Aab Aab;have tT:=Is.typeOf;have cT:=Is.comparable;have mR:=Is.methodComparable;exact AeJ):P:=h
theorem ar5.AeJ(h:P:=by
 have nE:=Is.noIs;have uE:=Is.noUnwrap;have vE:=Is.noUnwraps;have heq:=run_eql_iface_ptr_other (P:=prog) w underlying242 underlying372 hi hcmp hj (by rw [hjs];decide) hne ha hb;exact ajg):P:=h
theorem ar6.AeJ(h:P:=by
 have heq:=run_eql_iface_ptr_same (P:=prog) w a underlying242 underlying372 hi hcmp hj;exact ajg):P:=h
theorem akP(h:P:=by
 refine Dt 0 rfl Aab Aab Aab (λ_ _ _ _ h=>h) (λK hK=>?_);go_simp
 first
  |(refine hK _ ?_;clear hK K)
  |(apply Exists.intro
    refine⟨λ_=>rfl,hK _ ?_⟩
    clear hK K)
 exact Ab5):P:=h
theorem ar7.Ab5(h:P:=by
 refine rT 7 ?_;refine tk [1,2,3,4,5] ?_;iterate 5 (refine vX (λK hK=>?_);go_simp;refine hK _ ?_;clear hK K)
 refine kD ?_;clear y9 z0 z1 z2 z3 z4 z5 z6;refine dP 6 rfl Aab Aad (λx hx=>?_);go_simp;refine⟨ay x _,?_⟩;have JU:=Hq ((HSW.step hx).step (ay x (.cells (bX mK mF mT mI mL mk mN) 98)));have iQ:=Hq (aGg x (.cells (bX mK mF mT mI mL mk mN) 98));have hbs:w0.heap.size<=x.heap.size:=(HSW.step hx).keep.size;clear hx HSW HXW jl HS;generalize x.alloc (.cells (bX mK mF mT mI mL mk mN) 98)=y at *;refine bE Aab (λz hz=>?_);have wB:=Hq (JU.step hz);have Ih:=Hq (au iQ hz);clear hz JU iQ;refine aG 7 rfl Aab Aad ?_;refine pJ z (.tmp 12) (.tmp 14) 41 rfl w0.heap.size 98 i0 (.agg (bX 0 0 0 0 0 ByteArray.empty 0)) 7 64 underlying41 hi hz0 hz1 hz2 rfl Aae (.slice va L.length vc) L.length (GR.flat mE L) Aak wB.m ⟨x.heap.size,0,none⟩ 1 1 (mE ⟨mK,mF,mT,mI,mL,mk,mN⟩) Aak rfl (aG3 Ih) (Px _) Aai Aaa wB.keep.size ?_;intro v6 w6 hown6 rA P8;obtain⟨va6,vc6,hv6,_⟩:=GR.own_at (enc:=mE) (sz:=7) (l:=L++[⟨mK,mF,mT,mI,mL,mk,mN⟩]) rH (by rw [aGp,jB];exact hown6);rw [aGp] at hv6;have hv7:v6= .slice va6 (L.length+1) vc6:=hv6;subst hv7;clear hv6;obtain⟨hb6,hS6⟩:=wB.app ⟨mK,mF,mT,mI,mL,mk,mN⟩ hown6 rA P8;have HS6:=Hq hS6;obtain⟨k0,k1,k2,k3,k4,k5,k6,k7,k8,k9⟩:=jW hb6;have kf:=aj hb6 9;clear hown6 rA P8 hb6 hS6 wB Ih;refine aG 8 rfl Aab Aad ?_;go_simp;refine aG 9 rfl Aab Aad ?_;go_simp;refine aG 10 rfl Aab Aad ?_;go_simp;refine wpAny_done Aab ?_;go_simp;go_wp2_with fail;exact aIi (v:= .tuple #[]) (by simp[results,results215,go_sem]) rfl ⟨rfl,_,_,HS6⟩):P:=h
theorem ar8.Ab5(h:P:=by
 refine rT 9 ?_;refine tk [1,2,3,4,5,6,7] ?_;iterate 7 (refine vX (λK hK=>?_);go_simp;refine hK _ ?_;clear hK K)
 refine kD ?_;clear y8 z0 z1 z2 z3;refine dP 8 rfl Aab Aad (λx hx=>?_);go_simp;refine⟨ay x _,?_⟩;have HX:=Hq ((HW1.step hx).step (ay x (.cells (fH q.no q.k q.n q.s) 95)));have HN:=Hq (aGg x (.cells (fH q.no q.k q.n q.s) 95));have HRL:=Hq (show∀y,(Value.slice A.r n.reqs.length A.cr).ownBlock=some y->x.heap.size≠y from λy hy=>by have:=((HW1.step hx).no.r.lt y hy).2;omega);clear hx HW HW1 yg;generalize x.alloc (.cells (fH q.no q.k q.n q.s) 95)=x1 at *;refine bE Aab (λu hu=>?_);have HU:=Hq (HX.step hu);have HNU:=Hq (au HN hu);clear hu HX HN;refine aG 9 rfl Aab Aad ?_;go_simp;refine(alU w0.heap.size A.r A.cr i n.reqs q x.heap.size u Aaa hi HU.keep.size HU.no.r HNU HRL).mono ?_;rintro e w6 ⟨a6,c6,rfl,hown6,rA,P8⟩;obtain⟨hb6,PN⟩:=HU.reqPut hown6 rA P8;have Wh:=Hq PN;obtain⟨k0,k1,k2,k3,k4,k5,k6,k7,k8,k9⟩:=jW hb6;have kf:=aj hb6 8;have hw6:=aA hb6;clear hown6 rA P8 hb6 PN HU HNU HRL;rw [hlen] at Wh ⊢;refine aG 10 rfl Aab Aad ?_;go_simp;refine aG 11 rfl Aab Aad ?_;go_simp;refine aG 12 rfl Aab Aad ?_;go_simp;refine aG 13 rfl Aab Aad ?_;go_simp;refine wpAny_done Aab ?_;go_simp;go_upto_region 2 with fail;refine wp_at (λV hV=>?_);have HV:Hid (WK w0 V wb (eY n (qE n.reqs i q)) ⟨A.k,A.p,A.o,A.s,a6,A.ck,A.cp,A.co,A.cs,c6⟩ G (newC u.heap.size 6 c) v L):=by rw [hV];exact Wh
 clear hV Wh k0 k1 k2 k3 k4 k5 k6 k7 k8 k9 kf hw6;have hl2:(eY n (qE n.reqs i q)).reqs.length=n.reqs.length+1:=hlen;obtain⟨d0,d1,d2,d3,d4,d5,d6,d7,d8,d9⟩:=jW HV.blk;rw [hl2] at d8;have hVl:=aA HV.blk;by_cases ajX:30 < n.reqs.length+1
 case' neg=>
  have hm2:¬((30:Int) < (n.reqs.length:Int)+1):=Aaa
  have HK:=Hq (show Df n q i=eY n (qE n.reqs i q) by unfold Df;rw [hlen,aGr ajX]);go_wp2_with fail;exact aIi (v:= .tuple #[]) (by simp[results,results213,go_sem]) rfl ⟨rfl,_,_,_,by rw [ah HK];exact HV⟩
 have hm2:(30:Int) < (n.reqs.length:Int)+1:=Aaa
 obtain⟨g,hAr,hgw,hgl,⟨q0,_,_,_⟩,_⟩:=HV.reqRow 0 Aaa;dsimp only at hAr;subst hAr;have hz8:(0:Int) < (n.reqs.length:Int)+1:=Aaa
 have HK:=Hq (show Df n q i=eY (pz n (eY n (qE n.reqs i q)).reqs[0].no) ((qE n.reqs i q).drop 1) by
  unfold Df
  rw [hlen,aGC ajX]
  congr 2
  show((qE n.reqs i q).headD default).no=(qE n.reqs i q)[0].no
  rw [List.headD_eq_head?_getD,List.head?_eq_getElem?,aGo Aaa]
  rfl)
 generalize (eY n (qE n.reqs i q)).reqs[0].no=old at *;rw [Nat.zero_mul] at q0;have vf7:=aj HV.blk 7;have vf8:=aj HV.blk 8;have HO:=Hq (HV.oldPut old);go_upto_region 4 with fail;refine wp_at (λV2 hV2=>?_);have HV2:Hid (WK w0 V2 wb (pz (eY n (qE n.reqs i q)) old) ⟨A.k,A.p,A.o,A.s,some ⟨g,0,none⟩,A.ck,A.cp,A.co,A.cs,c6⟩ G (newC u.heap.size 6 c) v L):=by rw [hV2];exact HO
 clear hV2 HO HV d0 d1 d2 d3 d4 d5 d6 d7 d8 d9 q0 vf7 vf8 hVl;have hl3:(pz (eY n (qE n.reqs i q)) old).reqs.length=n.reqs.length+1:=hlen;obtain⟨d0,d1,d2,d3,d4,d5,d6,d7,d8,d9⟩:=jW HV2.blk;rw [hl3] at d8;have hVl:=aA HV2.blk;have HD:=Hq (ale w0.heap.size (some ⟨g,0,none⟩) c6 (qE n.reqs i q) V2 Aaa Aaa HV2.no.r);rw [hlen] at HD;go_wp2_with fail;refine HD.mono ?_;rintro e w7 ⟨a7,c7,rfl,Kg,aAA,aAU⟩;obtain⟨wm,Mj⟩:=HV2.reqPut Kg (by rw [hl3];exact aAA) (by rw [hl3];exact aAU);have hl7:((qE n.reqs i q).drop 1).length=n.reqs.length:=by rw [aGS,hlen];omega
 rw [hl7] at Mj;have HW7:=Hq Mj;obtain⟨k0,k1,k2,k3,k4,k5,k6,k7,k8,k9⟩:=jW wm;have kf:=aj wm 8;have hw7:=aA wm;clear Kg aAA aAU wm Mj HV2 HD d0 d1 d2 d3 d4 d5 d6 d7 d8 d9;go_wp2_with fail;exact aIi (v:= .tuple #[]) (by simp[results,results213,go_sem]) rfl ⟨rfl,_,_,_,by rw [ah HK];exact HW7⟩):P:=h
theorem ar9.Ab5(h:P:=by
 refine rT 8 ?_;refine tk [1,2,3,4,5] ?_;iterate 5 (refine vX (λK hK=>?_);go_simp;refine hK _ ?_;clear hK K)
 refine kD ?_;clear y0;refine dP 6 rfl Aab Aad (λx hx=>?_);go_simp;refine(HO _ ((HH.keep1 (HF2.step hx).keep hfb hne))).mono ?_;rintro e y ⟨hcase,hby⟩;have HFX:=Hq (HF2.step hx);clear hx;rcases hcase with⟨hyes,rfl⟩|⟨hno,p,rfl⟩
 case' inr=>
  have HST:=Hq (HN hno);exact⟨rfl,.inr ⟨_,rfl⟩,HFX.found HS HST hby⟩
 have HST:=Hq (HY hyes);have HSN:=Hq (iQ HST);obtain⟨hz5,hz6⟩:=ah HGT HST;clear hyes HY HN iQ HGT HO HF2;refine⟨hby,?_⟩;have HFY:=Hq (HFX.step hby);clear hby HFX;refine dP 7 rfl Aab Aad (λx2 hx2=>?_);go_simp;refine⟨ay x2 _,?_⟩;have HFZ:=Hq ((HFY.step hx2).step (ay x2 (.cells (cu K no k n mK mF mT mI mL mk mN) 100)));have Ih:=Hq (aGg x2 (.cells (cu K no k n mK mF mT mI mL mk mN) 100));clear hx2 HFY;generalize x2.alloc (.cells (cu K no k n mK mF mT mI mL mk mN) 100)=y2 at *;refine bE Aab (λu hu=>?_);have HFU:=Hq (HFZ.step hu);have HNU:=Hq (aK Ih hu);clear hu HFZ Ih;have hLl:=ah HL;refine aG 8 rfl Aab Aad ?_;refine pJ u (.tmp 37) (.tmp 40) 56 rfl (w.heap.size+1) 100 i0 (.agg (cu 0 0 ByteArray.empty 0 0 0 0 0 0 ByteArray.empty 0)) 11 104 underlying56 hi hz0 hz1 hz2 rfl Aae (.slice va L.length vc) L.length (GR.flat ou L) Aak HFU.own ⟨x2.heap.size,0,none⟩ 1 1 (ou ⟨K,no,k,n,⟨mK,mF,mT,mI,mL,mk,mN⟩⟩) Aak rfl (aG3 HNU) (Py _) Aai Aaa (by have:=HFU.gl;omega) ?_;intro v6 w6 hown6 rA _;obtain⟨va6,vc6,hv6,_⟩:=GR.own_at (enc:=ou) (sz:=11) (l:=L++[⟨K,no,k,n,⟨mK,mF,mT,mI,mL,mk,mN⟩⟩]) jF (by rw [aGp,yO];exact hown6);rw [aGp] at hv6;have hv7:v6= .slice va6 (L.length+1) vc6:=hv6;subst hv7;clear hv6;obtain⟨hb6,hF6⟩:=HFU.app ⟨K,no,k,n,⟨mK,mF,mT,mI,mL,mk,mN⟩⟩ hown6 rA;have HF6:=Hq (hF6 z);obtain⟨k0,k1⟩:=ZN hb6;have kf0:=ajV hb6 0;have kf1:=ajV hb6 1;clear hown6 rA hb6 hF6 HFU HNU;refine aG 9 rfl Aab Aad ?_;go_simp;refine aG 10 rfl Aab Aad ?_;go_simp;refine aG 11 rfl Aab Aad ?_;go_simp;refine wpAny_done Aab ?_;go_simp;go_wp2_with fail;go_roundw
 case rel=>exact⟨z,_,_,HF6,HSN⟩
 case measure=>
  have h1:=ah HEA;have h2:=HF6.endOf;rw [h1,h2];omega):P:=h
theorem ayT(h:P:=by
 clear hm hM;go_in
 go_wp2_with fail;refine(HN _).mono ?_;rintro e w1 ⟨rfl,hb1⟩;rw [hno];obtain⟨hA,hz,hbel⟩:=Fo.one_block hb1;obtain⟨⟨p0,p1,p2,p3⟩,_⟩:=gu hA;have hm1:w1.heap[mp]?=some (.cells #[v,.map (some mb)] 352 (0,0)):=by rw [hbel.block _ hmp];exact HM
 obtain⟨⟨m0,m1⟩,_⟩:=mV hm1;have hI1:iV w1.drew mb n G:=HI.kept (by rw [<-hbel.block _ hmb];rfl);exact AeE):P:=h
theorem asa.AeE(h:P:=by
 obtain⟨w2,hrun,hI2,hK2⟩:=ah HST _ 0 hI1;have HI2:=Hq (hI2.mono (Nat.le_succ n));have uw:=Hq ((Keeps.of_below (g:=mb) hbel).trans (Keeps.trans (b:=w1.drew) (Keeps.of_below (aGs _ _).drew) hK2));clear hb1 hA hbel hm1 hI1 hI2 hK2 HST HN;go_wp2_with fail;go_region
 all_goals
  go_wp2_with fail
  exact aGn (v:= .tuple #[]) (by simp[results,results301,go_sem]) rfl ⟨rfl,HI2,uw⟩):P:=h
theorem asb.AeE(h:P:=by
 obtain⟨w2,hrun,hI2,hK2⟩:=ah HST _ hI1;have HI2:=Hq hI2;have uw:=Hq ((Keeps.of_below (g:=mb) hbel).trans (Keeps.trans (b:=w1.drew) (Keeps.of_below (aGs _ _).drew) hK2));clear hb1 hA hbel hm1 hI1 hI2 hK2 HST HN;go_wp2_with fail;go_region
 all_goals
  go_wp2_with fail
  exact aIi (v:= .tuple #[]) (by simp[results,results301,go_sem]) rfl ⟨rfl,HI2,uw⟩):P:=h
theorem abe(h:P:=by
 have hke:k=out.length:=Aaa
 subst hke;have hnlt:decide ((out.length:Int) < (out.length:Int))=false:=Aac
 exact AbA):P:=h
theorem ase.AbA(h:P:=by
 have HOF:Hid (TT=iA RQ RR reqs):=by
  have h:=ah jG;rw [aGL] at h;rw [ah HTT,h];rfl
 clear Ow EJ su HOT;go_wp2_with fail;go_loopw [5] (λi wr=>∃k:Nat,k<=reqs.length/\i= .int .i64 k/\iA RQ RR (reqs.take k)=true/\wr.heap[w.heap.size]?=some (.cells (dG ⟨id,par,kids,next,pu,out,seen,old,reqs⟩ ⟨ak,ap,ao,as',ar,ck,cp,co,cs,cr⟩) 40 (0,0))/\aI w wr) (λi _=>reqs.length - (intOf i).toNat)
 case atStart=>exact⟨0,aGB _,rfl,rfl,Hu,dS⟩
 case round=>
  open asO in exact Wi):P:=h
theorem asf.AbA(h:P:=by
 exact ak7):P:=h
theorem asg.AbA(h:P:=by
 have HRS:Hid (L=(out.take out.length).map PM):=by
  rw [ah Om,aGL];cases hOK:OK
  .rcases Nat.eq_zero_or_pos out.length with h|h
   .rw [aGM h];rfl
   .exact absurd (hpos h) (by rw [hOK];simp)
  .rfl
 clear hpos;go_wp2_with fail;go_ret;rw [ah HRS];exact BD.of_own Aac HO Aaa HW):P:=h
theorem ash.AbA(h:P:=by
 have HF:=Hq (El HN);go_wp2_with fail;go_ret;exact⟨mQ HF.symm,ay w _⟩):P:=h
theorem asi.AbA(h:P:=by
 have hyy:=ah El HN;clear HLY zw El;subst hyy;go_upto_region 8 with fail;refine wp_at (λW3 hW3=>?_);have hbw:aI wr W3:=by rw [hW3];exact aGs _ _
 open aqe in exact ayx):P:=h
theorem ayU(h:P:=by
 go_simp;refine(aeF A2 x5 (HS.step HG).nl.at).mono ?_;rintro e y5 ⟨A3,ma,mc,rfl,hat,hmt,hb5⟩;refine⟨hb5.mono HG.size,?_⟩;have hxs:=HG.size;have HNL:=Hq (show NL x5.heap.size y5 A3 m' from λF W'' hk hF=>(hat W'' ⟨F,hk,hF⟩).at);have HG2:=Hq (Ge.trans HG hb5);exact AdJ):P:=h
theorem asj.AdJ(h:P:=by
 have HQ2:=Hq (au HQ hb5);have hqd:qf < x5.heap.size\/y5.heap.size<=qf:= .inl (aA HQ);open avG in exact aht):P:=h
theorem asl.AdJ(h:P:=by
 open avF in exact aht):P:=h
theorem ayV(h:P:=by
 rw [hlt1] at IG IE;refine aHD x3 (.tmp 127) (.tmp 130) 22 22 rfl _ _ Aak Aak v3 y3 IG ?_;refine⟨(aGs _ _).grown Ac Ci (λb hb=>(BL.lt b hb).1),?_⟩;go_simp;have Xz:=Hq (zC.grown Ac Ci (λb hb=>(BL.lt b hb).1));have Tk:Hid (y3.ownsRow vL.heap.size 3 1 v3 (pos) (GR.flat aS ((aY s0 mL).take pos))):=Hq (by simpa [GR.flat_nil] using IE);exact Ael):P:=h
theorem asn.Ael(h:P:=by
 have SY:=Hq (show y3.heap[x2.heap.size]?=some (.cells #[.int .i64 mI] 3 (0,0)) from by rw [Ac.block _ (aA (ah BI)) (λhm=>ah Lr _ hm.symm rfl)];exact BI);have Oz:=Hq (show∀b,(v3).ownBlock=some b->b≠x2.heap.size from λb hb=>(IJ b hb).elim (λh=>Lr b h) (λh=>by have:=aA BI;omega));open axZ in exact ah8):P:=h
theorem aso.Ael(h:P:=by
 have SY:=Hq (show y3.heap[x1.heap.size]?=some (.cells #[.int .i64 mI] 3 (0,0)) from by rw [Ac.block _ (aA (ah BI)) (λhm=>ah Lr _ hm.symm rfl)];exact BI);have Oz:=Hq (show∀b,(v3).ownBlock=some b->b≠x1.heap.size from λb hb=>(IJ b hb).elim (λh=>Lr b h) (λh=>by have:=aA BI;omega));open axY in exact ah8):P:=h
theorem ayW(h:P:=by
 go_wp2_with (at_builtin;refine aHg _ rfl _ _ 35 rfl w.heap.size 108 i0 (.agg (jh ByteArray.empty 0 0 0)) 4 40 underlying35 hi hz0 hz1 hz2 rfl Aae _ 0 [] rfl hlit x l.length cap (GR.flat fD l) rfl ?c0 ?c1 ?c2 ?c3 ?c4 ?c5 ?_)
 case c0=>exact GR.flat_length fD 4 aU l
 case c1=>exact HN
 case c2=>exact Fp l
 case c3=>unfold maxLen;omega
 case c4=>omega
 case c5=>simp
 exact Aeq):P:=h
theorem asq.Aeq(h:P:=by
 intro v' w1 hown' hgrow _;open axw in exact ahZ):P:=h
theorem asr.Aeq(h:P:=by
 intro v' w1 hown' hgrow hnil;have HNN:=Hq (show v'≠ .slice none 0 0 from hnil);open axv in exact ahZ):P:=h
theorem agD(h:P:=by
 rw [hlt1] at IG IE;refine aHD x3 (.tmp 93) (.tmp 97) 38 38 rfl _ _ Aak Aak v3 y3 IG ?_;refine⟨(aGs _ _).grown Ac Ci (λb hb=>(BL.lt b hb).1),?_⟩;go_simp;have Xz:=Hq (zC.grown Ac Ci (λb hb=>(BL.lt b hb).1));have Tk:Hid (y3.ownsRow wc.heap.size 95 4 v3 (pos) (GR.flat aJ (n.reqs.take pos))):=Hq (by simpa [GR.flat_nil] using IE);exact AdP):P:=h
theorem asu.AdP(h:P:=by
 have SY:=Hq (show y3.heap[x2.heap.size]?=some (.cells (fH no k nn st) 95 (0,0)) from by rw [Ac.block _ (aA (ah BI)) (λhm=>ah Lr _ hm.symm rfl)];exact BI);have Oz:=Hq (show∀b,(v3).ownBlock=some b->b≠x2.heap.size from λb hb=>(IJ b hb).elim (λh=>Lr b h) (λh=>by have:=aA BI;omega));obtain⟨avR,cvR,C9,_⟩:=GR.own_at (enc:=aJ) (sz:=4) (l:=n.reqs.take pos) aN (by rw [hlt1];exact Tk);rw [hlt1] at C9;subst C9;clear IG IE Ac IJ;generalize x2.heap.size=rb at *;exact Zk0):P:=h
theorem asv.AdP(h:P:=by
 have SY:=Hq (show y3.heap[x1.heap.size]?=some (.cells (fH no k nn st) 95 (0,0)) from by rw [Ac.block _ (aA (ah BI)) (λhm=>ah Lr _ hm.symm rfl)];exact BI);have Oz:=Hq (show∀b,(v3).ownBlock=some b->b≠x1.heap.size from λb hb=>(IJ b hb).elim (λh=>Lr b h) (λh=>by have:=aA BI;omega));obtain⟨avR,cvR,C9,_⟩:=GR.own_at (enc:=aJ) (sz:=4) (l:=n.reqs.take pos) aN (by rw [hlt1];exact Tk);rw [hlt1] at C9;subst C9;clear IG IE Ac IJ;generalize x1.heap.size=rb at *;exact Zk0):P:=h
theorem agE(h:P:=by
 rintro e W3 ⟨A1,ma,mc,rfl,hat,hmt,hb3,hap⟩;have lV:=Hq ((hap _ (aA jS) (by rw [bQ Aaa];omega)).trans jS);have aad:=Hq hat;have aer:=Hq hmt;have HB3:=Hq ((HB2.mono hB).trans hb3);have JE:Hid (Apart c w W3):=λx hx hc=>(hap x (aGq hx HB2.size) (by rw [fE hx];exact hc)).trans (HB2.block x hx)
 have h23:=hb3.size;have h02:=HB2.size;have h2r:=aA jS;exact AdX):P:=h
theorem asw.AdX(h:P:=by
 clear hat hmt hb3 hap c0 c1 c2 c3 c4 c5 c6 c7 c8 m0 m1 m2 m3 m4 m5 m6 hml hnl OV kK zD jS Bq;open atf in exact agQ):P:=h
theorem asx.AdX(h:P:=by
 clear hat hmt hb3 hap c0 c1 c2 c3 c4 c5 c6 c7 c8 m0 m1 m2 m3 m4 m5 m6 hml hnl HGV kK zD jS Bq;obtain⟨A1,hA1⟩:∃A2,A2=A1:=⟨_,rfl⟩;subst hA1;have HNA:=Hq (aGg W3 (.cells (dG N1 A1) 40));have vS:=Hq (au lV (ay W3 (.cells (dG N1 A1) 40)));have vY:=Hq (HB3.trans ((ay W3 (.cells (dG N1 A1) 40)).mono (aGm hB HB3.size)));have HKA:=Hq (JE.step HB3.size (ay W3 (.cells (dG N1 A1) 40)));obtain⟨c0,c1,c2,c3,c4,c5,c6,c7,c8⟩:=nine HNA;open aow in exact XP):P:=h
theorem agF(h:P:=by
 obtain⟨e1,e2,e3,e4⟩:=gF w (.cells (dG n A) 40) (.cells (cu K no k nn mK mF mT mI mL mk mN) 100) (.cells iP 40);have hsz:(((w.alloc (.cells (dG n A) 40)).alloc (.cells (cu K no k nn mK mF mT mI mL mk mN) 100)).alloc (.cells iP 40)).heap.size=w.heap.size+3:=Aac
 generalize hW0:((w.alloc (.cells (dG n A) 40)).alloc (.cells (cu K no k nn mK mF mT mI mL mk mN) 100)).alloc (.cells iP 40)=W0 at *;exact Aep):P:=h
theorem asy.Aep(h:P:=by
 open aCI in exact LK):P:=h
theorem asz.Aep(h:P:=by
 open aCH in exact LK):P:=h
theorem agG(h:P:=by
 obtain⟨e1,e2,e3,e4⟩:=gF w (.cells (dG n A) 40) (.cells (cu 4 no k nn mK mF mT mI mL mk mN) 100) (.cells iP 40);have hsz:(((w.alloc (.cells (dG n A) 40)).alloc (.cells (cu 4 no k nn mK mF mT mI mL mk mN) 100)).alloc (.cells iP 40)).heap.size=w.heap.size+3:=Aac
 generalize hW0:((w.alloc (.cells (dG n A) 40)).alloc (.cells (cu 4 no k nn mK mF mT mI mL mk mN) 100)).alloc (.cells iP 40)=W0 at *;exact AeA):P:=h
theorem asA.AeA(h:P:=by
 exact azb):P:=h
theorem asB.AeA(h:P:=by
 exact Zk9):P:=h
theorem agH(h:P:=by
 obtain⟨e1,e2,e3,e4⟩:=gF w (.cells (dG n A) 40) (.cells (cu 3 no k nn mK mF mT mI mL mk mN) 100) (.cells iP 40);have hsz:(((w.alloc (.cells (dG n A) 40)).alloc (.cells (cu 3 no k nn mK mF mT mI mL mk mN) 100)).alloc (.cells iP 40)).heap.size=w.heap.size+3:=Aac
 generalize hW0:((w.alloc (.cells (dG n A) 40)).alloc (.cells (cu 3 no k nn mK mF mT mI mL mk mN) 100)).alloc (.cells iP 40)=W0 at *;exact AeS):P:=h
theorem asC.AeS(h:P:=by
 open aCL in exact LK):P:=h
theorem asD.AeS(h:P:=by
 exact azb):P:=h
theorem agI(h:P:=by
 obtain⟨e1,e2,e3,e4⟩:=gF w (.cells (dG n A) 40) (.cells (cu 0 no k nn mK mF mT mI mL mk mN) 100) (.cells iP 40);have hsz:(((w.alloc (.cells (dG n A) 40)).alloc (.cells (cu 0 no k nn mK mF mT mI mL mk mN) 100)).alloc (.cells iP 40)).heap.size=w.heap.size+3:=Aac
 generalize hW0:((w.alloc (.cells (dG n A) 40)).alloc (.cells (cu 0 no k nn mK mF mT mI mL mk mN) 100)).alloc (.cells iP 40)=W0 at *;exact Aee):P:=h
theorem asE.Aee(h:P:=by
 open aCP in exact LK):P:=h
theorem asF.Aee(h:P:=by
 open aCJ in exact LK):P:=h
theorem JV(h:P:=by
 obtain⟨k,z,hk,rfl,rfl,hz0,hz1,hall,hbel⟩:=hrel;have jG:=Hq hall;have dS:=Hq hbel;clear hall hbel;exact AaW):P:=h
theorem asG.AaW(h:P:=by
 by_cases hlt:k < l.length
 .obtain⟨g,off,rfl,hgw,q0,q1,q2,q3⟩:=aH.four (GR.At.below HA dS) k hlt;open aqC in exact XU
 .exact aeU):P:=h
theorem asH.AaW(h:P:=by
 by_cases hlt:k < l.length
 .obtain⟨g,off,rfl,hgw,q0,q1,q2,q3⟩:=SentAt.four (GR.At.below HA dS) k hlt;open aqD in exact XU
 .exact aeU):P:=h
theorem asI.AaW(h:P:=by
 by_cases hlt:k < l.length
 .obtain⟨g,off,rfl,hgw,q0,q1,q2,q3⟩:=gZ.four (GR.At.below HA dS) k hlt;open aqE in exact XU
 .exact aeU):P:=h
theorem asJ.AaW(h:P:=by
 by_cases hlt:k < l.length
 .obtain⟨g,off,b,c,e0,hgw,q0,q1,q2,_⟩:=iW.below HA dS k hlt;subst e0;open aqF in exact XU
 .exact aeU):P:=h
theorem asK.AaW(h:P:=by
 by_cases hlt:k < l.length
 .obtain⟨g,off,rfl,hgw,q0,q1,q2,q3,q4,q5,q6,q7,q8,q9,Xk,q11⟩:=lZ (GR.At.below HA dS) k hlt;open aqG in exact XU
 .exact aif):P:=h
theorem asL.AaW(h:P:=by
 by_cases hlt:k < l.length
 .obtain⟨g,off,rfl,hgw,q0,q1,q2,q3,q4,q5,q6⟩:=rF (GR.At.below HA dS) k hlt;open aqH in exact XU
 .exact aif):P:=h
theorem agJ(h:P:=by
 refine gM 3 rfl Aab Aad (λx hx=>?_);go_simp;refine⟨ay x _,?_⟩;have kJ:=Hq (Ge.trans (Ge.trans wY hx) (ay x (.cells #[.int .u8 K] 5)));have hcx:(x.alloc (.cells #[.int .u8 K] 5)).cell? ⟨x.heap.size,0,none⟩=some (.int .u8 K):=Aac
 have hcv:=λd os=>HCV (Sort.grow (redrawn (x.alloc (.cells #[.int .u8 K] 5)) d) os) x.heap.size (aGj hcx d os)
 exact Ac3):P:=h
theorem asM.Ac3(h:P:=by
 obtain⟨a1,a2,a3,a4⟩:=ah HA;clear hx wY HCV HA hcx;generalize hy:x.alloc (.cells #[.int .u8 K] 5)=y at *;refine tk [4,8,12,16,21,22] ?_;iterate 6 (refine BA (λK hK=>?_);go_simp;refine hK _ ?_;clear hK K)
 refine kD ?_;refine fF Aab (λz hz=>?_);have uo:=Hq (Ge.trans kJ hz);clear hz kJ hcv a1 a2 a3 a4;go_simp;go_wp2_with fail;go_ret;exact⟨rfl,uo⟩):P:=h
theorem asN.Ac3(h:P:=by
 obtain⟨a1,a2,a3,a4,a5,a6⟩:=ah HA;clear hx wY HCV HA hcx;generalize hy:x.alloc (.cells #[.int .u8 K] 5)=y at *;refine tk [4,8,12,16,20,24,28,29] ?_;iterate 8 (refine BA (λK hK=>?_);go_simp;refine hK _ ?_;clear hK K)
 refine kD ?_;refine fF Aab (λz hz=>?_);have uo:=Hq (Ge.trans kJ hz);clear hz kJ hcv a1 a2 a3 a4 a5 a6;go_simp;go_wp2_with fail;go_ret;exact⟨rfl,uo⟩):P:=h
theorem Wi(h:P:=by
 obtain⟨k,hk,rfl,hall,hblk,hbel⟩:=hrel;have jG:=Hq hall;have dS:=Hq hbel;have Hu:=Hq hblk;exact AbN):P:=h
theorem asO.AbN(h:P:=by
 clear c0 c1 c2 c3 c4 c5 c6 c7 c8;obtain⟨c0,c1,c2,c3,c4,c5,c6,c7,c8⟩:=nine hblk;clear hall hbel hblk;by_cases hlt:k < reqs.length
 case' neg=>
  have hke:k=reqs.length:=Aaa
  subst hke;have aE6:decide ((reqs.length:Int) < (reqs.length:Int))=false:=Aac
  have HF:Hid (TT=true):=by
   have h:=ah jG;rw [aGL] at h;exact HOF.trans h
  go_wp2_with fail;go_ret;exact⟨aF HF.symm,dS⟩
 have HBAD:Hid (iA RQ RR (reqs.take (k+1))=false->TT=false):=λh=>HOF.trans (HDB _ h)
 obtain⟨g,off,e0,hgw,q0,q1,q2,q3⟩:=gZ.four (HA.below dS).r k hlt;(try dsimp only at e0 q0 q1 q2 q3)
 have hks:=HZ.rk _ (aGz hlt);(try dsimp only at hks)
 have XF:Hid (∃pv:Bool,iA RQ RR (reqs.take (k+1))=(RQ reqs[k]&&pv)/\((k=0/\pv=true)\/∃(j:Nat) (y:Int),k=j+1/\pv=decide (y < (reqs[k]).no)/\wr.cell? ⟨g,off+j*4,none⟩=some (.int .i64 y))):=by
  cases k with
  |zero=>
   refine⟨true,?_,.inl ⟨rfl,rfl⟩⟩;rw [Bool.and_true];exact HDF hlt
  |succ j=>
   obtain⟨g',off',e2,_,p0,_⟩:=gZ.four (HA.below dS).r j (show j < reqs.length by omega);(try dsimp only at e2 p0)
   rw [e0] at e2;injection e2 with e2
   injection e2 with e2 e3
   subst e2 e3;refine⟨_,?_,.inr ⟨j,_,rfl,rfl,p0⟩⟩;have h:=ah HDN j hlt;rw [ah jG] at h;exact h
 subst e0;have oN:=Hq (OL reqs[k]);generalize reqs[k]=sk at *;generalize RQ sk=OB at *;obtain⟨si,sx,sn,st⟩:=sk;dsimp only at q0 q1 q2 q3 hks XF oN;obtain⟨pv,hpv,hpk⟩:=ah XF;have iQ:=Hq hpv;have Sr:=Hq hpk;obtain⟨bb,hbb⟩:∃bb,(!(decide (old+1<=si/\si<=1000000000)&&keyOk sx.data.toList&&fO sn&&decide (0<=st/\st<=2)&&pv))=bb:=⟨_,rfl⟩;have fI:=Hq hbb;clear hpv hpk XF hbb HDF HDN HDB;go_upto_region 13 with fail;refine wp_at (λW1 hW1=>?_);have HW1:Hid (W1.heap[wr.heap.size]?=some (.cells (fH si sx sn st) 95 (0,0))):=Acf
 open aoQ in exact aeQ):P:=h
theorem asP.AbN(h:P:=by
 obtain⟨c0,c1,c2,c3,c4,c5,c6,_⟩:=nine hblk;clear hall hbel hblk;by_cases hlt:k < seen.length
 case' neg=>
  have hke:k=seen.length:=Aaa
  subst hke;have hnlt:decide ((seen.length:Int) < (seen.length:Int))=false:=Aac
  exact ak7
 have HBAD:Hid (iA PP RR (seen.take (k+1))=false->TT=false):=λh=>oN.trans (su _ h)
 obtain⟨g,off,b,c,e0,hgw,q0,q1,q2,hI⟩:=iW.below HS dS k hlt;have xU:(seen[k]).ids.length<=1048600:=ah rU _ (aGz hlt);have HI:=Hq hI;have DC:=Hq xU;clear hI xU
 have XF:Hid (∃pv:Bool,iA PP RR (seen.take (k+1))=((NN (seen[k]).f&&wu seen[k])&&pv)/\((k=0/\pv=true)\/∃(j:Nat) (y:Int),k=j+1/\pv=decide (y < (seen[k]).f)/\wr.cell? ⟨g,off+j*3,none⟩=some (.int .i64 y))):=by
  cases k with
  |zero=>
   refine⟨true,?_,.inl ⟨rfl,rfl⟩⟩;have h:=ah Ow hlt;rw [Bool.and_true];exact h
  |succ j=>
   obtain⟨g',off',_,_,e2,_,p0,_⟩:=iW.below HS dS j Aaa;exact ail
 subst e0;generalize hsk:seen[k]=sk at *;clear hsk;obtain⟨fr,lo,ids⟩:=sk;dsimp only at q0 q1 q2 HI DC XF;obtain⟨pv,hpv,hpk⟩:=ah XF;have iQ:=Hq hpv;have Sr:=Hq hpk;obtain⟨bb,hbb⟩:∃bb,(!(NN fr&&pv&&fO lo&&decide (ids.length<=40)))=bb:=⟨_,rfl⟩;have fI:=Hq hbb;clear hpv hpk XF hbb Ow EJ su;go_upto_region 10 with fail;open aw6 in exact ahS):P:=h
theorem asQ.AbN(h:P:=by
 obtain⟨c0,c1,c2,c3,c4,c5,c6,c7,c8⟩:=nine hblk;clear hall hbel hblk;by_cases hlt:k < out.length
 case' pos=>
  have HBAD:Hid (iA OT RO (out.take (k+1))=false->TT=false):=λh=>by rw [ah HTT,ah su _ h];rfl
  obtain⟨g,off,e0,hgw,q0,q1,q2,q3⟩:=SentAt.four (HA.below dS).o k hlt
  (try dsimp only at e0 q0 q1 q2 q3)
  have hks:=HZ.ok _ (aGz hlt)
  (try dsimp only at hks)
  have XF:Hid (∃pv:Bool,iA OT RO (out.take (k+1))=(OT out[k]&&pv)/\((k=0/\pv=true)\/∃(j:Nat) (y:Int),k=j+1/\pv=decide (y < (out[k]).i)/\wr.cell? ⟨g,off+j*4,none⟩=some (.int .i64 y))):=by
   cases k with
   |zero=>
    refine⟨true,?_,.inl ⟨rfl,rfl⟩⟩;rw [Bool.and_true];exact Ow hlt
   |succ j=>
    obtain⟨g',off',e2,_,p0,_⟩:=SentAt.four (HA.below dS).o j (show j < out.length by omega);(try dsimp only at e2 p0)
    exact ail
  subst e0
  have oN:=Hq (HOT out[k])
  generalize out[k]=sk at *
  generalize OT sk=OB at *
  obtain⟨si,st,sx,sn⟩:=sk
  dsimp only at q0 q1 q2 q3 hks XF oN
  obtain⟨pv,hpv,hpk⟩:=ah XF
  have iQ:=Hq hpv
  have Sr:=Hq hpk
  obtain⟨bb,hbb⟩:∃bb,(!(decide (1<=si/\si<=next - 1)&&NN st&&keyOk sx.data.toList&&fO sn&&pv))=bb:=⟨_,rfl⟩
  have fI:=Hq hbb
  clear hpv hpk XF hbb Ow EJ su
  go_upto_region 7 with fail
  refine wp_at (λW1 hW1=>?_)
  have HW1:Hid (W1.heap[wr.heap.size]?=some (.cells (gV si st sx sn) 91 (0,0))):=Acf
  have hbw:aI wr W1:=by rw [hW1];exact ay wr _
  have BF:=Hq (au Hu hbw)
  have rZ:=Hq (dS.trans (hbw.mono dS.size))
  have hgw1:=hbw.size
  have DU:Hid ((k=0/\pv=true)\/∃(j:Nat) (y:Int),k=j+1/\pv=decide (y < si)/\W1.cell? ⟨g,off+j*4,none⟩=some (.int .i64 y)):=by
   exact ai1
  clear hW1 hbw q0 q1 q2 q3 c0 c1 c2 c3 c4 c5 c6 c7 c8 Sr Hu
  obtain⟨d0,d1,d2,d3⟩:=iO HW1
  obtain⟨c0,c1,c2,c3,c4,c5,c6,c7,c8⟩:=nine BF
  have k0:=cell_grown' c0
  have k1:=cell_grown' c1
  have k2:=cell_grown' c2
  have k3:=cell_grown' c3
  have k4:=cell_grown' c4
  have k5:=cell_grown' c5
  have k6:=cell_grown' c6
  have k7:=cell_grown' c7
  have k8:=cell_grown' c8
  have m0:=cell_grown' d0
  have m1:=cell_grown' d1
  have m2:=cell_grown' d2
  have m3:=cell_grown' d3
  have en:IntKind.i64.wrap (next - 1)=next - 1:=IntWalk.i64_in _ ⟨Aaa,Aaa⟩
  go_cut [98] (λr wx=>r= .bool bb/\aI W1 wx)
  case first=>
   rcases DU with⟨rfl,rfl⟩|⟨j,y,rfl,rfl,q1⟩
   .have hgt:decide ((0:Int) < ((0:Nat):Int))=false:=rfl;open aCp in exact Yk7
   .have hgt:decide ((0:Int) < ((j+1:Nat):Int))=true:=aGk Aaa;have m9:=cell_grown' q1;open aCo in exact Yk7
  case rest=>
   obtain⟨rfl,hbx⟩:=hcut;open auC in exact Wp
 open ase in exact abe):P:=h
theorem asR.AbN(h:P:=by
 obtain⟨c0,c1,c2,_⟩:=nine hblk;clear hall hbel hblk;by_cases hlt:k < kids.length
 case' neg=>
  have hke:k=kids.length:=Aaa
  subst hke;have hnlt:decide ((kids.length:Int) < (kids.length:Int))=false:=Aac
  have HF:Hid (eO ⟨id,par,kids,next,pu,out,seen,old,reqs⟩=true):=by
   exact WE
  go_wp2_with fail;go_ret;exact⟨aF HF.symm,dS⟩
 have HBAD:Hid (iA (kW id par) iX (kids.take (k+1))=false->eO ⟨id,par,kids,next,pu,out,seen,old,reqs⟩=false):=λh=>oN.trans (su _ h)
 cases k with
 |zero=>
  obtain⟨g,off,rfl,hgw,q0⟩:=dH.one (GR.At.below HA dS) 0 hlt;rw [aIa] at q0;have hgt:decide ((0:Int) < ((0:Nat):Int))=false:=rfl;have iQ:Hid (iA (kW id par) iX (kids.take 1)=kW id par kids[0]):=ah Ow hlt;clear Ow EJ su;generalize kids[0]=x at *;open avL in exact ahu
 |succ j=>
  obtain⟨g,off,e1,hgw,q0⟩:=dH.one (GR.At.below HA dS) (j+1) hlt;obtain⟨g',off',e2,aFs,q1⟩:=dH.one (GR.At.below HA dS) j Aaa;open axc in exact ahT):P:=h
theorem aaH(h:P:=by
 have HML:=Hq hml;clear hm hml;go_wp2_with (go_at_call 89;refine(Ol _ _ Aaa).mono ?_;rintro e w1 ⟨rfl,hb1⟩;have HB1:=Hq hb1;have hgz:=hb1.size;obtain⟨hcc,hff⟩:=sG hb1;clear hb1)
 exact AbQ):P:=h
theorem asS.AbQ(h:P:=by
 go_roundw
 case rel=>
  have hpos:0 < l.length:=Aaa
  have h0:=GR.W.toC aU Aaa HR;open axT in exact aa4
 case measure=>simp[intOf];omega):P:=h
theorem asT.AbQ(h:P:=by
 go_roundw
 case rel=>
  have hpos:0 < l.length:=Aaa
  have h0:=GR.W.toC aZ Aaa HR;open axS in exact aa4
 case measure=>simp[intOf];omega):P:=h
theorem asU.AbQ(h:P:=by
 go_roundw
 case rel=>
  have hpos:0 < l.length:=Aaa
  have h0:=GR.W.toC aN Aaa HR;open axR in exact aa4
 case measure=>simp[intOf];omega):P:=h
theorem agK(h:P:=by
 open ax5 in exact aia):P:=h
theorem asV.Ac8(h:P:=by
 exact azC):P:=h
theorem asW.Ac8(h:P:=by
 open av6 in exact OZ):P:=h
theorem agL(h:P:=by
 generalize DZ s=RES at *;generalize kN s=OK at *;generalize vw s (gT s 0)=N1 at *;generalize vw s (gT s 1)=N2 at *;generalize vw s (gT s 2)=N3 at *;generalize vw s (gT s 3)=N4 at *;generalize vw s (jc s (gT s 4))=N5 at *;generalize j6 s (gT s 4)=TX at *;generalize kR s (jc s (gT s 4))=E6 at *;generalize jc s (gT s 4)=E5 at *;generalize gT s 4=E4 at *;exact AeN):P:=h
theorem asX.AeN(h:P:=by
 go_in
 go_wp2_with fail;refine(HN _).mono ?_;rintro e w1 ⟨g,cap,rfl,hg1,hc1,hb1⟩;have hR1:=aK (aGg w _) hb1;have hB1:=(ay w _).trans (hb1.mono Aac);have hC1:=Hq hc1;clear hb1 hc1;go_wp2_with fail;refine(HT _).mono ?_;rintro e w2 ⟨rfl,hb2⟩;have hR2:=aK hR1 hb2;have hB2:=hB1.trans (hb2.mono hB1.size);have hg2:=aGq hg1 hb2.size;have hC2:=Hq (show w2.cell? ⟨g,0,none⟩=some (.int .i64 N1)/\w2.cell? ⟨g,1,none⟩=some (.int .i64 N2)/\w2.cell? ⟨g,2,none⟩=some (.int .i64 N3)/\w2.cell? ⟨g,3,none⟩=some (.int .i64 N4) by simp only[(sG hb2).1 g _ hg1];exact hC1);clear hb2 hR1 hB1 hg1 hC1;go_wp2_with fail;refine(HG _).mono ?_;rintro e w3 ⟨rfl,hb3⟩;have hR3:=aK hR2 hb3;have hB3:=hB2.trans (hb3.mono hB2.size);have hg3:=aGq hg2 hb3.size;have hC3:w3.cell? ⟨g,0,none⟩=some (.int .i64 N1)/\w3.cell? ⟨g,1,none⟩=some (.int .i64 N2)/\w3.cell? ⟨g,2,none⟩=some (.int .i64 N3)/\w3.cell? ⟨g,3,none⟩=some (.int .i64 N4):=by simp only[(sG hb3).1 g _ hg2];exact hC2
 obtain⟨c0,c1,c2,c3⟩:=hC3;clear hb3 hR2 hB2 hg2 hC2;have HR3:=Hq hR3;have HB3:=Hq hB3;clear hR3 hB3;open aug in exact Wo):P:=h
theorem asY.AeN(h:P:=by
 generalize gT s 3=E3 at *;generalize gT s 2=E2 at *;generalize gT s 1=E1 at *;rw [ez] at Dz;clear ez hs;have HH:=Hq hH;clear hH;go_in
 go_upto_region 4 with fail;refine wp_at (λV0 hV=>?_)
 have hM0:V0.heap[w.heap.size+1]?=some (.cells (bX (s[0].toNat:Int) 0 0 0 0 ⟨#[]⟩ 0) 98 (0,0)):=by
  rw [hV];have h:=aGg (w.alloc (.cells (bX 0 0 0 0 0 ⟨#[]⟩ 0) 98)) (.cells (bX (s[0].toNat:Int) 0 0 0 0 ⟨#[]⟩ 0) 98);rwa [show(w.alloc (.cells (bX 0 0 0 0 0 ⟨#[]⟩ 0) 98)).heap.size=w.heap.size+1 by simp] at h
 have hR0:V0.heap[w.heap.size]?=some (.cells (bX 0 0 0 0 0 ⟨#[]⟩ 0) 98 (0,0)):=by rw [hV,aGv _ _ _ Aac];exact aGg w _
 have hB0:aI w V0:=by rw [hV];exact((aGs _ _).alloc (aGh _) _).alloc Aac _
 clear hV hw64 hb0;have HM0:=Hq hM0;have XH:=Hq hR0;have HB0:=Hq hB0;clear hM0 hR0 hB0;go_wp2_with fail;refine(Dz _ (HH.below HB0)).mono ?_;rintro e x1 ⟨rfl,hb1⟩;have gM1:=aK HM0 hb1;have gR1:=aK XH hb1;have gB1:=HB0.trans (hb1.mono HB0.size);obtain⟨⟨c0,c1,c2,c3,c4,c5,c6⟩,f0,f1,f2,f3,f4,f5,f6⟩:=eT gM1;have hz1:=dA gM1;have GM1:=Hq gM1;have GR1:=Hq gR1;have GB1:=Hq gB1;clear hb1 HM0 XH HB0 gM1 gR1 gB1 Dz;go_upto_region 5 with fail;refine wp_at (λV1 hV=>?_);have hM1:V1.heap[w.heap.size+1]?=some (.cells (bX (s[0].toNat:Int) N1 0 0 0 ⟨#[]⟩ 0) 98 (0,0)):=by rw [hV];exact blk_set GM1 1 (.int .i64 N1)
 have hR1:V1.heap[w.heap.size]?=some (.cells (bX 0 0 0 0 0 ⟨#[]⟩ 0) 98 (0,0)):=by rw [hV];exact one_other GR1 Aaa
 have hB1:aI w V1:=by rw [hV];exact GB1.setCell (p:=⟨w.heap.size+1,1,none⟩) (Nat.le_succ _) (.int .i64 N1)
 clear hV GM1 GR1 GB1 c0 c1 c2 c3 c4 c5 c6 f0 f1 f2 f3 f4 f5 f6 hz1;have VP:=Hq hM1;have HR1:=Hq hR1;have HB1:=Hq hB1;clear hM1 hR1 hB1;go_wp2_with fail;refine(HG2 _ (HH.below HB1)).mono ?_;rintro e x2 ⟨rfl,hb2⟩;have gM2:=aK VP hb2;have gR2:=aK HR1 hb2;have gB2:=HB1.trans (hb2.mono HB1.size);obtain⟨⟨c0,c1,c2,c3,c4,c5,c6⟩,f0,f1,f2,f3,f4,f5,f6⟩:=eT gM2;have hz2:=dA gM2;have GM2:=Hq gM2;have GR2:=Hq gR2;have GB2:=Hq gB2;clear hb2 VP HR1 HB1 gM2 gR2 gB2 HG2;go_upto_region 6 with fail;refine wp_at (λV2 hV=>?_);have hM2:V2.heap[w.heap.size+1]?=some (.cells (bX (s[0].toNat:Int) N1 N2 0 0 ⟨#[]⟩ 0) 98 (0,0)):=by rw [hV];exact blk_set GM2 2 (.int .i64 N2)
 have hR2:V2.heap[w.heap.size]?=some (.cells (bX 0 0 0 0 0 ⟨#[]⟩ 0) 98 (0,0)):=by rw [hV];exact one_other GR2 Aaa
 have hB2:aI w V2:=by rw [hV];exact GB2.setCell (p:=⟨w.heap.size+1,2,none⟩) (Nat.le_succ _) (.int .i64 N2)
 clear hV GM2 GR2 GB2 c0 c1 c2 c3 c4 c5 c6 f0 f1 f2 f3 f4 f5 f6 hz2;have OE:=Hq hM2;have HR2:=Hq hR2;have HB2:=Hq hB2;clear hM2 hR2 hB2;go_wp2_with fail;refine(OA _ (HH.below HB2)).mono ?_;rintro e x3 ⟨rfl,hb3⟩;have gM3:=aK OE hb3;have gR3:=aK HR2 hb3;have gB3:=HB2.trans (hb3.mono HB2.size);obtain⟨⟨c0,c1,c2,c3,c4,c5,c6⟩,f0,f1,f2,f3,f4,f5,f6⟩:=eT gM3;have hz3:=dA gM3;have GM3:=Hq gM3;have GR3:=Hq gR3;have GB3:=Hq gB3;clear hb3 OE HR2 HB2 gM3 gR3 gB3 OA;go_upto_region 7 with fail;refine wp_at (λV3 hV=>?_);have hM3:V3.heap[w.heap.size+1]?=some (.cells (bX (s[0].toNat:Int) N1 N2 N3 0 ⟨#[]⟩ 0) 98 (0,0)):=by rw [hV];exact blk_set GM3 3 (.int .i64 N3)
 have hR3:V3.heap[w.heap.size]?=some (.cells (bX 0 0 0 0 0 ⟨#[]⟩ 0) 98 (0,0)):=by rw [hV];exact one_other GR3 Aaa
 have hB3:aI w V3:=by rw [hV];exact GB3.setCell (p:=⟨w.heap.size+1,3,none⟩) (Nat.le_succ _) (.int .i64 N3)
 clear hV GM3 GR3 GB3 c0 c1 c2 c3 c4 c5 c6 f0 f1 f2 f3 f4 f5 f6 hz3;have HM3:=Hq hM3;have HR3:=Hq hR3;have HB3:=Hq hB3;clear hM3 hR3 hB3;go_wp2_with fail;refine(HG4 _ (HH.below HB3)).mono ?_;rintro e x4 ⟨rfl,hb4⟩;have gM4:=aK HM3 hb4;have gR4:=aK HR3 hb4;have gB4:=HB3.trans (hb4.mono HB3.size);obtain⟨⟨c0,c1,c2,c3,c4,c5,c6⟩,f0,f1,f2,f3,f4,f5,f6⟩:=eT gM4;have Bw:=dA gM4;have GM4:=Hq gM4;have GR4:=Hq gR4;have GB4:=Hq gB4;clear hb4 HM3 HR3 HB3 gM4 gR4 gB4 HG4;go_upto_region 8 with fail;refine wp_at (λV4 hV=>?_);have hM4:V4.heap[w.heap.size+1]?=some (.cells (bX (s[0].toNat:Int) N1 N2 N3 N4 ⟨#[]⟩ 0) 98 (0,0)):=by rw [hV];exact blk_set GM4 4 (.int .i64 N4)
 have hR4:V4.heap[w.heap.size]?=some (.cells (bX 0 0 0 0 0 ⟨#[]⟩ 0) 98 (0,0)):=by rw [hV];exact one_other GR4 Aaa
 have hB4:aI w V4:=by rw [hV];exact GB4.setCell (p:=⟨w.heap.size+1,4,none⟩) (Nat.le_succ _) (.int .i64 N4)
 clear hV GM4 GR4 GB4 c0 c1 c2 c3 c4 c5 c6 f0 f1 f2 f3 f4 f5 f6 Bw;have HM4:=Hq hM4;have HR4:=Hq hR4;have nG:=Hq hB4;clear hM4 hR4 hB4;go_wp2_with fail;refine(vJ _ (HH.below nG)).mono ?_;rintro e x5 ⟨rfl,hb5⟩;have gM5:=aK HM4 hb5;have gR5:=aK HR4 hb5;have gB5:=nG.trans (hb5.mono nG.size);obtain⟨⟨c0,c1,c2,c3,c4,c5,c6⟩,f0,f1,f2,f3,f4,f5,f6⟩:=eT gM5;have hz5:=dA gM5;have GM5:=Hq gM5;have GR5:=Hq gR5;have GB5:=Hq gB5;clear hb5 HM4 HR4 nG gM5 gR5 gB5 vJ;go_upto_region 9 with fail;refine wp_at (λV5 hV=>?_);have hM5:V5.heap[w.heap.size+1]?=some (.cells (bX (s[0].toNat:Int) N1 N2 N3 N4 TX 0) 98 (0,0)):=by rw [hV];exact blk_set GM5 5 (.string TX)
 have WL:V5.heap[w.heap.size]?=some (.cells (bX 0 0 0 0 0 ⟨#[]⟩ 0) 98 (0,0)):=by rw [hV];exact one_other GR5 Aaa
 have hB5:aI w V5:=by rw [hV];exact GB5.setCell (p:=⟨w.heap.size+1,5,none⟩) (Nat.le_succ _) (.string TX)
 clear hV GM5 GR5 GB5 c0 c1 c2 c3 c4 c5 c6 f0 f1 f2 f3 f4 f5 f6 hz5;have HM5:=Hq hM5;have XI:=Hq WL;have iy:=Hq hB5;clear hM5 WL hB5;go_wp2_with fail;refine(Z5 _ (HH.below iy)).mono ?_;rintro e x6 ⟨rfl,hb6⟩;have gM6:=aK HM5 hb6;have gR6:=aK XI hb6;have gB6:=iy.trans (hb6.mono iy.size);obtain⟨⟨c0,c1,c2,c3,c4,c5,c6⟩,f0,f1,f2,f3,f4,f5,f6⟩:=eT gM6;have hz6:=dA gM6;have GM6:=Hq gM6;have GR6:=Hq gR6;have GB6:=Hq gB6;clear hb6 HM5 XI iy gM6 gR6 gB6 Z5;go_upto_region 10 with fail;refine wp_at (λV6 hV=>?_);have hM6:V6.heap[w.heap.size+1]?=some (.cells (bX (s[0].toNat:Int) N1 N2 N3 N4 TX N5) 98 (0,0)):=by rw [hV];exact blk_set GM6 6 (.int .i64 N5)
 have hR6:V6.heap[w.heap.size]?=some (.cells (bX 0 0 0 0 0 ⟨#[]⟩ 0) 98 (0,0)):=by rw [hV];exact one_other GR6 Aaa
 have hB6:aI w V6:=by rw [hV];exact GB6.setCell (p:=⟨w.heap.size+1,6,none⟩) (Nat.le_succ _) (.int .i64 N5)
 clear hV GM6 GR6 GB6 c0 c1 c2 c3 c4 c5 c6 f0 f1 f2 f3 f4 f5 f6 hz6;have hzM:=dA hM6;have hzR:=dA hR6;by_cases hE:E6=(s.size:Int)
 case' neg=>
  have hO:OK=false:=by rw [ah HO,aGi hE];rfl
  have xS:=Hq (HZ hO)
  have hq:(E6 != (s.size:Int))=true:=Abl
  obtain⟨⟨d0,d1,d2,d3,d4,d5,d6⟩,f0,f1,f2,f3,f4,f5,f6⟩:=eT hR6
  have HR:=Hq hR6
  have HB:=Hq hB6
  have HE:=Hq hE
  clear hO HO HZ HM HP hM6 hR6 hB6 hE
  open auw in exact ahb
 have hq:(E6 != (s.size:Int))=false:=Abl
 obtain⟨q0,q1,q2,q3,q4,q5,q6⟩:=uG hM6;have HR:=Hq hR6;have HB:=Hq hB6;have HMB:=Hq hM6;have HE:=Hq hE;clear hR6 hB6 hM6 hE;open atj in exact agS):P:=h
theorem agM(h:P:=by
 have hc:s[k].toNat < 256:=s[k].toNat_lt;have aFO:=hv2 hj;have HU:=Hq (hu2 hj);clear hv2 hu2 hv5 hu;obtain⟨hp0,hp1⟩:=afT s[k].toNat v;exact AdN):P:=h
theorem asZ.AdN(h:P:=by
 by_cases hb:128<=s[k].toNat
 .have HR:=Hq (Mth.get_more s k _ m _ _ hlt hj hb HG);clear HG;go_wp2
  go_round
  case rel=>exact⟨_,_,_,k+1,HU,KF m _ v hm,Aaf,Aaf,Aaf,by have:=ah HK;omega,HR⟩
  case measure=>simp[intOf];omega
 .by_cases hbig:(4000000000:Int) < (m:Int)+(s[k].toNat:Int) % 128*(v:Int)
  .have HR:=Hq (Mth.get_bad s k _ m _ _ hlt hj hb (.inl (QK m _ v hb hbig)) HG);clear HG;exact aeX
  .by_cases hz:(s[k].toNat:Int)<=0
   .by_cases hj0:0 < j
    .have HR:=Hq (Mth.get_bad s k _ m _ _ hlt hj hb (.inr ⟨Aaa,hj0⟩) HG);have hik:i < k:=by have:=ah HK;omega
     clear HG;exact aeX
    .have HR:=Hq (Mth.get_hit s k _ m _ _ hlt hj hb (yY m _ v hb hbig) (.inr Aaa) HG);have hik:k<=i:=by have:=ah HK;omega
     clear HG;go_wp2
     go_ret3
     exact⟨Q6 HR (QM m _ v hz) (by have:=ah HK;omega),rfl⟩
   .have HR:=Hq (Mth.get_hit s k _ m _ _ hlt hj hb (yY m _ v hb hbig) (.inl Aaa) HG);have hz':0 < (s[k].toNat:Int):=Aaa
    clear HG;go_wp2
    go_ret3
    exact⟨Q6 HR (QN m _ v hb) (by have:=ah HK;omega),rfl⟩):P:=h
theorem as0.AdN(h:P:=by
 by_cases hb:128<=s[k].toNat
 .have HR:=Hq (Mth.get_more s k _ m _ _ hlt hj hb HG);have HN:=Hq (Zi s i j k m v HK hlt HU0 hb Sv);clear HG;go_wp2
  go_round
  case rel=>exact⟨_,_,_,k+1,HU,KF m _ v hm,Aaf,Aaf,Aaf,by have:=ah HK;omega,HN,HR⟩
  case measure=>simp[intOf];omega
 .go_wp2_with fail;generalize hx:((m:Int)+(s[k].toNat:Int) % 128*(v:Int))=x;have hx0:0<=x:=Aaa
  have hx1:x<=34359738368:=Aaa
  have HX:=Hq hx;clear hx hp0 hp1;have hA:(0:Int)<=(k:Int)+1:=Aaa
  have hB:(k:Int)+1<=(s.size:Int):=Aaa
  have hC:(i:Int)<=(k:Int)+1:=Aaa
  have hW:IntKind.i64.wrap ((k:Int)+1)=(k:Int)+1:=IntWalk.i64_in _ ⟨Aaa,Aaa⟩;by_cases hbig:4000000000 < x
  .have HR:=Hq (Mth.get_bad s k _ m _ _ hlt hj hb (.inl (QK m _ v hb (by rw [ah HX];exact hbig))) HG);have hne:(([]:List UInt8) == (s.extract i (k+1)).toList)=false:=Kq (by rw [zX s i j k (ah HK) hlt];simp);go_region_with (go_at_call 139;refine(vP _ _ (.inr hbig)).mono ?_;rintro e w' ⟨rfl,rfl⟩)
   all_goals
    go_wp2
    go_ret2
    exact⟨get_none HR,(aGs _ _).drew⟩
  .have hsm:x<=4000000000:=Aaa
   have HV:Hid (x.toNat=m+s[k].toNat*v):=by have h1:=QN m s[k].toNat v hb;rw [ah HX] at h1;rw [h1];rfl
   by_cases hbad:s[k].toNat=0/\0 < j
   .have HR:=Hq (Mth.get_bad s k _ m _ _ hlt hj hb (.inr hbad) HG);have hne:(Mth.put x.toNat == (s.extract i (k+1)).toList)=false:=Kq (by rw [ah HV];exact ald s i j k m v HK hlt HU0 hj Sv hbad.1 hbad.2);clear hbad;go_region_with (go_at_call 139;refine(wT _ _ hx0 hsm).mono ?_;rintro e w' ⟨rfl,hbel⟩)
    all_goals
     go_wp2
     go_ret2
     exact⟨get_none HR,by first|exact hbel|exact((aGs _ _).drew).trans hbel⟩
   .have HR:=Hq (Mth.get_hit s k _ m _ _ hlt hj hb (yY m _ v hb (by rw [ah HX];omega)) Aaa HG);have heq:(Mth.put x.toNat == (s.extract i (k+1)).toList)=true:=X9 (by rw [ah HV];exact afd s i j k m v HK hlt HU0 hj hb Sv (by omega));clear hbad;go_region_with (go_at_call 139;refine(wT _ _ hx0 hsm).mono ?_;rintro e w' ⟨rfl,hbel⟩)
    all_goals
     go_wp2
     go_ret2
     exact⟨get_some HR (by have:=ah HV;omega) (by have:=ah HK;omega),by first|exact hbel|exact((aGs _ _).drew).trans hbel⟩):P:=h
theorem aaI(h:P:=by
 have hwl:=aA h.blk;obtain⟨K,no,k,nn,⟨mK,mF,mT,mI,mL,mk,mN⟩⟩:=o;dsimp only at *;subst hK;have HW0:=Hq h;clear h;go_in
 go_upto_region 2 with fail;refine wp_at (λW hW=>?_);exact AbT):P:=h
theorem as1.AbT(h:P:=by
 obtain⟨_,e2,e3⟩:=gQ w (.cells (cu K no k nn 2 mF mT mI mL mk mN) 100) (.cells (bX 2 mF mT mI mL mk mN) 98);open arn in exact akN):P:=h
theorem as3.AbT(h:P:=by
 obtain⟨_,e2,e3⟩:=gQ w (.cells (cu K no k nn 1 mF mT mI mL mk mN) 100) (.cells (bX 1 mF mT mI mL mk mN) 98);open aro in exact akN):P:=h
theorem as4.AbT(h:P:=by
 obtain⟨_,e2,e3⟩:=gQ w (.cells (cu K no k nn 0 mF mT mI mL mk mN) 100) (.cells (bX 0 mF mT mI mL mk mN) 98);open arp in exact akN):P:=h
theorem agN(h:P:=by
 obtain⟨⟨p0,p1,p2,p3,p4,p5,p6,p7,p8,p9,oU⟩,_⟩:=aL HO;obtain⟨c0,c1,c2,c3,c4,c5,c6,c7,c8⟩:=nine HN;have hol:=aA HO;have hnl:=aA HN;go_wp2_with fail;refine(OL W0 Ig.at.r).mono ?_;rintro e W1 ⟨rfl,hb1⟩;have lF:=Hq (au HN hb1);have XE:=Hq (au HO hb1);have qy:=Hq (au HR hb1);have HB1:=Hq (HB0.trans (hb1.mono HB0.size));exact Ae9):P:=h
theorem as5.Ae9(h:P:=by
 clear hb1 c0 c1 c2 c3 c4 c5 c6 c7 c8 p0 p1 p2 p3 p4 p5 p6 p7 p8 p9 oU hnl hol OL HN HO HR Ig HB0;obtain⟨⟨p0,p1,p2,p3,p4,p5,p6,p7,p8,p9,oU⟩,_⟩:=aL XE;obtain⟨c0,c1,c2,c3,c4,c5,c6,c7,c8⟩:=nine lF;have hol:=aA XE;have hnl:=aA lF;have hrl:=aA qy;go_upto_region 9 with fail;refine wp_at (λW2 hW2=>?_);have hbw2:=ay W1 (.cells (fH no k nn 1) 95);have hq2:=aGg W1 (.cells (fH no k nn 1) 95);rw [<-hW2] at hbw2 hq2;have kK:=Hq (au lF hbw2);have Ij:=Hq (au XE hbw2);have jS:=Hq (au qy hbw2);have akq:=Hq hq2;have HB2:=Hq (HB1.trans (hbw2.mono HB1.size));have hqb:w.heap.size+2 < W1.heap.size:=hrl;clear hW2 hbw2 hq2 c0 c1 c2 c3 c4 c5 c6 c7 c8 p0 p1 p2 p3 p4 p5 p6 p7 p8 p9 oU lF XE qy HB1 hnl hol hrl;obtain⟨⟨p0,p1,p2,p3,p4,p5,p6,p7,p8,p9,oU⟩,_⟩:=aL Ij;obtain⟨c0,c1,c2,c3,c4,c5,c6,c7,c8⟩:=nine kK;have hol:=aA Ij;have hnl:=aA kK;have hql:=aA akq;go_wp2_with fail;refine(OU W2 (mZ.kc (k:=9) (KC.of_below HB2) Aaa).at.p).mono ?_;rintro e W3 ⟨v3,rfl,alD,hrow3,hb3⟩;obtain⟨av,cv,rfl,_⟩:=GR.own_at (enc:=fD) (sz:=4) aU hrow3;have HRW:=Hq (LO.own (en:=fD) hrow3);have l7:=Hq (au kK hb3);have Lu:=Hq (au Ij hb3);have lV:=Hq (au jS hb3);have XG:=Hq (au akq hb3);have HB3:=Hq (HB2.trans (hb3.mono HB2.size));clear hb3 alD hrow3 OU kK Ij jS akq HB2 c0 c1 c2 c3 c4 c5 c6 c7 c8 p0 p1 p2 p3 p4 p5 p6 p7 p8 p9 oU hnl hol;obtain⟨c0,c1,c2,c3,c4,c5,c6,c7,c8⟩:=nine l7;obtain⟨q0,q1,q2,q3⟩:=iO XG;have cf:=aj l7 4;have qf:=aj XG 3;have hnl:=aA l7;have aFG:=aA XG;go_upto_if 71 with fail;have hne1:w.heap.size≠W1.heap.size:=Aaa
 go_cut [5] (λz wx=>z= .int .i64 0/\∃pa pc,wx.heap[w.heap.size]?=some (.cells (iT n.id n.par a_k n.kids.length bf n.next pa PL.length pc fP n.out.length bJ gN n.seen.length bg n.old (some ⟨gr,0,none⟩) n.reqs.length bC) 40 (0,0))/\wx.heap[W1.heap.size]?=some (.cells (fH no k nn st) 95 (0,0))/\wx.heap[w.heap.size+1]?=some (.cells (cu K no k nn mK mF mT mI mL mk mN) 100 (0,0))/\wx.heap[w.heap.size+2]?=some (.cells iP 40 (0,0))/\aI w wx/\PD gp n.pu (w.heap.size+3) wx pa pc PL)
 case first=>
  cases ok
  case' false=>
   simp at hPL hst
   subst hPL hst
   go_wp2_with fail
   go_meet
   case rel=>exact⟨rfl,_,_,l7,XG,Lu,lV,HB3,.inr ⟨rfl,rfl⟩⟩
  simp at hPL hst;subst hPL hst;go_wp2_with fail;go_meet
  case rel=>
   have hk:aC [w.heap.size,W1.heap.size] W3 ((W3.setCell ⟨w.heap.size,4,none⟩ (.slice av RL.length cv)).setCell ⟨W1.heap.size,3,none⟩ (.int .i64 0)):=((aC.set _).mono Aac).trans ((aC.set _).mono Aac);exact⟨rfl,_,_,mJ _ hne1 (aT l7 4 _),aT (mJ _ hne1.symm XG) 3 _,hk.obj Lu Aag,hk.obj lV Aag,(HB3.setCell (p:=⟨w.heap.size,4,none⟩) (aGh _) _).setCell (p:=⟨W1.heap.size,3,none⟩) Aag _,.inl ((HRW.keeps hk (λx hx=>Aaj)).lower Aaa)⟩
 case rest=>
 obtain⟨rfl,pa,pc,hN4,hQ4,hO4,hR4,hB4,hP4⟩:=hcut;clear c0 c1 c2 c3 c4 c5 c6 c7 c8 q0 q1 q2 q3 cf qf l7 Lu lV XG HB3 HRW hPL hst;obtain⟨W4,hW4⟩:∃x:World,x=wc:=⟨_,rfl⟩;subst hW4;have DK:=Hq hN4;have am7:=Hq hQ4;have akm:=Hq hO4;have Te:=Hq hR4;have nG:=Hq hB4;have Sq:=Hq hP4;clear hN4 hQ4 hO4 hR4 hB4 hP4;have HA4:=Hq (mZ.kc (k:=9) (KC.of_below nG) Aaa).at.r;obtain⟨c0,c1,c2,c3,c4,c5,c6,c7,c8⟩:=nine DK;obtain⟨⟨p0,p1,p2,p3,p4,p5,p6,p7,p8,p9,oU⟩,_⟩:=aL akm;have hnl:=aA DK;have hol:=aA akm;have hile:=xI n.reqs no;go_upto_block 0 with fail;go_cut [10] from 11 (λi wx=>i= .int .i64 (eu n.reqs no:Nat)/\Ge W4 wx)
 case first=>
  go_wp2_with fail;go_loopw [10] (λi wr=>∃j q:Nat,j<=n.reqs.length/\i= .int .i64 j/\(∀x (hx:x < n.reqs.length),x < j->n.reqs[x].no < no)/\wr=W4.drewN q) (λi _=>n.reqs.length - (intOf i).toNat)
  case atStart=>exact⟨0,0,aGB _,rfl,λx hx h=>Aaa,rfl⟩
  case round=>
   obtain⟨j,q,hj,rfl,hlo,rfl⟩:=hrel;have HLO:=Hq hlo;clear hlo;by_cases hlt:j < n.reqs.length
   .obtain⟨g',off',e0,hg',y0,_,_,_⟩:=gZ.four HA4 j hlt;cases e0
    rw [aHj] at y0
    have HUP:=Hq (fun(h:no<=n.reqs[j].no)=>Ns (l:=n.reqs) (no:=no) H6 (i:=j) hj HLO (λx hx hjx=>by
     rcases Nat.lt_or_eq_of_le hjx with h1|h1
     .have:=aGZ.1 H6 j x hlt hx h1;omega
     .subst h1;exact h))
    have aam:=Hq (fun(h:n.reqs[j].no < no)=>show∀x (hx:x < n.reqs.length),x < j+1->n.reqs[x].no < no from λx hx h2=>by
     by_cases e:x=j
     .subst e;exact h
     .exact HLO x hx Aaa)
    generalize n.reqs[j].no=rn at *;by_cases hcmp:rn < no
    .go_wp2_with fail;go_quiet (fail);go_wp2_with fail;go_roundw
     case rel=>exact⟨j+1,_,Aaa,Aaf,aam hcmp,rfl⟩
     case measure=>simp[intOf];omega
    .have acd:decide (rn < no)=false:=aGi hcmp;have HJ:=Hq (HUP Aaa);exact aiM
   .have hje:j=n.reqs.length:=Aaa
    subst hje;have HJ:=Hq (Ns (l:=n.reqs) (no:=no) H6 (i:=n.reqs.length) (aGh _) HLO (λx hx hjx=>Aaa));have acd:decide ((n.reqs.length:Int) < (n.reqs.length:Int))=false:=Aac
    exact aiM
 case rest=>
  obtain⟨rfl,hge⟩:=hcut;have Ii:=Hq (au DK hge);have EP:=Hq (au Te hge);have aeC:=Hq (au am7 hge);have iy:=Hq (nG.trans (hge.mono nG.size));have HA5:=Hq (GR.At.below HA4 hge);have JO:=Hq (Sq.below hge);clear Sq;clear hge c0 c1 c2 c3 c4 c5 c6 c7 c8 p0 p1 p2 p3 p4 p5 p6 p7 p8 p9 oU hnl hol DK akm Te am7 nG HA4;obtain⟨c0,c1,c2,c3,c4,c5,c6,c7,c8⟩:=nine Ii;obtain⟨q0,q1,q2,q3⟩:=iO aeC;have hnl:=aA Ii;have Yw:=aA aeC;have HIQ:=Hq (show wI n.reqs ⟨no,k,nn,st⟩=n.reqs.take (eu n.reqs no)++⟨no,k,nn,st⟩::n.reqs.drop (eu n.reqs no) from rfl);generalize eu n.reqs no=pos at *;obtain⟨IQ,aln⟩:∃IQ,wI n.reqs ⟨no,k,nn,st⟩=IQ:=⟨_,rfl⟩;rw [aln] at HIQ;have HIN:=Hq aln;clear aln;go_upto_region 16 with fail;go_cut [10] from 11 (λi wx=>i= .int .i64 pos/\∃va vc,(∃g,va=some ⟨g,0,none⟩)/\n.reqs.length+1<=vc/\wx.heap[w.heap.size]?=some (.cells (iT n.id n.par a_k n.kids.length bf n.next pa PL.length pc fP n.out.length bJ gN n.seen.length bg n.old va (n.reqs.length+1) vc) 40 (0,0))/\wx.heap[w.heap.size+2]?=some (.cells iP 40 (0,0))/\wx.heap[W1.heap.size]?=some (.cells (fH no k nn st) 95 (0,0))/\LO 95 aJ 4 (w.heap.size+3) wx va vc IQ/\PD gp n.pu (w.heap.size+3) wx pa pc PL/\aI w wx)
  case first=>
   have hwb:wc.heap.size<=wc.heap.size:=aGh _;have y8:=dz hnl c8;have z0:=dz Yw q0;have z1:=dz Yw q1;have z2:=dz Yw q2;have z3:=dz Yw q3;clear c0 c1 c2 c3 c4 c5 c6 c7 c8 q0 q1 q2 q3;have hpc:pos<=bC:=Aaa
   have ES:=Hq (show gZ wc (some ⟨gr,0,none⟩) (n.reqs.take pos) from GR.At.take HA5 pos)
   obtain⟨AD,hAD,hDR⟩:∃AD,(if bC=pos then some (⟨gr,0,none⟩:Addr) else some ⟨gr,pos*4,none⟩)=AD/\gZ wc AD (n.reqs.drop pos):=by
    by_cases hcz:bC=pos
    .refine⟨_,rfl,?_⟩;rw [show n.reqs.drop pos=[] by apply aHA;omega];exact GR.at_nil _ _
    .refine⟨_,rfl,?_⟩;rw [aGr hcz];exact GR.At.drop HA5 pos
   have HDR:=Hq hDR;clear hDR;refine mY 15 wc.heap.size Aab ?_;show jv _ _ _ _ _ _ 16 (Array.replicate 16 false) _ _
   refine tk [1,2,3,4,6,9,10,11,12] ?_;iterate 9 (refine tkB hwb (λK hK=>?_);go_simp;first|refine hK _ ?_|(apply Exists.intro;refine⟨λ_=>?_,hK _ ?_⟩;rfl);clear hK K)
   refine kD ?_;clear y8 z0 z1 z2 z3;have hlt1:(n.reqs.take pos).length=pos:=Abk
   have acp:(n.reqs.drop pos).length=n.reqs.length - pos:=by rw [aGS]
   have hL1:(n.reqs.take pos++[(⟨no,k,nn,st⟩:Rq)]).length=pos+1:=by rw [aGp,hlt1];rfl
   have hL2:(n.reqs.take pos++[(⟨no,k,nn,st⟩:Rq)]++n.reqs.drop pos).length=pos+1+(n.reqs.length - pos):=by rw [aGp,hL1,acp]
   obtain⟨i0,hi,hz0,hz1,hz2⟩:=aGV Ai;have HG0:=Hq (aGs wc.heap.size wc);refine nS 0 7 rfl rfl Aab Aad Aad Aae Aae (λx1 hx1=>?_) (λx1 hx1=>?_)
   .open ard in exact ayK
   .open arb in exact ayK
  case rest=>
   clear c0 c1 c2 c3 c4 c5 c6 c7 c8 q0 q1 q2 q3 hnl Yw Ii EP aeC iy HA5 JO;obtain⟨rfl,va,vc,⟨gv,rfl⟩,hvc,hN6,hR6,hQ6,hL6,hP6,hB6⟩:=hcut;have HLQ:=Hq (show IQ.length=n.reqs.length+1 by rw [ah HIQ];simp;omega);have nZ:=Hq hN6;have mh:=Hq hR6;have aeD:=Hq hQ6;have HL6:=Hq hL6;have HP6:=Hq hP6;have zu:=Hq hB6;clear hN6 hR6 hQ6 hL6 hP6 hB6;rename_i wo _ _ _
   by_cases h30:30 < n.reqs.length+1
   .have HK:=Hq (show rM (setPu n PL) ⟨no,k,nn,st⟩=eY (pz (setPu n PL) (IQ.headD default).no) IQ.tail by unfold rM;rw [show((setPu n PL)).reqs=n.reqs from rfl,ah HIN,ah HLQ,aGC h30])
    obtain⟨IH,IT,hIQ⟩:∃IH IT,IQ=IH::IT:=by
     cases hq:IQ with
     |nil=>have:=ah HLQ;rw [hq] at this;simp at this
     |cons a b=>exact⟨a,b,rfl⟩
    subst hIQ;have hIT:IT.length=n.reqs.length:=by have:=ah HLQ;simp at this;omega
    have y0:wc.cell? ⟨gv,0,none⟩=some (.int .i64 IH.no):=by
     obtain⟨g',off',e0,_,h0,_⟩:=gZ.four (HL6.lies aN).1 0 Aac;cases e0
     simpa using h0
    have HTA:=Hq (show gZ wc (some ⟨gv,1*4,none⟩) IT from GR.At.drop (HL6.lies aN).1 1);have aEr:=(HL6.lies aN).2 gv 0 rfl;obtain⟨c0,c1,c2,c3,c4,c5,c6,c7,c8⟩:=nine nZ;have cf:=aj nZ 7;have hnl:=aA nZ;have aDO:decide ((30:Int) < ((n.reqs.length+1:Nat):Int))=true:=aGk Aaa;go_upto_region 19 with fail;refine wp_at (λW7 Mj=>?_);have aFP:¬vc=1:=Aaa
    have aFQ:1<=vc:=Aaa
    have rV:Hid (W7.heap[w.heap.size]?=some (.cells (iT n.id n.par a_k n.kids.length bf n.next pa PL.length pc fP n.out.length bJ gN n.seen.length bg IH.no (some ⟨gv,0,none⟩) (n.reqs.length+1) vc) 40 (0,0))):=by rw [Mj];exact aT nZ 7 _
    have oV:Hid (W7.heap[w.heap.size+2]?=some (.cells iP 40 (0,0))):=by rw [Mj];exact mJ _ Aaa mh
    have akr:Hid (W7.heap[W1.heap.size]?=some (.cells (fH no k nn st) 95 (0,0))):=by rw [Mj];exact mJ _ Aaa aeD
    have Ht:Hid (aI w W7):=by rw [Mj];exact zu.setCell (p:=⟨w.heap.size,7,none⟩) (aGh _) _
    have anj:Hid (gZ W7 (some ⟨gv,1*4,none⟩) IT):=by
     rw [Mj];exact((show zK aJ 4 (w.heap.size+3) wc (some ⟨gv,1*4,none⟩) IT from⟨HTA,λg off e=>by cases e;exact aEr⟩).keeps (aC.set _) (λx hx=>Aaj)).1
    have HP7:Hid (PD gp n.pu (w.heap.size+3) W7 pa pc PL):=by rw [Mj];exact HP6.keeps (aC.set _) (λx hx=>by simp at hx;omega)
    clear Mj HTA y0 cf c0 c1 c2 c3 c4 c5 c6 c7 c8 hnl nZ mh aeD zu HL6 HP6;obtain⟨c0,c1,c2,c3,c4,c5,c6,c7,c8⟩:=nine rV;have cf:=aj rV 8;have hnl:=aA rV;obtain⟨i0,hi,hz0,hz1,hz2⟩:=aGV Ai;obtain⟨a8,c8',W8,hrun,P5,Iz,⟨g8,rfl⟩,hc8⟩:=run_copy_row (P:=prog) aN Aaa W7 38 95 i0 (.agg (fH 0 ByteArray.empty 0 0)) 40 underlying38 hi hz0 hz1 hz2 rfl (some ⟨gv,1*4,none⟩) IT (vc - 1) anj (jq _) Aai Aaa;rw [hIT,Nat.one_mul] at hrun;have aar:=Hq hrun;have vR:=Hq (au rV Iz);have Io:=Hq (au oV Iz);have am8:=Hq (au akr Iz);have Z4:=Hq (Ht.trans (Iz.mono Ht.size));have HL8:=Hq (LO.own (en:=aJ) P5);have hz7:w.heap.size+3<=W7.heap.size:=by have:=aA akr;omega
    have HP8:=Hq (HP7.below Iz);have k8:=(nine vR).2.2.2.2.2.2.2.2;have kf8:=aj vR 8;clear hrun Iz P5;go_upto_region 20 with(at_builtin;refine gH rfl (.tmp 118) (.tmp 121) 38 rfl _ _ rfl rfl _ _ (aar _) ?_)
    refine wp_at (λW9 hW9=>?_);have DR:Hid (W9.heap[w.heap.size]?=some (.cells (iT n.id n.par a_k n.kids.length bf n.next pa PL.length pc fP n.out.length bJ gN n.seen.length bg IH.no (some ⟨g8,0,none⟩) n.reqs.length c8') 40 (0,0))):=by rw [hW9];exact aT vR 8 _
    have qz:Hid (W9.heap[w.heap.size+2]?=some (.cells iP 40 (0,0))):=by rw [hW9];exact mJ _ Aaa Io
    have am9:Hid (W9.heap[W1.heap.size]?=some (.cells (fH no k nn st) 95 (0,0))):=by rw [hW9];exact mJ _ Aaa am8
    have HB9:Hid (aI w W9):=by rw [hW9];exact Z4.setCell (p:=⟨w.heap.size,8,none⟩) (aGh _) _
    have HL9:Hid (LO 95 aJ 4 (w.heap.size+3) W9 (some ⟨g8,0,none⟩) c8' IT):=by rw [hW9];exact((HL8.lower hz7).keeps (aC.set _) (λx hx=>Aaj))
    have HP9:Hid (PD gp n.pu (w.heap.size+3) W9 pa pc PL):=by rw [hW9];exact HP8.keeps (aC.set _) (λx hx=>by simp at hx;omega)
    clear hW9 k8 kf8 vR Io am8 Z4 HL8 rV oV akr Ht anj aar c0 c1 c2 c3 c4 c5 c6 c7 c8 cf hnl HP8 HP7;have alo:IT.length=n.reqs.length:=hIT;clear hIT;obtain⟨c0,c1,c2,c3,c4,c5,c6,c7,c8⟩:=nine DR;have hnl:=aA DR;have hnr:=aA qz;have hnq:=aA am9;clear c0 c1 c2 c3 c4 c5 c6 c7 c8;refine qZ 4 (w.heap.size+2) Aab ?_;show jw _ _ _ _ _ _ 5 (Array.replicate 5 false) _ _
    refine vH 0 20 rfl Aab Aab Aab Aab Aab (λ_ _ _ _ h=>h) Aad 40 _ rfl w.heap.size 0 rfl (iT n.id n.par a_k n.kids.length bf n.next pa PL.length pc fP n.out.length bJ gN n.seen.length bg IH.no (some ⟨g8,0,none⟩) n.reqs.length c8').toList _ (Gh DR) ⟨hnl,Aaa⟩ underlying40 rfl Aab ?_;open arv in exact ayP
   .have HK:=Hq (show rM (setPu n PL) ⟨no,k,nn,st⟩=eY (setPu n PL) IQ by unfold rM;rw [show((setPu n PL)).reqs=n.reqs from rfl,ah HIN,ah HLQ,aGr h30]);obtain⟨c0,c1,c2,c3,c4,c5,c6,c7,c8⟩:=nine nZ;have hnl:=aA nZ;have aDO:decide ((30:Int) < ((n.reqs.length+1:Nat):Int))=false:=aGi Aaa;have hIT:IQ.length=n.reqs.length+1:=ah HLQ;clear HLQ;have alo:=Hq hIT;clear hIT;go_upto_region 20 with fail;clear c0 c1 c2 c3 c4 c5 c6 c7 c8 hnl;obtain⟨c0,c1,c2,c3,c4,c5,c6,c7,c8⟩:=nine nZ;have hnl:=aA nZ;have hnr:=aA mh;have hnq:=aA aeD;clear c0 c1 c2 c3 c4 c5 c6 c7 c8;refine qZ 4 (w.heap.size+2) Aab ?_;show jw _ _ _ _ _ _ 5 (Array.replicate 5 false) _ _
    refine vH 0 20 rfl Aab Aab Aab Aab Aab (λ_ _ _ _ h=>h) Aad 40 _ rfl w.heap.size 0 rfl (iT n.id n.par a_k n.kids.length bf n.next pa PL.length pc fP n.out.length bJ gN n.seen.length bg n.old (some ⟨gv,0,none⟩) (n.reqs.length+1) vc).toList _ (Gh nZ) ⟨hnl,Aaa⟩ underlying40 rfl Aab ?_;open aru in exact ayP):P:=h
theorem as6.Ae9(h:P:=by
 have vZ:=Hq (Ig.kc (k:=9) (KC.of_below hb1) Aaa);clear hb1 c0 c1 c2 c3 c4 c5 c6 c7 c8 p0 p1 p2 p3 p4 p5 p6 p7 p8 p9 oU hnl hol OL HN HO HR Ig HB0;obtain⟨g,off,e0,hg,q0,q1,q2,q3⟩:=gZ.four vZ.at.r i hi;rw [ah ana] at q0 q1 q2 q3;clear ana;obtain⟨rno,rk,rn,rs⟩:=rq;exact Kk4):P:=h
theorem Wj(h:P:=by
 clear HNk HYk;go_wp2_with fail;refine(HCk wr HB).mono ?_;rintro e w1 ⟨rfl,hb1⟩;have HB1:=Hq (HB.trans (hb1.mono HB.size));rw [hq];exact AbO):P:=h
theorem as7.AbO(h:P:=by
 clear hb1 q0 q1 q2;exact aji):P:=h
theorem as8.AbO(h:P:=by
 clear hb1 q0 q1 q2;exact abA):P:=h
theorem as9.AbO(h:P:=by
 clear hb1 q0 q1 q2 q3;exact aji):P:=h
theorem ata.AbO(h:P:=by
 clear hb1 q0 q1 q2 q3;go_wp2_with fail;go_ret;exact⟨Aac,HB1⟩):P:=h
theorem agO(h:P:=by
 obtain⟨d0,d1,d2,d3,d4,d5,d6,d7,d8⟩:=nine yH;have f0:=aj yH 0;have f1:=aj yH 1;have f2:=aj yH 2;have f3:=aj yH 3;have f4:=aj yH 4;have f5:=aj yH 5;have f6:=aj yH 6;have f7:=aj yH 7;have f8:=aj yH 8;have hrl:=aA yH;exact AeU):P:=h
theorem atb.AeU(h:P:=by
 go_simp;refine aG 4 rfl Aab Aad ?_;go_simp;refine aG 6 rfl Aab Aad ?_;go_simp;refine aG 7 rfl Aab Aad ?_;go_simp;refine wpAny_done Aab ?_;go_simp;clear d0 d1 d2 d3 d4 d5 d6 d7 d8 f0 f1 f2 f3 f4 f5 f6 f7 f8;go_wp2_with fail;refine aP (λW' hW'=>?_)
 obtain⟨SW,hSW,hsz,hk0,e3⟩:∃SW:World,W'=SW.alloc (.cells (bX qK qF qT qI qL qk qN) 98)/\SW.heap.size=z.heap.size/\aC [w.heap.size+1] z SW/\SW.heap[w.heap.size+1]?=some (.cells (iT n.id n.par a_k n.kids.length bf (n.next+1) av RL.length cv a6 (n.out.length+1) c6 gN n.seen.length bg n.old gX n.reqs.length bC) 40 (0,0)):=
  ⟨GR.setW z (w.heap.size+1) 0 (iT n.id n.par a_k n.kids.length bf (n.next+1) av RL.length cv a6 (n.out.length+1) c6 gN n.seen.length bg n.old gX n.reqs.length bC).toList,hW',by simp[GR.setW],aX (iT n.id n.par a_k n.kids.length bf (n.next+1) av RL.length cv a6 (n.out.length+1) c6 gN n.seen.length bg n.old gX n.reqs.length bC).toList z 0,GR.setW_blk (iT n.id n.par a_k n.kids.length bf (n.next+1) av RL.length cv a6 (n.out.length+1) c6 gN n.seen.length bg n.old gX n.reqs.length bC).toList (o:=0) (xs:=iP.toList) yH⟩
 have e4:W'.heap[w.heap.size+1]?=some (.cells (iT n.id n.par a_k n.kids.length bf (n.next+1) av RL.length cv a6 (n.out.length+1) c6 gN n.seen.length bg n.old gX n.reqs.length bC) 40 (0,0)):=by rw [hSW];exact au e3 (ay SW _)
 have fU:aC [w.heap.size+1] z W':=by rw [hSW];exact hk0.trans (aC.of_below (ay SW _))
 have hm:W'.heap[z.heap.size]?=some (.cells (bX qK qF qT qI qL qk qN) 98 (0,0)):=by rw [hSW,<-hsz];exact aGg SW _
 have HFI:=Hq (zB W' z.heap.size ((aC.of_below HZ).trans fU) hm (by have:=aA yH;omega));obtain⟨x0,x1,x2,x3,x4,x5,x6,x7,x8⟩:=nine e4;clear hW' e4 fU hm hSW hsz hk0 e3;exact azP):P:=h
theorem atc.AeU(h:P:=by
 refine aG 5 rfl Aab Aad ?_;go_simp;refine aG 6 rfl Aab Aad ?_;go_simp;refine aG 7 rfl Aab Aad ?_;go_simp;refine wpAny_done Aab ?_;go_simp;clear d0 d1 d2 d3 d4 d5 d6 d7 d8 f0 f1 f2 f3 f4 f5 f6 f7 f8 hrl;go_wp2_with fail;refine aP (λW' hW'=>?_)
 have e4:W'.heap[w.heap.size+1]?=some (.cells (iT n.id n.par a_k n.kids.length bf (n.next+1) av RL.length cv a6 (n.out.length+1) c6 gN n.seen.length bg n.old gX n.reqs.length bC) 40 (0,0)):=by
  rw [hW'];exact GR.setW_blk (iT n.id n.par a_k n.kids.length bf (n.next+1) av RL.length cv a6 (n.out.length+1) c6 gN n.seen.length bg n.old gX n.reqs.length bC).toList (o:=0) (xs:=iP.toList) yH
 have fU:aC [w.heap.size+1] z2 W':=by
  rw [hW'];exact aX (iT n.id n.par a_k n.kids.length bf (n.next+1) av RL.length cv a6 (n.out.length+1) c6 gN n.seen.length bg n.old gX n.reqs.length bC).toList z2 0
 have HFI:=Hq (zB W' z.heap.size ((aC.of_below HZ2).trans fU) (fU.obj OE (λhm=>by have:z.heap.size=w.heap.size+1:=Abb;omega)) Aaa);obtain⟨x0,x1,x2,x3,x4,x5,x6,x7,x8⟩:=nine e4;clear hW' e4 fU;exact azP):P:=h
theorem agP(h:P:=by
 have hnl:=aA HN;have hol:=aA HO;go_wp2_with fail;refine(oN W1 HB1).mono ?_;rintro e W2 ⟨rfl,hb2⟩;have kK:=Hq (au HN hb2);have Ij:=Hq (au HO hb2);have jS:=Hq (au HR hb2);have HB2:=Hq (HB1.trans (hb2.mono HB1.size));clear hb2 c0 c1 c2 c3 c4 c5 c6 c7 c8 p0 p1 p2 p3 p4 p5 p6 p7 p8 p9 oU hnl hol oN HN HO HR HB1;exact AeP):P:=h
theorem atd.AeP(h:P:=by
 obtain⟨⟨p0,p1,p2,p3,p4,p5,p6,p7,p8,p9,oU⟩,_⟩:=aL Ij;have hol:=aA Ij;go_wp2_with fail;refine(Hz W2).mono ?_;rintro e W4 ⟨rfl,hb4⟩;have Ii:=Hq (au kK hb4);have akn:=Hq (au Ij hb4);have EP:=Hq (au jS hb4);have iy:=Hq (HB2.trans (hb4.mono HB2.size));clear hb4 p0 p1 p2 p3 p4 p5 p6 p7 p8 p9 oU hol Hz kK Ij jS HB2;obtain⟨c0,c1,c2,c3,c4,c5,c6,c7,c8⟩:=nine Ii;have hnl:=aA Ii;go_wp2_with fail;refine(Oj W4 iy).mono ?_;exact Aev):P:=h
theorem ate.AeP(h:P:=by
 obtain⟨c0,c1,c2,c3,c4,c5,c6,c7,c8⟩:=nine kK;have hnl:=aA kK;go_wp2_with fail;refine(Oj W2 HB2).mono ?_;rintro e W3 ⟨A1,G1,cc,rfl,hNO,hb3,_,_⟩;have lV:=Hq (au jS hb3);have HB3:=Hq (HB2.trans (hb3.mono HB2.size));have mZ:=Hq hNO;have hrs:=aA jS;clear hb3 hNO c0 c1 c2 c3 c4 c5 c6 c7 c8 hnl Oj kK Ij jS;exact azw):P:=h
theorem agQ(h:P:=by
 obtain⟨d0,d1,d2,d3,d4,d5,d6,d7,d8⟩:=nine lV;have f0:=aj lV 0;have f1:=aj lV 1;have f2:=aj lV 2;have f3:=aj lV 3;have f4:=aj lV 4;have f5:=aj lV 5;have f6:=aj lV 6;have f7:=aj lV 7;have f8:=aj lV 8;have hrl:=aA lV;go_wp2_with fail;refine aP (λW' hW'=>?_);exact Ae2):P:=h
theorem atf.Ae2(h:P:=by
 have e4:W'.heap[w.heap.size+2]?=some (.cells (dG N1 A1) 40 (0,0)):=by
  rw [hW'];exact GR.setW_blk (dG N1 A1).toList (o:=0) (xs:=iP.toList) lV
 have fU:aC [w.heap.size+2] W3 W':=by
  rw [hW'];exact aX (dG N1 A1).toList W3 0
 have HAT:=Hq (λW'' (ho:Out c w W' W'')=>(show RM W'' A1 N1 from(by
  obtain⟨F,hk,hF⟩:=ho
  exact aad _ ⟨(w.heap.size+2)::F,aC.trans (b:=W') (fU.mono (λx hx=>Aba)) (hk.mono (λx hx=>Aan)),λy hy=>by
   rcases aGF.1 hy with h1|h1
   .exact WB
   .exact⟨aGq (hF y h1).1 h02,by rw [fE (hF y h1).1];exact(hF y h1).2⟩⟩)))
 have Ol:=Hq (λW'' (ho:Out c w W' W'')=>(show GR.At mE 7 W'' ma L1 from(by
  obtain⟨F,hk,hF⟩:=ho
  exact aer _ ⟨(w.heap.size+2)::F,aC.trans (b:=W') (fU.mono (λx hx=>Aba)) (hk.mono (λx hx=>Aan)),λy hy=>by
   rcases aGF.1 hy with h1|h1
   .exact WB
   .exact⟨aGq (hF y h1).1 h02,by rw [fE (hF y h1).1];exact(hF y h1).2⟩⟩)))
 have pO:Hid (Below B w W'):=HB3.trans (fU.below (λx hx=>by have:x=w.heap.size+2:=Aah;omega) (aGm hB HB3.size));have uy:=Hq (Apart.keeps (c:=c) JE HB3.size fU (λx hx=>by have:x=w.heap.size+2:=Aah;omega));obtain⟨x0,x1,x2,x3,x4,x5,x6,x7,x8⟩:=nine e4;clear hW' e4 fU;exact aGn (v:= .tuple #[(gP N1 A1),.slice ma L1.length mc,.int .i64 CX]) Abr rfl ⟨A1,ma,mc,rfl,HAT,Ol,pO,uy⟩):P:=h
theorem atg.Ae2(h:P:=by
 have e4:W'.heap[w.heap.size+2]?=some (.cells (dG n A1) 40 (0,0)):=by
  rw [hW'];exact GR.setW_blk (dG n A1).toList (o:=0) (xs:=iP.toList) lV
 have hkc:KC cc 0 W3 W':=by
  rw [hW'];exact KC.setW (o:=0) (dG n A1).toList (mZ.lo _ hrs)
 have HAT:=Hq (λW'' (ho:Ez w W' W'')=>((mZ.kc0 hkc).kc0 (ho.kc (λx hx=>mZ.lo x Aaa))).rm)
 have pO:Hid (aI w W'):=by
  rw [hW'];exact GR.setW_below Aaa (dG n A1).toList (o:=0) HB3
 obtain⟨x0,x1,x2,x3,x4,x5,x6,x7,x8⟩:=nine e4;clear hW' e4 hkc;exact aGn (v:= .tuple #[(gP n A1),.slice (some ⟨W0.heap.size,0,none⟩) 0 0,.int .i64 3]) Aaz rfl ⟨A1,some ⟨W0.heap.size,0,none⟩,0,rfl,HAT,λW'' _ i hi=>Aas,pO⟩):P:=h
theorem agR(h:P:=by
 obtain⟨d0,d1,d2,d3,d4,d5,d6,d7,d8⟩:=nine mh;have f0:=aj mh 0;have f1:=aj mh 1;have f2:=aj mh 2;have f3:=aj mh 3;have f4:=aj mh 4;have f5:=aj mh 5;have f6:=aj mh 6;have f7:=aj mh 7;have f8:=aj mh 8;have hrl:=aA mh;go_wp2_with fail;refine aP (λW' hW'=>?_);exact Aez):P:=h
theorem ath.Aez(h:P:=by
 have e4:W'.heap[w.heap.size+2]?=some (.cells (dG n A1) 40 (0,0)):=by
  rw [hW'];exact GR.setW_blk (dG n A1).toList (o:=0) (xs:=iP.toList) mh
 have fU:aC [w.heap.size+2] W5 W':=by
  rw [hW'];exact aX (dG n A1).toList W5 0
 have HAT:=Hq (λW'' (ho:Ez w W' W'')=>((SK.kc (k:=9) (KC.keeps fU (λx hx=>by have:x=w.heap.size+2:=Aah;rw [this];exact EI)) Aaa).kc (k:=9) (ho.kc (λx hx=>HC9 x Aaa)) Aaa).rm);open ax4 in exact ah9):P:=h
theorem ati.Aez(h:P:=by
 have e4:W'.heap[w.heap.size+2]?=some (.cells (dG N1 A2) 40 (0,0)):=by
  rw [hW'];exact GR.setW_blk (dG N1 A2).toList (o:=0) (xs:=iP.toList) mh
 have fU:aC [w.heap.size+2] W5 W':=by
  rw [hW'];exact aX (dG N1 A2).toList W5 0
 have HAT:=Hq (λW'' (ho:Ez w W' W'')=>aad W'' (ho.out (c:=c) (fU) hrx HC9));have Ol:=Hq (λW'' (ho:Ez w W' W'')=>aer W'' (ho.out (c:=c) (fU) hrx HC9));open ax3 in exact ah9):P:=h
theorem agS(h:P:=by
 go_wp2_with fail;refine(HP _).mono ?_;rintro e w5 ⟨rfl,hb5⟩;have WL:=aK HR hb5;have hM5:=aK HMB hb5;have hB5:=HB.trans (hb5.mono HB.size);have aFU:=dA hM5;have aFW:=dA WL;obtain⟨⟨d0,d1,d2,d3,d4,d5,d6⟩,f0,f1,f2,f3,f4,f5,f6⟩:=eT WL;have XI:=Hq WL;have iy:=Hq hB5;clear hb5 HR HMB HB q0 q1 q2 q3 q4 q5 q6 HP hzM hzR;exact Aeo):P:=h
theorem atj.Aeo(h:P:=by
 cases hp:cZ ⟨s[0].toNat,N1,N2,N3,N4,TX,N5⟩
 case' false=>
  have hO:OK=false:=by rw [ah HO,hp];simp
  have xS:=Hq (HZ hO)
  clear hO HO HZ HM hM5 WL hB5 hp
  open auj in exact ag6
 have hO:OK=true:=by rw [ah HO,aGk (ah HE),hp];rfl
 have xS:=Hq (HM hO);obtain⟨q0,q1,q2,q3,q4,q5,q6⟩:=uG hM5;clear hO HO HZ HM hM5 WL hB5 hp;open aud in exact ag5):P:=h
theorem atl.Aeo(h:P:=by
 by_cases hp:jU ⟨s[0].toNat,N1,N2,N3,N4,TX,N5⟩=s
 case' neg=>
  have hO:OK=false:=by rw [ah HO,aGi hp];simp
  have xS:=Hq (HZ hO)
  have hq:((jU ⟨s[0].toNat,N1,N2,N3,N4,TX,N5⟩).toList == s.toList)=false:=by
   exact ai7
  clear hO HO HZ HM hM5 WL hB5
  generalize jU ⟨s[0].toNat,N1,N2,N3,N4,TX,N5⟩=pm at *
  have HP:=Hq hp
  clear hp
  open aui in exact ag6
 have hO:OK=true:=by rw [ah HO,aGk hE,aGk hp];rfl
 have xS:=Hq (HM hO);have hq:((jU ⟨s[0].toNat,N1,N2,N3,N4,TX,N5⟩).toList == s.toList)=true:=by rw [hp];simp
 obtain⟨q0,q1,q2,q3,q4,q5,q6⟩:=uG hM5;clear hO HO HZ HM hM5 WL hB5;have HP:=Hq hp;clear hp;generalize jU ⟨s[0].toNat,N1,N2,N3,N4,TX,N5⟩=pm at *;open auc in exact ag5):P:=h
theorem agT(h:P:=by
 obtain⟨g,off,rfl,hgw,c0,c1,c2,c3⟩:=aH.four (GR.At.below HA dS) 0 hlt;simp only[Nat.zero_mul,aIa] at c0 c1 c2 c3;have hgt:decide ((0:Int) < ((0:Nat):Int))=false:=rfl;have og:=Hq hat;have iQ:=Hq (qC (oC l) 0);clear hat;generalize l[0]=pu at *;exact AdS):P:=h
theorem atm.AdS(h:P:=by
 cases hpo:iI pu
 .have HO:=Hq (λw1=>qp pu false w1 hpo);have HBAD:=Hq (oD hlt (show oC l 0=false by rw [ah og,hpo];rfl));clear og iQ hpo;obtain⟨pk,pm,pf,ps⟩:=pu;dsimp only at c0 c1 c2 c3;open anT in exact aa7
 .have HO:=Hq (λw1=>qp pu true w1 hpo);have EL:=Hq (show oC l 0=true by rw [ah og,hpo];rfl);clear og hpo;obtain⟨pk,pm,pf,ps⟩:=pu;dsimp only at c0 c1 c2 c3;open anS in exact aa7):P:=h
end Go.Proofs.YtohmklmkjmlpjaaGreatDoor
