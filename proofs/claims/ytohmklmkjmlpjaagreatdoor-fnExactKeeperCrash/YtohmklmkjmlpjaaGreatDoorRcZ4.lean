/-
  Parts of proofs that stand more than once, each said once.
-/
import Derived.Test.YtohmklmkjmlpjaaGreatDoorRcZ3
namespace Go.Proofs.YtohmklmkjmlpjaaGreatDoor
open Go.Proofs.Tryz
set_option maxRecDepth 100000
variable{P:Prop}
theorem atn.AdS(h:P:=by
 obtain⟨pk,pm,pf,ps⟩:=pu;dsimp only at c0 c1 c2 c3 hks;cases hkb:keyOk pk.data.toList
 .have HB:=Hq hkb;have HBAD:=Hq (oD hlt (show oC l 0=false by rw [ah og];simp[iI,ah HB]));clear og iQ;have hkb':=ah HB;exact Zk1
 have hkb':=hkb;by_cases h1:0<=pm/\pm<=1000000000
 case' neg=>
  have hA:rz pm=false:=aGi h1;have g1:decide (yI pm 0 1000000000)=false:=aGi h1;exact aeZ
 have g1:decide (yI pm 0 1000000000)=true:=aGk h1;have hA1:rz pm=true:=aGk h1;by_cases h2:0<=pf/\pf<=1000000000
 case' neg=>
  have hA:rz pf=false:=aGi h2;have g2:decide (yI pf 0 1000000000)=false:=aGi h2;exact aeZ
 have g2:decide (yI pf 0 1000000000)=true:=aGk h2;have hA2:rz pf=true:=aGk h2;by_cases h3:0<=ps/\ps<=1000000000
 case' neg=>
  have hA:rz ps=false:=aGi h3;have g3:decide (yI ps 0 1000000000)=false:=aGi h3;exact aeZ
 open axx in exact ah0):P:=h
theorem agU(h:P:=by
 have hbd:=zU s 1048600 (l.take k) (λx hx=>HL2 x (List.mem_of_mem_take hx));rw [<-hm,aGG,aHb Aaa] at hbd;obtain⟨hb1,hb2⟩:=hbd;have hm0:0 < m:=Aaa
 have hm1:(m:Int)<=92233720368547758:=Aaa
 exact Ad7):P:=h
theorem ato.Ad7(h:P:=by
 have hS:eF wr a g I (lC s l):=eF.keeps (F:=[]) HA (aC.of_below (dS.mono (aGh _))) (λ_ _=>Aac) (λ_ _=>Aac);obtain⟨b,cc,e0,hg0,⟨s0,s1,s2⟩,_,hI⟩:=eF.three hS k (by rw [jJ];exact hlt);rw [Qz s l k hlt,<-hm] at s0 s1 s2 hI;have xU:=ah HL2 l[k] (aGz hlt);have HE1:Hid (jy s (l.take (k+1))=m+2+(l[k]).ids.length):=Adm
 subst e0;clear hm hS;generalize l[k]=sk at *;obtain⟨fr,lo,ids⟩:=sk;unfold mSn at s0 s1 s2 hI;rw [gU mkInt 1 (m+2) ids ids.length (aGh _)] at s2;dsimp only at s0 s1 s2 hI xU HE1;have HH:=Hq (λz (hz:z=((m+2:Nat):Int))=>PU b (I k) cc ids.length (m+2) z ids wr hz rfl Aaa Aaa xU hI);clear hI;go_wp2_with (go_at_call 90;refine(HH _ Aaa).mono ?_;rintro e w1 ⟨rfl,hb5⟩;have rZ:=Hq (dS.trans (hb5.mono dS.size));clear hb5)
 go_roundw
 case rel=>exact⟨k+1,m+2+ids.length,Aaa,Aaf,Aaf,HE1.symm,rZ⟩
 case measure=>simp[intOf];omega):P:=h
theorem atp.Ad7(h:P:=by
 have hk':k < (Et s l k).length:=by rw [uT s l k hk];exact hlt
 obtain⟨b,cc,e0,hg0,⟨s0,s1,s2⟩,⟨f0,f1⟩,hI⟩:=eF.three HR k hk';have hpos:0 < l.length:=Aaa
 have aly:g∈fp g l:=dX hpos
 have HNE:Hid (∀x∈nA I (Et s l k),x≠g):=by
  rw [wZ (uT s l k hk) (λi h1 h2=>Xb s l k hk i h1 h2)];exact λx hx e=>HND.2.2 g aly x hx e.symm
 have HNI:Hid ((nA I (Et s l k)).Nodup):=by
  rw [wZ (uT s l k hk) (λi h1 h2=>Xb s l k hk i h1 h2)];exact HND.2.1
 have xU:=ah HL2 l[k] (aGz hlt);have hat:=ac8 s l k hlt;rw [hat] at s0 s1 s2 hI;have HPT:=Hq (eF.put HR k hk' (m:Int) ((m:Int)+1) HNE);rw [hat] at HPT;have HSE:=Hq (Xc s l k hlt);have HIK:=Hq (jI (I:=I) hlt);subst e0;have HI:=Hq hI;have HE1:Hid (jy s (l.take (k+1))=m+2+(l[k]).ids.length):=Adm
 have HMS:Hid (mSn (jy s (l.take k)) l[k]=⟨(m:Int),(m:Int)+1,nN mkInt 1 (m+2) (l[k]).ids (l[k]).ids.length⟩):=by rw [<-hm];rfl
 clear hm hI hat;have hmz:(Et s l k)[k]=l[k]:=ac8 s l k hlt;have HMZ:=Hq hmz;clear hmz;generalize l[k]=sk at *;obtain⟨fr,lo,ids⟩:=sk;dsimp only at s0 s1 s2 HI xU HPT HIK HE1 HMS;go_wp2_with fail;have uO:aC [g] wr ((wr.setCell ⟨g,k*3,none⟩ (.int .i64 (m:Int))).setCell ⟨g,k*3+1,none⟩ (.int .i64 ((m:Int)+1))):=(aC.set _).trans (aC.set _)
 have hI2:=HI.keeps uO (λx hx=>by
  have h1:=ah HIK x hx
  have h2:=HND.2.2 g aly x h1
  simp
  exact λe=>h2 e.symm)
 have hc2:((wr.setCell ⟨g,k*3,none⟩ (.int .i64 (m:Int))).setCell ⟨g,k*3+1,none⟩ (.int .i64 ((m:Int)+1))).cell? ⟨g,k*3+2,none⟩=some (.slice b ids.length cc):=(aHy _ _ _ _ Aac).trans ((aHy _ _ _ _ Aac).trans s2);have EI:=Hq hc2;have HKK:=Hq uO;refine(QB b (I k) cc (m+2) _ ids _ Aaa Aaa Aaa xU hI2).mono ?_;rintro e w2 ⟨rfl,hW2,hK2⟩
 have zB:Hid (eF w2 (some ⟨g,0,none⟩) g I (Et s l (k+1))/\aC (fp g l++nA I l) w w2):=by
  have hk2:k < ((Et s l k).set k ⟨(m:Int),(m:Int)+1,ids⟩).length:=by simpa using hk'
  have hcg:nA I ((Et s l k).set k ⟨(m:Int),(m:Int)+1,ids⟩)=nA I (Et s l k):=wZ Aac (λi h1 h2=>by
   by_cases hik:i=k
   .subst hik;rw [aGO,ah HMZ]
   .rw [aGQ Aaa])
  have hx:=eF.ids HPT k hk2 b cc (nN mkInt 1 (m+2) ids ids.length) (by rw [aGO];exact EI) (by rw [aGO];exact gU mkInt 1 (m+2) ids ids.length (aGh _)) hW2 (by rw [aGO];exact hK2) (by rw [hcg];exact HNE) (by rw [hcg];exact HNI);rw [aGO,List.set_set] at hx;dsimp only at hx;rw [<-ah HMS,ah HSE] at hx;refine⟨hx,(HK.trans (HKK.mono (λx hx=>?_))).trans (hK2.mono (λx hx=>aHC _ (HIK x hx)))⟩;have:x=g:=Aah
  rw [this];exact aG5 _ aly
 clear hW2 hK2 hc2 uO hI2;go_wp2_with fail;go_roundw
 case rel=>exact⟨k+1,m+2+ids.length,Aaa,Aaf,Aaf,HE1.symm,zB.1,zB.2⟩
 case measure=>simp[intOf];omega):P:=h
theorem agV(h:P:=by
 obtain⟨d0,d1,d2,d3,d4,d5,d6,d7,d8⟩:=nine Oo;have f0:=aj Oo 0;have f1:=aj Oo 1;have f2:=aj Oo 2;have f3:=aj Oo 3;have f4:=aj Oo 4;have f5:=aj Oo 5;have f6:=aj Oo 6;have f7:=aj Oo 7;have f8:=aj Oo 8;have hrl:=aA Oo;go_simp;exact AdK):P:=h
theorem atq.AdK(h:P:=by
 have hkx:aC [w.heap.size+2] x (GR.setW x (w.heap.size+2) 0 (dG n A1).toList):=aX (dG n A1).toList x 0;refine⟨hkx.below (λx hx=>by have:x=w.heap.size+2:=Aah;omega) (by have:=aA Oo;omega),?_⟩;have BG:=Hq ((aC.of_below hx).trans hkx);have HR1:=Hq (GR.setW_blk (dG n A1).toList (o:=0) (xs:=iP.toList) Oo);clear hx hkx d0 d1 d2 d3 d4 d5 d6 d7 d8 f0 f1 f2 f3 f4 f5 f6 f7 f8 hrl Oo;refine gL 10 rfl Aab Aad Aae (λy hy=>?_);go_simp;have uw:=Hq (BG.trans (aC.of_below hy));have HR2:=Hq (au HR1 hy);clear hy BG HR1;refine⟨(ay y _).mono (by have:=aA HR2;omega),?_⟩;refine qd Aab (λz hz=>?_);have JR:=Hq (au (au HR2 (ay y (.cells (bX 0 n.id n.par 0 0 k nn) 98))) hz);have fU:aC [w.heap.size+2] X z:=uw.trans ((aC.of_below (ay y (.cells (bX 0 n.id n.par 0 0 k nn) 98))).trans (aC.of_below hz));have HMZ:=Hq (au (aGg y (.cells (bX 0 n.id n.par 0 0 k nn) 98)) hz);have hmb:w.heap.size<=y.heap.size:=by have:=aA HR2;omega
 clear hz uw HR2;open apl in exact ayu):P:=h
theorem atr.AdK(h:P:=by
 have fU:aC [w.heap.size+2] y (GR.setW y (w.heap.size+2) 0 (dG n A1).toList):=aX (dG n A1).toList y 0;refine⟨fU.below (λx hx=>by have:x=w.heap.size+2:=Aah;omega) (by have:=aA Oo;omega),?_⟩;clear fU d0 d1 d2 d3 d4 d5 d6 d7 d8 f0 f1 f2 f3 f4 f5 f6 f7 f8 hrl;refine qd Aab (λz hz=>?_);have JR:=Hq (au (GR.setW_blk (dG n A1).toList (o:=0) (xs:=iP.toList) Oo) hz);have fU:aC [w.heap.size+2] X z:=(aC.of_below HY).trans ((aX (dG n A1).toList y 0).trans (aC.of_below hz));have HMZ:=Hq (au ((aX (dG n A1).toList y 0).obj HMY (λhm=>by have:x.heap.size=w.heap.size+2:=Abb;omega)) hz);clear hz HY Oo HMY;have hmb:w.heap.size<=x.heap.size:=Aaa
 open apm in exact ayu):P:=h
theorem agW(h:P:=by
 clear hr hc2 hc3;go_in
 go_wp2_with (first|(go_at_call_of 100 F;refine(H1 _).mono ?_;rintro e w1 ⟨rfl,rfl⟩)|(go_at_call_of 100 T;refine(H2 _).mono ?_;rintro e w1 ⟨rfl,rfl⟩)|(go_at_call_of 52 k;refine(EI _).mono ?_;rintro e w1 ⟨rfl,rfl⟩)|(go_at_call_of 49 N;refine(HC3 _).mono ?_;rintro e w1 ⟨rfl,rfl⟩))
 exact AdD):P:=h
theorem att.AdD(h:P:=by
 go_ret;exact⟨aF (by first|exact HP.symm|exact he.trans HP.symm),ay w _⟩):P:=h
theorem atu.AdD(h:P:=by
 exact xQ):P:=h
theorem agX(h:P:=by
 obtain⟨c0,c1,c2,c3,c4,c5,c6,c7,c8⟩:=nine BF;have k0:=cell_grown' c0;have k1:=cell_grown' c1;have k2:=cell_grown' c2;have k3:=cell_grown' c3;have k4:=cell_grown' c4;have k5:=cell_grown' c5;have k6:=cell_grown' c6;have k7:=cell_grown' c7;have k8:=cell_grown' c8;have m0:=cell_grown' d0;have m1:=cell_grown' d1;have m2:=cell_grown' d2;exact AeB):P:=h
theorem atv.AeB(h:P:=by
 have m3:=cell_grown' d3;have en:IntKind.i64.wrap (old+1)=old+1:=IntWalk.i64_in _ ⟨Aaa,Aaa⟩;go_cut [151] (λr wx=>r= .bool bb/\aI W1 wx)
 case first=>
  rcases DU with⟨rfl,rfl⟩|⟨j,y,rfl,rfl,q1⟩
  .have hgt:decide ((0:Int) < ((0:Nat):Int))=false:=rfl;open aCn in exact Yk6
  .have hgt:decide ((0:Int) < ((j+1:Nat):Int))=true:=aGk Aaa;have m9:=cell_grown' q1;open aCm in exact Yk6
 case rest=>
  obtain⟨rfl,hbx⟩:=hcut;open auB in exact Wp):P:=h
theorem atw.AeB(h:P:=by
 go_cut [64] (λr wx=>r= .bool bb/\aI W1 wx)
 case first=>
  rcases DU with⟨rfl,rfl⟩|⟨j,y,rfl,rfl,q1⟩
  .have hgt:decide ((0:Int) < ((0:Nat):Int))=false:=rfl;open aqj in exact ayz
  .have hgt:decide ((0:Int) < ((j+1:Nat):Int))=true:=aGk Aaa;have m3:=cell_grown' q1;open aqi in exact ayz
 case rest=>
  obtain⟨rfl,hbx⟩:=hcut;have HW2:=Hq (au HW1 hbx);open auA in exact Wp):P:=h
theorem Wl(h:P:=by
 refine aHf ?_;show wpList _ _ _ [_,_,_,_,_] _ _
 refine aGP Aad (λK hK=>?_);go_simp;refine hK _ _ ?_;clear hK K;exact AbB):P:=h
theorem atx.AbB(h:P:=by
 refine aHV rfl 40 (.tmp 5) rfl w.heap.size 0 rfl (dG b A1).toList _ hr0 underlying40 rfl Aab ?_;go_wp2_with fail;refine(VP W0 HB0).mono ?_;rintro e W1 ⟨rfl,hk⟩;have BG:=Hq (au Hy hk);have HB1:=Hq (HB0.trans (hk.mono HB0.size));clear hk hr0 Hy HB0 VP;obtain⟨_,hr1⟩:=wK BG;go_upto_region 4 with fail;open aqt in exact aeR):P:=h
theorem aty.AbB(h:P:=by
 refine aHV rfl 40 (.tmp 5) rfl w.heap.size 0 rfl (dG k.base A.b).toList _ hr0 underlying40 rfl Aab ?_;go_wp2_with fail;refine(VP W0 HB0).mono ?_;rintro e W1 ⟨rfl,hm,hk⟩;have HB1:=Hq hm;have vZ:=Hq (jd.keeps Ig hk (λx hx hx2=>HD.1 x hx2 hx));have HW1:=Hq (HW0.keepsL hk (λx hx=>(HD.2 x hx).1));have HA1:=Hq (HA0.keepsL hk (λx hx=>(HD.2 x hx).1));have BG:=Hq (hk.obj Hy (λhx=>HNE _ Aan rfl));have yF:=Hq (qg.trans (hk.mono (λx hx=>Aan)));clear hm hk hr0 HB0 Ig HW0 HA0 Hy qg VP;obtain⟨_,hr1⟩:=wK BG;go_upto_region 2 with fail;open aqu in exact aeR):P:=h
theorem atz.AbB(h:P:=by
 refine aHV rfl 28 (.tmp 4) rfl w.heap.size 0 rfl (dG k.base A.b).toList _ (LD.rng 0 _ rfl) underlying28 rfl Aab ?_;go_wp2_with fail;refine(H1 _ LD.b).mono ?_;rintro e x ⟨A1,rfl,G1,hN,hS,hb⟩;have hs0:=LD.s;have LC:=Hq (LD.step hb (λW'=>jd W' A1 G1 k.base/\x.heap.size<=W'.heap.size) (λW' hk=>⟨hN.keeps hk (λy hy hm=>by have:=hS.rng y hy;simp at hm;omega),hk.size⟩));have HR1:=Hq (show(∀y∈G1.all k.base,w.heap.size<=y/\y < x.heap.size)/\w.heap.size<=x.heap.size from⟨λy hy=>by have:=hS.rng y hy;omega,by have:=hb.size;omega⟩);have HD1:=Hq hS.nodup;clear hN hS hb hs0 LD H1;generalize hs1:x.heap.size=s1 at *;clear hs1;open awX in exact aaZ):P:=h
theorem atA.AbB(h:P:=by
 exact AbE):P:=h
theorem agY(h:P:=by
 obtain⟨g,rfl,hS,hg,hcw⟩:=(HW.scr HK) k hlt;have HS:=Hq hS;clear hS;obtain⟨v0,q0⟩:=aGT.1 (hcw 0 Aaa).1;have f0:=(hcw 0 Aaa).2;simp only[aIa] at q0 f0;obtain⟨v1,q1⟩:=aGT.1 (hcw 1 Aaa).1;have f1:=(hcw 1 Aaa).2;exact Aem):P:=h
theorem atC.Aem(h:P:=by
 open arf in exact ayL):P:=h
theorem atD.Aem(h:P:=by
 open an1 in exact ayp):P:=h
theorem agZ(h:P:=by
 obtain⟨v9,q9⟩:=aGT.1 (hcw 9 Aaa).1;have f9:=(hcw 9 Aaa).2;obtain⟨v10,Xk⟩:=aGT.1 (hcw 10 Aaa).1;have f10:=(hcw 10 Aaa).2;obtain⟨v11,q11⟩:=aGT.1 (hcw 11 Aaa).1;have f11:=(hcw 11 Aaa).2;clear hcw;go_wp2_with fail;exact AcT):P:=h
theorem atE.AcT(h:P:=by
 exact AcX):P:=h
theorem atF.AcT(h:P:=by
 refine(Nv _ _ Aaa Aaa).mono ?_;rintro e w10 ⟨t9,rfl,hb⟩;have amT:=Hq (oh.below (oh.set (oh.set (oh.set (oh.set (oh.set (oh.set (oh.set JE HS _ _) HS _ _) HS _ _) HS _ _) HS _ _) HS _ _) HS _ _) hb);have aFj:g < w10.heap.size:=aGq hg3 (by have:=hb.size;simpa using this);clear hb q2 f2 q3 f3 q4 f4 q5 f5 q6 f6 q7 f7 q8 f8 q9 f9 Xk f10 q11 f11 JE;obtain⟨gg,eg,_,_,hcw⟩:=(HW.scr amT) k hlt;cases eg
 open aqn in exact ayB):P:=h
theorem ag0(h:P:=by
 clear HR;clear ho hk hn;go_in
 go_wp2_with (first|(go_at_call_of 169 no;refine(HO _).mono ?_;rintro e w1 ⟨rfl,rfl⟩)|(go_at_call_of 204 k;refine(HK _).mono ?_;rintro e w1 ⟨rfl,rfl⟩)|(go_at_call_of 169 n;refine(HN _).mono ?_;rintro e w1 ⟨rfl,rfl⟩))
 exact Ac2):P:=h
theorem atH.Ac2(h:P:=by
 go_region
 go_upto_region 23 with fail;open avD in exact Ws):P:=h
theorem atI.Ac2(h:P:=by
 go_ret;exact⟨aF (by rw [ah HP];simp),by first|exact jP w _ _|exact Below.setNew (jP w _ _) Aaa⟩):P:=h
theorem Wm(h:P:=by
 have hlo:=h.o.lt;have mZ:=Hq (h.nine hB);clear h;go_in
 go_upto_region 1 with fail;refine wp_at (λW0 hW=>?_);exact AbI):P:=h
theorem atJ.AbI(h:P:=by
 obtain⟨e1,e2,e3⟩:=gQ w (.cells (dG n A) 40) (.cells iP 40);open aoC in exact akF):P:=h
theorem atK.AbI(h:P:=by
 obtain⟨e1,e2,e3⟩:=gQ w (.cells (dG n A) 40) (.cells iP 40);open awf in exact ahA):P:=h
theorem atL.AbI(h:P:=by
 obtain⟨e1,e2,e3⟩:=gQ w (.cells (dG n (⟨a_k,(some ⟨gp,0,none⟩),fP,gN,gX,bf,dJ,bJ,bg,bC⟩:bV)) 40) (.cells iP 40);open aoD in exact akF):P:=h
theorem atM.AbI(h:P:=by
 obtain⟨e1,e2,e3⟩:=gQ w (.cells (dG n (⟨a_k,ku,fP,gN,gX,bf,dJ,bJ,bg,bC⟩:bV)) 40) (.cells iP 40);open aoE in exact akF):P:=h
theorem ag1(h:P:=by
 have hp0:w1.cell? ⟨w.heap.size,0,none⟩=some (.string pk):=by rw [aGu w1 _ _ _ _ (0,0) (ah yg)];rfl
 exact Afb):P:=h
theorem atN.Afb(h:P:=by
 go_upto_region 7 with fail;go_cut [51] (λr wx=>r= .bool (found l pk)/\∃q,wx=w1.drewN q)
 case first=>
  by_cases hlt:place l pk < l.length
  .have hf:found l pk=(l[place l pk].k.toList == pk.toList):=by
    unfold found;rw [jQ,aG1 hlt]
   obtain⟨g1,o1,e1,hg1,s0,s1,s2,s3⟩:=aH.four (GR.At.below HA HB1) (place l pk) hlt;open axk in exact ahX
  .have hf:found l pk=false:=by
    unfold found;rw [jQ,aHA Aaa]
   have HF:=Hq hf;have hpos:decide (0 < l.length - place l pk)=false:=aGi Aaa;have aEm:l.length - place l pk=0:=Aaa
   clear hf;go_quiet (fail);go_wp2_with fail;go_meet
   case rel=>exact⟨by rw [ah HF],_,BR w1 _ _⟩
 case rest=>
  obtain⟨rfl,q2,rfl⟩:=hcut;go_upto_if 51 with fail;go_cut [9] (λr wx=>∃(ad':Addr) (cc:Nat),r= .slice (some ad') (lD l pk).length cc/\aH w1 (some ad') (lD l pk)/\∃q,wx=w1.drewN q)
  case first=>
   have HA1:=Hq (GR.At.below HA HB1);cases hf:found l pk
   .have ES:=Hq (tail_not hf);have HAE:=Hq hAe;clear hAe hAd;go_wp2_with fail;go_meet
    case rel=>
     refine⟨ad,cap - place l pk,by rw [ah ES,aGS],?_,_,rfl⟩;rw [ah ES];by_cases hlt:place l pk < l.length
     .rw [ah HAE hlt];exact VI HA1 (place l pk)
     .exact VJ (aHA Aaa)
   .obtain⟨hlt,htl⟩:=tail_found hf;have ES:=Hq htl;have hae:=hAe hlt;subst hae;clear htl hAe hAd
    obtain⟨ad2,aFc,aDH⟩:∃ad2:Addr,(if cap - place l pk=1 then some (⟨b,off+place l pk*4,none⟩:Addr) else some ⟨b,off+place l pk*4+4,none⟩)=some ad2/\(place l pk+1 < l.length->ad2=⟨b,off+place l pk*4+4,none⟩):=by
     by_cases h:cap - place l pk=1
     .rw [aGC h];exact⟨_,rfl,λh2=>Aaa⟩
     .rw [aGr h];exact⟨_,rfl,λ_=>rfl⟩
    have hone:1<=l.length - place l pk:=Aaa
    go_wp2_with fail;go_meet
    case rel=>
     refine⟨ad2,cap - place l pk - 1,by rw [ah ES,aGS,Nat.sub_sub],?_,_,rfl⟩;rw [ah ES];by_cases hlt2:place l pk+1 < l.length
     .rw [aDH hlt2];have:=VI HA1 (place l pk+1);rwa [show off+(place l pk+1)*4=off+place l pk*4+4 by omega] at this
     .exact VJ (aHA Aaa)
  case rest=>
   obtain⟨ad',cc,rfl,hta,q3,rfl⟩:=hcut;obtain⟨i0,hi,hz0,hz1,hz2⟩:=aGV FU;obtain⟨hpf,hpn⟩:=put_flat l ⟨pk,pm,pf,ps⟩;have htl:(l.take (place l pk)).length=place l pk:=Aag
   have hkt:∀q∈jr l ⟨pk,pm,pf,ps⟩,q.k.size<=maxLen:=λq hq=>by
    rcases put_mem' hq with rfl|hq
    .exact hpk
    .exact hk q hq
   go_upto_region 9 with fail;refine Fo.wp_at (λV hV=>?_);have Sw:w.heap.size < V.heap.size:=by rw [hV];exact Fo.lt_of_blk yg
   have wY:=Hq (show aI w V by rw [hV];exact HB1.trans ⟨rfl,rfl,rfl,aGh _,λ_ _=>rfl⟩);have hblk:V.heap[w.heap.size]?=some (.cells (jh pk pm pf ps) 108 (0,0)):=by rw [hV];exact yg
   have HTA:=Hq (show aH V (some ad') (lD l pk) by rw [hV];exact hta);obtain⟨⟨c0,c1,c2,c3⟩,_⟩:=gu hblk;have XD:=Hq (λX (hb:aI V X)=>aH.news (GR.At.below HTA hb));have Oi:=Hq (λX (hb:aI V X)=>M7 (some ⟨b,off,none⟩) cap (l.take (place l pk)) X Aaa (λh=>Aat) (GR.At.below (aej (GR.At.below HA wY) _) hb));have HCA:=Hq (λX (hb:aI w X)=>M7 (some ⟨b,off,none⟩) cap l X Aaa (λh=>Aat) (GR.At.below HA hb));have HPF:=Hq hpf;have HPN:=Hq hpn;rw [htl] at Oi;have hnw:w.heap.size≠V.heap.size:=Aaa
   have hmw:V.heap.size≠w.heap.size:=Aaa
   have aE8:(lD l pk).length<=20:=by
    have h3:=tail_len l pk;omega
   clear hV hblk hta hp0 oN yg htl hAd hAe hpf hpn
   go_region_held_law (λw'=>w'.cell? ⟨w.heap.size,0,none⟩=some (.string pk)/\w'.cell? ⟨w.heap.size,1,none⟩=some (.int .i64 pm)/\w'.cell? ⟨w.heap.size,2,none⟩=some (.int .i64 pf)/\w'.cell? ⟨w.heap.size,3,none⟩=some (.int .i64 ps)) (go_keep)
    (first
     |((go_at_call 80);(refine(Oi _ (by exact⟨rfl,rfl,rfl,Aac,λk hk=>by first|rfl|exact aGv _ _ _ hk⟩)).mono ?_);(rintro e w4 ⟨vc,rfl,hv4,Ae,hb4⟩);(have hs4:=hb4.size);(try simp at hs4);(have nG:=Hq (show aI V w4 from Below.trans (b:=_) (by exact⟨rfl,rfl,rfl,Aac,λk hk=>by first|rfl|exact aGv _ _ _ hk⟩) (hb4.mono Aac)));(have SL:=Hq (own_lower (b':=V.heap.size) Ae Aac));(first|(guard_hyp hs4:V.heap.size+1<=w4.heap.size;have HN4:=Hq (Fo.one_block (show Below (V.alloc (.cells (jh pk pm pf ps) 108)).heap.size (V.alloc (.cells (jh pk pm pf ps) 108)) w4 from⟨hb4.os,hb4.tape,hb4.output,hb4.size,hb4.block⟩)).1)|skip);(have d0:=(nG.cell (p:=⟨w.heap.size,0,none⟩) Sw).trans c0);(have d1:=(nG.cell (p:=⟨w.heap.size,1,none⟩) Sw).trans c1);(have d2:=(nG.cell (p:=⟨w.heap.size,2,none⟩) Sw).trans c2);(have d3:=(nG.cell (p:=⟨w.heap.size,3,none⟩) Sw).trans c3);(have hn4:w.heap.size≠w4.heap.size:=by omega);(have hm4:w4.heap.size≠w.heap.size:=by omega);(clear hb4 Ae hv4))
     |((guard_hyp hs4:V.heap.size+1<=w4.heap.size);(refine pE _ rfl (.tmp 57) (.tmp 59) 35 rfl V.heap.size 108 i0 (.agg (jh ByteArray.empty 0 0 0)) 4 40 underlying35 hi hz0 hz1 hz2 rfl Aae vc (place l pk) (GR.flat fD (l.take (place l pk))) Aak SL ⟨V.heap.size,0,none⟩ 1 1 (fD ⟨pk,pm,pf,ps⟩) Aak rfl (aG3 HN4) (J4 ⟨pk,pm,pf,ps⟩) Aai Aaa nG.size ?_);(intro v5 w5 hown5 hgr5 FE);(have JJ:=Hq hown5);(have HV5:=Hq (show v5≠ .slice none 0 0 by first|exact FE|exact λh=>absurd (FE.1 h).2 Aae));(have iy:=Hq (show aI V w5 from nG.trans (uN hgr5 (λk e=>(SL.lt k e).1) nG.size)));(have e0:=(iy.cell (p:=⟨w.heap.size,0,none⟩) Sw).trans c0);(have e1:=(iy.cell (p:=⟨w.heap.size,1,none⟩) Sw).trans c1);(have e2:=(iy.cell (p:=⟨w.heap.size,2,none⟩) Sw).trans c2);(have e3:=(iy.cell (p:=⟨w.heap.size,3,none⟩) Sw).trans c3);(clear hown5 hgr5 FE))
     |((guard_hyp hs4:V.heap.size<=w4.heap.size);(refine pE _ rfl (.tmp 57) (.tmp 59) 35 rfl V.heap.size 108 i0 (.agg (jh ByteArray.empty 0 0 0)) 4 40 underlying35 hi hz0 hz1 hz2 rfl Aae vc (place l pk) (GR.flat fD (l.take (place l pk))) Aak (SL.alloc _) ⟨w4.heap.size,0,none⟩ 1 1 (fD ⟨pk,pm,pf,ps⟩) Aak rfl (aG3 (aGg w4 _)) (J4 ⟨pk,pm,pf,ps⟩) Aai Aaa (aGm nG.size Aac) ?_);(intro v5 w5 hown5 hgr5 FE);(have JJ:=Hq hown5);(have HV5:=Hq (show v5≠ .slice none 0 0 by first|exact FE|exact λh=>absurd (FE.1 h).2 Aae));(have iy:=Hq (show aI V w5 from(nG.alloc nG.size _).trans (uN hgr5 (λk e=>(SL.lt k e).1) (aGm nG.size Aac))));(have e0:=(iy.cell (p:=⟨w.heap.size,0,none⟩) Sw).trans c0);(have e1:=(iy.cell (p:=⟨w.heap.size,1,none⟩) Sw).trans c1);(have e2:=(iy.cell (p:=⟨w.heap.size,2,none⟩) Sw).trans c2);(have e3:=(iy.cell (p:=⟨w.heap.size,3,none⟩) Sw).trans c3);(clear hown5 hgr5 FE))
     |((refine pE _ rfl (.tmp 60) (.tmp 61) 35 rfl V.heap.size 108 i0 (.agg (jh ByteArray.empty 0 0 0)) 4 40 underlying35 hi hz0 hz1 hz2 rfl Aae v5 (place l pk+1) (GR.flat fD (l.take (place l pk))++fD ⟨pk,pm,pf,ps⟩) Aby JJ ad' (lD l pk).length cc (GR.flat fD (lD l pk)) Aby (GR.flat_length fD 4 aU _) (XD _ iy) (Fp _) Aai Aaa iy.size ?_);(intro v6 w6 hown6 rA PZ);(have zu:=Hq (show aI V w6 from iy.trans (uN rA (λk e=>(JJ.lt k e).1) iy.size)));(have HV6:=Hq (show v6≠ .slice none 0 0 by first|exact λh=>HV5 (PZ.1 h).1|exact λh=>HV5 (PZ h).1));(rw [ah HPF,ah HPN] at hown6);(obtain⟨a6,cap6,rfl,aAu⟩:=GR.own_at aU hown6);(have HO6:=Hq hown6);(have HT6:=Hq aAu);(have f0:=(zu.cell (p:=⟨w.heap.size,0,none⟩) Sw).trans c0);(have f1:=(zu.cell (p:=⟨w.heap.size,1,none⟩) Sw).trans c1);(have f2:=(zu.cell (p:=⟨w.heap.size,2,none⟩) Sw).trans c2);(have f3:=(zu.cell (p:=⟨w.heap.size,3,none⟩) Sw).trans c3);(clear hown6 rA PZ aAu))
     |fail)
   all_goals
    have ajY:(jr l ⟨pk,pm,pf,ps⟩).length<=1048600:=by have:=ah HPN;omega
    have amI:=Hq (wY.trans (zu.mono Aaa))
    have HSO:=Hq (qc a6 cap6 (jr l ⟨pk,pm,pf,ps⟩) w6 ajY hkt HT6)
    clear ajY d0 d1 d2 d3 e0 e1 e2 e3 f0 f1 f2 f3 c0 c1 c2 c3 XD Oi
    go_wp2_with fail
    refine HSO.mono ?_
    rintro e w7 ⟨rfl,wm⟩
    have Ht:=Hq (amI.trans (wm.mono amI.size))
    have HO7:=Hq (own_lower (b':=w.heap.size) (HO6.kept (row:=none) ⟨wm.os,wm.tape,wm.output,wm.size,λk hk _=>wm.block k hk⟩ (adz _)) Aaa)
    clear wm HSO
    cases hps:jD (jr l ⟨pk,pm,pf,ps⟩)
    .have HWF:=Hq (show rR l ⟨pk,pm,pf,ps⟩ n=(l,false) by rw [ah HW,hps];rfl);have HCX:=Hq (HCA _ Ht);clear hps HW HCA;go_wp2_with fail;refine HCX.mono ?_;rintro e w8 ⟨v8,rfl,hv8,P5,Iz⟩;have HV8:=Hq hv8;have HO8:=Hq (own_lower (b':=w.heap.size) P5 Ht.size);have Z4:=Hq (Ht.trans (Iz.mono Ht.size));clear P5 Iz hv8;go_wp2_with fail;rw [ah HWF];exact aGn (v:= .tuple #[v8,.bool false]) Acz rfl ⟨v8,rfl,HV8,HO8,Z4⟩
    .have HWF:=Hq (show rR l ⟨pk,pm,pf,ps⟩ n=(jr l ⟨pk,pm,pf,ps⟩,true) by rw [ah HW,hps];rfl);clear hps HW HCA;go_wp2_with fail;rw [ah HWF];exact aGn (v:= .tuple #[.slice a6 (jr l ⟨pk,pm,pf,ps⟩).length cap6,.bool true]) Acz rfl ⟨_,rfl,HV6,HO7,Ht⟩):P:=h
theorem atO.Afb(h:P:=by
 by_cases hlt:k < l.length
 .obtain⟨g1,o1,e1,hg1,s0,s1,s2,s3⟩:=aH.four (GR.At.below HA HB1) k hlt;open axj in exact ahX
 .open aoe in exact vT):P:=h
theorem aaJ(h:P:=by
 obtain⟨hil,afu⟩:=(oI n.reqs o.no).1 hf;have hgd:n.reqs.getD (eu n.reqs o.no) default=n.reqs[eu n.reqs o.no]:=by rw [aGK,aGo hil];rfl
 exact AbZ):P:=h
theorem atP.AbZ(h:P:=by
 rw [hgd] at hs ⊢;open awj in exact aaV):P:=h
theorem atQ.AbZ(h:P:=by
 have hR:fQ n o.no o.k o.n=(n,if Gp n.reqs[eu n.reqs o.no] o.k o.n=true then 0 else 1):=by
  unfold fQ;rw [aGr hc,aGC hf,hgd]
 have HSQ:=Hq (show Gp n.reqs[eu n.reqs o.no] o.k o.n=((n.reqs[eu n.reqs o.no].k.toList == o.k.toList)&&decide (n.reqs[eu n.reqs o.no].n=o.n)&&decide (n.reqs[eu n.reqs o.no].s=0)) by unfold Gp;rw [Bool.and_assoc,Bool.and_comm]);have HAD:=Hq hR;generalize fQ n o.no o.k o.n=RES at *;have hd:decide (o.no<=n.old)=false:=aGi hc;open awi in exact aaV):P:=h
theorem atS.AbZ(h:P:=by
 rw [hgd] at hs;open awh in exact aaV):P:=h
theorem ag2(h:P:=by
 have pO:Hid (Below B w W'):=vY.trans (fU.below (λx hx=>by have:x=w.heap.size+2:=Aah;omega) (aGm hB vY.size));have uy:=Hq (Apart.keeps (c:=c) HKA vY.size fU (λx hx=>by have:x=w.heap.size+2:=Aah;omega));obtain⟨x0,x1,x2,x3,x4,x5,x6,x7,x8⟩:=nine e4;clear hW' e4 fU;exact AdI):P:=h
theorem atT.AdI(h:P:=by
 exact aGn (v:= .tuple #[(gP N1 A1),.slice ma L1.length mc,.int .i64 0]) Abr rfl ⟨A1,ma,mc,rfl,HAT,Ol,pO,uy⟩):P:=h
theorem atU.AdI(h:P:=by
 exact aGn (v:= .tuple #[.agg (iT n.id n.par A.k n.kids.length A.ck n.next A.p n.pu.length A.cp a (FL n.out.length).length cp A.s n.seen.length A.cs n.old A.r n.reqs.length A.cr),.slice (some ⟨Z.heap.size,0,none⟩) 0 0,.int .i64 0]) Abr rfl ⟨⟨A.k,A.p,a,A.s,A.r,A.ck,A.cp,cp,A.cs,A.cr⟩,some ⟨Z.heap.size,0,none⟩,0,rfl,HAT,λW'' _ i hi=>Aas,pO,uy⟩):P:=h
theorem ag3(h:P:=by
 open awC in exact aaW):P:=h
theorem atV.Aea(h:P:=by
 exact azt):P:=h
theorem atW.Aea(h:P:=by
 exact aze):P:=h
theorem ag4(h:P:=by
 refine dB Aab ?_;show iq _ _ _ _ 23 (Array.replicate 23 false) _ _
 refine tk [0,1,2,3,4,5,6,7,8,9,10,11,12,13,14,15,16,17,18,19,20,21,22] ?_;iterate 23 (refine BA (λK hK=>?_);go_simp;refine hK _ ?_;clear hK K)
 refine kD ?_;refine fF Aab (λz hz=>?_);exact Afj):P:=h
theorem atY.Afj(h:P:=by
 have HZ:=Hq (HW1.step hz);clear hz y1;go_simp;go_wp2_with fail;go_ret;exact⟨rfl,A,G,c,HZ⟩):P:=h
theorem atZ.Afj(h:P:=by
 have HZ:=Hq ((ay w (.cells (bX mK mF mT mI mL mk mN) 98)).trans (hz.mono Aac));clear hz y4 z3 z5 z6 x1 hlen;go_simp;go_wp2_with fail;go_ret;exact⟨rfl,HZ⟩):P:=h
theorem Wn(h:P:=by
 have Tg:=Hq (λp:Regrown=>hH.below (aHr w p.d p.os));have H:=Hq h;obtain⟨c0,c1,f0,f1⟩:=h.two;clear h hs hH hE f0 f1;exact AbH):P:=h
theorem at6.AbH(h:P:=by
 generalize jc s i=E at *;generalize j6 s i=R at *;go_in
 exact azA):P:=h
theorem at7.AbH(h:P:=by
 generalize jc s i=E at *;generalize j6 s i=R at *;go_in
 exact azB):P:=h
theorem aua.AbH(h:P:=by
 generalize kR s i=E at *;generalize vw s i=R at *;go_in
 exact azA):P:=h
theorem aub.AbH(h:P:=by
 generalize kR s i=E at *;generalize vw s i=R at *;go_in
 exact azB):P:=h
theorem ag5(h:P:=by
 go_wp2_with fail;refine bodyPost_at (λW' hW'=>?_);obtain⟨⟨r0,r1,r2,r3,r4,r5,r6⟩,_⟩:=eT (show W'.heap[w.heap.size]?=some (.cells (bX (s[0].toNat:Int) N1 N2 N3 N4 TX N5) 98 (0,0)) by rw [hW'];exact uf XI);have hbb:aI w W':=by rw [hW'];exact rQ iy (aGh _)
 exact Ae0):P:=h
theorem auc.Ae0(h:P:=by
 exact aGn (v:= .tuple #[.agg (bX (s[0].toNat:Int) N1 N2 N3 N4 TX N5),.bool true]) Adj rfl ⟨Abj,hbb⟩):P:=h
theorem aud.Ae0(h:P:=by
 exact aGn (v:= .tuple #[.agg (bX (s[0].toNat:Int) N1 N2 N3 N4 TX N5),.bool true]) Adi rfl ⟨Abj,hbb⟩):P:=h
theorem Wo(h:P:=by
 have hb0:s[0].toNat < 256:=s[0].toNat_lt;have hw64:wrap64 (s[0].toNat:Int)=(s[0].toNat:Int):=IntWalk.wrap64_in _ ⟨Aaa,Aaa⟩;exact AbJ):P:=h
theorem aue.AbJ(h:P:=by
 clear h;go_in
 go_upto_region 1 with fail;go_quiet (fail);go_upto_region 4 with fail;refine wp_at (λV hV=>?_);have HRV:Hid (jT V g s 1):=by rw [hV];exact(show jT (w.drewN _) g s 0 from H).set 1
 have HKV:Hid (dW g w V):=by rw [hV];exact(dW.of_below (jH w _)).trans (dW.set _)
 clear hV c0 c1 f0 f1;obtain⟨c0,c1,f0,f1⟩:=HRV.two;go_quiet (fail);go_wp2_with fail;go_ret;exact⟨rfl,aK HRV (jH V _),HKV.trans (dW.of_below (jH V _))⟩):P:=h
theorem auf.AbJ(h:P:=by
 go_upto_region 8 with fail;go_region
 go_upto_region 9 with fail;refine wp_at (λV hV=>?_);have hM:V.heap[w5.heap.size+1]?=some (.cells (cu (s[0].toNat:Int) N1 TX N2 mK mF mT mI mL mk mN) 100 (0,0)):=by rw [hV];exact(gQ w5 (.cells (bX mK mF mT mI mL mk mN) 98) _).2.1
 have hlt:=dA XI
 have hB:aI w V:=by
  rw [hV];have h1:=(iy.alloc iy.size (.cells (bX mK mF mT mI mL mk mN) 98)).alloc (by have:=iy.size;simp;omega) (.cells (cu (s[0].toNat:Int) N1 TX N2 mK mF mT mI mL mk mN) 100);exact⟨h1.os,h1.tape,h1.output,h1.size,h1.block⟩
 have hR:V.heap[w.heap.size]?=some (.cells (cu 0 0 ⟨#[]⟩ 0 0 0 0 0 0 ⟨#[]⟩ 0) 100 (0,0)):=by
  rw [hV];have h1:=aGv (w5.alloc (.cells (bX mK mF mT mI mL mk mN) 98)) (.cells (cu (s[0].toNat:Int) N1 TX N2 mK mF mT mI mL mk mN) 100) w.heap.size Aag;have h2:=aGv w5 (.cells (bX mK mF mT mI mL mk mN) 98) w.heap.size hlt;exact h1.trans (h2.trans XI)
 clear hV XI iy hw64 hb0 hlt;have hzM:=dA hM;have hzR:=dA hR;by_cases hE:0<=E
 case' neg=>
  have hO:OK=false:=by rw [ah HO,aGi hE,Bool.false_and,Bool.false_and]
  have xS:=Hq (HZ hO);have hE2:E < 0:=Aaa
  obtain⟨⟨d0,d1,d2,d3,d4,d5,d6,d7,d8,d9,d10⟩,f0,f1,f2,f3,f4,f5,f6,f7,f8,f9,f10⟩:=aL hR;have HR:=Hq hR;have HB:=Hq hB;clear hO HO HZ HM HP hM hR hB hE;exact azK
 have hE2:¬(E < 0):=Aaa
 cases hbd:(decide (B.size=0)||mo)
 case' false=>
  have hO:OK=false:=by rw [ah HO,hbd,Bool.and_false,Bool.false_and]
  have xS:=Hq (HZ hO);simp only[Bool.or_eq_false_iff,aIm] at hbd;obtain⟨hb1,rfl⟩:=hbd;have hbe:=kX B Aaa;obtain⟨⟨d0,d1,d2,d3,d4,d5,d6,d7,d8,d9,d10⟩,f0,f1,f2,f3,f4,f5,f6,f7,f8,f9,f10⟩:=aL hR;have HR:=Hq hR;have HB:=Hq hB;clear hO HO HZ HM HP hM hR hB hE hb1;exact azK
 have HBD:=Hq hbd;obtain⟨q0,q1,q2,q3,q4,q5,q6,q7,q8,q9,Xk⟩:=(aL hM).1;have HR:=Hq hR;have HB:=Hq hB;have HMB:=Hq hM;clear hR hB hM
 have hcond:((!B.toList.isEmpty)&& !mo)=false:=by
  rcases Bool.or_eq_true_iff.1 hbd with h|h
  .have h1:=eq_empty B (aGw h);subst h1;rw [aG8];rfl
  .rw [h];simp
 clear hbd
 have HQ:Hid ((B.toList.isEmpty=true)\/(B.toList.isEmpty=false/\mo=true)):=by
  cases h1:B.toList.isEmpty
  .rw [h1] at hcond;exact .inr ⟨rfl,by simpa using hcond⟩
  .exact .inl rfl
 clear hcond;have HPP:Hid (∀Q:Prop,(B.toList.isEmpty=true->Q)->(B.toList.isEmpty=false->mo=true->Q)->Q):=λQ h1 h2=>HQ.elim h1 (λh=>h2 h.1 h.2)
 clear HQ;refine HPP _ (λhbe=>?_) (λhbe hmo=>?_)
 all_goals
  clear HPP
  go_wp2_with fail
  refine(HP _).mono ?_
  rintro e w7 ⟨rfl,wm⟩
  have HR7:=Hq (aK HR wm)
  have HM7:=Hq (aK HMB wm)
  have Ht:=Hq (HB.trans (wm.mono HB.size))
  have aFV:=dA HM7
  have aFX:=dA HR7
  clear wm HR HMB HB q0 q1 q2 q3 q4 q5 q6 q7 q8 q9 Xk HP hzM hzR
  obtain⟨⟨d0,d1,d2,d3,d4,d5,d6,d7,d8,d9,d10⟩,f0,f1,f2,f3,f4,f5,f6,f7,f8,f9,f10⟩:=aL HR7
  by_cases hp:wP ⟨s[0].toNat,N1,TX,N2,⟨mK,mF,mT,mI,mL,mk,mN⟩⟩=s
  case' neg=>
   have hO:OK=false:=by rw [ah HO,aGi hp,Bool.and_false]
   have xS:=Hq (HZ hO)
   have hq:((wP ⟨s[0].toNat,N1,TX,N2,⟨mK,mF,mT,mI,mL,mk,mN⟩⟩).toList == s.toList)=false:=by
    exact ai7
   clear hO HO HZ HM HBD hp;generalize wP ⟨s[0].toNat,N1,TX,N2,⟨mK,mF,mT,mI,mL,mk,mN⟩⟩=pm at *;go_wp2_with fail;refine iL (λW' hW'=>?_);obtain⟨⟨r0,r1,r2,r3,r4,r5,r6,r7,r8,r9,r10⟩,_⟩:=aL (show W'.heap[w.heap.size]?=some (.cells (cu 0 0 ⟨#[]⟩ 0 0 0 0 0 0 ⟨#[]⟩ 0) 100 (0,0)) by rw [hW'];exact lQ HR7);have hbb:aI w W':=by rw [hW'];exact iR Ht (aGh _)
   exact aGn (v:= .tuple #[.agg (cu 0 0 ⟨#[]⟩ 0 0 0 0 0 0 ⟨#[]⟩ 0),.bool false]) Acy rfl ⟨Abj,hbb⟩
  have hO:OK=true:=by rw [ah HO,aGk hE,ah HBD,aGk hp];rfl
  have xS:=Hq (HM hO)
  have hq:((wP ⟨s[0].toNat,N1,TX,N2,⟨mK,mF,mT,mI,mL,mk,mN⟩⟩).toList == s.toList)=true:=by rw [hp];simp
  obtain⟨⟨q0,q1,q2,q3,q4,q5,q6,q7,q8,q9,Xk⟩,_⟩:=aL HM7
  clear hO HO HZ HM HBD
  have HPX:=Hq hp
  clear hp
  generalize wP ⟨s[0].toNat,N1,TX,N2,⟨mK,mF,mT,mI,mL,mk,mN⟩⟩=pm at *
  go_wp2_with fail
  refine iL (λW' hW'=>?_)
  obtain⟨⟨r0,r1,r2,r3,r4,r5,r6,r7,r8,r9,r10⟩,_⟩:=aL (show W'.heap[w.heap.size]?=some (.cells (cu (s[0].toNat:Int) N1 TX N2 mK mF mT mI mL mk mN) 100 (0,0)) by rw [hW'];exact lQ HR7)
  have hbb:aI w W':=by rw [hW'];exact iR Ht (aGh _)
  exact aGn (v:= .tuple #[.agg (cu (s[0].toNat:Int) N1 TX N2 mK mF mT mI mL mk mN),.bool true]) Acy rfl ⟨Abj,hbb⟩):P:=h
theorem aug.AbJ(h:P:=by
 go_upto_region 6 with fail;go_region
 go_upto_region 7 with fail;refine wp_at (λV hV=>?_);have hM:V.heap[w3.heap.size]?=some (.cells (bX (s[0].toNat:Int) N1 N2 N3 N4 TX N5) 98 (0,0)):=by rw [hV];exact aGg w3 _
 have hlt:=dA HR3
 have hR:V.heap[w.heap.size]?=some (.cells (bX 0 0 0 0 0 ⟨#[]⟩ 0) 98 (0,0)):=by
  rw [hV];show(w3.alloc _).heap[w.heap.size]?=_
  rw [aGv _ _ _ hlt];exact HR3
 have hB:aI w V:=by
  rw [hV];have h1:=HB3.alloc HB3.size (.cells (bX (s[0].toNat:Int) N1 N2 N3 N4 TX N5) 98);exact⟨h1.os,h1.tape,h1.output,h1.size,h1.block⟩
 clear hV HR3 HB3 c0 c1 c2 c3 hg3 HN HT HG hw64 hb0;have hzM:=dA hM;have hzR:=dA hR;by_cases hE:0<=E6
 case' neg=>
  have hO:OK=false:=by rw [ah HO,aGi hE];rfl
  have xS:=Hq (HZ hO)
  have hE2:E6 < 0:=Aaa
  obtain⟨⟨d0,d1,d2,d3,d4,d5,d6⟩,f0,f1,f2,f3,f4,f5,f6⟩:=eT hR
  have HR:=Hq hR
  have HB:=Hq hB
  clear hO HO HZ HM HP hM hR hB hE
  open auv in exact ahb
 have hE2:¬(E6 < 0):=Aaa
 obtain⟨q0,q1,q2,q3,q4,q5,q6⟩:=uG hM;have HR:=Hq hR;have HB:=Hq hB;have HMB:=Hq hM;clear hR hB hM;open atl in exact agS):P:=h
theorem auh.AbJ(h:P:=by
 open asY in exact agL):P:=h
theorem ag6(h:P:=by
 go_wp2_with fail;refine bodyPost_at (λW' hW'=>?_);obtain⟨⟨r0,r1,r2,r3,r4,r5,r6⟩,_⟩:=eT (show W'.heap[w.heap.size]?=some (.cells (bX 0 0 0 0 0 ⟨#[]⟩ 0) 98 (0,0)) by rw [hW'];exact uf XI);have hbb:aI w W':=by rw [hW'];exact rQ iy (aGh _)
 exact Afg):P:=h
theorem aui.Afg(h:P:=by
 exact aiK):P:=h
theorem auj.Afg(h:P:=by
 exact aiJ):P:=h
theorem ag7(h:P:=by
 have Ip:=Hq (GR.own_below ET Mk);have Lr:=Hq (show∀b,((.slice (some ⟨x1.heap.size,0,none⟩) 0 0:Value)).ownBlock=some b->b≠x2.heap.size from λb hb=>by have:=(ET.lt b hb).2;omega);have Ls:=Hq (uq.trans (Mk.mono uq.size));clear Mk;exact AeO):P:=h
theorem auk.AeO(h:P:=by
 generalize acI:x2.alloc (.cells (fH no k nn st) 95)=y2 at *;open au1 in exact ahl):P:=h
theorem aul.AeO(h:P:=by
 generalize acI:x2.alloc (.cells #[.int .i64 mI] 3)=y2 at *;open auZ in exact ahk):P:=h
theorem ag8(h:P:=by
 have hn:=NY (Ei (tl s a));have HS:=Hq (λw1=>adW (Ei (tl s a)) (aGm (Gn _ _) Aai) w1);have HCV:=Hq (λw1 g=>J2 w1 g (lq (Ei (tl s a))) 4 hn);have HCC:=Hq (λw1 (hb:aI w w1)=>uI (hc.below hg hb) a 4 4 Aaa);exact AdM):P:=h
theorem aum.AdM(h:P:=by
 have hqq:((mW (lq (Ei (tl s a)))).toList == (s.extract a (a+4)).toList)=false:=by
  rw [aHS];intro h;rw [aG8,aG8] at h;exact hq (aHE (Array.ext' h))
 open aDj in exact ayj):P:=h
theorem aun.AdM(h:P:=by
 have hqq:((mW (lq (Ei (tl s a)))).toList == (s.extract a (a+4)).toList)=true:=by
  rw [hq];simp
 open aDi in exact ayj):P:=h
theorem ag9(h:P:=by
 have HS:Hid ((s.data.toList.take (k+1)).all Mth.keyByte=((s.data.toList.take k).all Mth.keyByte&&Mth.keyByte s[k])):=by rw [Mth.take_snoc s k hlt];exact Mth.all_snoc _ _
 have hc:s[k].toNat < 256:=s[k].toNat_lt;exact Afl):P:=h
theorem auo.Afl(h:P:=by
 rcases Mth.byte_cases s[k] with h|h
 .have HK:=Hq (Mth.keyByte_yes _ h);rcases h with⟨h1,h2⟩|⟨h1,h2⟩
  all_goals
   go_wp2_with (go_at_call 18;first|(refine(qw _ _ _ _ ?_ ?_).mono ?_;omega;omega;rintro e w' ⟨rfl,rfl⟩)|(refine(tq _ _ _ _ ?_).mono ?_;omega;rintro e w' ⟨rfl,rfl⟩))
   go_round
   case rel=>exact⟨k+1,Aaa,Aaf,Acu⟩
   case measure=>simp[intOf];omega
 .have HK:=Hq (Mth.keyByte_no _ h);have HF:Hid (Mth.keyOk s.data.toList=false):=Mth.keyOk_bad _ (k+1) Acu;rcases h with h1|⟨h1,h2⟩|h1
  all_goals
   go_wp2_with (go_at_call 18;first|(refine(qw _ _ _ _ ?_ ?_).mono ?_;omega;omega;rintro e w' ⟨rfl,rfl⟩)|(refine(tq _ _ _ _ ?_).mono ?_;omega;rintro e w' ⟨rfl,rfl⟩))
   go_ret
   exact⟨aF HF.symm,rfl⟩):P:=h
theorem aup.Afl(h:P:=by
 rcases Mth.byte_cases s[k] with h|h
 .have HK:=Hq (Mth.keyByte_yes _ h);rcases h with⟨h1,h2⟩|⟨h1,h2⟩
  all_goals
   go_wp2_with (first|(go_at_call 231;first|(refine(K7 _ _ ?_ ?_).mono ?_;omega;omega;rintro e w' ⟨rfl,rfl⟩)|(refine(Rh _ _ ?_).mono ?_;omega;rintro e w' ⟨rfl,rfl⟩))|(go_at_call 232;first|(refine(J3 _ _ ?_ ?_).mono ?_;omega;omega;rintro e w' ⟨rfl,rfl⟩)|(refine(Pv _ _ ?_).mono ?_;omega;rintro e w' ⟨rfl,rfl⟩)))
   go_round
   case rel=>exact⟨k+1,Aaa,Aaf,Acu⟩
   case measure=>simp[intOf];omega
 .have HK:=Hq (Mth.keyByte_no _ h);have HF:Hid (Mth.keyOk s.data.toList=false):=Mth.keyOk_bad _ (k+1) Acu;rcases h with h1|⟨h1,h2⟩|h1
  all_goals
   go_wp2_with (first|(go_at_call 231;first|(refine(K7 _ _ ?_ ?_).mono ?_;omega;omega;rintro e w' ⟨rfl,rfl⟩)|(refine(Rh _ _ ?_).mono ?_;omega;rintro e w' ⟨rfl,rfl⟩))|(go_at_call 232;first|(refine(J3 _ _ ?_ ?_).mono ?_;omega;omega;rintro e w' ⟨rfl,rfl⟩)|(refine(Pv _ _ ?_).mono ?_;omega;rintro e w' ⟨rfl,rfl⟩)))
   go_ret
   exact⟨aF HF.symm,rfl⟩):P:=h
theorem aaK(h:P:=by
 unfold jo;have H9:=Hq h9;clear h9;have mZ:=Hq (h.nine hB);clear h;go_in
 go_upto_region 1 with fail;refine wp_at (λW0 hW=>?_);exact AcM):P:=h
theorem auq.AcM(h:P:=by
 obtain⟨e1,e2,e3,e4⟩:=gF w (.cells (dG n A) 40) (.cells (cu K no k nn mK mF mT mI mL mk mN) 100) (.cells iP 40);open avo in exact aaP):P:=h
theorem aur.AcM(h:P:=by
 obtain⟨e1,e2,e3,e4⟩:=gF w (.cells (dG n (⟨a_k,(some ⟨gp,0,none⟩),fP,gN,(some ⟨gr,0,none⟩),bf,dJ,bJ,bg,bC⟩:bV)) 40) (.cells (cu K no k nn mK mF mT mI mL mk mN) 100) (.cells iP 40);open avn in exact aaP):P:=h
theorem aus.AcM(h:P:=by
 obtain⟨e1,e2,e3,e4⟩:=gF w (.cells (dG n (⟨a_k,ku,fP,gN,gX,bf,dJ,bJ,bg,bC⟩:bV)) 40) (.cells (cu K no k nn mK mF mT mI mL mk mN) 100) (.cells iP 40);open avm in exact aaP):P:=h
theorem aha(h:P:=by
 obtain⟨mK,mF,mT,mI,mL,mk,mN⟩:=m;obtain⟨R,hR⟩:∃R,cK ⟨5,no,k,n,⟨mK,mF,mT,mI,mL,mk,mN⟩⟩=R:=⟨_,rfl⟩;rw [hR];have HR:=Hq hR;clear hR;have HP:=Hq (show R=(decide (k.toList=[])&&decide (n=0)&&decide (no=0)&&lY ⟨mK,mF,mT,mI,mL,mk,mN⟩) by rw [<-ah HR];simp[cK]);clear HR;exact AdF):P:=h
theorem aut.AdF(h:P:=by
 go_in
 go_upto_region 23 with fail;open avC in exact Ws):P:=h
theorem auu.AdF(h:P:=by
 go_in
 go_wp2_with fail
 all_goals
  go_ret
  refine⟨aF ?_,ay w _⟩
  rw [ah HP]
  simp[lY, *]):P:=h
theorem ahb(h:P:=by
 go_wp2_with fail;refine bodyPost_at (λW' hW'=>?_);obtain⟨⟨r0,r1,r2,r3,r4,r5,r6⟩,_⟩:=eT (show W'.heap[w.heap.size]?=some (.cells (bX 0 0 0 0 0 ⟨#[]⟩ 0) 98 (0,0)) by rw [hW'];exact uf HR);have hbb:aI w W':=by rw [hW'];exact rQ HB (aGh _)
 exact Adt):P:=h
theorem auv.Adt(h:P:=by
 exact aiK):P:=h
theorem auw.Adt(h:P:=by
 exact aiJ):P:=h
theorem ahc(h:P:=by
 have aeE:=Hq (au aks Mk);have aE7:=aA aks;have Lr:=Hq (show∀b,(Value.slice (some ⟨x2.heap.size,0,none⟩) 0 0).ownBlock=some b->b≠x1.heap.size from λb hb=>by simp[Value.ownBlock] at hb;omega);have Ls:=Hq (uq.trans (Mk.mono uq.size));clear Mk;exact Afh):P:=h
theorem auy.Afh(h:P:=by
 generalize acI:x2.alloc (.cells #[] 95)=y2 at *;open au0 in exact ahl):P:=h
theorem auz.Afh(h:P:=by
 generalize acI:x2.alloc (.cells #[] 3)=y2 at *;open auY in exact ahk):P:=h
theorem Wp(h:P:=by
 have akb:=Hq (au BF hbx);have Lp:=Hq (rZ.trans (hbx.mono rZ.size));exact AbL):P:=h
theorem auA.AbL(h:P:=by
 have HI2:=Hq (GR.At.below HI1 hbx);clear hbx d0 d1 d2 c0 c1 c2 c3 c4 c5 c6 c7 c8 k0 k1 k2 k3 k4 k5 k6 k7 k8 m0 m1 m2 HW1 BF rZ HI1 DU HKI;cases hbv:bb
 case' true=>
  have HP:Hid (TT=false):=ah HBAD (by
   rw [ah iQ]
   have h:=ah fI
   rw [hbv] at h
   unfold wu
   dsimp only
   cases h1:NN fr<;>cases h2:pv<;>cases h3:fO lo<;>cases h4:decide (ids.length<=40)<;>simp_all)
  clear HBAD iQ fI;subst hbv;go_wp2_with fail;go_ret;exact⟨aF HP.symm,Lp⟩
 have HGD:Hid (iA PP RR (seen.take (k+1))=iA (Cj lo) iX ids):=by
  rw [ah iQ];have h:=ah fI;rw [hbv] at h;unfold wu;dsimp only;cases h1:NN fr<;>cases h2:pv<;>cases h3:fO lo<;>cases h4:decide (ids.length<=40)<;>simp_all
 subst hbv;clear iQ fI;obtain⟨d0,d1,d2⟩:=three HW2;have aFv:=ah DC;go_wp2_with fail;go_loopw [6] (λi wr2=>∃m:Nat,m<=ids.length/\i= .int .i64 m/\iA (Cj lo) iX (ids.take m)=true/\aI wc wr2) (λi _=>ids.length - (intOf i).toNat)
 case atStart=>exact aby
 case round=>
  obtain⟨m,hm,rfl,hall,hbx⟩:=hrel;have kJ:=Hq hbx;have amz:=Hq hall;have HW3:=Hq (au HW2 hbx);obtain⟨d0,d1,d2⟩:=three HW3;clear hall;by_cases hlm:m < ids.length
  case' neg=>
   have hke:m=ids.length:=Aaa
   subst hke
   have hnlt:decide ((ids.length:Int) < (ids.length:Int))=false:=Aac
   have HF:Hid (iA PP RR (seen.take (k+1))=true):=by
    have h:=ah amz;rw [aGL] at h;exact HGD.trans h
   have HB9:=Hq (au akb hbx)
   have HL9:=Hq (Lp.trans (hbx.mono Lp.size))
   clear hbx
   go_wp2_with fail
   go_roundw
   case rel=>exact⟨k+1,Aaa,Aaf,HF,HB9,HL9⟩
   case measure=>simp[intOf];omega
  have HBM:Hid (iA (Cj lo) iX (ids.take (m+1))=false->TT=false):=λh=>HBAD (HGD.trans (pX _ _ _ _ h))
  have HL9:=Hq (Lp.trans (hbx.mono Lp.size));have hI3:=GR.At.below HI2 hbx;clear hbx;cases m with
  |zero=>
   obtain⟨g2,off2,rfl,hg2,q0⟩:=dH.one hI3 0 hlm;rw [aIa] at q0;have hgt:decide ((0:Int) < ((0:Nat):Int))=false:=rfl;have iQ:Hid (iA (Cj lo) iX (ids.take (0+1))=Cj lo ids[0]):=sJ (Cj lo) iX ids hlm;clear hI3;generalize ids[0]=x at *;cases h1:decide (lo<=x/\x<=1000000000)
   case' false=>
    exact ajR
   have HV:=Hq (show iA (Cj lo) iX (ids.take (0+1))=true by rw [ah iQ];simp[Cj,h1]);open ap7 in exact akH
  |succ j=>
   obtain⟨g2,off2,e1,hg2,q0⟩:=dH.one hI3 (j+1) hlm;obtain⟨g3,aFY,e2,hg3,q1⟩:=dH.one hI3 j Aaa;open axb in exact ahT):P:=h
theorem auB.AbL(h:P:=by
 clear hbx d0 d1 d2 d3 c0 c1 c2 c3 c4 c5 c6 c7 c8 k0 k1 k2 k3 k4 k5 k6 k7 k8 m0 m1 m2 m3 HW1 BF rZ DU
 have Bu:=Hq (show iA RQ RR (reqs.take (k+1))= !bb by
  rw [ah iQ,<-ah fI,ah oN]
  simp only[Bool.not_not])
 cases hbv:bb
 .have HG:Hid (iA RQ RR (reqs.take (k+1))=true):=by rw [ah Bu,hbv];exact Hq rfl
  exact aiz
 .exact aiu):P:=h
theorem auC.AbL(h:P:=by
 clear hbx d0 d1 d2 d3 c0 c1 c2 c3 c4 c5 c6 c7 c8 k0 k1 k2 k3 k4 k5 k6 k7 k8 m0 m1 m2 m3 HW1 BF rZ DU
 have Bu:=Hq (show iA OT RO (out.take (k+1))= !bb by
  rw [ah iQ,<-ah fI,ah oN]
  simp only[Bool.not_not])
 cases hbv:bb
 .have HG:Hid (iA OT RO (out.take (k+1))=true):=by rw [ah Bu,hbv];exact Hq rfl
  exact aiz
 .exact aiu):P:=h
theorem auD.AbL(h:P:=by
 have HW2:=Hq (au HW1 hbx);clear hbx d0 d1 d2 d3 c0 c1 c2 c3 c4 c5 c6 c7 c8 HW1 BF rZ fI;obtain⟨d0,d1,d2,d3⟩:=iO HW2;cases hbv:bb
 .have HG:=Hq (show iA KB RR (out.take (k+1))=true by rw [ah Bu,hbv];rfl);subst hbv;clear HBAD Bu;go_wp2_with fail;go_roundw
  case rel=>exact⟨k+1,si,Aaa,Aaf,rfl,El.symm,HG,akb,Lp⟩
  case measure=>simp[intOf];omega
 .have HP:=Hq (HBAD (by rw [ah Bu,hbv];rfl));subst hbv;clear HBAD Bu;go_wp2_with fail;go_ret;exact⟨aF HP.symm,Lp⟩):P:=h
theorem ahd(h:P:=by
 have XD:Hid (NQ W6 B (dM n (n.seen.set i ⟨mF,fK s0 mL,aY s0 mL⟩)) (⟨a_k,(some ⟨gp,0,none⟩),fP,(some ⟨G.s,0,none⟩),gX,bf,dJ,bJ,bg,bC⟩:bV) ⟨G.k,G.p,G.o,G.s,G.r,tY G.i i gi⟩ (vV gi (aY s0 mL) (newC w.heap.size 9 c))):=by rw [PN];exact SK
 exact AdZ):P:=h
theorem auE.AdZ(h:P:=by
 open aB7 in exact Yk2):P:=h
theorem auF.AdZ(h:P:=by
 open aB6 in exact Yk2):P:=h
theorem ahe(h:P:=by
 obtain⟨d0,d1,d2,d3,d4,d5,d6,d7,d8⟩:=nine oV;have f0:=aj oV 0;have f1:=aj oV 1;have f2:=aj oV 2;have f3:=aj oV 3;have f4:=aj oV 4;have f5:=aj oV 5;have f6:=aj oV 6;have f7:=aj oV 7;have f8:=aj oV 8;exact Ad3):P:=h
theorem auG.Ad3(h:P:=by
 have hrl:=aA oV;go_wp2_with fail;refine aP (λW' hW'=>?_)
 have e4:W'.heap[w.heap.size+2]?=some (.cells (iT n.id n.par A1.k n.kids.length A1.ck n.next pa RL.length pc A1.o n.out.length A1.co A1.s n.seen.length A1.cs n.old A1.r n.reqs.length A1.cr) 40 (0,0)):=by
  rw [hW'];exact GR.setW_blk (iT n.id n.par A1.k n.kids.length A1.ck n.next pa RL.length pc A1.o n.out.length A1.co A1.s n.seen.length A1.cs n.old A1.r n.reqs.length A1.cr).toList (o:=0) (xs:=iP.toList) oV
 have fU:aC [w.heap.size+2] Y W':=by
  rw [hW'];exact aX (iT n.id n.par A1.k n.kids.length A1.ck n.next pa RL.length pc A1.o n.out.length A1.co A1.s n.seen.length A1.cs n.old A1.r n.reqs.length A1.cr).toList Y 0
 have HAT:=Hq (λW'' (ho:Ez w W' W'')=>(show RM W'' ⟨A1.k,pa,A1.o,A1.s,A1.r,A1.ck,pc,A1.co,A1.cs,A1.cr⟩ (setPu n RL) from(by
  have h:=((aBQ.kc (k:=9) (KC.keeps fU (λx hx=>by have:x=w.heap.size+2:=Aah;rw [this];exact EI)) Aaa).kc (k:=9) (ho.kc (λx hx=>HC9 x Aaa)) Aaa)
  obtain⟨F,hk2,hF⟩:=ho
  have hpo:=(dU (dU aBU fU (λx hx=>by have:x=w.heap.size+2:=Aah;omega)) hk2 (λx hx=>by have:=hF x hx;omega))
  have hp9:∀g',pa.map (λy=>y.block)=some g'->6 < newC X.heap.size 9 c g':=λg' hg'=>by
   have h1:=uZ hpo (tH hpo hg')
   rw [bQ Aaa]
   omega
  exact NQ.put h HCQ (setPu n RL) ⟨A1.k,pa,A1.o,A1.s,A1.r,A1.ck,pc,A1.co,A1.cs,A1.cr⟩ rfl rfl rfl rfl (GR.own_ati aU hpo) (λg' hg' _=> .inr (hp9 g' hg')) h.o (λy hy=> .inl (HCQ.co y hy)) h.r (λy hy=> .inl (HCQ.cr y hy))
   (λg' hg' _ h6=>⟨λe=>by have:=HCQ.co g' e;omega,λe=>by have:=HCQ.cr g' e;omega⟩) (λy hy h6 e=>by have:=HCQ.co y hy;omega))))
 have pO:Hid (aI w W'):=Ht.trans (fU.below (λx hx=>by have:x=w.heap.size+2:=Aah;omega) Ht.size);obtain⟨x0,x1,x2,x3,x4,x5,x6,x7,x8⟩:=nine e4;clear hW' e4 fU;exact aGn (v:= .tuple #[.agg (iT n.id n.par A1.k n.kids.length A1.ck n.next pa RL.length pc A1.o n.out.length A1.co A1.s n.seen.length A1.cs n.old A1.r n.reqs.length A1.cr),.slice (some ⟨W0.heap.size,0,none⟩) 0 0,.int .i64 0]) Aaz rfl ⟨⟨A1.k,pa,A1.o,A1.s,A1.r,A1.ck,pc,A1.co,A1.cs,A1.cr⟩,some ⟨W0.heap.size,0,none⟩,0,rfl,HAT,λW'' _ i hi=>Aas,pO⟩):P:=h
theorem auH.Ad3(h:P:=by
 have hnl:=aA rV;have hrl:=aA oV;by_cases hm:mI < fK s0 mL
 .have hd:decide (mI < fK s0 mL)=true:=aGk hm;go_wp2_with fail;exact azh
 .have hd:decide (mI < fK s0 mL)=false:=aGi hm;have hb:hasB (aY s0 mL) mI=true:=Adk
  rw [hb] at aal;go_wp2_with (go_at_call 101;refine(aal _ aeo.at).mono ?_;rintro e wh ⟨rfl,rfl⟩)
  exact azh):P:=h
theorem ahf(h:P:=by
 generalize Bz s=B at *;generalize Nf s=E at *;generalize Kz s=X at *;generalize vw s (jc s (kR s 1))=N2 at *;generalize jc s (kR s 1)=E2 at *;generalize j6 s (kR s 1)=TX at *;generalize vw s 1=N1 at *;generalize kR s 1=E1 at *;obtain⟨mK,mF,mT,mI,mL,mk,mN⟩:=m;exact AeM):P:=h
theorem auI.AeM(h:P:=by
 have HH0:=Hq (λW (k:dW g w W)=>HH.keep1 k hg hge);go_in
 go_wp2_with fail;refine(HK _ H).mono ?_;rintro e w1 ⟨rfl,hr1,hk1⟩;have HR1:=Hq (hk1.obj (aGg w _) (show w.heap.size≠g by omega));have BG:=Hq ((dW.of_below (ay w _)).trans hk1);have HA1:=Hq hr1;have hz1:w.heap.size < w1.heap.size:=dA HR1;clear hr1 hk1 HK H;go_upto_region 2 with fail;refine wp_at (λV2 hV=>?_)
 have HS:Hid (OS w V2 g w1.heap.size s 1 (cu (s[0].toNat:Int) 0 ⟨#[]⟩ 0 0 0 0 0 0 ⟨#[]⟩ 0)):=by
  rw [hV];exact⟨aK HA1 (ay w1 _),aK HR1 (ay w1 _),aGg w1 _,BG.trans (dW.of_below (ay w1 _)),hz1⟩
 clear hV HR1 BG HA1;generalize w1.heap.size=o at *;clear w1;by_cases hE0:0<=E1
 case' neg=>
  have hno:OK=false:=ah mZ (λhx=>hE0 (by have:=ah HX hx.1;omega));have HNN:=Hq (aBL V2 HS.rd (HH0 _ HS.keep) Aaa);clear hE0;exact ak5
 have HNY:=Hq (aBM V2 HS.rd (HH0 _ HS.keep) hE0);go_wp2_with fail;refine HNY.mono ?_;rintro e u0 ⟨rfl,hr,hk⟩;have HT:=Hq (HS.step hr hk hg);clear hr hk HNY HS;have hz0:=dA HT.op;obtain⟨⟨c0,c1,c2,c3,c4,c5,c6,c7,c8,c9,c10⟩,f0,f1,f2,f3,f4,f5,f6,f7,f8,f9,f10⟩:=aL HT.op;go_upto_region 3 with fail;refine wp_at (λV3 hV=>?_);have HS:Hid (OS w V3 g o s E1 (cu (s[0].toNat:Int) N1 ⟨#[]⟩ 0 0 0 0 0 0 ⟨#[]⟩ 0)):=by rw [hV];exact HT.set hg 1 (.int .i64 N1)
 clear hV HT hz0 c0 c1 c2 c3 c4 c5 c6 c7 c8 c9 c10 f0 f1 f2 f3 f4 f5 f6 f7 f8 f9 f10 u0 V2;by_cases hE1:0<=E2
 case' neg=>
  have hno:OK=false:=ah mZ (λhx=>hE1 (by have:=ah HX hx.1;omega));have HNN:=Hq (aBZ V3 HS.rd (HH0 _ HS.keep) Aaa);clear hE1;exact ak5
 have HNY:=Hq (aB0 V3 HS.rd (HH0 _ HS.keep) hE1);go_wp2_with fail;refine HNY.mono ?_;rintro e u1 ⟨rfl,hr,hk⟩;have HT:=Hq (HS.step hr hk hg);clear hr hk HNY HS;have hz1:=dA HT.op;obtain⟨⟨c0,c1,c2,c3,c4,c5,c6,c7,c8,c9,c10⟩,f0,f1,f2,f3,f4,f5,f6,f7,f8,f9,f10⟩:=aL HT.op;go_upto_region 4 with fail;refine wp_at (λV4 hV=>?_);have HS:Hid (OS w V4 g o s E2 (cu (s[0].toNat:Int) N1 TX 0 0 0 0 0 0 ⟨#[]⟩ 0)):=by rw [hV];exact HT.set hg 2 (.string TX)
 clear hV HT hz1 c0 c1 c2 c3 c4 c5 c6 c7 c8 c9 c10 f0 f1 f2 f3 f4 f5 f6 f7 f8 f9 f10 u1 V3;by_cases hE2:0<=X
 case' neg=>
  have hno:OK=false:=ah mZ (λhx=>hE2 (by have:=ah HX hx.1;omega));have HNN:=Hq (aBN V4 HS.rd (HH0 _ HS.keep) Aaa);clear hE2;exact ak5
 have HNY:=Hq (aBO V4 HS.rd (HH0 _ HS.keep) hE2);go_wp2_with fail;refine HNY.mono ?_;rintro e u2 ⟨rfl,hr,hk⟩;have HT:=Hq (HS.step hr hk hg);clear hr hk HNY HS;have hz2:=dA HT.op;obtain⟨⟨c0,c1,c2,c3,c4,c5,c6,c7,c8,c9,c10⟩,f0,f1,f2,f3,f4,f5,f6,f7,f8,f9,f10⟩:=aL HT.op;go_upto_region 5 with fail;refine wp_at (λV5 hV=>?_);have HS:Hid (OS w V5 g o s X (cu (s[0].toNat:Int) N1 TX N2 0 0 0 0 0 ⟨#[]⟩ 0)):=by rw [hV];exact HT.set hg 3 (.int .i64 N2)
 clear hV HT hz2 c0 c1 c2 c3 c4 c5 c6 c7 c8 c9 c10 f0 f1 f2 f3 f4 f5 f6 f7 f8 f9 f10 u2 V4;have hgl:g < V5.heap.size:=aGq hg HS.keep.size;have HMM:=Hq (HM V5 hgl HS.rd (HH0 _ HS.keep));go_wp2_with fail;refine HMM.mono ?_;rintro e w6 ⟨hcase,hk⟩;have VN:=Hq hk;clear hk HMM;rcases hcase with⟨hyes,rfl,hr⟩|⟨hnot,p,rfl⟩
 case' inr=>
  have hno:=ah mZ hnot;have HKK:=Hq (HS.keep.trans VN);clear hnot;go_wp2_with fail;exact⟨rfl,.inr ⟨hno,_,rfl⟩,HKK⟩
 have HT:=Hq (HS.step hr VN hg);have HYE:=Hq hyes;clear hr VN HS hyes hgl;have hz6:=dA HT.op;obtain⟨⟨c0,c1,c2,c3,c4,c5,c6,c7,c8,c9,c10⟩,f0,f1,f2,f3,f4,f5,f6,f7,f8,f9,f10⟩:=aL HT.op;go_upto_region 6 with fail;refine wp_at (λV6 hV=>?_);have HS:Hid (OS w V6 g o s E (cu (s[0].toNat:Int) N1 TX N2 mK mF mT mI mL mk mN)):=by rw [hV];exact HT.tail hg
 clear hV HT hz6 c0 c1 c2 c3 c4 c5 c6 c7 c8 c9 c10 f0 f1 f2 f3 f4 f5 f6 f7 f8 f9 f10 w6 V5;obtain⟨e0,e1,_,_⟩:=HS.rd.two;obtain⟨⟨c0,c1,c2,c3,c4,c5,c6,c7,c8,c9,c10⟩,f0,f1,f2,f3,f4,f5,f6,f7,f8,f9,f10⟩:=aL HS.op;have hoV:=dA HS.op;have hgV:=dA HS.rd;clear f0 f1 f2 f3 f4 f5 f6 f7 f8 f9 f10;by_cases hEs:E=s.size
 case' neg=>
  have hno:OK=false:=by rw [aH0];intro hy;exact hEs (HG.1 hy).1
  have hq:(E == (s.size:Int))=false:=by simpa using hEs
  have hq2:(E != (s.size:Int))=true:=by simpa using hEs
  clear c0 c1 c2 c3 c4 c5 c6 c7 c8 c9 c10;refine wp_region_quiet_lit Aab Aab ?_;repeat (any_goals (first|go_big_quiet_step (fail)|quiet_step (fail)))
  refine aHo ?_;intro _ hw';obtain⟨nq,hw''⟩:=hw';subst hw'';go_wp2_with fail;refine(HF _ (aK HS.rd (jH V6 _))).mono ?_;rintro e w9 ⟨rfl,rfl⟩;go_wp2_with fail;exact⟨rfl,.inr ⟨hno,_,rfl⟩,HS.keep.trans (dW.of_below (jH V6 _))⟩
 have hq:(E == (s.size:Int))=true:=by simpa using hEs
 have hq2:(E != (s.size:Int))=false:=by simpa using hEs
 have HES:=Hq hEs;clear hEs;have x0:=aGj e0;have x1:=aGj e1;open aoL in exact XQ):P:=h
theorem auJ.AeM(h:P:=by
 go_in
 go_wp2_with fail;refine(vZ _).mono ?_;rintro e w1 ⟨rfl,hb1⟩;have hR1:=aK (aGg w _) hb1;have hB1:=(ay w _).trans (hb1.mono Aac);clear hb1 vZ;go_wp2_with fail;refine(HT1 _).mono ?_;rintro e w2 ⟨rfl,hb2⟩;have hR2:=aK hR1 hb2;have hB2:=hB1.trans (hb2.mono hB1.size);clear hb2 hR1 hB1 HT1;go_wp2_with fail;refine(Bq _).mono ?_;rintro e w3 ⟨rfl,hb3⟩;have hR3:=aK hR2 hb3;have hB3:=hB2.trans (hb3.mono hB2.size);clear hb3 hR2 hB2 Bq;go_wp2_with fail;refine(HT2 _).mono ?_;rintro e w4 ⟨rfl,hb4⟩;have hR4:=aK hR3 hb4;have hB4:=hB3.trans (hb4.mono hB3.size);clear hb4 hR3 hB3 HT2;go_wp2_with fail;refine(HG _).mono ?_;rintro e w5 ⟨rfl,hb5⟩;have XI:=Hq (aK hR4 hb5);have iy:=Hq (hB4.trans (hb5.mono hB4.size));clear hb5 hR4 hB4 HG;open auf in exact Wo):P:=h
theorem ahg(h:P:=by
 (refine tkB aAT (λK hK=>?_);go_simp;first|refine hK _ ?_|(apply Exists.intro;refine⟨λ_=>?_,hK _ ?_⟩;rfl);clear hK K)
 refine kD ?_;refine qd Aab (λz hz=>?_);have HGz:=Hq (aak.trans (hz.mono aak.size));have HVz:=Hq (GR.own_below aeK hz);exact Aej):P:=h
theorem auK.Aej(h:P:=by
 have hsz:vL.heap.size<=z.heap.size:=HGz.size;clear hz;have HSz:=Hq (show z.heap[sb]?=some (.cells #[.int .i64 mF,.int .i64 (fK s0 mL),.slice (some ⟨gi,0,none⟩) (aY s0 mL).length Po] 110 (0,0)) by rw [(ah HGz).block _ aAP];exact aau);obtain⟨_,_,kc⟩:=CU HSz;have kf:=aj HSz 2;refine aG 14 rfl Aab Aad ?_;go_simp;refine wpAny_done Aab ?_;go_simp;go_wp2_with fail;go_meet
 case rel=>
  rcases HVz.2 with⟨_,hn⟩|⟨g,cap,cur,hv,hbg,_⟩
  .omega
  .simp only[aG4] at hv;obtain⟨rfl,_,_⟩:=hv;have h2:=ah HVz;rw [show pos+1+((aY s0 mL).length - pos)=(aY s0 mL).length+1 by omega] at h2;refine⟨g,cvT,hbg,?_,?_,(aC.of_below HGz).trans (aC.set _)⟩
   .rw [ah HIN];rw [aGN] at h2;refine ady h2 (aC.set _) (λx hx hm=>?_);simp[Value.ownBlock] at hx;simp at hm;omega
   .have h:=aT HSz 2 (.slice (some ⟨g,0,none⟩) (pos+1+((aY s0 mL).length - pos)) cvT);rw [show pos+1+((aY s0 mL).length - pos)=(aY s0 mL).length+1 by omega] at h ⊢;exact h):P:=h
theorem auL.Aej(h:P:=by
 have hsz:wc.heap.size<=z.heap.size:=HGz.size;clear hz;have HNz:Hid (z.heap[w.heap.size]?=some (.cells (iT n.id n.par a_k n.kids.length bf n.next pa PL.length pc fP n.out.length bJ gN n.seen.length bg n.old (some ⟨gr,0,none⟩) n.reqs.length bC) 40 (0,0))):=by unfold Hid;rw [(ah HGz).block _ hnl];exact Ii
 have HRz:Hid (z.heap[w.heap.size+2]?=some (.cells iP 40 (0,0))):=by unfold Hid;rw [(ah HGz).block _ (aA (ah EP))];exact EP
 have HQz:Hid (z.heap[W1.heap.size]?=some (.cells (fH no k nn st) 95 (0,0))):=by unfold Hid;rw [(ah HGz).block _ Yw];exact aeC
 have kc:=(nine HNz).2.2.2.2.2.2.2.2;have kf:=aj HNz 8;refine aG 15 rfl Aab Aad ?_;go_simp;refine wpAny_done Aab ?_;go_simp;go_wp2_with fail;go_meet
 case rel=>
  refine⟨rfl,avT,cvT,?_,?_,?_,?_,?_,?_,?_,?_⟩
  .rcases HVz.2 with⟨_,hn⟩|⟨g,cap,cur,hv,_⟩
   .omega
   .simp only[aG4] at hv;exact⟨g,hv.1⟩
  .rcases HVz.2 with⟨_,hn⟩|⟨g,cap,cur,hv,_,_,hnc,_⟩
   .omega
   .simp only[aG4] at hv;omega
  .have h:=aT HNz 8 (.slice avT (pos+1+(n.reqs.length - pos)) cvT);rw [show pos+1+(n.reqs.length - pos)=n.reqs.length+1 by omega] at h ⊢;exact h
  .exact mJ _ Aaa HRz
  .exact mJ _ Aaa HQz
  .have h:=LO.own (en:=aJ) (cp:=cvT) (l:=n.reqs.take pos++[(⟨no,k,nn,st⟩:Rq)]++n.reqs.drop pos) (by rw [hL2];exact HVz);rw [ah HIQ];rw [aGN] at h;exact(h.keeps (aC.set _) (λx hx=>Aaj)).lower Aaa
  .exact(JO.below HGz).keeps (aC.set _) (λx hx=>Aaj)
  .exact(iy.trans (HGz.mono iy.size)).setCell (p:=⟨w.heap.size,8,none⟩) (aGh _) _):P:=h
theorem aaL(h:P:=by
 open ayb in exact aa6):P:=h
theorem auM.AbW(h:P:=by
 cases h1:PL
 case' false=>
  have HP:=Hq (show TT=false by rw [ah HD];simp[h1]);clear h1 HD;go_wp2_with fail;go_ret;exact⟨aF HP.symm,yF⟩
 go_wp2_with fail;refine(HPU _ yF).mono ?_;rintro e w2 ⟨rfl,hb1⟩;open auX in exact aaM):P:=h
theorem auN.AbW(h:P:=by
 go_wp2_with fail;refine(HPP _ _ yF Aaa).mono ?_;rintro e w2 ⟨rfl,hb1⟩;open auW in exact aaM):P:=h
theorem auO.AbW(h:P:=by
 rcases hcase with rfl|⟨p0,p1,p2,p3⟩
 case' inl=>
  go_wp2_with fail;go_ret;exact⟨-1,rfl,yF,.inl rfl⟩
 have K1:=Hq (And.intro p2 p3);have q3:decide (z1 < 0)=false:=aGi Aaa;clear p2 p3;go_wp2_with fail;refine(HO _ _ yF Aaa Aaa).mono ?_;rintro e w2 ⟨z2,rfl,hb1,hcase⟩;open auV in exact aaM):P:=h
theorem ahh(h:P:=by
 refine bH 2 20 rfl Aab Aab Aab Aab Aab (λ_ _ _ _ h=>h) (λK hK=>?_);go_simp
 first
  |(refine hK _ ?_;clear hK K)
  |(apply Exists.intro
    refine⟨λ_=>?_,hK _ ?_⟩
    (rfl)
    clear hK K)
 clear y3;exact AeC):P:=h
theorem auP.AeC(h:P:=by
 refine zq 3 rfl Aab Aad Aae 40 _ _ rfl (iT n.id n.par a_k n.kids.length bf n.next pa PL.length pc fP n.out.length bJ gN n.seen.length bg IH.no (some ⟨g8,0,none⟩) n.reqs.length c8') rfl rfl qz rfl Aab Aab (λX fU e4=>?_);open awe in exact ahz):P:=h
theorem auQ.AeC(h:P:=by
 refine zq 3 rfl Aab Aad Aae 40 _ _ rfl (iT n.id n.par a_k n.kids.length bf n.next pa PL.length pc fP n.out.length bJ gN n.seen.length bg n.old (some ⟨gv,0,none⟩) (n.reqs.length+1) vc) rfl rfl mh rfl Aab Aab (λX fU e4=>?_);open awd in exact ahz):P:=h
theorem ahi(h:P:=by
 obtain⟨g,rest,rfl,hBg,hgg⟩:=xE HO Aaa;have HG:=Hq (au hgg dS);have hkk:=ah SI l[k] (aGz hlt);exact Aew):P:=h
theorem auR.Aew(h:P:=by
 have HC:=Hq (fun(W:World) (h:W.heap[g]?=some (.cells (GR.flat iF l++rest).toArray 120 (0,0))) j (hj:j < 12)=>wO dw h k hlt j hj);clear hgg hBg;generalize l[k]=x at *;obtain⟨⟨K,no,k',n,mK,mF,mT,mI,mL,mk,mN⟩,c⟩:=x;dsimp only at hkk;have q0:wr.cell? ⟨g,k*12,none⟩=some (.int .i64 K):=ah HC wr HG 0 Aaa;have q1:wr.cell? ⟨g,k*12+1,none⟩=some (.int .i64 no):=ah HC wr HG 1 Aaa;have q2:wr.cell? ⟨g,k*12+2,none⟩=some (.string k'):=ah HC wr HG 2 Aaa;have q3:wr.cell? ⟨g,k*12+3,none⟩=some (.int .i64 n):=ah HC wr HG 3 Aaa;have q4:wr.cell? ⟨g,k*12+4,none⟩=some (.int .i64 mK):=ah HC wr HG 4 Aaa;have q5:wr.cell? ⟨g,k*12+5,none⟩=some (.int .i64 mF):=ah HC wr HG 5 Aaa;have q6:wr.cell? ⟨g,k*12+6,none⟩=some (.int .i64 mT):=ah HC wr HG 6 Aaa;have q7:wr.cell? ⟨g,k*12+7,none⟩=some (.int .i64 mI):=ah HC wr HG 7 Aaa;have q8:wr.cell? ⟨g,k*12+8,none⟩=some (.int .i64 mL):=ah HC wr HG 8 Aaa;have q9:wr.cell? ⟨g,k*12+9,none⟩=some (.string mk):=ah HC wr HG 9 Aaa;have Xk:wr.cell? ⟨g,k*12+10,none⟩=some (.int .i64 mN):=ah HC wr HG 10 Aaa;go_wp2_with fail;refine(Us ⟨K,no,k',n,mK,mF,mT,mI,mL,mk,mN⟩ _ hkk.1 hkk.2).mono ?_;rintro e w5 ⟨rfl,hb5⟩;have vJ:=Hq (au HG hb5);have fZ:=Hq (dS.trans (hb5.mono dS.size));clear hb5 q0 q1 q2 q3 q4 q5 q6 q7 q8 q9 Xk;have q0:w5.cell? ⟨g,k*12,none⟩=some (.int .i64 K):=ah HC w5 vJ 0 Aaa;have q1:w5.cell? ⟨g,k*12+1,none⟩=some (.int .i64 no):=ah HC w5 vJ 1 Aaa;have q2:w5.cell? ⟨g,k*12+2,none⟩=some (.string k'):=ah HC w5 vJ 2 Aaa;have q3:w5.cell? ⟨g,k*12+3,none⟩=some (.int .i64 n):=ah HC w5 vJ 3 Aaa;have q4:w5.cell? ⟨g,k*12+4,none⟩=some (.int .i64 mK):=ah HC w5 vJ 4 Aaa;have q5:w5.cell? ⟨g,k*12+5,none⟩=some (.int .i64 mF):=ah HC w5 vJ 5 Aaa;have q6:w5.cell? ⟨g,k*12+6,none⟩=some (.int .i64 mT):=ah HC w5 vJ 6 Aaa;have q7:w5.cell? ⟨g,k*12+7,none⟩=some (.int .i64 mI):=ah HC w5 vJ 7 Aaa;have q8:w5.cell? ⟨g,k*12+8,none⟩=some (.int .i64 mL):=ah HC w5 vJ 8 Aaa;have q9:w5.cell? ⟨g,k*12+9,none⟩=some (.string mk):=ah HC w5 vJ 9 Aaa;have Xk:w5.cell? ⟨g,k*12+10,none⟩=some (.int .i64 mN):=ah HC w5 vJ 10 Aaa;have f0:=aj vJ (k*12);have f1:=aj vJ (k*12+1);have f2:=aj vJ (k*12+2);have f3:=aj vJ (k*12+3);have f4:=aj vJ (k*12+4);have f5:=aj vJ (k*12+5);have f6:=aj vJ (k*12+6);have f7:=aj vJ (k*12+7);have f8:=aj vJ (k*12+8);have f9:=aj vJ (k*12+9);have f10:=aj vJ (k*12+10)
 have HS:=Hq (fZ.trans ((Pk [.int .i64 K,.int .i64 no,.string k',.int .i64 n,.int .i64 mK,.int .i64 mF,.int .i64 mT,.int .i64 mI,.int .i64 mL,.string mk,.int .i64 mN] (k*12) w5 _ vJ (λj u hj=>by
  have h11:j < 11:=(aHe.1 hj).1
  have hc:=ah HC w5 vJ j Aaa
  rw [hc,<-hj]
  exact(aHJ (l₁:=([.int .i64 K,.int .i64 no,.string k',.int .i64 n,.int .i64 mK,.int .i64 mF,.int .i64 mT,.int .i64 mI,.int .i64 mL,.string mk,.int .i64 mN]:List Value)) (l₂:=([.int .i64 c]:List Value)) (by simpa using h11)))).mono fZ.size))
 exact ajj):P:=h
theorem auS.Aew(h:P:=by
 have HC:=Hq (fun(W:World) (h:W.heap[g]?=some (.cells (GR.flat jf l++rest).toArray 98 (0,0))) j (hj:j < 7)=>wO dV h k hlt j hj);clear hgg hBg;generalize l[k]=x at *;obtain⟨mK,mF,mT,mI,mL,mk,mN⟩:=x;dsimp only at hkk;have q5:wr.cell? ⟨g,k*7+5,none⟩=some (.string mk):=ah HC wr HG 5 Aaa;go_wp2_with fail;refine(clone mk _ Aaa).mono ?_;rintro e w5 ⟨rfl,hb5⟩;have vJ:=Hq (au HG hb5);have fZ:=Hq (dS.trans (hb5.mono dS.size));clear hb5 q5;have q5:w5.cell? ⟨g,k*7+5,none⟩=some (.string mk):=ah HC w5 vJ 5 Aaa;have f5:=aj vJ (k*7+5);have HS:=Hq (fZ.trans ((nH vJ q5).mono fZ.size));exact ajj):P:=h
theorem ahj(h:P:=by
 clear hr hc2;go_in
 go_wp2_with (first|(go_at_call_of 100 F;refine(H1 _).mono ?_;rintro e w1 ⟨rfl,rfl⟩)|(go_at_call_of 100 T;refine(H2 _).mono ?_;rintro e w1 ⟨rfl,rfl⟩)|(go_at_call_of 49 I;refine(EI _).mono ?_;rintro e w1 ⟨rfl,rfl⟩))
 exact AdO):P:=h
theorem auT.AdO(h:P:=by
 go_ret;exact⟨aF (by first|exact HP.symm|exact he.trans HP.symm),ay w _⟩):P:=h
theorem auU.AdO(h:P:=by
 exact xQ):P:=h
theorem aaM(h:P:=by
 have HB2:=Hq (au HB1 hb1);have HL2:=Hq (yF.trans (hb1.mono yF.size));clear hb1 c0 c1 c2 c3 c4 c5 c6 c7 c8;obtain⟨c0,c1,c2,c3,c4,c5,c6,c7,c8⟩:=nine HB2;exact AbY):P:=h
theorem auV.AbY(h:P:=by
 rcases hcase with rfl|⟨p0,p1,p2,p3⟩
 case' inl=>
  go_wp2_with fail;go_ret;exact⟨-1,rfl,HL2,.inl rfl⟩
 have K2:=Hq (And.intro p2 p3);have q4:decide (z2 < 0)=false:=aGi Aaa;clear p2 p3;go_wp2_with fail;refine(HS _ _ HL2 Aaa Aaa).mono ?_;rintro e w3 ⟨z3,rfl,hb1,hcase⟩;open avr in exact aaQ):P:=h
theorem auW.AbY(h:P:=by
 go_wp2_with fail;refine(HOO _ _ HL2 Aaa).mono ?_;rintro e w3 ⟨rfl,hb1⟩;open avq in exact aaQ):P:=h
theorem auX.AbY(h:P:=by
 cases h2:PS
 case' false=>
  have HP:=Hq (show TT=false by rw [ah HD];simp[h2]);clear h2 HD;go_wp2_with fail;go_ret;exact⟨aF HP.symm,HL2⟩
 cases h3:fO next
 case' false=>
  have HP:=Hq (show TT=false by rw [ah HD];simp[h3]);have H3:=Hq (λw1=>aQ next false w1 h3);clear h3 HD;go_wp2_with (go_at_call 169;refine(H3 _).mono ?_;rintro e w9 ⟨rfl,rfl⟩)
  go_ret;exact⟨aF HP.symm,HL2⟩
 have H3:=Hq (λw1=>aQ next true w1 h3);go_wp2_with (go_at_call 169;refine(H3 _).mono ?_;rintro e w9 ⟨rfl,rfl⟩)
 refine(HOT _ HL2 h1).mono ?_;rintro e w3 ⟨rfl,hb1⟩;open avp in exact aaQ):P:=h
theorem ahk(h:P:=by
 clear acI;refine gL 4 rfl Aab Aad Aae (λx3 hx3=>?_);have zC:=Hq (Ls.trans (hx3.mono Ls.size));have Ci:vL.heap.size<=x3.heap.size:=zC.size;have BL:=Hq (GR.own_below Ip hx3);have BI:=Hq (au aeE hx3);clear hx3;exact Ac4):P:=h
theorem auY.Ac4(h:P:=by
 obtain⟨v3,y3,IG,IE,Ac,IJ⟩:=fV aO Aaa x3 vL.heap.size 22 22 3 i0 (.int .i64 0) 8 underlying22 hi0 hz0 hz1' hz2 rfl (.slice (some ⟨x2.heap.size,0,none⟩) 0 0) 0 (GR.flat aS ([])) BL (some ⟨gi,0,none⟩) ((aY s0 mL).take pos) Po (GR.At.below ES zC) (rJ _) Aai Aaa Ci;open aso in exact ayV):P:=h
theorem auZ.Ac4(h:P:=by
 obtain⟨v3,y3,IG,IE,Ac,IJ⟩:=fV aO Aaa x3 vL.heap.size 22 22 3 i0 (.int .i64 0) 8 underlying22 hi0 hz0 hz1' hz2 rfl (.slice (some ⟨x1.heap.size,0,none⟩) 0 0) 0 (GR.flat aS ([])) BL (some ⟨gi,0,none⟩) ((aY s0 mL).take pos) Po (GR.At.below ES zC) (rJ _) Aai Aaa Ci;open asn in exact ayV):P:=h
theorem ahl(h:P:=by
 clear acI;refine gL 5 rfl Aab Aad Aae (λx3 hx3=>?_);have zC:=Hq (Ls.trans (hx3.mono Ls.size));have Ci:wc.heap.size<=x3.heap.size:=zC.size;have BL:=Hq (GR.own_below Ip hx3);have BI:=Hq (au aeE hx3);clear hx3;exact AeV):P:=h
theorem au0.AeV(h:P:=by
 obtain⟨v3,y3,IG,IE,Ac,IJ⟩:=fV aN Aaa x3 wc.heap.size 38 38 95 i0 (.agg (fH 0 ByteArray.empty 0 0)) 40 underlying38 hi hz0 hz1 hz2 rfl (.slice (some ⟨x2.heap.size,0,none⟩) 0 0) 0 (GR.flat aJ ([])) BL (some ⟨gr,0,none⟩) (n.reqs.take pos) bC (GR.At.below ES zC) (jq _) Aai Aaa Ci;open asv in exact agD):P:=h
theorem au1.AeV(h:P:=by
 obtain⟨v3,y3,IG,IE,Ac,IJ⟩:=fV aN Aaa x3 wc.heap.size 38 38 95 i0 (.agg (fH 0 ByteArray.empty 0 0)) 40 underlying38 hi hz0 hz1 hz2 rfl (.slice (some ⟨x1.heap.size,0,none⟩) 0 0) 0 (GR.flat aJ ([])) BL (some ⟨gr,0,none⟩) (n.reqs.take pos) bC (GR.At.below ES zC) (jq _) Aai Aaa Ci;open asu in exact agD):P:=h
theorem ahm(h:P:=by
 have mh:=Hq ((hap _ (aA rD) (by rw [ah EI];omega)).trans rD);have aad:=Hq hat;have zu:=Hq (Pj kJ hb5 hap HC9);have hrx:=aA rD;clear hat hb5 hap c0 c1 c2 c3 c4 c5 c6 c7 c8 p0 p1 p2 p3 p4 p5 p6 p7 p8 p9 oU hnl hol jR iQ HOX rD BH HPR;exact AeI):P:=h
theorem au2.AeI(h:P:=by
 open ati in exact agR):P:=h
theorem au3.AeI(h:P:=by
 have HNA:=Hq (aGg W5 (.cells (dG N1 A2) 40));have vS:=Hq (au mh (ay W5 (.cells (dG N1 A2) 40)));have vY:=Hq (zu.trans ((ay W5 (.cells (dG N1 A2) 40)).mono zu.size));obtain⟨c0,c1,c2,c3,c4,c5,c6,c7,c8⟩:=nine HNA;have hnl:=aA HNA;open aou in exact XP):P:=h
theorem ahn(h:P:=by
 have mixed:prog.follows .mixedOrders=true:=Aab
 have hw1:IntKind.i64.wrap ((i:Int)+1)=(i:Int)+1:=IntWalk.i64_in _ ⟨Aaa,Aaa⟩;have hb1:(0:Int)<=(i:Int)+1:=Aaa
 have hin:i<=l.length:=Aaa
 have htn:((i:Int)+1).toNat=i+1:=Aaa
 exact AeZ):P:=h
theorem au4.AeZ(h:P:=by
 have hb2:¬(cap=i+1):=Aaa
 have hb3:(i:Int)<=(l.length:Int)+1:=Aaa
 have hb4:¬(cap=i):=Aaa
 have hc63:cap<=9223372036854775807:=Acg
 clear hcs hcl hdl hv hblk htake hcm hr1 acf alu hvr;go_in
 go_wp2_with (simp only[hov])
 go_region_law_o (refine step_copy_runI rfl _ _ 38 38 rfl _ _ Aby Aby (hcp1 _ _ _ _ _ Aaa Aaa) ?_)
 go_wp2_with (at_builtin;refine wpList_copy_runI _ rfl _ _ 38 38 rfl _ _ rfl rfl (hcp2 _ _ _ Aaa) ?_)
 go_ret;exact⟨rfl,hfin.1,hfin.2⟩):P:=h
theorem au5.AeZ(h:P:=by
 have hb3:(i:Int)<=(l.length:Int):=Aaa
 have hGi:¬(G=i):=Aaa
 have hGim:¬(G=i+1):=Aaa
 have hci:¬(cap=i):=Aaa
 have hG63:G<=9223372036854775807:=by unfold maxLen at hGm;omega
 have hz3:(cap:Int) < (l.length:Int)+1:=Aaa
 have hA2:=hA ((w.alloc (.cells R 95)).drew) rfl;have hB2:=hB ((((w.alloc (.cells R 95)).drew).setRow w.heap.size (AR R.toList i q).toArray).drew) rfl;clear hblk hv htake hcell hdl htl hRs hRl hRt hBb hi0 hz0 hz1 hz2 hA hB;go_in
 go_upto_region 10 with(at_builtin;refine Lib.wpList_append_run _ rfl _ _ _ _ rfl _ _ rfl rfl _ _ (hrz _) ?_)
 go_wp2_with (first
  |(at_builtin;refine wpList_copy_runI _ rfl _ _ 38 38 rfl _ _ rfl rfl (hA2 _ _ _ Aaa) ?_))
 go_region_law_o (refine step_copy_runI rfl _ _ 38 38 rfl _ _ Aby Aby (hB2 _ _ _ _ _ Aaa Aaa) ?_)
 go_wp2
 go_ret;obtain⟨f1,f2⟩:=ah zB ((((w.alloc (.cells R 95)).drew).setRow w.heap.size (AR R.toList i q).toArray).drew) rfl rfl rfl rfl;exact⟨G,_,rfl,hGn,hGm,f1,wB,OV,f2⟩):P:=h
theorem aho(h:P:=by
 obtain⟨b1,b2,b3,b4,b5,b6,b7,b8⟩:=YZ h0 h1 hz;have HS:Hid (sPk s0 n=s0+n.kids.length/\sOk s0 n=sPk s0 n+4*n.pu.length/\Q9 s0 n=sOk s0 n+4*n.out.length/\sRk s0 n=jy (Q9 s0 n) n.seen/\iD s0 n=sRk s0 n+4*n.reqs.length):=⟨rfl,rfl,rfl,rfl,rfl⟩;exact Adq):P:=h
theorem au6.Adq(h:P:=by
 rw [show wM s0 n=⟨n.id,n.par,nN mkInt 1 s0 n.kids n.kids.length,n.next,nN gI 4 (sPk s0 n) n.pu n.pu.length,nN iN 4 (sOk s0 n) n.out n.out.length,lC (Q9 s0 n) n.seen,n.old,nN jX 4 (sRk s0 n) n.reqs n.reqs.length⟩ from rfl] at ha;have HA:=Hq ha;have HZ:=Hq hz;have HB0:=Hq (aGg w (.cells (dG n A) 40));have qg:=Hq (ay w (.cells (dG n A) 40));clear ha hz;generalize iD s0 n=EN at *;generalize sPk s0 n=s1 at *;generalize sOk s0 n=s2 at *;generalize Q9 s0 n=s3 at *;generalize sRk s0 n=s4 at *;have HKK:=Hq (λz W (hb:aI w W) (hz:z=(s0:Int))=>PU A.k G.k A.ck n.kids.length s0 z n.kids W hz rfl Aaa Aaa HZ.k (HA.below hb).k);have HPP:=Hq (λz W (hb:aI w W) (hz:z=(s1:Int))=>Ug A.p G.p A.cp n.pu.length s1 z n.pu W hz rfl b1 Aaa HZ.p (HA.below hb).p);have HOO:=Hq (λz W (hb:aI w W) (hz:z=(s2:Int))=>Yr A.o G.o A.co n.out.length s2 z n.out W hz rfl b3 Aaa HZ.o (HA.below hb).o);have HSS:=Hq (λz W (hb:aI w W) (hz:z=(s3:Int))=>Yp A.s G.s A.cs n.seen.length s3 z G.i n.seen W hz rfl b5 b6 HZ.s HZ.sk (HA.below hb).s);have HRR:=Hq (λz W (hb:aI w W) (hz:z=(s4:Int))=>acn A.r G.r A.cr n.reqs.length s4 z n.reqs W hz rfl b7 Aaa HZ.r (HA.below hb).r);have hzk:=HZ.k;have hzp:=HZ.p;have hzo:=HZ.o;have hzs:=HZ.s;have hzr:=HZ.r;clear HA HZ;open apE in exact vU):P:=h
theorem au7.Adq(h:P:=by
 have HMN:=Hq (show wM s0 n=⟨n.id,n.par,nN mkInt 1 s0 n.kids n.kids.length,n.next,nN gI 4 (sPk s0 n) n.pu n.pu.length,nN iN 4 (sOk s0 n) n.out n.out.length,lC (Q9 s0 n) n.seen,n.old,nN jX 4 (sRk s0 n) n.reqs n.reqs.length⟩ from rfl);unfold aR.all at hnd;simp only[aHp,aGE] at hnd;obtain⟨_,⟨_,⟨_,⟨n4,⟨n5,n6,d6⟩,d5⟩,d4⟩,d3⟩,d2⟩:=hnd;have Hy:=Hq (ha.k.below hb0);have HP0:=Hq (ha.p.below hb0);have HO0:=Hq (ha.o.below hb0);have akw:=Hq (ha.s.below hb0);have XH:=Hq (ha.r.below hb0);have HB0:=Hq (aGg w (.cells (dG n A) 40));have HL:=Hq (And.intro (XL ha.k) (And.intro (XL ha.p) (And.intro (XL ha.o) (And.intro (aaF ha.s) (XL ha.r)))));have amW:Hid (aC (G.all n) w (w.alloc (.cells (dG n A) 40))):=aC.of_below hb0;have jG:=Hq (λx=>(@aR.mem_all G n x).2);have HZ:=Hq hz;have HD2:=Hq d2;have HD3:=Hq d3;have HD4:=Hq d4;have HD5:=Hq d5;have HD6:=Hq d6;have am0:Hid ((fp G.s n.seen++nA G.i n.seen).Nodup):=aHp.2 ⟨n4,n5,λa ha b hb=>d5 a ha b (.inl hb)⟩;clear ha hz hb0 n4 n5 n6 d2 d3 d4 d5 d6;generalize G.all n=GA at *;generalize wM s0 n=MN at *;generalize iD s0 n=EN at *;generalize sPk s0 n=s1 at *;generalize sOk s0 n=s2 at *;generalize Q9 s0 n=s3 at *;generalize sRk s0 n=s4 at *;open apF in exact vU):P:=h
theorem aaN(h:P:=by
 have f0:=GR.Blk.free iy (k*4);have f1:=GR.Blk.free iy (k*4+1);have f2:=GR.Blk.free iy (k*4+2);have f3:=GR.Blk.free iy (k*4+3);go_wp2_with fail;exact AcQ):P:=h
theorem au8.AcQ(h:P:=by
 go_roundw
 case rel=>
  have h:=GR.Blk.set iy aN k Aaa ⟨pno,pk,pn,ps⟩;rw [ah TS] at h;exact⟨k+1,Aaa,Aaf,h,GR.setW_below (o:=k*4) (aGh w.heap.size) (aJ ⟨pno,pk,pn,ps⟩) fZ⟩
 case measure=>simp[intOf];omega):P:=h
theorem au9.AcQ(h:P:=by
 go_roundw
 case rel=>
  have h:=GR.Blk.set iy aZ k Aaa ⟨pi,pt,pk,pn⟩;rw [ah TS] at h;exact⟨k+1,Aaa,Aaf,h,GR.setW_below (o:=k*4) (aGh w.heap.size) (aM ⟨pi,pt,pk,pn⟩) fZ⟩
 case measure=>simp[intOf];omega):P:=h
theorem ava.AcQ(h:P:=by
 go_roundw
 case rel=>
  have h:=GR.Blk.set iy aU k Aaa ⟨pk,pm,pf,ps⟩;rw [ah TS] at h;exact⟨k+1,Aaa,Aaf,h,GR.setW_below (o:=k*4) (aGh w.heap.size) (fD ⟨pk,pm,pf,ps⟩) fZ⟩
 case measure=>simp[intOf];omega):P:=h
theorem Wq(h:P:=by
 obtain⟨c0,c1,c2,c3,c4,c5,c6,c7,c8,c9⟩:=jW HW1.blk;obtain⟨⟨p0,p1,p2,p3,p4,p5,p6,p7,p8,p9,oU⟩,_⟩:=aL yg;exact AbF):P:=h
theorem avb.AbF(h:P:=by
 have hwl:=aA HW.blk;have hne:wb≠w.heap.size:=Aaa
 exact AaB):P:=h
theorem avc.AbF(h:P:=by
 go_in
 go_upto_region 1 with fail;have y1:=aGj c1;open ax2 in exact aa5):P:=h
theorem avd.AbF(h:P:=by
 go_in
 go_upto_region 3 with fail;have y0:=aGj c0;have y1:=aGj c1;open ax1 in exact aa5):P:=h
theorem ave.AbF(h:P:=by
 have hwl:=aA HW.blk;have hne:wb≠w.heap.size:=Aaa
 go_in
 go_upto_region 1 with fail;have y1:=aGj c1;have y4:=aGj c4;open ax0 in exact aa5):P:=h
theorem ahp(h:P:=by
 have HR:Hid (textOf s k (some (n,c))=some (s.extract (k+c) (k+c+n),k+c+n)):=by unfold textOf;exact aGr hbad
 rw [aHn];have h1:¬1000 < n:=Aaa
 have h2:¬(s.size:Int) - ((k:Int)+(c:Int)) < (n:Int):=Aaa
 exact Ae1):P:=h
theorem avf.Ae1(h:P:=by
 clear hbad;open awE in exact aaX):P:=h
theorem avg.Ae1(h:P:=by
 have hz:(s.extract (k+c) (k+c+n)).size<=281474976710656:=by rw [aH6];omega
 clear hbad;go_in
 go_wp2_with (first|(go_at_call 251;refine(HS _).mono ?_;rintro e w1 ⟨rfl,rfl⟩;simp only[rX])|(go_at_call 67;refine(clone _ _ hz).mono ?_;rintro e w2 ⟨rfl,hb2⟩))
 go_ret3
 exact⟨by rw [ah HR];simp[uj],hb2⟩):P:=h
theorem ahq(h:P:=by
 have ho:=h.own;rw [<-h.len] at ho;obtain⟨a',c',g,e,hW,hg,hgo⟩:=GR.W.of_own (enc:=fq) bY ho;cases e
 rw [h.len] at hgo;have hfe:∀x,x∈fp g l->x∈fp g T2:=λx hx=>by have:=dQ hx;rw [this.1];exact dX (by rw [h.len];exact this.2)
 exact Ad8):P:=h
theorem avh.Ad8(h:P:=by
 refine⟨g,⟨T2,hW,h.len,λi hi=>?_⟩,λx hx=>⟨(hg x (hfe x hx)).1,hgo x (hfe x hx)⟩,λx hx=>?_,?_⟩
 .obtain⟨b,c,e1,e2,_⟩:=h.dn i hi hi;exact⟨b,c,e1,e2⟩
 .obtain⟨i,hi,rfl,hpos⟩:=qM hx;obtain⟨_,_,_,_,e3⟩:=h.dn i hi hi;exact e3 _ (dX hpos)
 .rw [qj];exact λi j hi hj hij h1 h2=>h.nd i j hi hj hij hj h1 h2):P:=h
theorem avi.Ad8(h:P:=by
 refine⟨g,⟨⟨T2,hW,h.len,λi hi=>?_⟩,λhp=>?_⟩,λx hx=>(hg x (hfe x hx)).1,λx hx=>?_,?_⟩
 .obtain⟨b,c,e1,e2,_⟩:=h.dn i hi hi;exact⟨b,c,e1,e2⟩
 .have hx:=hgo g (dX (by rw [h.len];exact hp));rcases h.own.2 with⟨_,hn⟩|⟨g',cap,cur,hv,_,hgg,_⟩
  .omega
  .rw [hv] at hx;have e3:g'=g:=Abm
   rw [e3] at hgg;exact⟨cur,hgg⟩
 .obtain⟨i,hi,rfl,hpos⟩:=qM hx;obtain⟨_,_,_,_,e3⟩:=h.dn i hi hi;have q:=e3 _ (dX hpos);exact⟨q.1,q.2.1,λhm=>q.2.2 (hgo _ (hfe _ hm))⟩
 .rw [qj];exact λi j hi hj hij h1 h2=>h.nd i j hi hj hij hj h1 h2):P:=h
theorem aaO(h:P:=by
 go_in
 go_wp2_with fail;refine HBS.mono ?_;rintro e w1 ⟨rfl,q,rfl⟩;rw [hf];exact AbP):P:=h
theorem avj.AbP(h:P:=by
 go_wp2_with fail;go_ret;exact⟨⟨rfl,rfl,rfl,aGh _,λ_ _=>rfl⟩,λ_ _ _ _=>rfl,.inl ⟨by first|trivial|rfl,rfl,HH.drewN⟩⟩):P:=h
theorem avk.AbP(h:P:=by
 clear HBS
 have HIN:=Hq (alV B (.slice a l.length cap) (l.map (·.k)) (place l key) key w.heap.size ((w.drewN q).alloc (.cells #[.string key] 9)) (by rw [aHi];exact mO l key) (by rw [aHi];exact hl) Aag
  (World.ownsRow.alloc (w:=w.drewN q) HH.row _) (aGg (w.drewN q) _) (λe=>by have:=HR.lt _ e;omega))
 go_wp2_with fail;refine HIN.mono ?_;rintro e w2 ⟨v',rfl,hown,hgr⟩;rw [aHi,acV,<-Dc l key] at hown;obtain⟨g',cap',rfl,_,_⟩:=hown.form (by rw [Dc];omega)
 have hlt:∀k,k < w.heap.size->(Value.slice a l.length cap).ownBlock≠some k->w2.heap[k]?=w.heap[k]?:=λk hk hne=>by
  rw [hgr.block k Aag (Ne.symm hne)]
  exact aGv (w.drewN q) _ _ hk
 have hm2:w2.heap[mp]?=some (.cells #[.slice a l.length cap,.map (some mb)] 352 (0,0)):=by rw [hlt mp hmp (own_ne (ah HR) (ah HH).blk Aae)];exact HH.blk
 have hb2:w2.heap[mb]?=w.heap[mb]?:=by
  obtain⟨es,clock,hbk⟩:=HH.map.blk;exact hlt mb hmb (yX HR hbk)
 have hbw:Below B w w2:=by
  refine⟨hgr.os,hgr.tape,hgr.output,aGm Aac hgr.size,λk hk=>hlt k Aaa (λe=>?_)⟩;have:=HR.lt _ e;omega
 have HO:=Hq hown;have OE:=Hq hm2;have HB2:=Hq hb2;have jl:=Hq hbw;have HLT:=Hq hlt;obtain⟨⟨n0,n1⟩,g0,g1⟩:=mV hm2;clear hown hgr hlt hm2 hb2 hbw HIN n1 g1;go_wp2_with fail;go_ret;refine⟨jl.setCell (p:=⟨mp,0,none⟩) HH.lop _,λk hk hne1 hne2=>Fo.one_other (HLT k hk hne2) hne1,.inr (.inr ⟨by first|trivial|rfl,Aaa,rfl,.slice (some ⟨g',0,none⟩) (Qp l key).length cap',?_,?_,?_,HH.lop,HH.lom⟩)⟩
 .exact Fo.blk_set OE 0 _
 .refine HO.kept (w':=w2.setCell ⟨mp,0,none⟩ _) (row:=some mp) ⟨rfl,rfl,rfl,by rw [Fo.setCell_size];exact aGh _,λk _ hne=>Fo.one_other rfl (λe=>hne Aap)⟩ (.inr (own_ne HO OE Aae))
 .refine HH.map.kept ?_;rw [Fo.one_other (ah HB2) (Ne.symm (ah HH).mpmb)]):P:=h
theorem avl.AbP(h:P:=by
 go_wp2_with fail;go_ret;exact⟨⟨rfl,rfl,rfl,aGh _,λ_ _=>rfl⟩,λ_ _ _ _=>rfl,.inr (.inl ⟨by first|trivial|rfl,H20,rfl⟩)⟩):P:=h
theorem aaP(h:P:=by
 rw [<-hW] at e1 e2 e3 e4;have HN:=Hq e1;have HO:=Hq e2;have HR:=Hq e3;have HB0:=Hq e4;have Ig:=Hq (mZ.kc (k:=9) (KC.of_below e4) Aaa);exact AcF):P:=h
theorem avm.AcF(h:P:=by
 clear hW e1 e2 e3 e4 mZ;open as6 in exact agN):P:=h
theorem avn.AcF(h:P:=by
 clear hW e1 e2 e3 e4;open as5 in exact agN):P:=h
theorem avo.AcF(h:P:=by
 clear hW e1 e2 e3 e4 mZ;obtain⟨⟨p0,p1,p2,p3,p4,p5,p6,p7,p8,p9,oU⟩,_⟩:=aL HO;have hol:=aA HO;obtain⟨c0,c1,c2,c3,c4,c5,c6,c7,c8⟩:=nine HN;obtain⟨d0,d1,d2,d3,d4,d5,d6,d7,d8⟩:=nine HR;have f0:=aj HR 0;have f1:=aj HR 1;have f2:=aj HR 2;have f3:=aj HR 3;have f4:=aj HR 4;have f5:=aj HR 5;have f6:=aj HR 6;have f7:=aj HR 7;have f8:=aj HR 8;have hnl:=aA HN;have hrl:=aA HR;go_wp2_with fail;refine aP (λW' hW'=>?_)
 have e4:W'.heap[w.heap.size+2]?=some (.cells (dG n A) 40 (0,0)):=by
  rw [hW'];exact GR.setW_blk (dG n A).toList (o:=0) (xs:=iP.toList) HR
 have fU:aC [w.heap.size+2] W0 W':=by
  rw [hW'];exact aX (dG n A).toList W0 0
 have HAT:=Hq (λW'' (ho:Out c w W' W'')=>(Ig.kc (k:=9) ((KC.keeps fU (λx hx=>by have:x=w.heap.size+2:=Aah;rw [this];exact bQ Aaa)).trans (KC.out H9 ho)) Aaa).rm);have pO:Hid (Below B w W'):=(HB0.mono hB).trans (fU.below (λx hx=>by have:x=w.heap.size+2:=Aah;omega) (aGm hB (HB0.mono hB).size));have uy:=Hq (Apart.keeps (c:=c) (Apart.of_below (HB0)) (HB0.mono hB).size fU (λx hx=>by have:x=w.heap.size+2:=Aah;omega));obtain⟨x0,x1,x2,x3,x4,x5,x6,x7,x8⟩:=nine e4;clear hW' e4 fU;exact aGn (v:= .tuple #[(gP n A),.int .i64 2]) Acd rfl ⟨A,rfl,HAT,pO,uy⟩):P:=h
theorem aaQ(h:P:=by
 have HB3:=Hq (au HB2 hb1);have rU:=Hq (HL2.trans (hb1.mono HL2.size));clear hb1 c0 c1 c2 c3 c4 c5 c6 c7 c8;obtain⟨c0,c1,c2,c3,c4,c5,c6,c7,c8⟩:=nine HB3;exact Ab1):P:=h
theorem avp.Ab1(h:P:=by
 cases h4:OT
 case' false=>
  have HP:=Hq (show TT=false by rw [ah HD];simp[h4]);clear h4 HD;go_wp2_with fail;go_ret;exact⟨aF HP.symm,rU⟩
 go_wp2_with fail;refine(HSE _ rU h1).mono ?_;rintro e w4 ⟨rfl,hb1⟩;open av0 in exact aaT):P:=h
theorem avq.Ab1(h:P:=by
 go_wp2_with fail;refine(HSS _ _ rU Aaa).mono ?_;rintro e w4 ⟨rfl,hb1⟩;open avZ in exact aaT):P:=h
theorem avr.Ab1(h:P:=by
 rcases hcase with rfl|⟨p0,p1,p2,p3⟩
 case' inl=>
  go_wp2_with fail;go_ret;exact⟨-1,rfl,rU,.inl rfl⟩
 have K3:=Hq (And.intro p2 p3);have q5:decide (z3 < 0)=false:=aGi Aaa;clear p2 p3;go_wp2_with fail;refine(HR _ _ rU Aaa Aaa).mono ?_;rintro e w4 ⟨z4,rfl,hb1,hcase⟩;open avY in exact aaT):P:=h
theorem OY(h:P:=by
 obtain⟨k,m,hk,rfl,rfl,hm,hbel⟩:=hrel;have HM:=Hq hm;have dS:=Hq hbel;clear hbel;exact Aa2):P:=h
theorem avs.Aa2(h:P:=by
 by_cases hlt:k < l.length
 .have hm0:0 < m:=Aaa
  have hm1:(m:Int)<=92233720368547758:=Aaa
  obtain⟨e0,hgl,s0,_⟩:=GR.W.one (GR.W.below HA dS) k (by rw [gU mkInt 1 s l l.length (aGh _)];exact hlt);rw [M8 mkInt 1 s l l.length k hlt (aGh _),<-hm] at s0;dsimp only[mkInt] at s0;subst e0;clear hm;go_wp2_with fail;first|go_quiet (fail)|skip
  go_wp2_with fail;go_roundw
  case rel=>exact⟨k+1,m+1,Aaa,Aaf,Aaf,by have:=ah HM;omega,dS.trans ⟨rfl,rfl,rfl,aGh _,λ_ _=>rfl⟩⟩
  case measure=>simp[intOf];omega
 .exact aeW):P:=h
theorem avt.Aa2(h:P:=by
 by_cases hlt:k < l.length
 .have hm0:0 < m:=Aaa
  have hm1:(m:Int)<=92233720368547758:=Aaa
  obtain⟨e0,hgl,⟨s0,s1,s2,s3⟩,_⟩:=GR.W.fourReq (GR.W.below HA dS) k (by rw [gU jX 4 s l l.length (aGh _)];exact hlt);rw [M8 jX 4 s l l.length k hlt (aGh _),<-hm] at s0 s1 s2 s3;dsimp only[jX] at s0 s1 s2 s3;subst e0;have Ol:=Hq (λz w1 (hz:z=((m+1:Nat):Int))=>nM (m+1) z w1 hz Aaa Aaa);exact akV
 .exact aeW):P:=h
theorem avu.Aa2(h:P:=by
 by_cases hlt:k < l.length
 .have hm0:0 < m:=Aaa
  have hm1:(m:Int)<=92233720368547758:=Aaa
  obtain⟨e0,hgl,⟨s0,s1,s2,s3⟩,_⟩:=GR.W.fourSent (GR.W.below HA dS) k (by rw [gU iN 4 s l l.length (aGh _)];exact hlt);rw [M8 iN 4 s l l.length k hlt (aGh _),<-hm] at s0 s1 s2 s3;dsimp only[iN] at s0 s1 s2 s3;subst e0;have Ol:=Hq (λz w1 (hz:z=((m+2:Nat):Int))=>nM (m+2) z w1 hz Aaa Aaa);exact akV
 .exact aeW):P:=h
theorem avv.Aa2(h:P:=by
 by_cases hlt:k < l.length
 .have hm0:0 < m:=Aaa
  have hm1:(m:Int)<=92233720368547758:=Aaa
  obtain⟨e0,hgl,⟨s0,s1,s2,s3⟩,_⟩:=GR.W.fourPurse (GR.W.below HA dS) k (by rw [gU gI 4 s l l.length (aGh _)];exact hlt);rw [M8 gI 4 s l l.length k hlt (aGh _),<-hm] at s0 s1 s2 s3;dsimp only[gI] at s0 s1 s2 s3;subst e0;have Ol:=Hq (λz w1 (hz:z=((m+0:Nat):Int))=>nM (m+0) z w1 hz Aaa Aaa);exact akV
 .exact aeW):P:=h
theorem avw.Aa2(h:P:=by
 by_cases hlt:k < l.length
 .open ato in exact agU
 .open an8 in exact vT):P:=h
theorem ahr(h:P:=by
 have Tk:=Hq (GR.own_below BL afs);have Oz:=Hq (show∀b,((.slice avR (pos) cvR:Value)).ownBlock=some b->b≠x3.heap.size from λb hb=>by have:=(BL.lt b hb).2;omega);have Xz:=Hq (zC.trans (afs.mono zC.size));clear afs;exact Afd):P:=h
theorem avx.Afd(h:P:=by
 generalize alR:x3.alloc (.cells (fH no k nn st) 95)=y3 at *;clear alR;generalize x3.heap.size=rb at *;exact Zk0):P:=h
theorem avy.Afd(h:P:=by
 generalize alR:x3.alloc (.cells #[.int .i64 mI] 3)=y3 at *;clear alR;generalize x3.heap.size=rb at *;exact Zk2):P:=h
theorem ahs(h:P:=by
 have y0:=(hcell 0 Aaa).1;rw [Nat.mul_one,aIa] at y0;simp only[List.getElem?_cons_zero] at y0;clear hcell;exact AdR):P:=h
theorem avz.AdR(h:P:=by
 have HUP:=Hq (fun(h:¬(aY s0 mL)[x] < mI)=>ad6 (l:=aY s0 mL) (x:=mI) hx HLO (λ_=>h))
 have aam:=Hq (fun(h:(aY s0 mL)[x] < mI)=>show∀y (hy:y < (aY s0 mL).length),y < x+1->(aY s0 mL)[y] < mI from λy hy h2=>by
  by_cases e:y=x
  .subst e;exact h
  .exact HLO y hy Aaa)
 generalize (aY s0 mL)[x]=rn at *;by_cases hcmp:rn < mI
 .go_wp2_with fail;go_quiet (fail);go_wp2_with fail;go_roundw
  case rel=>exact⟨x+1,_,Aaa,Aaf,aam hcmp,rfl⟩
  case measure=>simp[intOf];omega
 .have acd:decide (rn < mI)=false:=aGi hcmp;have HJ:=Hq (HUP hcmp);exact aix):P:=h
theorem avA.AdR(h:P:=by
 subst eb;have hlen:=Yy s0 mL k;by_cases hge:fK s0 mL<=s0.ids[k]
 .have HY:=Hq (Yz s0 mL k hlt hge);generalize s0.ids[k]=x at *;have hd:decide (fK s0 mL<=x)=true:=aGk hge;go_wp2_with fail;go_quiet (fail);go_wp2_with (at_builtin;refine aHg _ rfl _ _ 22 rfl W3.heap.size 3 i0 (.int .i64 0) 1 8 underlying22 hi0 hz0 hz1' hz2 rfl Aae _ _ _ rfl (Ec hown) ⟨wr.heap.size,0,none⟩ 1 1 [.int .i64 x] rfl rfl ?c1 ?c2 ?c3 ?c4 ?c5 ?_)
  case c1=>exact cell_one_new _ _ _
  case c2=>intro u hu;simp at hu;subst hu;rfl
  case c3=>unfold maxLen;omega
  case c4=>omega
  case c5=>have:=dS.size;simp;omega
  intro v' w2 hown' hgrow _;have aBx:=Hq (GR.below_append (wr:=wr.drewN nq) (dS.trans ⟨rfl,rfl,rfl,aGh _,λ_ _=>rfl⟩) dS.size hown hgrow)
  obtain⟨g',cp',rfl⟩:∃g' cp',v'= .slice (some ⟨g',0,none⟩) ((pR s0 mL k).length+1) cp':=by
   rcases hown'.2 with⟨_,hn⟩|⟨g',cap',cur,hv,_⟩
   .omega
   .exact⟨g',cap',hv⟩
  have HO2:=Hq hown';clear hown' hgrow;go_wp2_with fail;go_roundw
  case rel=>exact⟨k+1,g',cp',Aaa,Aaf,by rw [ah HY,aGp];rfl,by rw [ah HY,aGp,GR.flat_append,GR.flat_one];exact HO2,λe=>by rw [ah HY] at e;simp at e,aBx⟩
  case measure=>simp[intOf];omega
 .have HY:=Hq (acK s0 mL k hlt hge);generalize s0.ids[k]=x at *;have hd:decide (fK s0 mL<=x)=false:=aGi hge;go_wp2_with fail;go_quiet (fail);go_wp2_with fail;go_roundw
  case rel=>exact⟨k+1,g,cp,Aaa,Aaf,by rw [ah HY],by rw [ah HY];exact hown,by rw [ah HY];exact ake,dS.trans ⟨rfl,rfl,rfl,aGh _,λ_ _=>rfl⟩⟩
  case measure=>simp[intOf];omega):P:=h
theorem Ws(h:P:=by
 refine wp_at (λW hW=>?_);have jl:Hid (aI w W):=by rw [hW];first|exact jP w _ _|exact(jP w _ _).drew
 exact AbK):P:=h
theorem avB.AbK(h:P:=by
 have hX:W.heap[w.heap.size+1]?=some (.cells (cu 2 no ⟨#[]⟩ 0 0 0 0 0 0 ⟨#[]⟩ 0) 100 (0,0)):=Abs
 have hY:W.heap[w.heap.size]?=some (.cells (cu 2 no k n mK mF mT mI mL mk mN) 100 (0,0)):=Abt
 open awz in exact aaW):P:=h
theorem avC.AbK(h:P:=by
 have hX:W.heap[w.heap.size+1]?=some (.cells (cu 5 0 ⟨#[]⟩ 0 0 0 0 0 0 ⟨#[]⟩ 0) 100 (0,0)):=Abs
 have hY:W.heap[w.heap.size]?=some (.cells (cu 5 no k n mK mF mT mI mL mk mN) 100 (0,0)):=Abt
 open atV in exact ag3):P:=h
theorem avD.AbK(h:P:=by
 have hX:W.heap[w.heap.size+1]?=some (.cells (cu 1 no k n 0 0 0 0 0 ⟨#[]⟩ 0) 100 (0,0)):=Abs
 have hY:W.heap[w.heap.size]?=some (.cells (cu 1 no k n mK mF mT mI mL mk mN) 100 (0,0)):=Abt
 open awy in exact aaW):P:=h
theorem avE.AbK(h:P:=by
 exact AcO):P:=h
theorem aht(h:P:=by
 clear hat hmt hb5;have hwp:wr.heap.size<=y5.heap.size:=HG2.size;refine tk [6,7,8,9] ?_;iterate 4 (refine tkB hwp (λK hK=>?_);go_simp;first|refine hK _ ?_|(apply Exists.intro;refine⟨λ_=>?_,hK _ ?_⟩;rfl);clear hK K)
 refine kD ?_;clear hwp;exact Ady):P:=h
theorem avF.Ady(h:P:=by
 refine gL 10 rfl Aab Aad Aae (λx10 FH=>?_);have OA:=Hq (Ge.trans HG2 FH);have HD3:=Hq (show Ge y5 x10 from FH);go_simp;refine⟨(ay x10 _).mono OA.size,?_⟩;have hqd:x10.heap.size < x5.heap.size\/y5.heap.size<=x10.heap.size:= .inr HD3.size;have hqV:wr.heap.size<=x10.heap.size:=OA.size;have HGf:=Hq (Ge.trans OA (ay x10 (.cells iP 40)));have HDf:=Hq (Ge.trans HD3 (ay x10 (.cells iP 40)));have HQf:=Hq (aGg x10 (.cells iP 40));clear FH OA HD3;generalize x10.heap.size=qf at *;exact azs):P:=h
theorem avG.Ady(h:P:=by
 have HGf:=HG2;have HDf:=Hq (aGs y5.heap.size y5);have HQf:=HQ2;exact azs):P:=h
theorem aaR(h:P:=by
 obtain⟨K,no,k,nn,⟨mK,mF,mT,mI,mL,mk,mN⟩⟩:=o;have HW1:=Hq (h.step (ay w (.cells (cu K no k nn mK mF mT mI mL mk mN) 100)));exact Ab6):P:=h
theorem avH.Ab6(h:P:=by
 have hq2:(n.par == -1)=true:=Abh
 clear h hR HSY hpar;obtain⟨c0,c1,c2,c3,c4,c5,c6,c7,c8,c9⟩:=jW HW1.blk;go_in
 go_wp2_with fail;go_ret;exact⟨rfl,c,v,HW1⟩):P:=h
theorem avI.Ab6(h:P:=by
 have hwl:=aA h.blk;have hne:wb≠w.heap.size:=Aaa
 have HBO:=Hq (show Below w0.heap.size w0 (w.alloc (.cells (cu K no k nn mK mF mT mI mL mk mN) 100)) from HW1.keep);have HSA:=Hq (λW c v L' (hW:WK w0 W wb n A G c v L')=>hW.no.at.o);clear h hz;generalize qO n=PM at *;obtain⟨ak,ap,ao,as',ar,ck,cp,co,cs,cr⟩:=A;obtain⟨c0,c1,c2,c3,c4,c5,c6,c7,c8,c9⟩:=jW HW1.blk;go_in
 go_wp2_with fail;go_loopw [13] (λi wr=>∃(k:Nat) (c':Nat->Nat) (v':Value),k<=n.out.length/\i= .int .i64 k/\WK w0 wr wb n ⟨ak,ap,ao,as',ar,ck,cp,co,cs,cr⟩ G c' v' (L++(n.out.take k).map PM)) (λi _=>n.out.length - (intOf i).toNat)
 case atStart=>exact⟨0,c,v,aGB _,rfl,by simpa using ah HW1⟩
 case round=>
  obtain⟨k,cc,vv,hk,rfl,hS⟩:=hrel;have BK:=Hq hS;clear hS c0 c1 c2 c3 c4 c5 c6 c7 c8 c9;have hwr:=aA BK.blk;by_cases hlt:k < n.out.length
  .obtain⟨g,off,e0,hg,q0,q1,q2,q3⟩:=SentAt.four (HSA wr cc vv _ BK) k hlt;have HKk:=Hq (HKK n.out[k] (aGz hlt));have HT:=Hq (show L++(n.out.take (k+1)).map PM=L++(n.out.take k).map PM++[PM n.out[k]] by rw [aGt hlt,List.map_append,aGN];rfl);have akp:=Hq (Il n.out[k]);generalize n.out[k]=sk at *;generalize PM sk=mk' at *;obtain⟨si,st,sx,sn⟩:=sk;obtain⟨qK,qF,qT,qI,qL,qk,qN⟩:=mk';dsimp only at q0 q1 q2 q3 HKk e0;subst e0;go_upto_region 4 with fail;refine wp_at (λW3 hW3=>?_);have HR3:Hid (W3.heap[wr.heap.size]?=some (.cells (gV si st sx sn) 91 (0,0))):=by rw [hW3];exact aGg _ _
   have ER:Hid (WK w0 W3 wb n ⟨ak,ap,some ⟨g,off,none⟩,as',ar,ck,cp,co,cs,cr⟩ G cc vv (L++(n.out.take k).map PM)):=by rw [hW3];exact BK.step (ay wr _)
   clear hW3 q0 q1 q2 q3;have aBV:=Hq (λp:Regrown=>akp (Gr W3 p) (GR.At.below (HSA W3 cc vv _ ER) (aHr W3 p.d p.os)));have hr3:=aA HR3;have hw3:=aA ER.blk;have hnr:wb≠wr.heap.size:=Aaa
   obtain⟨c0,c1,c2,c3,c4,c5,c6,c7,c8,c9⟩:=jW ER.blk;obtain⟨d0,d1,d2,d3⟩:=iO HR3;open aoJ in exact XQ
  .have hke:k=n.out.length:=Aaa
   subst hke;have hnlt:decide ((n.out.length:Int) < (n.out.length:Int))=false:=Aac
   go_wp2_with fail;go_ret;have hS:=ah BK;rw [aGL] at hS;exact⟨rfl,cc,vv,hS⟩):P:=h
theorem avJ.Ab6(h:P:=by
 have hq2:(n.par == -1)=true:=Abh
 clear h hR Il hpar;obtain⟨c0,c1,c2,c3,c4,c5,c6,c7,c8,c9⟩:=jW HW1.blk;go_in
 go_upto_region 1 with fail;have y1:=aGj c1;clear c0 c1 c2 c3 c4 c5 c6 c7 c8 c9;refine dB Aab ?_;show iq _ _ _ _ 20 (Array.replicate 20 false) _ _
 refine tk [0,1,2,3,4,5,6,7,8,9,10,11,12,13,14,15,16,17,18,19] ?_;iterate 20 (refine BA (λK hK=>?_);go_simp;refine hK _ ?_;clear hK K)
 refine kD ?_;refine fF Aab (λz hz=>?_);have HZ:=Hq (HW1.step hz);clear hz y1;exact ajz):P:=h
theorem ahu(h:P:=by
 cases hx1:uU x
 case' false=>
  exact azm
 by_cases hx2:x=id
 case' pos=>
  exact azk
 have hy2:(x == id)=false:=by simp[hx2]
 by_cases hx3:x=par
 case' pos=>
  exact azj
 have hy3:(x == par)=false:=by simp[hx3]
 exact Adu):P:=h
theorem avK.Adu(h:P:=by
 by_cases hx4:y < x
 case' neg=>
  have hy4:decide (x<=y)=true:=aGk Aaa;have HP:=Hq (HBAD (by rw [ah iQ];simp[kW,iX,hx4]));clear HBAD iQ;exact aeS
 have hy4:decide (x<=y)=false:=aGi Aaa;have HG:=Hq (show iA (kW id par) iX (kids.take (j+1+1))=true by rw [ah iQ];simp[kW,hx1,hx2,hx3,iX,hx4]);clear HBAD iQ;open aqw in exact akK):P:=h
theorem avL.Adu(h:P:=by
 have HG:=Hq (show iA (kW id par) iX (kids.take (0+1))=true by rw [ah iQ];simp[kW,hx1,hx2,hx3]);clear HBAD iQ;open aqx in exact akK):P:=h
theorem ahv(h:P:=by
 obtain⟨R,hR⟩:∃R,cK ⟨6,no,k,n,m⟩=R:=⟨_,rfl⟩;rw [hR];have HP:=Hq (show R=(decide (k.toList=[])&&decide (n=0)&&decide (no=0)&&cZ m) by rw [<-hR];simp[cK]);clear hR;generalize cZ m=OK at *;obtain⟨mK,mF,mT,mI,mL,mk,mN⟩:=m;exact AdH):P:=h
theorem avM.AdH(h:P:=by
 have HX:=Hq (aGg (w.alloc (.cells (cu 6 no k n mK mF mT mI mL mk mN) 100)) (.cells (cu 6 0 ⟨#[]⟩ 0 0 0 0 0 0 ⟨#[]⟩ 0) 100));have HY:=Hq (aK (aGg w (.cells (cu 6 no k n mK mF mT mI mL mk mN) 100)) (ay _ (.cells (cu 6 0 ⟨#[]⟩ 0 0 0 0 0 0 ⟨#[]⟩ 0) 100)));rw [show(w.alloc (.cells (cu 6 no k n mK mF mT mI mL mk mN) 100)).heap.size=w.heap.size+1 by simp] at HX;go_in
 go_wp2_with fail;refine(HM _).mono ?_;rintro e w1 ⟨rfl,hb1⟩;have zx:=Hq (aK HX hb1);have XK:=Hq (aK HY hb1);have HB1:=Hq ((jP w _ _).trans (hb1.mono Aag));clear hb1 HX HY;obtain⟨x0,x1,x2,x3,x4,x5,x6,x7,x8,x9,x10⟩:=Eo zx;obtain⟨y0,y1,y2,y3,y4,y5,y6,y7,y8,y9,y10⟩:=Eo XK;have f4:=uY zx 4;have f5:=uY zx 5;have f6:=uY zx 6;have f7:=uY zx 7;have f8:=uY zx 8;have f9:=uY zx 9;have f10:=uY zx 10;cases hOK:OK
 .go_wp2_with fail
  all_goals
   go_ret
   refine⟨aF ?_,?_⟩
   .rw [ah HP];simp[hOK]
   .exact O7
 have HKK:=Hq hOK;clear hOK;by_cases hno:no=0
 case' neg=>
  have hno':¬(0:Int)=no:=λe=>hno e.symm
  go_wp2_with fail
  all_goals
   go_ret
   refine⟨aF ?_,?_⟩
   .rw [ah HP];simp[hno]
   .exact O7
 subst hno;by_cases hk:k.toList=[]
 case' neg=>
  go_wp2_with fail
  all_goals
   go_ret
   refine⟨aF ?_,?_⟩
   .rw [ah HP];simp[hk]
   .exact O7
 by_cases hn:n=0
 case' neg=>
  have hn':¬(0:Int)=n:=λe=>hn e.symm
  go_wp2_with fail
  all_goals
   go_ret
   refine⟨aF ?_,?_⟩
   .rw [ah HP];simp[hn,hk]
   .exact O7
 subst hn;go_wp2_with fail
 all_goals
  go_ret
  refine⟨aF ?_,?_⟩
  .rw [ah HP];simp[hk,ah HKK]
  .exact O7):P:=h
theorem avN.AdH(h:P:=by
 go_in
 go_wp2_with (go_at_call 144;refine(HM _).mono ?_;rintro e w1 ⟨rfl,hb1⟩;have HB1:=Hq hb1;clear hb1)
 all_goals
  go_ret
  refine⟨aF ?_,by first|exact ay w _|exact(ay w _).trans (HB1.mono Aac)⟩
  rw [ah HP]
  simp[*]):P:=h
theorem aaS(h:P:=by
 have HW1:=Hq (h.step (ay w (.cells (bX mK mF mT mI mL mk mN) 98)));have yg:=Hq (aGg w (.cells (bX mK mF mT mI mL mk mN) 98));exact AcE):P:=h
theorem avP.AcE(h:P:=by
 have hwl:=aA h.blk;have hne:wb≠w.heap.size:=Aaa
 have Tg:=Hq (λp:Regrown=>HW1.no.at.below (aHr _ p.d p.os));clear h hp hz;obtain⟨c0,c1,c2,c3,c4,c5,c6,c7,c8,c9⟩:=jW HW1.blk;obtain⟨p0,p1,p2,p3,p4,p5,p6⟩:=jV yg;open aoK in exact XQ):P:=h
theorem avQ.AcE(h:P:=by
 clear h;obtain⟨c0,c1,c2,c3,c4,c5,c6,c7,c8,c9⟩:=jW HW1.blk;have hwl:=aA HW.blk;have hne:wb≠w.heap.size:=Aaa
 go_in
 go_wp2_with fail;refine(HIX w.heap.size _ HW1.no.at.s yg).mono ?_;rintro e w2 ⟨rfl,hb2⟩;have HW2:=Hq (HW1.step hb2);have yG:=Hq (au yg hb2);have HJ2:Hid (∀j mm,kC w j mm->kC w2 j mm):=λj mm hj=>au (au hj (ay w _)) hb2
 clear hb2 HW1 yg HIX c0 c1 c2 c3 c4 c5 c6 c7 c8 c9;obtain⟨c0,c1,c2,c3,c4,c5,c6,c7,c8,c9⟩:=jW HW2.blk;obtain⟨g,off,b,cc,e0,hg,q0,q1,q2,xU⟩:=HW2.no.at.s i hi;rw [ah LD] at q0 q1 q2 xU;have HSO:=Hq (setOf s0.f s0.l b cc s0.ids w2 aeG.2.2.1 (λx hx=>by have:=aeG.2.2.2.1 x hx;have:=aeG.1;omega) xU);have alM:=aA HW2.blk;have hiI:(i:Int) < (n.seen.length:Int):=Aaa
 clear xU;rw [e0] at c6;go_wp2_with fail;refine HSO.mono ?_;rintro e w3 ⟨sb,mb,rfl,hsb,hmb,hS3,hI3,hb3⟩;have HW3:Hid (ru w0 w3 wb sb mb s0.ids.length n A G (newC w2.heap.size 9 c) v L s0.l s0.ids):=⟨(HW2.recol (c':=newC w2.heap.size 9 c) (λx hx=>fE hx)).step hb3,hS3,hI3,bQ hsb,bQ hmb⟩;have SN:=Hq (au yG hb3);have HJ3:Hid (∀j mm,kC w j mm->kC w3 j mm):=λj mm hj=>au (HJ2 j mm hj) hb3
 have aDI:w.heap.size≠sb:=by have:=aA yG;omega
 have aAp:w.heap.size≠mb:=by have:=aA yG;omega
 clear hS3 hI3 hb3 hsb hmb q0 q1 q2 e0 HSO c0 c1 c2 c3 c4 c5 c6 c7 c8 c9;obtain⟨⟨p0,p1,p2,p3,p4,p5,p6⟩,_⟩:=eT SN;have hpl:=aA SN;go_wp2_with fail;refine(afM sb mb s0.ids.length s0.l mL (fK s0 mL) s0.ids w3 HMX HW3.bk HW3.si).mono ?_;rintro e w4 ⟨rfl,hS4,hI4,hk4⟩;have HW4:=Hq (HW3.lift hS4 hI4 hk4);have Sq:=Hq (hk4.obj SN (by simp[aDI,aAp]))
 have HJ4:Hid (∀j mm,kC w j mm->kC w4 j mm):=λj mm hj=>hk4.obj (HJ3 j mm hj) (by
  have h1:=UL (HJ3 j mm hj) HW3.bk
  have h2:=HW3.si.far (HJ3 j mm hj)
  simp[h1,h2])
 clear hS4 hI4 hk4 p0 p1 p2 p3 p4 p5 p6 hpl HJ2 HJ3;obtain⟨⟨p0,p1,p2,p3,p4,p5,p6⟩,_⟩:=eT Sq;have hpl:=aA Sq;go_wp2_with fail;refine(als sb mb s0.ids.length (fK s0 mL) mI (aY s0 mL) w4 hI0 hI1 HW4.bk HW4.si).mono ?_;rintro e w5 ⟨rfl,hb5⟩;have HW5:=Hq (HW4.step hb5);have JO:=Hq (au Sq hb5);have HJ5:Hid (∀j mm,kC w j mm->kC w5 j mm):=λj mm hj=>au (HJ4 j mm hj) hb5
 have hhs:(decide (mI < fK s0 mL)||decide (mI∈aY s0 mL))=sV s0 mL mI:=by
  unfold sV;congr 1
  rw [aHu,aGR,zZ]
 rw [hhs];clear hhs hb5 p0 p1 p2 p3 p4 p5 p6 hpl HW4 Sq HW3 SN;cases hq:sV s0 mL mI
 case' true=>
  have HQ:=Hq hq;clear hq;go_wp2_with fail;obtain⟨n',A',G',c',kk,l2,HWS,ael,HLEN,HSL,HTE⟩:∃(n':Nd) (A':bV) (G':aR) (c':Nat->Nat) (kk:Nat) (l2:List Int),Hid (ru w0 w5 wb sb mb kk n' A' G' c' v L (fK s0 mL) l2)/\Hid (l2.Pairwise (· < ·))/\Hid (l2.length<=1000)/\Hid (n'.seen.length=n.seen.length)/\Hid (TT=(dM n' (n'.seen.set i ⟨mF,fK s0 mL,l2⟩),true)):=⟨n,A,G,_,_,_,HW5,DC.2.2.2.2,aGm DC.2.2.1 Aaa,rfl,HTH HQ⟩;have fI:=Hq JO;have HJW:=Hq HJ5;clear HTH Tg HTN HGS HGF HQ HW5 JO HW2 yG;exact Zk3
 have HQ:=Hq hq;clear hq;obtain⟨⟨p0,p1,p2,p3,p4,p5,p6⟩,_⟩:=eT JO;have hpl:=aA JO;have hnd:(aY s0 mL).Nodup:=DC.2.2.2.2.imp (λh=>Aaa);have HND:=Hq hnd;clear hnd;by_cases hf:(aY s0 mL).length=40
 case' pos=>
  have HF:=Hq hf;clear hf;go_wp2_with fail;refine(HGF w5 sb mb _ A G _ _ _ HND HF HW5).mono ?_;rintro e w6 ⟨rfl,hb6⟩;have fI:=Hq (au JO hb6);have HJW:Hid (∀j mm,kC w j mm->kC w6 j mm):=λj mm hj=>au (HJ5 j mm hj) hb6
  have lu:Hid (mG n s0 ⟨mK,mF,mT,mI,mL,mk,mN⟩=false):=by
   show mG n s0 ⟨mK,mF,mT,mI,mL,mk,mN⟩=false
   unfold mG;rw [aGi (by have:=ah HF;dsimp only;omega),Bool.and_false]
  go_wp2_with fail;obtain⟨n',A',G',c',kk,l2,HWS,ael,HLEN,HSL,HTE⟩:∃(n':Nd) (A':bV) (G':aR) (c':Nat->Nat) (kk:Nat) (l2:List Int),Hid (ru w0 w6 wb sb mb kk n' A' G' c' v L (fK s0 mL) l2)/\Hid (l2.Pairwise (· < ·))/\Hid (l2.length<=1000)/\Hid (n'.seen.length=n.seen.length)/\Hid (TT=(dM n' (n'.seen.set i ⟨mF,fK s0 mL,l2⟩),false)):=⟨n,A,G,_,_,_,HW5.step hb6,DC.2.2.2.2,aGm DC.2.2.1 Aaa,rfl,HTN HQ lu⟩;clear hb6 HTH Tg HTN HGS HGF HQ HW5 JO HW2 yG lu HF HND p0 p1 p2 p3 p4 p5 p6 hpl;exact Zk3
 have HF:Hid ((aY s0 mL).length < 40):=by
  have:=DC.2.2.1;show(aY s0 mL).length < 40
  omega
 clear hf;go_wp2_with fail;refine(HGS w5 sb mb _ A G _ _ _ (by have:=aeG.2.2.1;omega) HND HF HW5).mono ?_;rintro e w6 ⟨rfl,⟨A1,G1,c1,PN⟩,Sy⟩;have fI:=Hq (Sy w.heap.size _ Aaa aAp JO);have HJW:Hid (∀j mm,kC w j mm->kC w6 j mm):=λj mm hj=>Sy j _ (YT (HJ5 j mm hj) HW5.wk.blk) (HW5.si.far (HJ5 j mm hj)) (HJ5 j mm hj)
 have Wh:=Hq PN;clear PN Sy p0 p1 p2 p3 p4 p5 p6 hpl HGS HGF;cases hr:(dK n.pu mk 0 1 0 mN).2
 case' false=>
  have lu:Hid (mG n s0 ⟨mK,mF,mT,mI,mL,mk,mN⟩=false):=by
   show mG n s0 ⟨mK,mF,mT,mI,mL,mk,mN⟩=false
   unfold mG;rw [hr,Bool.false_and]
  rw [hr] at Wh;clear hr;go_wp2_with fail;obtain⟨n',A',G',c',kk,l2,HWS,ael,HLEN,HSL,HTE⟩:∃(n':Nd) (A':bV) (G':aR) (c':Nat->Nat) (kk:Nat) (l2:List Int),Hid (ru w0 w6 wb sb mb kk n' A' G' c' v L (fK s0 mL) l2)/\Hid (l2.Pairwise (· < ·))/\Hid (l2.length<=1000)/\Hid (n'.seen.length=n.seen.length)/\Hid (TT=(dM n' (n'.seen.set i ⟨mF,fK s0 mL,l2⟩),false)):=⟨n,A1,G1,c1,_,_,Wh,DC.2.2.2.2,aGm DC.2.2.1 Aaa,rfl,HTN HQ lu⟩;clear HTH Tg HTN HQ HW5 JO HW2 yG lu HF HND Wh;exact Zk3
 have lu:Hid (mG n s0 ⟨mK,mF,mT,mI,mL,mk,mN⟩=true):=by
  show mG n s0 ⟨mK,mF,mT,mI,mL,mk,mN⟩=true
  unfold mG;rw [hr,aGk (ah HF),Bool.true_and]
 rw [hr] at Wh;clear hr;have HNI:=Hq (WQ HQ).2;go_wp2_with fail
 obtain⟨n',A',G',c',kk,l2,HWS,ael,HLEN,HSL,HTE⟩:∃(n':Nd) (A':bV) (G':aR) (c':Nat->Nat) (kk:Nat) (l2:List Int),Hid (ru w0 w6 wb sb mb kk n' A' G' c' v L (fK s0 mL) l2)/\Hid (l2.Pairwise (· < ·))/\Hid (l2.length<=1000)/\Hid (n'.seen.length=n.seen.length)/\Hid (TT=(dM n' (n'.seen.set i ⟨mF,fK s0 mL,l2⟩),true)):=⟨setPu n (dK n.pu mk 0 1 0 mN).1,A1,G1,c1,_,lX (aY s0 mL) mI,⟨Wh.wk,Wh.bk,Wh.si.same (λx=>by rw [Qo];exact aGF),Wh.cs,Wh.cm⟩,Qn DC.2.2.2.2 HNI,(by
  show(lX (aY s0 mL) mI).length<=1000
  rw [Db]
  have:=ah HF
  omega),rfl,Tg HQ lu⟩
 clear HTH Tg HTN HQ HW5 JO HW2 yG lu HF HND Wh HNI;exact Zk3):P:=h
theorem avS.AcE(h:P:=by
 obtain⟨c0,c1,c2,c3,c4,c5,c6,c7,c8,c9⟩:=jW HW1.wk.blk;obtain⟨⟨p0,p1,p2,p3,p4,p5,p6⟩,_⟩:=eT yg;obtain⟨⟨d0,d1⟩,_⟩:=mV HW1.bk;have hlen:=aEv HW1.si hnd;have hwl:=aA HW.wk.blk;have hsl:=aA HW.bk;have hne:wb≠w.heap.size:=Aaa
 have hne2:sb≠w.heap.size:=Aaa
 clear h;go_in
 go_upto_region 1 with fail;have y4:=aGj c4;have z3:=aGj p3;have z5:=aGj p5;have z6:=aGj p6;have x1:=aGj d1;clear c0 c1 c2 c3 c4 c5 c6 c7 c8 c9 p0 p1 p2 p3 p4 p5 p6 d0 d1;exact Aen):P:=h
theorem ahw(h:P:=by
 obtain⟨⟨p0,p1,p2,p3,p4,p5,p6,p7,p8,p9,oU⟩,_⟩:=aL SS;have hpl:=aA SS;go_wp2_with fail;refine(vS z HZ).mono ?_;rintro e w1 ⟨rfl,hb1⟩;have HZ1:=Hq (HZ.step hb1);clear hb1 vS p0 p1 p2 p3 p4 p5 p6 p7 p8 p9 oU HZ SS;exact Afc):P:=h
theorem avU.Afc(h:P:=by
 obtain⟨g,hAr,hgw,hgl,⟨q0,q1,q2,q3⟩,qf⟩:=HZ1.reqRow i hil;obtain⟨d0,d1,d2,d3,d4,d5,d6,d7,d8,d9⟩:=jW HZ1.blk;rw [hAr] at d8;have aEs:=aA HZ1.blk;have aDX:(i:Int) < (n.reqs.length:Int):=Aaa
 rw [hs] at q3;go_upto_region 7 with fail;refine wp_at (λW hW=>?_);obtain rfl:=hW;exact Ae6):P:=h
theorem avV.Afc(h:P:=by
 go_wp2_with fail;go_ret;exact⟨rfl,A,G,c,HZ1⟩):P:=h
theorem ahx(h:P:=by
 refine dx 20 Aab ?_;show fA _ _ _ _ _ 23 (Array.replicate 23 false) _ _
 refine tk [0,1,2,3,4,5,6,7,8,9,10,11,12,13,14,15,16] ?_;iterate 17 (refine vX (λK hK=>?_);go_simp;refine hK _ ?_;clear hK K)
 refine kD ?_;exact AdE):P:=h
theorem avW.AdE(h:P:=by
 clear y1 y4 z2 z3;refine dP 17 rfl Aab Aad (λx hx=>?_);go_simp;have kJ:=Hq ((ay w (.cells (cu K no k nn mK mF mT mI mL mk mN) 100)).trans (hx.mono Aac));clear hx;refine(HMI x kJ).mono ?_;rintro e y ⟨a,cp,g,hg,rfl,hp,hby⟩;refine⟨hby,?_⟩;have JC:=Hq (kJ.trans (hby.mono kJ.size));have HST:=Hq (λz (hz:Ge y z)=>Xp (cp:=cp) HW (JC.trans (hz.mono JC.size)) (aGm kJ.size hg) (hp.below hz));clear hby hg hp HMI;refine tk [18,19] ?_;iterate 2 (refine vX (λK hK=>?_);go_simp;refine hK _ ?_;clear hK K)
 refine kD ?_;refine bE Aab (λz hz=>?_);refine aG 20 rfl Aab Aad ?_;go_simp;refine(HST z hz).mono ?_;rintro e z2 ⟨rfl,A',G',c',hZ⟩;have HZ:=Hq hZ;clear hZ HST hz;open awU in exact ahN):P:=h
theorem avX.AdE(h:P:=by
 clear y4 z3 z5 z6 x1;refine dP 17 rfl Aab Aad (λx hx=>?_);go_simp;have kJ:=Hq ((ay w (.cells (bX mK mF mT mI mL mk mN) 98)).trans (hx.mono Aac));have HXP:=Hq (au yg hx);clear hx;refine(HGN x kJ).mono ?_;rintro e y ⟨a,cp,g,hg,rfl,hp,hby⟩;refine⟨hby,?_⟩;have JC:=Hq (kJ.trans (hby.mono kJ.size));have HYP:=Hq (au HXP hby);have HST:=Hq (λz (hz:Ge y z)=>Xo (cp:=cp) HW.wk (JC.trans (hz.mono JC.size)) (aGm kJ.size hg) (hp.below hz));clear hby hg hp HGN;refine tk [18,19] ?_;iterate 2 (refine vX (λK hK=>?_);go_simp;refine hK _ ?_;clear hK K)
 refine kD ?_;refine bE Aab (λz hz=>?_);have uo:=Hq (JC.trans (hz.mono JC.size));have HZP:=Hq (au HYP hz);refine aG 20 rfl Aab Aad ?_;go_simp;refine(HST z hz).mono ?_;rintro e z2 ⟨rfl,A',G',c',hZ,hko,hcc⟩;have HZ:=Hq (HW.settled uo hZ hko hcc);have yG:=Hq (hko w.heap.size _ Aaa HZP);have HKO:Hid (∀j o,j≠wb->w.heap[j]?=some o->z2.heap[j]?=some o):=λj o h1 h2=>hko j o h1 (au h2 uo)
 clear hZ hko hcc HST hz uo HZP HYP JC HXP kJ;open awT in exact ahN):P:=h
theorem aaT(h:P:=by
 have nG:=Hq (au HB3 hb1);have Ie:=Hq (rU.trans (hb1.mono rU.size));clear hb1 c0 c1 c2 c3 c4 c5 c6 c7 c8;obtain⟨c0,c1,c2,c3,c4,c5,c6,c7,c8⟩:=nine nG;exact AcG):P:=h
theorem avY.AcG(h:P:=by
 rcases hcase with rfl|⟨p0,p1,p2,p3⟩
 case' inl=>
  go_wp2_with fail;go_ret;exact⟨-1,rfl,Ie,.inl rfl⟩
 have K4:=Hq (And.intro p2 p3);have q6:decide (z4 < 0)=false:=aGi Aaa;clear p2 p3;go_wp2_with fail;go_ret;exact⟨z4,rfl,Ie,.inr ⟨p0,p1,HQ Aaa K1 K2 K3 K4⟩⟩):P:=h
theorem avZ.AcG(h:P:=by
 rw [<-ah HQ4];have hn4:decide ((s4:Int) < 0)=false:=aGi Aaa;go_wp2_with fail;refine(HRR _ _ Ie Aaa).mono ?_;open axI in exact ah5):P:=h
theorem av0.AcG(h:P:=by
 cases h5:TD
 case' false=>
  have HP:=Hq (show TT=false by rw [ah HD];simp[h5]);clear h5 HD;go_wp2_with fail;go_ret;exact⟨aF HP.symm,Ie⟩
 go_wp2_with fail;refine(HRE _ Ie).mono ?_;open axH in exact ah5):P:=h
theorem ahy(h:P:=by
 unfold gJ;have H9:=Hq h9;clear h9;have mZ:=Hq (h.nine hB);have HGS:=Hq (h.s);have hc4:c G.s=4:=h.c4 G.s (dX Aaa);clear h;go_in
 go_upto_region 1 with fail;refine wp_at (λW0 hW=>?_);exact Ad1):P:=h
theorem av1.Ad1(h:P:=by
 obtain⟨e1,e2,e3,e4⟩:=gF w (.cells (dG n (⟨a_k,ku,fP,gN,gX,bf,dJ,bJ,bg,bC⟩:bV)) 40) (.cells (bX mK mF mT mI mL mk mN) 98) (.cells iP 40);open aqk in exact ayA):P:=h
theorem av2.Ad1(h:P:=by
 obtain⟨e1,e2,e3,e4⟩:=gF w (.cells (dG n (⟨a_k,(some ⟨gp,0,none⟩),fP,gN,gX,bf,dJ,bJ,bg,bC⟩:bV)) 40) (.cells (bX mK mF mT mI mL mk mN) 98) (.cells iP 40);open aql in exact ayA):P:=h
theorem aaU(h:P:=by
 rcases ho.2 with⟨_,hy⟩|⟨g,cp,cur,hx,hbg,hgg,hnc,hcm,hcs,htk⟩
 .omega
 simp only[aG4] at hx;obtain⟨rfl,_,rfl⟩:=hx;exact AcC):P:=h
theorem av3.AcC(h:P:=by
 by_cases hroom:l.length+1<=cap
 .refine(MX g cap i l q vb w cur hl hi2 hroom hcm (hne g rfl) hgg hcs htk hv).mono ?_;rintro e w' ⟨rfl,hb,hgr⟩;have hcl:(l.length+1)*4<=cur.toList.length:=Adc
  refine⟨some ⟨g,0,none⟩,cap,by rw [hlen],?_,hgr,λx hx=> .inl hx⟩;rw [hlen];refine⟨hfl,.inr ⟨g,cap,_,rfl,hbg,hb,hroom,hcm,?_,?_⟩⟩
  .rw [aHh,adK _ _ _ _ hi2 hcl,show cur.toList.length=cur.size from aG2,hcs]
  .exact Zl cur.toList l i q hi2 hcl htk
 .refine(Qr g cap i l q vb w cur hl hi2 hnc Aaa hgg htk hv).mono ?_;rintro e w' ⟨G,cur',rfl,hG,hGm,hb,hs,ht,hgr⟩;refine⟨some ⟨w.heap.size,0,none⟩,G,by rw [hlen],?_,⟨hgr.os,hgr.tape,hgr.output,hgr.size,λk hk _=>hgr.block k hk Aac⟩,λx hx=> .inr ?_⟩
  .rw [hlen];exact⟨hfl,.inr ⟨w.heap.size,G,cur',rfl,hB,hb,hG,hGm,hs,ht⟩⟩
  .have:w.heap.size=x:=Abm
   omega):P:=h
theorem av4.AcC(h:P:=by
 refine(Yd g cap l w cur h2 hl hnc hcm hgg hcs htk).mono ?_;rintro e w' ⟨rfl,hb,hgr⟩;have hcl:l.length*4<=cur.toList.length:=Adc
 refine⟨some ⟨g,0,none⟩,cap,by rw [hlen],?_,hgr,λx hx=> .inl hx⟩;rw [hlen];refine⟨by rw [iB,hlen],.inr ⟨g,cap,_,rfl,hbg,hb,Aaa,hcm,?_,?_⟩⟩
 .rw [aHh,adM _ _ h2 hcl,show cur.toList.length=cur.size from aG2,hcs]
 .exact Zn cur.toList l h2 hcl):P:=h
theorem av5.AcC(h:P:=by
 have hce:cur=(GR.flat aM l++cur.toList.drop (l.length*4)).toArray:=by
  rw [<-htk,aGW,Array.toArray_toList]
 have hlr:l.length*4+(cur.toList.drop (l.length*4)).length=cap*4:=by
  rw [aGS,show cur.toList.length=cur.size from aG2,hcs];omega
 rw [hce] at hgg;have hlen:(l.eraseIdx (qB l m)).length=l.length - 1:=aHk h;refine(TW g cap l _ B (qB l m) m w hl h hno hnc hcm hlr hB hgg hix).mono ?_;rintro e w' ⟨rfl,⟨r2,hS2,hr2⟩,hgr⟩;refine⟨some ⟨g,0,none⟩,cap,by rw [hlen],?_,hgr,λx hx=>hx⟩;rw [hlen];refine⟨by rw [nJ,hlen],.inr ⟨g,cap,_,rfl,hbg,hS2,Aaa,hcm,?_,?_⟩⟩
 .rw [aHh,aGp,nJ,hlen];exact hr2
 .exact List.take_left' (by rw [nJ,hlen])):P:=h
theorem OZ(h:P:=by
 have y0:=aGj p0;have y1:=aGj p1;have y2:=aGj p2;have y3:=aGj p3;exact Aa7):P:=h
theorem av6.Aa7(h:P:=by
 have y4:=aGj c4;clear HO p0 p1 p2 p3 c4;open aC8 in exact Tt):P:=h
theorem av7.Aa7(h:P:=by
 have y4:=aGj p4;have y5:=aGj p5;have y6:=aGj p6;exact AaT):P:=h
theorem av8.Aa7(h:P:=by
 clear HO p0 p1 p2 p3;open aDa in exact Tt):P:=h
theorem av9.Aa7(h:P:=by
 clear HO p0 p1 p2 p3;open aC9 in exact Tt):P:=h
theorem awc.Aa7(h:P:=by
 have y4:=aGj c4;clear HO p0 p1 p2 p3 c4;open aDe in exact Tt):P:=h
theorem ahz(h:P:=by
 refine Bp Aab (λX5 hX5=>?_);have e4:=au e4 hX5;have fU:=fU.trans (aC.of_below hX5);clear hX5;refine aG 4 rfl Aab Aad ?_;go_simp;refine wpAny_done Aab ?_;go_simp;exact AeD):P:=h
theorem awd.AeD(h:P:=by
 have uo:=Hq (zu.trans (fU.below (B:=w.heap.size) (λx hx=>Aaj) zu.size));have HLZ:=Hq (HL6.keeps fU (λx hx=>Aaj));have SS:=Hq (HP6.keeps fU (λx hx=>Aaj));obtain⟨x0,x1,x2,x3,x4,x5,x6,x7,x8⟩:=nine e4;clear e4 fU;go_wp2_with fail;refine aGn (v:= .tuple #[.agg (iT n.id n.par a_k n.kids.length bf n.next pa PL.length pc fP n.out.length bJ gN n.seen.length bg n.old (some ⟨gv,0,none⟩) (n.reqs.length+1) vc),.int .i64 st]) Acd rfl ?_;rw [ah HK];refine⟨⟨a_k,pa,fP,gN,(some ⟨gv,0,none⟩),bf,pc,bJ,bg,vc⟩,?_,λW'' ho=>?_,uo.mono hB,Apart.of_below uo⟩
 .simp[gP,dG,eY,setPu,ah alo]
 .exact azv):P:=h
theorem awe.AeD(h:P:=by
 have uo:=Hq (HB9.trans (fU.below (B:=w.heap.size) (λx hx=>Aaj) HB9.size));have HLZ:=Hq (HL9.keeps fU (λx hx=>Aaj));have SS:=Hq (HP9.keeps fU (λx hx=>Aaj));obtain⟨x0,x1,x2,x3,x4,x5,x6,x7,x8⟩:=nine e4;clear e4 fU;go_wp2_with fail;refine aGn (v:= .tuple #[.agg (iT n.id n.par a_k n.kids.length bf n.next pa PL.length pc fP n.out.length bJ gN n.seen.length bg IH.no (some ⟨g8,0,none⟩) n.reqs.length c8'),.int .i64 st]) Acd rfl ?_;rw [ah HK];refine⟨⟨a_k,pa,fP,gN,(some ⟨g8,0,none⟩),bf,pc,bJ,bg,c8'⟩,?_,λW'' ho=>?_,uo.mono hB,Apart.of_below uo⟩
 .simp[gP,dG,eY,pz,setPu,alo]
 .exact azv):P:=h
theorem ahA(h:P:=by
 rw [<-hW] at e1 e2 e3;have HN:=Hq e1;have HR:=Hq e2;have HB0:=Hq e3;have Ig:=Hq (mZ.kc (k:=9) (KC.of_below e3) Aaa);clear hW e1 e2 e3 mZ hbw0 hlo;obtain⟨c0,c1,c2,c3,c4,c5,c6,c7,c8⟩:=nine HN;have hnl:=aA HN;exact Aeh):P:=h
theorem awf.Aeh(h:P:=by
 have rD:=Hq HR;open apa in exact aa9):P:=h
theorem awg.Aeh(h:P:=by
 go_wp2_with fail;refine(OL W0 Ig.at.r).mono ?_;open axo in exact ahY):P:=h
theorem aaV(h:P:=by
 have vS:=Hq (λw1 (hw:WK w0 w1 wb n A G c v L)=>Og w0 w1 wb n A G c v L o.no hok h0 h1 hw);rw [hf] at vS;have hlen:=(jk hok).2.1;exact Ab2):P:=h
theorem awh.Ab2(h:P:=by
 clear hR h0 h1 hok hf hgd afu;generalize eu n.reqs o.no=i at *;open aCB in exact Tq):P:=h
theorem awi.Ab2(h:P:=by
 generalize eu n.reqs o.no=i at *;generalize Gp n.reqs[i] o.k o.n=SQ at *;clear hR h0 h1 hok hf hgd;open aCy in exact Tq):P:=h
theorem awj.Ab2(h:P:=by
 clear hR h0 h1 hok hf hgd afu;generalize eu n.reqs o.no=i at *;have HUN:=Hq (λw1 (hw:WK w0 w1 wb n A G c v L)=>Qk A.p A.cp n.pu n.reqs[i].k n.reqs[i].n E w1 hz.p hz.pk (hz.rk _ (aGz hil)) hw.no.p.at (he.below hw.keep));unfold kH at HUN;generalize dK n.pu n.reqs[i].k 0 1 (-1) n.reqs[i].n=r at *;open aCv in exact Tq):P:=h
theorem ahB(h:P:=by
 have hblk:V.heap[wr.heap.size]?=some (.cells (jh pk pm pf ps) 108 (0,0)):=by rw [hV];exact aGg wr _
 exact AdW):P:=h
theorem awk.AdW(h:P:=by
 have hPV:=HP.below hbV;have XF:=Hq hPV;have Hu:=Hq hblk;have HVS:=Hq (show V.heap.size=wr.heap.size+1 by rw [hV];simp);have wY:=Hq (dS.trans (hbV.mono dS.size));obtain⟨⟨p0,p1,p2,p3⟩,_⟩:=gu hblk;obtain⟨⟨n0,n1⟩,f0,f1⟩:=mV hPV.blk
 have HRW:=Hq (show V.ownsRow w.heap.size 9 1 (.slice aa k cc) k (((l.take k).map (·.k)).map Value.string) by
  have:=hPV.row
  rw [aHi,aGG,aHb hk] at this
  exact this)
 have HGR:=Hq (show∀w2:World,((V.alloc (.cells #[.string pk] 9)).drew).grownBy w2 (Value.slice aa k cc).ownBlock->
  w2.heap[w1.heap.size+1]?=some (.cells #[.slice aa k cc,.map (some w1.heap.size)] 352 (0,0))/\w2.heap[w1.heap.size]?=V.heap[w1.heap.size]?/\w2.heap[wr.heap.size]?=V.heap[wr.heap.size]?/\Below w.heap.size V w2 by
  intro w2 hg
  have hb:∀q,q < V.heap.size->(Value.slice aa k cc).ownBlock≠some q->w2.heap[q]?=V.heap[q]?:=λq hq hne=>by
   rw [hg.block q (by show q < (V.alloc _).heap.size;simp;omega) (Ne.symm hne)]
   exact aGv V _ _ hq
  obtain⟨es,clock,hmap⟩:=hPV.map.blk
  refine⟨?_,hb _ hPV.map.lt (yX HRW hmap),hb _ (Fo.lt_of_blk hblk) (own_ne HRW hblk Aae),?_⟩
  .rw [hb _ (Fo.lt_of_blk hPV.blk) (own_ne (ah HRW) hPV.blk Aae)];exact hPV.blk
  .refine⟨hg.os,hg.tape,hg.output,aGm (by show V.heap.size<=(V.alloc _).heap.size;simp) hg.size,λq hq=>hb q (by have:=wY.size;omega) (λe=>?_)⟩;have:=HRW.lt _ e
   omega)
 have n2:(V.alloc (.cells #[.string pk] 9)).cell? ⟨w1.heap.size+1,0,none⟩=some (.slice aa k cc):=by rw [aGD _ _ _ (Fo.lt_of_blk hPV.blk)];exact n0
 clear hblk hbV hPV hV c0 c1 c2 c3 n1 f1;go_region_law (refine step_append_lies _ rfl (.tmp 24) (.tmp 27) 350 rfl w.heap.size 9 i0 (.string ⟨#[]⟩) 1 16 underlying350 hi hz0 hz1 hz2 rfl Aae (.slice aa k cc) k (((l.take k).map (·.k)).map Value.string) Aak (HRW.alloc _).drew ⟨V.heap.size,0,none⟩ 1 1 [.string pk] Aak rfl (aG3 (w:=(V.alloc (.cells #[.string pk] 9)).drew) (aGg V _)) (λu hu=>by rw [aGA.1 hu];rfl) Aaa Aai Aaa (by have:=wY.size;simp;omega) (V.heap.size+1) Aac ?_;intro g' cap' w2 hown hgrow hat hlt2;have hK2:=ah HGR w2 hgrow;have HOW:=Hq hown;clear hown hgrow hat hlt2;have OE:=Hq hK2.1;have DV:=Hq hK2;obtain⟨⟨y0,y1⟩,z0,z1⟩:=mV hK2.1;clear hK2 y1 z1)
 all_goals
  go_upto_region 8 with fail
  refine Fo.wp_at (λV3 hV3=>?_)
  obtain⟨hx1,hx2,hx3,hx4⟩:=ah DV
  have aFC:w1.heap.size+1 < wr.heap.size:=Fo.lt_of_blk HP.blk
  have hblk3:V3.heap[w1.heap.size+1]?=some (.cells #[.slice (some ⟨g',0,none⟩) (k+1) cap',.map (some w1.heap.size)] 352 (0,0)):=by rw [hV3];exact Fo.blk_set hx1 0 _
  have aAG:V3.heap[wr.heap.size]?=some (.cells (jh pk pm pf ps) 108 (0,0)):=by
   rw [hV3,Fo.one_other rfl Aaa,hx3];exact Hu
  have acr:iV V3 w1.heap.size k (aD (l.take k)):=XF.map.kept (by rw [hV3,Fo.one_other rfl Aaa,hx2])
  have hrow3:V3.ownsRow w.heap.size 9 1 (.slice (some ⟨g',0,none⟩) (k+1) cap') (k+1) (((l.take k).map (·.k)).map Value.string++[.string pk]):=by
   rw [hV3];exact HOW.kept (w':=w2.setCell ⟨w1.heap.size+1,0,none⟩ _) (row:=some (w1.heap.size+1)) ⟨rfl,rfl,rfl,by rw [Fo.setCell_size];exact aGh _,λq _ hne=>Fo.one_other rfl (λe=>hne Aap)⟩ (.inr (own_ne HOW hx1 Aae))
  have hkeys:(l.take (k+1)).map (·.k)=(l.take k).map (·.k)++[pk]:=by rw [ah OV];simp
  have aBT:=Hq (show PM V3 w.heap.size (w1.heap.size+1) w1.heap.size k (.slice (some ⟨g',0,none⟩) (k+1) cap') ((l.take (k+1)).map (·.k)) (aD (l.take k)) by
   refine⟨hblk3,?_,acr,HP.lop,HP.lom⟩
   rw [hkeys,List.map_append,aGp,aHi,aGG,aHb hk]
   exact hrow3)
  have HB3:=Hq (show aI w V3 by rw [hV3];exact(wY.trans hx4).setCell (p:=⟨w1.heap.size+1,0,none⟩) HP.lop _)
  have ako:=Hq (WU (w1.heap.size+1) w1.heap.size k _ (aD (l.take k)) ⟨pk,pm,pf,ps⟩ V3 hkk Aai hblk3 acr)
  obtain⟨⟨r0,r1,r2,r3⟩,_⟩:=gu aAG
  clear hx1 hx2 hx3 hx4 hblk3 aAG acr hrow3 hkeys hV3 y0 z0 n0 n2 p0 p1 p2 p3 f0
  go_wp2_with fail
  refine ako.mono ?_
  rintro e w5 ⟨rfl,hm5,hk5⟩
  have JO:=Hq (aBT.turned hk5 hm5)
  have iy:=Hq (HB3.trans (Dg hk5 HP.lom HB3.size))
  clear hm5 hk5 r0 r1 r2 r3
  go_wp2_with fail
  go_roundw
  case rel=>
   have h:=ah JO;rw [ah HUP] at h;exact⟨k+1,_,_,Aaa,Aaf,h,iy⟩
  case measure=>simp[intOf];omega):P:=h
theorem awl.AdW(h:P:=by
 have wY:=Hq (show aI w V by rw [hV];exact dS.alloc dS.size _);have hgV:=Fo.lt_of_blk hblk;obtain⟨⟨p0,p1,p2,p3⟩,_⟩:=gu hblk;exact Aa4):P:=h
theorem ahC(h:P:=by
 have HID:Hid ((takeN n o.m).1.id=n.id):=by
  exact azr
 have HSY:=Hq (λW A G c n' (hW:WK w0 W wb n' A G c v L)=>Xw w0 W wb n' A G c v L ⟨2,n'.id,o.m.F,o.m.I,0,ByteArray.empty,0⟩ Aac Aaa hW);rw [ah HR];exact Aef):P:=h
theorem awm.Aef(h:P:=by
 unfold XZ;rw [<-ah HID];open aoT in exact ayr):P:=h
theorem awn.Aef(h:P:=by
 open aoU in exact ayr):P:=h
theorem ahD(h:P:=by
 have hlit:(w.alloc (.cells #[] e)).ownsRow w.heap.size e sz (.slice (some ⟨w.heap.size,0,none⟩) 0 0) 0 []:=aGY (base:=w.heap.size) (e:=e) (size:=sz) w #[] 0 (aGh _) Aai Aac;exact AdQ):P:=h
theorem awo.AdQ(h:P:=by
 exact⟨some ⟨w.heap.size,0,none⟩,0,w.alloc (.cells #[] e),λty=>oZ (w.alloc (.cells #[] e)) w.heap.size t ty e i sz ht hi _ 0 [] hlit a c,hlit,ay w _,λ_=>rfl⟩):P:=h
theorem awp.AdQ(h:P:=by
 by_cases hl0:l.length=0
 .have hn:l=[]:=aGM hl0;subst hn;refine⟨some ⟨w.heap.size,0,none⟩,0,w.alloc (.cells #[] e),λty=>oZ (w.alloc (.cells #[] e)) w.heap.size t ty e i sz ht hi _ 0 [] hlit a c,hlit,ay w _,⟨_,rfl⟩,aGh _⟩
 .obtain⟨v',w',hr,ho,hg,_⟩:=fV (P:=P) hs hz (w.alloc (.cells #[] e)) w.heap.size t 0 e i z bytes ht hi hz0 hsize hby hzs _ 0 [] hlit a l c (GR.At.below ha (ay w _)) h1 Aaa (by rw [aHj];exact hbytes) Aac;rw [aHj,aHI] at ho;obtain⟨a',c',rfl,_⟩:=GR.own_at (enc:=enc) (sz:=sz) hs ho;refine⟨a',c',w',λty=>hr,ho,(ay w _).grown hg Aac (λk hk=>Adb),?_⟩;rcases ho.2 with⟨_,hn⟩|⟨g,cap,cur,hv,_,_,hnc,_⟩
  .omega
  .simp only[aG4] at hv;exact⟨⟨g,hv.1⟩,by rw [hv.2.2];exact hnc⟩):P:=h
theorem ahE(h:P:=by
 have HAT:=Hq (λW'' (ho:Ez w W' W'')=>((BH.kc (k:=9) (KC.keeps fU (λx hx=>by have:x=w.heap.size+2:=Aah;rw [this];exact EI)) Aaa).kc (k:=9) (ho.kc (λx hx=>HC9 x Aaa)) Aaa).rm);exact AdL):P:=h
theorem awq.AdL(h:P:=by
 have Ol:=Hq (λW'' (ho:Ez w W' W'')=>TG (c:=c) (w:=w) HMZ (ho.out0 HC9) hmb);have pO:Hid (aI w W'):=kJ.trans (fU.below (λx hx=>by have:x=w.heap.size+2:=Aah;omega) kJ.size);obtain⟨x0,x1,x2,x3,x4,x5,x6,x7,x8⟩:=nine JR;clear fU;exact Ac1):P:=h
theorem awr.AdL(h:P:=by
 have pO:Hid (aI w W'):=kJ.trans (fU.below (λx hx=>by have:x=w.heap.size+2:=Aah;omega) kJ.size);obtain⟨x0,x1,x2,x3,x4,x5,x6,x7,x8⟩:=nine e4;clear hW' e4 fU;exact aGn (v:= .tuple #[(gP n A1),.slice (some ⟨W0.heap.size,0,none⟩) 0 0,.int .i64 1]) Aaz rfl ⟨A1,some ⟨W0.heap.size,0,none⟩,0,rfl,HAT,λW'' _ i hi=>Aas,pO⟩):P:=h
theorem ahF(h:P:=by
 clear h1 HST zx DV;refine aGH Aab Aab ?_;repeat (first|go_big_quiet_step ((first|(go_at_call 206;exact cS _ _)))|quiet_step ((first|(go_at_call 206;exact cS _ _))))
 exact Adw):P:=h
theorem aws.Adw(h:P:=by
 open axr in exact Wt):P:=h
theorem awt.Adw(h:P:=by
 exact ait):P:=h
theorem ahG(h:P:=by
 have hrl:=aA rD;go_wp2_with fail;refine aP (λW' hW'=>?_)
 have e4:W'.heap[w.heap.size+1]?=some (.cells (dG n A) 40 (0,0)):=by
  rw [hW'];exact GR.setW_blk (dG n A).toList (o:=0) (xs:=iP.toList) rD
 exact Aex):P:=h
theorem awu.Aex(h:P:=by
 have fU:aC [w.heap.size+1] W1 W':=by
  rw [hW'];exact aX (dG n A).toList W1 0
 open aqM in exact ayE):P:=h
theorem awv.Aex(h:P:=by
 have fU:aC [w.heap.size+1] W0 W':=by
  rw [hW'];exact aX (dG n A).toList W0 0
 have HAT:=Hq (λW'' (ho:Out c w W' W'')=>(Ig.kc (k:=9) ((KC.keeps fU (λx hx=>by have:x=w.heap.size+1:=Aah;rw [this];exact bQ Aaa)).trans (KC.out H9 ho)) Aaa).rm);have pO:Hid (Below B w W'):=(HB0.mono hB).trans (fU.below (λx hx=>by have:x=w.heap.size+1:=Aah;omega) (aGm hB (HB0.mono hB).size));have uy:=Hq (Apart.keeps (c:=c) (Apart.of_below (HB0)) (HB0.mono hB).size fU (λx hx=>by have:x=w.heap.size+1:=Aah;omega));obtain⟨x0,x1,x2,x3,x4,x5,x6,x7,x8⟩:=nine e4;clear hW' e4 fU;exact aGn (v:= .tuple #[(gP n A),.int .i64 2]) Abq rfl ⟨A,rfl,HAT,pO,uy⟩):P:=h
theorem ahH(h:P:=by
 obtain⟨k,y,hk,rfl,rfl,hy,hall,hblk,hbel⟩:=hrel;have jG:=Hq hall;have HY:=Hq hy;have dS:=Hq hbel;have Hu:=Hq hblk;exact Ac9):P:=h
theorem aww.Ac9(h:P:=by
 have hy0:0<=y:=by rw [hy];exact HLB k hall
 clear hall hy hblk hbel;by_cases hlt:k < out.length
 case' neg=>
  open asf in exact abe
 obtain⟨g,off,e0,hgw,q0,q1,q2,q3⟩:=SentAt.four (HA.below dS).o k hlt;(try dsimp only at e0 q0 q1 q2 q3)
 subst e0;have HBAD:Hid (iA KB RR (out.take (k+1))=false->TT=false):=λh=>oN.trans (su _ h)
 have iQ:Hid (iA KB RR (out.take (k+1))=(KB out[k]&&decide (y < (out[k]).i))):=by
  exact ajt
 have El:=Hq (zw k hlt);have DJ:=Hq (VO out[k]);clear jR zw su VO HLB;generalize out[k]=sk at *;generalize KB sk=OB at *;obtain⟨si,st,sx,sn⟩:=sk;dsimp only at q0 q1 q2 q3 iQ El DJ;obtain⟨bb,hbb⟩:∃bb,(!(decide (y < si)&&decide (si < next)&&NN st&&keyOk sx.data.toList&&fO sn))=bb:=⟨_,rfl⟩;have fI:=Hq hbb
 have Bu:Hid (iA KB RR (out.take (k+1))= !bb):=by
  rw [ah iQ,<-ah fI,ah DJ,Bool.not_not]
  have e1:(decide (1<=si/\si<=next - 1)&&decide (y < si))=(decide (y < si)&&decide (si < next)):=by
   rw [aHu];exact abu
  rw [<-e1];generalize decide (1<=si/\si<=next - 1)=z1;generalize decide (y < si)=z2;generalize NN st=z3;generalize keyOk sx.data.toList=z4;generalize fO sn=z5;cases z1<;>cases z2<;>cases z3<;>cases z4<;>cases z5<;>exact Hq rfl
 clear hbb iQ DJ;go_upto_region 7 with fail;refine wp_at (λW1 hW1=>?_);have HW1:Hid (W1.heap[wr.heap.size]?=some (.cells (gV si st sx sn) 91 (0,0))):=Acf
 open aoS in exact aeQ):P:=h
theorem awx.Ac9(h:P:=by
 have hy0:old<=y:=by rw [hy];exact HLB k hall
 clear hall hy hblk hbel;by_cases hlt:k < reqs.length
 case' neg=>
  have hke:k=reqs.length:=Aaa
  subst hke;have hnlt:decide ((reqs.length:Int) < (reqs.length:Int))=false:=Aac
  exact ak7
 obtain⟨g,off,e0,hgw,q0,q1,q2,q3⟩:=gZ.four (HA.below dS).r k hlt;(try dsimp only at e0 q0 q1 q2 q3)
 subst e0;have HBAD:Hid (iA KB RR (reqs.take (k+1))=false->TT=false):=λh=>oN.trans (su _ h)
 have iQ:Hid (iA KB RR (reqs.take (k+1))=(KB reqs[k]&&decide (y < (reqs[k]).no))):=by
  exact ajt
 have El:=Hq (zw k hlt);have DJ:=Hq (VO reqs[k]);clear jR zw su VO HLB;generalize reqs[k]=sk at *;generalize KB sk=OB at *;obtain⟨si,sx,sn,st⟩:=sk;dsimp only at q0 q1 q2 q3 iQ El DJ;obtain⟨bb,hbb⟩:∃bb,(!(decide (y < si)&&rz si&&keyOk sx.data.toList&&fO sn&&decide (0<=st)&&decide (st<=2)))=bb:=⟨_,rfl⟩;have fI:=Hq hbb
 have Bu:Hid (iA KB RR (reqs.take (k+1))= !bb):=by
  rw [ah iQ,<-ah fI,ah DJ,Bool.not_not]
  have e1:(decide (old+1<=si/\si<=1000000000)&&decide (y < si))=(decide (y < si)&&rz si):=by
   rw [aHu];unfold rz;exact abu
  have e2:decide (0<=st/\st<=2)=(decide (0<=st)&&decide (st<=2)):=by
   rw [aHu];simp only[aGl,aGy]
  rw [<-e1,e2];generalize decide (old+1<=si/\si<=1000000000)=z1;generalize decide (y < si)=z2;generalize decide (0<=st)=z3;generalize decide (st<=2)=z6;generalize keyOk sx.data.toList=z4;generalize fO sn=z5;cases z1<;>cases z2<;>cases z3<;>cases z4<;>cases z5<;>cases z6<;>exact Hq rfl
 clear hbb iQ DJ;go_upto_region 7 with fail;refine wp_at (λW1 hW1=>?_);have HW1:Hid (W1.heap[wr.heap.size]?=some (.cells (fH si sx sn st) 95 (0,0))):=Acf
 open aoR in exact aeQ):P:=h
theorem aaW(h:P:=by
 clear hW;obtain⟨x0,x1,x2,x3,x4,x5,x6,x7,x8,x9,x10⟩:=Eo hX;obtain⟨y0,y1,y2,y3,y4,y5,y6,y7,y8,y9,y10⟩:=Eo hY;clear hX hY;exact Ab0):P:=h
theorem awy.Ab0(h:P:=by
 exact aze):P:=h
theorem awz.Ab0(h:P:=by
 exact azt):P:=h
theorem awC.Ab0(h:P:=by
 by_cases hno:no=0
 case' neg=>
  have hno':¬(0:Int)=no:=λe=>hno e.symm
  go_wp2_with fail;go_ret;exact⟨aF (by rw [ah HP];simp[lY,hno]),jl⟩
 subst hno;exact Aea):P:=h
theorem aaX(h:P:=by
 go_in
 go_wp2_with (go_at_call 102;refine(HS _).mono ?_;rintro e w1 ⟨rfl,hb1⟩;simp only[wG])
 go_ret2
 exact AcH):P:=h
theorem awD.AcH(h:P:=by
 exact⟨rfl,hb1⟩):P:=h
theorem awE.AcH(h:P:=by
 exact⟨by rw [ah HR];simp[Ey],hb1⟩):P:=h
theorem awF.AcH(h:P:=by
 exact⟨by rw [ah HR];rfl,hb1⟩):P:=h
theorem ahI(h:P:=by
 rw [hlt1] at acD;subst acD;clear Yx Yv Yu aAV;refine gL 7 rfl Aab Aad Aae (λx3 hx3=>?_);go_simp;have zC:=Hq (Ls.trans (hx3.mono Ls.size));exact AcZ):P:=h
theorem awG.AcZ(h:P:=by
 have Ci:wc.heap.size<=x3.heap.size:=zC.size;have BL:=Hq (GR.own_below Ip hx3);clear hx3;refine⟨(ay x3 _).mono Ci,?_⟩;have afs:=ay x3 (.cells (fH no k nn st) 95);have SY:=Hq (aGg x3 (.cells (fH no k nn st) 95));open avx in exact ahr):P:=h
theorem awH.AcZ(h:P:=by
 have Ci:vL.heap.size<=x3.heap.size:=zC.size;have BL:=Hq (GR.own_below Ip hx3);clear hx3;refine⟨(ay x3 _).mono Ci,?_⟩;have afs:=ay x3 (.cells #[.int .i64 mI] 3);have SY:=Hq (aGg x3 (.cells #[.int .i64 mI] 3));open avy in exact ahr):P:=h
theorem ahJ(h:P:=by
 clear HR;clear hk hn;go_in
 go_wp2_with (first|(go_at_call_of 204 k;refine(HK _).mono ?_;rintro e w1 ⟨rfl,rfl⟩)|(go_at_call_of 169 n;refine(HN _).mono ?_;rintro e w1 ⟨rfl,rfl⟩))
 exact AeQ):P:=h
theorem awI.AeQ(h:P:=by
 go_region
 go_upto_region 23 with fail;open avE in exact Ws):P:=h
theorem awJ.AeQ(h:P:=by
 go_ret;exact⟨aF (by rw [ah HP];simp),by first|exact jP w _ _|exact Below.setNew (jP w _ _) Aaa⟩):P:=h
theorem ahK(h:P:=by
 clear ha he hks hok hb0 hd1 hd2 hd3 hkk;go_in
 go_wp2_with fail;refine HOF.mono ?_;rintro e w1 ⟨mp,mb,v,rfl,H7,hb1⟩;have HB1:=Hq (Fo.one_block hb1).2.2;exact AcV):P:=h
theorem awK.AcV(h:P:=by
 have ve:=(HE.below HB1).var 2 Aaa;clear hb1 H7 HOF;go_wp2_with (first|(go_at_call 204;refine(HK _).mono ?_;rintro e w2 ⟨rfl,rfl⟩)|(go_at_call 169;refine(Hr _).mono ?_;rintro e w2 ⟨rfl,rfl⟩))
 go_quiet (fail);go_wp2_with fail;go_ret2
 exact⟨HB1.trans ⟨rfl,rfl,rfl,aGh _,λ_ _=>rfl⟩,.inl ⟨by rw [ah HAD],_,Aaa,rfl⟩⟩):P:=h
theorem awL.AcV(h:P:=by
 have ve:=(HE.below HB1).var 1 Aaa;clear hb1 H7 HOF;go_wp2_with (go_at_call 204;refine(HK _).mono ?_;rintro e w2 ⟨rfl,rfl⟩)
 go_quiet (fail);go_wp2_with fail;go_ret2
 exact⟨HB1.trans ⟨rfl,rfl,rfl,aGh _,λ_ _=>rfl⟩,.inl ⟨HAD,_,Aaa,rfl⟩⟩):P:=h
theorem ahL(h:P:=by
 go_in
 go_wp2_with fail;refine HG.mono ?_;rintro e w1 ⟨rfl,hb1⟩;clear hr HG;go_upto_region 7 with fail;refine wp_at (λV hV=>?_);obtain rfl:=hV;have wY:=Hq hb1;clear hb1;exact Ae3):P:=h
theorem awM.Ae3(h:P:=by
 have hcc:=λd os=>HCC (Sort.grow (redrawn V d) os) (Ge.trans wY (aHr V d os))
 refine dB Aab ?_;show iq _ _ _ _ 10 (Array.replicate 10 false) _ _
 refine tk [0,1,2,3,6,7] ?_;iterate 6 (refine BA (λK hK=>?_);go_simp;refine hK _ ?_;clear hK K)
 refine kD ?_;refine gM 4 rfl Aab Aad (λx hx=>?_);go_simp;refine(HS _).mono ?_;rintro e y ⟨g2,rfl,hg2,hblk,hby⟩;refine⟨hby,?_⟩;have JC:=Hq (Ge.trans (Ge.trans wY hx) hby);have hgy:=dA hblk;obtain⟨c0,c1,c2,c3⟩:=LZ hblk;have hcv:=λd os=>HCV (Sort.grow (redrawn y d) os) g2 (aGj c0 d os) (aGj c1 d os) (aGj c2 d os) (aGj c3 d os)
 clear hx hby hblk c0 c1 c2 c3 HCV wY HS hcc HCC hg2;refine tk [5,8,9] ?_;iterate 3 (refine BA (λK hK=>?_);go_simp;refine hK _ ?_;clear hK K)
 refine kD ?_;refine fF Aab (λx2 hx=>?_);have uo:=Hq (Ge.trans JC hx);clear hx JC hcv;go_simp;go_wp2_with fail;exact AaH):P:=h
theorem awN.Ae3(h:P:=by
 refine dB Aab ?_;show iq _ _ _ _ 10 (Array.replicate 10 false) _ _
 refine tk [0,1,2,3,4,5,6,7,8,9] ?_;iterate 10 (refine BA (λK hK=>?_);go_simp;refine hK _ ?_;clear hK K)
 refine kD ?_;refine fF Aab (λx hx=>?_);have uo:=Hq (Ge.trans wY hx);clear hx wY;go_simp;go_wp2_with fail;exact aGn (v:= .tuple #[.string ⟨#[]⟩,.int .i64 (-1)]) Acm rfl ⟨rfl,uo⟩):P:=h
theorem aaY(h:P:=by
 iterate 2 (refine BA (λK hK=>?_);go_simp;refine hK _ ?_;clear hK K)
 refine kD ?_;refine fF Aab (λz hz=>?_);exact AbS):P:=h
theorem awO.AbS(h:P:=by
 have wB:=Hq (HS.below hz hg);clear hz x0 x1 y0 y1 y2 y3 y4 y5 y6 y7 y8 y9 y10 HS oN;go_simp;cases hbo:bo
 .have hno:OK=false:=by rw [aH0];intro hy;have:=(HG.1 hy).2.2;rw [hbo] at this;cases this
  subst hbo;go_wp2_with fail;refine(HF _ wB.rd).mono ?_;rintro e w9 ⟨rfl,rfl⟩;go_wp2_with fail;exact⟨rfl,.inr ⟨hno,_,rfl⟩,wB.keep⟩
 .have hyes:OK=true:=HG.2 ⟨HES,HYE.2,hbo⟩;subst hbo;have aB1:=Hq hyes;clear hyes;have hzo:=dA wB.op;have hlo:=wB.lo;obtain⟨⟨c0,c1,c2,c3,c4,c5,c6,c7,c8,c9,c10⟩,_⟩:=aL wB.op;obtain⟨⟨d0,d1,d2,d3,d4,d5,d6,d7,d8,d9,d10⟩,f0,f1,f2,f3,f4,f5,f6,f7,f8,f9,f10⟩:=aL wB.res;go_wp2_with fail;refine iL (λW' hW'=>?_);obtain⟨⟨r0,r1,r2,r3,r4,r5,r6,r7,r8,r9,r10⟩,_⟩:=aL (show W'.heap[w.heap.size]?=some (.cells (cu (s[0].toNat:Int) N1 TX N2 mK mF mT mI mL mk mN) 100 (0,0)) by rw [hW'];exact lQ wB.res)
  have uO:dW g w W':=by
   rw [hW'];exact(((((((((((wB.keep.setNew (aGh _)).setNew (aGh _)).setNew (aGh _)).setNew (aGh _)).setNew (aGh _)).setNew (aGh _)).setNew (aGh _)).setNew (aGh _)).setNew (aGh _)).setNew (aGh _)).setNew (aGh _))
  exact aGn (v:= .agg (cu (s[0].toNat:Int) N1 TX N2 mK mF mT mI mL mk mN)) (by simp[results,results200,go_sem,r0,r1,r2,r3,r4,r5,r6,r7,r8,r9,r10]) rfl ⟨.inl ⟨aB1,rfl⟩,uO⟩):P:=h
end Go.Proofs.YtohmklmkjmlpjaaGreatDoor
