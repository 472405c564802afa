/- Parts. -/
import Derived.Test.YtfachhcijcjbpaaGreatDoorRw38
import Derived.Test.YtfachhcijcjbpaaGreatDoorRw44
namespace Go.Proofs.YtfachhcijcjbpaaGreatDoor
open Go.Proofs.Tryz
set_option maxHeartbeats 8000000
set_option maxRecDepth 100000
open Go.RowKit
open Mth
theorem NH (k:Kp) (A:KA) (w:World) (hz:mO k 1048576) (ha:oL w A k):
 Calls prog 15 #[kpv k A] w (iU w (rY k)):=by
 have Ih:=Hq (λW (h:aG w W)=>qA k.base A.b W (hz.b.mono Aaa) (ha.below h).kb);have rQ:=Hq (λW (h:aG w W)=>qA k.node A.n W (hz.n.mono Aaa) (ha.below h).kn);have Eh:=Hq (λW=>RY k.log (by have:=hz.l;unfold maxLen;omega) W);have Ik:=Hq (λW (h:aG w W)=>Vo k.base A.b k.log W (by have:=hz.l;unfold maxLen;omega) hz.b (ha.below h).kb);have zF:=Hq (λW (h:aG w W) A' (hb:bX W A' (gH k.base (fT k.log).1))=>JH (gH k.base (fT k.log).1) k.node A' A.n W (Nk hz.b _) hb (ha.below h).kn);have hsl:=hz.l;unfold kZ at Eh;unfold Lu at Ik;have HB0:=Hq (aEu w (.cells (yN k A).toArray 57));have jC:=Hq (au w (.cells (yN k A).toArray 57));clear hz ha;obtain⟨B0,N0,lg,sf,wt,sk⟩:=k;obtain⟨AB,AN,wa,wc,aa,ac⟩:=A;dsimp only at hsl Ih rQ Eh Ik zF HB0 jC ⊢;obtain⟨c0,c1,c2,c3,c4,c5,c6,c7,c8,c9,c10,c11,c12,c13,c14,c15,c16,c17,c18,c19,c20,c21⟩:=yD HB0;go_in
 go_wp2_with fail;refine(Ih _ jC).mono ?_;rintro e w1 ⟨rfl,hb⟩;have HB1:=Hq (aj HB0 hb);have jM:=Hq (jC.trans (hb.mono jC.size));clear hb c0 c1 c2 c3 c4 c5 c6 c7 c8 c9 c10 c11 c12 c13 c14 c15 c16 c17 c18 c19 c20 c21 HB0 jC Ih;cases h1:dQ B0
 case' false=>
  have HP:=Hq (show¬rY ⟨B0,N0,lg,sf,wt,sk⟩ from λh=>by have h:=h.1;rw [h1] at h;cases h);clear h1 rQ Eh Ik zF;go_wp2_with fail;go_ret;exact .no HP jM
 have H1:=Hq h1;clear h1;obtain⟨c0,c1,c2,c3,c4,c5,c6,c7,c8,c9,c10,c11,c12,c13,c14,c15,c16,c17,c18,c19,c20,c21⟩:=yD HB1;go_wp2_with fail;refine(rQ _ jM).mono ?_;rintro e w2 ⟨rfl,hb⟩;have HB2:=Hq (aj HB1 hb);have HL2:=Hq (jM.trans (hb.mono jM.size));clear hb c0 c1 c2 c3 c4 c5 c6 c7 c8 c9 c10 c11 c12 c13 c14 c15 c16 c17 c18 c19 c20 c21 HB1 jM rQ;cases h2:dQ N0
 case' false=>
  have HP:=Hq (show¬rY ⟨B0,N0,lg,sf,wt,sk⟩ from λh=>by have h:=h.2.1;rw [h2] at h;cases h);clear h2 Eh Ik zF;go_wp2_with fail;go_ret;exact .no HP HL2
 have H2:=Hq h2;clear h2;obtain⟨c0,c1,c2,c3,c4,c5,c6,c7,c8,c9,c10,c11,c12,c13,c14,c15,c16,c17,c18,c19,c20,c21⟩:=yD HB2;go_wp2_with fail;by_cases h3:0<=sf/\sf<=(lg.size:Int)
 case' neg=>
  have HP:=Hq (show¬rY ⟨B0,N0,lg,sf,wt,sk⟩ from λh=>h3 h.2.2.1);refine(lT sf 0 (lg.size:Int) w2 Aaa).mono ?_;rintro e w3 ⟨rfl,rfl⟩;clear h3 Eh Ik zF;go_wp2_with fail;go_ret;exact .no HP HL2
 refine(j6 sf 0 (lg.size:Int) w2 h3.1 h3.2).mono ?_;rintro e w3 ⟨rfl,rfl⟩;have H3:=Hq h3;clear h3;go_wp2_with fail;refine(Eh _).mono ?_;rintro e w3 ⟨v,rfl,hown,hb⟩;have HB3:=Hq (aj HB2 hb);have lu:=Hq (HL2.trans (hb.mono HL2.size));clear hb c0 c1 c2 c3 c4 c5 c6 c7 c8 c9 c10 c11 c12 c13 c14 c15 c16 c17 c18 c19 c20 c21 HB2 HL2 Eh hown;have hgl:=ay HB3;have y18:=aEv (show w3.cell? ⟨w.heap.size,18,none⟩=some (.string lg) from aEz w3 w.heap.size 18 _ 57 (0,0) HB3);by_cases h5:(fT lg).2=lg.size
 case' neg=>
  have HP:=Hq (show¬rY ⟨B0,N0,lg,sf,wt,sk⟩ from λh=>h5 h.2.2.2.1);have hq:(((fT lg).2:Int) == (lg.size:Int))=false:=Aae
  clear h5 H1 H2 H3 Ik zF;go_upto_region 4 with fail;refine aEJ Aab Aab ?_;repeat (first|go_big_quiet_step (fail)|quiet_step (fail))
  refine aE2 ?_;intro _ hw';obtain⟨⟨dq,osq⟩,hw''⟩:=hw';subst hw'';clear y18;go_wp2_with fail;go_ret;exact .no HP (lu.trans ((aEV _ dq osq).mono lu.size))
 have hq:(((fT lg).2:Int) == (lg.size:Int))=true:=by simp[h5]
 have H5:=Hq h5;clear h5;obtain⟨hr0,hr1⟩:=rZ (k:=⟨B0,N0,lg,sf,wt,sk⟩) (A:=⟨AB,AN,wa,wc,aa,ac⟩) HB3;dsimp only at hr0 hr1;go_upto_region 4 with fail;refine Ip 16 ?_;refine tk [0,1,2,3,4,5,6] ?_;iterate 7 (refine iy (λK hK=>?_);go_simp;(first|refine hK _ ?_|(apply Exists.intro;refine⟨λ_=>?_,hK _ ?_⟩;rfl));clear hK K)
 refine jm ?_;refine jc 7 rfl Aab Aab Aab (λ_ _ _ _ h=>h) Aah 53 _ rfl w.heap.size 0 rfl (dR B0 AB).toList _ hr0 hgl underlying53 rfl Aab ?_;refine tk [8,9,11] ?_;iterate 3 (refine iy (λK hK=>?_);go_simp;(first|refine hK _ ?_|(apply Exists.intro;refine⟨λ_=>?_,hK _ ?_⟩;rfl));clear hK K)
 refine jm ?_;refine jc 12 rfl Aab Aab Aab (λ_ _ _ _ h=>h) Aah 53 _ rfl w.heap.size 9 rfl (dR N0 AN).toList _ hr1 hgl underlying53 rfl Aab ?_;clear y18 hr0 hr1 hq HB3;refine eu 10 rfl Aab Aah (λx10 Mv=>?_);go_simp;have g10:aG w x10:=Ge.trans (show Ge w w3 from lu) Mv;refine(Ik x10 g10).mono ?_;rintro e z10 ⟨A',rfl,hat,ak9⟩;refine⟨ak9,?_⟩;have HA':=Hq (hat _ Ee.refl);have HG:=Hq (show aG w z10 from Ge.trans (show Ge w x10 from g10) ak9);clear hat Mv ak9 g10 lu Ik;refine eu 13 rfl Aab Aah (λx13 Qc=>?_);go_simp;have g13:aG w x13:=Ge.trans (show Ge w z10 from HG) Qc;refine(zF x13 g13 A' (HA'.below Qc)).mono ?_;rintro e z13 ⟨⟨r,rfl,hr⟩,Qd⟩;refine⟨Qd,?_⟩;have HR:=Hq (show r=true↔rY ⟨B0,N0,lg,sf,wt,sk⟩ from⟨λh=>⟨H1,H2,H3,H5,(hr.1 h).symm⟩,λh=>hr.2 h.2.2.2.2.symm⟩);have HG2:=Hq (show aG w z13 from Ge.trans (show Ge w x13 from g13) Qd);clear Qc Qd g13 zF HG HA' hr H1 H2 H3 H5;refine tk [14] ?_;(refine iy (λK hK=>?_);go_simp;(first|refine hK _ ?_|(apply Exists.intro;refine⟨λ_=>?_,hK _ ?_⟩;rfl));clear hK K)
 refine jm ?_;refine eu 15 rfl Aab Aah (λx15 ayG=>?_);go_simp;refine⟨aEK _ _,?_⟩;refine dJ Aab (λz hz=>?_);have Ey:=Hq (show aG w z from Ge.trans (show Ge w z13 from HG2) (Ge.trans ayG hz));clear ayG hz HG2;go_wp2_with fail;go_ret;exact⟨⟨r,rfl,HR⟩,Ey⟩
theorem R6 (X:Wd) (A:WA) (w:World) (hz:xD X 1048576) (ha:rG w A X):
 Calls prog 5 #[wdv X A] w (iU w (xP X)):=by
 have hul:=hz.u;have hkl:=hz.k;have Bq:=Hq (λW (h:aG w W)=>GZ A.u A.uc X.up W Aaa (GR.At.below ha.up h));have DC:Hid (∀W,aG w W->jG X.up=true->∀i:Nat,i < X.up.length->∀(n:Nd) (B:bg),n.kids.length<=1048576->aK W B.k n.kids->Calls prog 16 #[ZV A.u X.up A.uc,.agg (dR n B).toList.toArray,.int .i64 i] W (iU W (here X.up i n))):=λW h htb i hi n B hk hn=>adC A.u A.uc X.up i n B W Aaa htb hi hk (GR.At.below ha.up h) hn
 have Om:=Hq (λW (h:aG w W) k hk=>(ha.below h).kp k hk);have Ig:=Hq (λW (h:aG w W) (k:Kp) (A':KA) (hz:mO k 1048576) (ha:oL W A' k)=>show Calls prog 15 #[.agg (yN k A').toArray] W (iU W (rY k)) from NH k A' W hz ha);have SG:=Hq (λk (hk:k < X.ks.length)=>hz.kk X.ks[k] (aEL hk));have Tp:=Hq (aEu w (.cells (yA X A) 38));have jC:=Hq (au w (.cells (yA X A) 38));have hnl:=hz.n;clear hz ha;have HNT:=Hq (fun(h:xP X)=>show jG X.up=true from h.1);have Ou:=Hq (fun(h:xP X)=>show X.ks.length=X.up.length from h.2.1);have LC:=Hq (fun(h:xP X)=>show X.net.length<=300 from h.2.2.1);have SS:=Hq (fun(h1:jG X.up=true) (h2:X.ks.length=X.up.length) (h3:X.net.length<=300) (h4:upto X X.ks.length)=>show xP X from⟨h1,h2,h3,h4⟩);have SH:=Hq (λk (hk:k < X.ks.length) (hs:¬stand X.up k X.ks[k])=>show¬xP X from Sk hk hs);have gu:=Hq (λk (h:upto X k) (hk:k < X.ks.length) (hs:stand X.up k X.ks[k])=>Lg h hk hs);have O3:=Hq (Lh X);generalize hPR:xP X=PR at *;generalize hUP:upto X=UP at *;clear hPR hUP;obtain⟨up,ks,net,td,bk⟩:=X;obtain⟨u,uc,ka,kc,L,na,nc,ta,tc,b,bc⟩:=A;dsimp only at *;obtain⟨c0,c1,c2,c3,c4⟩:=xI Tp;go_in
 go_wp2_with fail;refine(Bq _ jC).mono ?_;rintro e w1 ⟨rfl,hb⟩;have kU:=Hq (aj Tp hb);have jM:=Hq (jC.trans (hb.mono jC.size));clear hb c0 c1 c2 c3 c4 Tp jC Bq;cases htb:jG up
 case' false=>
  have HN:=Hq (show¬PR from λh=>by have h:=ah HNT h;rw [htb] at h;cases h);clear htb DC Om Ig SG HNT Ou LC SS SH gu O3;go_wp2_with fail;go_ret;exact .no HN jM
 have Ii:=Hq (λW h=>DC W h htb);have HYT:=Hq (SS htb);clear htb HNT DC SS;obtain⟨c0,c1,c2,c3,c4⟩:=xI kU;by_cases h1:ks.length=up.length
 case' neg=>
  have hq:((ks.length:Int) != (up.length:Int))=true:=Aae
  have HN:=Hq (show¬PR from λh=>h1 (Ou h));clear h1 Ii Om Ig SG Ou LC HYT SH gu O3;go_wp2_with fail;go_ret;exact .no HN jM
 have hq:((ks.length:Int) != (up.length:Int))=false:=Aae
 by_cases h3:net.length<=300
 case' neg=>
  have hq2:decide ((300:Int) < (net.length:Int))=true:=aEy Aaa;have HN:=Hq (show¬PR from λh=>h3 (LC h));clear h1 h3 Ii Om Ig SG Ou LC HYT SH gu O3;go_wp2_with fail;go_ret;exact .no HN jM
 have hq2:decide ((300:Int) < (net.length:Int))=false:=aEw Aaa;have HYU:=Hq (HYT h1 h3);have HE:=Hq h1;clear h1 h3 Ou LC HYT;go_wp2_with fail;go_loopw [3] (λi wr=>∃k:Nat,k<=ks.length/\i= .int .i64 k/\Hid (UP k)/\Hid (wr.heap[w.heap.size]?=some (.cells (yA ⟨up,ks,net,td,bk⟩ ⟨u,uc,ka,kc,L,na,nc,ta,tc,b,bc⟩) 38 (0,0)))/\aG w wr) (λi _=>ks.length - (intOf i).toNat)
 case atStart=>exact⟨0,aEN _,rfl,O3,kU,jM⟩
 case round=>
  obtain⟨k,hk,rfl,HU,HP,hbel⟩:=hrel;obtain⟨v0,hv0⟩:∃x,x=wr:=⟨_,rfl⟩;subst hv0;have HL:=Hq hbel;clear hbel c0 c1 c2 c3 c4;obtain⟨c0,c1,c2,c3,c4⟩:=xI HP;by_cases hlt:k < ks.length
  .obtain⟨A',g,off,rfl,hg,hr,hat⟩:=ah Om v0 HL k hlt;have hkz:=ah SG k hlt;have JV:=Hq (gu k HU hlt);have jD:=Hq (SH k hlt);have zq:=Hq (λW h n B=>Ii W h k (by have:=ah HE;omega) n B);clear Ii Om SG SH gu HYU O3;generalize ks[k]=kk at *;have HR:=Hq hr;have HAT:=Hq hat;have HZ:=Hq hkz;obtain⟨V,hV⟩:∃V,XL V kk A':=⟨_,rfl⟩;rw [show yN kk A'=V from hV.symm] at HR;have HI:Hid ((prog.info? 57).map (·.size)=some V.length):=by rw [hV.len];exact yL
   have HI2:Hid ((prog.info? 57).map (·.size)=some V.toArray.size):=by rw [show V.toArray.size=22 from hV.len];exact yL
   have XK:Hid ((v0.alloc (.cells Sz.toArray 57)).there v0.heap.size 0 V.toArray.size):=by
    rw [show V.toArray.size=22 from hV.len];exact λj hj=>⟨by rw [aEz _ _ _ _ _ (0,0) (aEu v0 _)];simp;omega,aA (aEu v0 _) _⟩
   have Tn:=Hq hV.one;clear hr hat hkz;go_upto_region 7 with(first|refine aF4 rfl 57 _ rfl g (off+k*22) rfl V _ HR underlying57 rfl HI ?_|refine aF8 rfl 57 _ _ rfl v0.heap.size 0 V.toArray rfl rfl XK HI2 Tn ?_)
   refine wp_at (λv1 hW=>?_);have hb:aG v0 v1:=Acy
   have LA:Hid (v1.heap[v0.heap.size]?=some (.cells (yN kk A').toArray 57 (0,0))):=by
    rw [hW,qp,show V=yN kk A' from hV];exact(GR.setW_blk (yN kk A') (o:=0) (xs:=Sz) (aEu v0 _)).trans Aab
   have kU:=Hq (aj HP hb);have jM:=Hq (HL.trans (hb.mono HL.size));have HA1:=Hq (HAT.below hb);clear hb hW HP HL HAT HR HI HI2 XK Tn c0 c1 c2 c3 c4 hV;generalize v0.heap.size=gk at *;obtain⟨c0,c1,c2,c3,c4⟩:=xI kU;have vL:=Hq (KR.blk LA).r;go_wp2_with (refine aFd Aah (λ_ hK=>wp_load_mid 57 _ rfl gk 0 rfl (yN kk A') _ vL underlying57 rfl Aab (hK _ _ ?_)))
   refine(Ig v1 jM kk A' HZ HA1).mono ?_;rintro e v2 ⟨⟨r,rfl,hr⟩,hb⟩;have mD:=Hq (aj kU hb);have qE:=Hq (aj LA hb);have HL2:=Hq (jM.trans (hb.mono jM.size));have HA2:=Hq (HA1.below hb);clear hb kU LA jM HA1 vL c0 c1 c2 c3 c4;cases r
   case' false=>
    have HN:=Hq (jD (show¬stand up k kk from λh=>by have h:=hr.2 ((λh:stand up k kk=>h.2.2) h);cases h));clear hr jD JV zq Ig HZ HU;go_wp2_with fail;go_ret;exact .no HN HL2
   have HQ1:=Hq (show rY kk from hr.1 rfl);clear hr;obtain⟨c0,c1,c2,c3,c4⟩:=xI mD;have Dw:=Hq (rZ qE).1;go_wp2_with (refine aFd Aah (λ_ hK=>wp_load_mid 53 _ rfl gk 0 rfl (dR kk.base A'.b).toList _ Dw underlying53 rfl Aab (hK _ _ ?_)))
   refine(zq v2 HL2 kk.base A'.b HZ.b.k HA2.kb.k).mono ?_;rintro e v3 ⟨⟨r,rfl,hr⟩,hb⟩;have Ef:=Hq (aj mD hb);have VQ:=Hq (aj qE hb);have lu:=Hq (HL2.trans (hb.mono HL2.size));have SE:=Hq (HA2.below hb);clear hb mD qE HL2 HA2 Dw c0 c1 c2 c3 c4;cases r
   case' false=>
    have HN:=Hq (jD (show¬stand up k kk from λh=>by have h:=hr.2 ((λh:stand up k kk=>h.1) h);cases h));clear hr jD JV zq Ig HZ HU;go_wp2_with fail;go_ret;exact .no HN lu
   have HQ2:=Hq (show here up k kk.base from hr.1 rfl);clear hr;obtain⟨c0,c1,c2,c3,c4⟩:=xI Ef;have HN3:=Hq (rZ VQ).2;go_wp2_with (refine aFd Aah (λ_ hK=>wp_load_mid 53 _ rfl gk 9 rfl (dR kk.node A'.n).toList _ HN3 underlying53 rfl Aab (hK _ _ ?_)))
   refine(zq v3 lu kk.node A'.n HZ.n.k SE.kn.k).mono ?_;rintro e v4 ⟨⟨r,rfl,hr⟩,hb⟩;have JQ:=Hq (aj Ef hb);have HK4:=Hq (aj VQ hb);have xU:=Hq (lu.trans (hb.mono lu.size));have OA:=Hq (SE.below hb);clear hb Ef VQ lu SE HN3 c0 c1 c2 c3 c4;cases r
   case' false=>
    have HN:=Hq (jD (show¬stand up k kk from λh=>by have h:=hr.2 ((λh:stand up k kk=>h.2.1) h);cases h));clear hr jD JV zq Ig HZ HU;go_wp2_with fail;go_ret;exact .no HN xU
   have HQ3:=Hq (show here up k kk.node from hr.1 rfl);clear hr;have HU2:=Hq (JV ⟨HQ2,HQ3,HQ1⟩);clear HQ1 HQ2 HQ3 jD JV zq Ig HZ HU HK4 OA;go_wp2_with fail;go_roundw
   case rel=>exact⟨k+1,Aaa,Aaf,HU2,JQ,xU⟩
   case measure=>simp[intOf];omega
  .have hke:k=ks.length:=Aaa
   subst hke;have HY:=Hq (HYU HU);have hnlt:decide ((ks.length:Int) < (ks.length:Int))=false:=Aac
   clear HYU HU Ii Om Ig SG SH gu O3;go_wp2_with fail;go_ret;exact .yes HY HL
theorem alg:(prog.info? 38).map (·.size)=some 5:=Aab
theorem alh:(prog.info? 30).map (·.size)=some 5:=Aab
theorem xJ (X:Wd) (A:WA) (hz:xD X maxLen) (E:Nat->Addr) (w:World) (ha:rG w A X) (he:gX w E) (hH:Handle w):
 Calls prog 3 #[wdv X A] w (dK w (.bool true)):=by
 have Tp:=Hq (aEu w (.cells (yA X A) 30));have jC:=Hq (au w (.cells (yA X A) 30));have tX:=Hq (λw1 (h:aG w w1)=>af3 X A w1 hz (ha.below h));have Bq:=Hq (fun(hz2:xD X 1048576) w1 (h:aG w w1)=>af9 X A w1 hz2 (ha.below h));have SL:=Hq (fun(hz2:xD X 1048576) (B:WA) w1 (h:rG w1 B X)=>R6 X B w1 hz2 h);have HIM:=Hq (fun(hz2:xD X 1048576) (B:WA) w1 (h:rG w1 B X) (hl:aG w w1)=>Qo X B E w1 hz2 h (he.below hl) (hH.below hl));have xS:=Hq (fun(hz2:xD X 1048576) (B C:WA) w1 (h:rG w1 B X) (h':rG w1 C X)=>afd X B C w1 hz2 h h');clear ha hz he hH;generalize hPR:xP X=PR at *;clear hPR;obtain⟨up,ks,net,td,bk⟩:=X;obtain⟨u,uc,k,kc,L,n,nc,t,tc,b,bc⟩:=A;obtain⟨c0,c1,c2,c3,c4⟩:=xI Tp;go_in
 go_wp2_with fail;refine(tX _ jC).mono ?_;rintro e w1 ⟨r,rfl,hr,hb⟩;have kU:=Hq (aj Tp hb);have jM:=Hq (jC.trans (hb.mono jC.size));clear hb c0 c1 c2 c3 c4 Tp jC tX;rcases hr with rfl|⟨hr0,hr1,hz2⟩
 case' inl=>
  go_wp2_with fail;go_ret;exact⟨rfl,jM⟩
 have hrn:decide (r < 0)=false:=aEw Aaa;have HT2:=Hq (Bq hz2);have HS2:=Hq (SL hz2);have HI2:=Hq (HIM hz2);have HE2:=Hq (xS hz2);clear Bq SL HIM xS hz2;obtain⟨c0,c1,c2,c3,c4⟩:=xI kU;go_wp2_with fail;refine(HT2 _ jM).mono ?_;rintro e w2 ⟨B2,rfl,hat,hb⟩;have mD:=Hq (aj kU hb);have HL2:=Hq (jM.trans (hb.mono jM.size));have HA2:=Hq hat;clear hb hat c0 c1 c2 c3 c4 kU jM;go_wp2_with fail;refine(HS2 _ _ HA2).mono ?_;rintro e w3 ⟨⟨r1,rfl,hr1⟩,hb⟩;have Ef:=Hq (aj mD hb);have lu:=Hq (HL2.trans (hb.mono HL2.size));clear hb mD HL2 HA2 HS2;obtain⟨c0,c1,c2,c3,c4⟩:=xI Ef;go_wp2_with fail;refine(HT2 _ lu).mono ?_;rintro e w4 ⟨B4,rfl,hat,hb⟩;have JQ:=Hq (aj Ef hb);have xU:=Hq (lu.trans (hb.mono lu.size));have OA:=Hq hat;clear hb hat c0 c1 c2 c3 c4 Ef lu;go_upto_region 7 with fail;refine wp_at (λW5 hW=>?_);have hb:aG w4 W5:=by rw [hW];exact au w4 _
 have HX5:Hid (W5.heap[w4.heap.size]?=some (.cells (yA ⟨up,ks,net,td,bk⟩ B4) 38 (0,0))):=by rw [hW];exact aEu w4 _
 have Iz:=Hq (aj JQ hb);have HL5:=Hq (xU.trans (hb.mono xU.size));have HA5:=Hq (OA.below hb);clear hb hW JQ xU OA;obtain⟨x0,x1,x2,x3,x4⟩:=xI HX5;go_wp2_with fail;refine(HI2 _ _ HA5 HL5).mono ?_;rintro e w6 ⟨⟨r2,rfl,hr2⟩,hb⟩
 have hrr:r2=r1:=by
  cases r1<;>cases r2<;>simp_all
 subst hrr;have hne:(r2 != r2)=false:=Aac
 clear hr1 hr2;have Tq:=Hq (aj Iz hb);have HX6:=Hq (aj HX5 hb);have HL6:=Hq (HL5.trans (hb.mono HL5.size));have HA6:=Hq (HA5.below hb);clear hb x0 x1 x2 x3 x4 Iz HX5 HL5 HA5 HI2;have hxl:=ay HX6;have hpl:=ay Tq;have tV:Hid (w6.rangeAt w4.heap.size 0 (yA ⟨up,ks,net,td,bk⟩ B4).toList):=(KR.blk (V:=(yA ⟨up,ks,net,td,bk⟩ B4).toList) HX6).r;have Ik:Hid (w6.rangeAt w.heap.size 0 (yA ⟨up,ks,net,td,bk⟩ ⟨u,uc,k,kc,L,n,nc,t,tc,b,bc⟩).toList):=(KR.blk (V:=(yA ⟨up,ks,net,td,bk⟩ ⟨u,uc,k,kc,L,n,nc,t,tc,b,bc⟩).toList) Tq).r;have HI1:Hid ((prog.info? 38).map (·.size)=some (yA ⟨up,ks,net,td,bk⟩ B4).toList.length):=alg;have HI3:Hid ((prog.info? 30).map (·.size)=some (yA ⟨up,ks,net,td,bk⟩ ⟨u,uc,k,kc,L,n,nc,t,tc,b,bc⟩).toList.length):=alh
 have HTT:Hid (∀w1,aG w w1->Calls prog 6 #[.agg (yA ⟨up,ks,net,td,bk⟩ ⟨u,uc,k,kc,L,n,nc,t,tc,b,bc⟩).toList.toArray] w1 λe w'=>∃V:List Value,e= .returned (.agg V.toArray)/\(∀w2,Ge w' w2->Ge w6 w2->Calls prog 8 #[.agg (yA ⟨up,ks,net,td,bk⟩ B4).toList.toArray,.agg V.toArray] w2 λe w3=>e= .returned (.bool true)/\aG w2 w3)/\aG w1 w'):=λw1 h=>(HT2 w1 h).mono (by
  rintro e w' ⟨C,rfl,hC,hb⟩
  exact⟨(yA ⟨up,ks,net,td,bk⟩ C).toList,rfl,λw2 h1 h2=>HE2 B4 C w2 (HA6.below h2) (hC.below h1),hb⟩)
 clear HT2 HE2 HA6 HX6 Tq;generalize (yA ⟨up,ks,net,td,bk⟩ B4).toList=V1 at tV HI1 HTT;generalize (yA ⟨up,ks,net,td,bk⟩ ⟨u,uc,k,kc,L,n,nc,t,tc,b,bc⟩).toList=V2 at Ik HI3 HTT;go_upto_region 10 with fail;refine Ip 5 ?_;refine jc 0 rfl Aab Aab Aab (λ_ _ _ _ h=>h) Aah 38 _ rfl w4.heap.size 0 (by first|rfl|simp[Act.eval,Act.put]) V1 _ tV hxl underlying38 rfl HI1 ?_;go_simp;refine jc 1 rfl Aab Aab Aab (λ_ _ _ _ h=>h) Aah 30 _ rfl w.heap.size 0 (by first|rfl|simp[Act.eval,Act.put]) V2 _ Ik hpl underlying30 rfl HI3 ?_;go_simp;refine eu 2 rfl Aab Aah (λx hx=>?_);go_simp;refine(HTT x (HL6.trans (hx.mono HL6.size))).mono ?_;rintro e y ⟨V,rfl,hv,hby⟩;refine⟨hby,?_⟩;have HV:=Hq hv;have HXY:=Hq (Ge.trans hx hby);clear hv hx hby;refine eu 3 rfl Aab Aah (λx hx=>?_);go_simp;refine(HV x hx (Ge.trans HXY hx)).mono ?_;rintro e y2 ⟨rfl,hby⟩;refine⟨hby,?_⟩;have HXZ:=Hq (Ge.trans (Ge.trans HXY hx) hby);clear hx hby;refine tk [4] ?_;(refine iy (λK hK=>?_);go_simp;refine hK _ ?_;clear hK K)
 refine jm ?_;refine dJ Aab (λz hz=>?_);have HL7:=Hq (HL6.trans ((Ge.trans HXZ hz).mono HL6.size));clear hz HXZ HXY HV HTT tV Ik HI1 HI3;go_simp;go_wp2_with fail;go_ret;exact⟨rfl,HL7⟩
end Go.Proofs.YtfachhcijcjbpaaGreatDoor
