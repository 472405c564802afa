/- Parts. -/
import Derived.Test.YtfachhcijcjbpaaGreatDoorRw33
import Derived.Test.YtfachhcijcjbpaaGreatDoorRw22
import Derived.Test.YtfachhcijcjbpaaGreatDoorRw37
namespace Go.Proofs.YtfachhcijcjbpaaGreatDoor
open Go.Proofs.Tryz
set_option maxHeartbeats 8000000
set_option maxRecDepth 100000
open Go.RowKit
open Mth
variable (a:Option Addr) (ca:Nat) (up:List Int) (i:Nat) (n:Nd) (A:bg) (w:World) {W:Wd} {k:Nat}
namespace Mth
def rY (k:Kp):Prop:=dQ k.base=true/\dQ k.node=true/\(0<=k.safe/\k.safe<=k.log.size)/\(fT k.log).2=k.log.size/\k.node=gH k.base (fT k.log).1
end Mth
theorem acu (k:Kp) (A:KA) (g:Nat) (st:Int) (lk rt:Bool) (E:Nat->Addr) (w:World) (hz:mO k 1048576) (ha:oL w A k) (hg:w.heap[g]?=some (.cells (hkG k A st lk rt) 162 (0,0))) (he:gX w E) (hH:Handle w):
 Calls Tryz.prog 120 #[.pointer (some ⟨g,0,none⟩)] w (iU w (rY k)):=by
 have Ih:=Hq (λW (h:aG w W)=>yJ k.base A.b W (hz.b.mono Aaa) (ha.below h).kb);have rQ:=Hq (λW (h:aG w W)=>yJ k.node A.n W (hz.n.mono Aaa) (ha.below h).kn);have Eh:=Hq (λW (h:aG w W)=>acz k.log (by have:=hz.l;unfold maxLen;omega) W (hH.below h));have Ik:=Hq (λa cap W (h:aG w W) (ho:JX W a (fT k.log).1)=>MO k.base A.b a cap (fT k.log).1 E W hz.b (KN k.log) (λo h=>Xk (Q6 k.log o h)) (ha.below h).kb ho (he.below h));have zF:=Hq (λW (h:aG w W) A' (hb:bX W A' (gH k.base (fT k.log).1))=>Zl k.node (gH k.base (fT k.log).1) A.n A' W hz.n (ha.below h).kn hb);have HK:=Hq hg;have hgl:=ay hg;have hsl:=hz.l;unfold kZ at Eh;unfold Ls at Ik;clear hz ha hg he hH;obtain⟨⟨bk,bp,bo,bs,br,bck,bcp,bco,bcs,bcr⟩,⟨nk,np,no,ns,nr,nck,ncp,nco,ncs,ncr⟩,wa,wc,aa,ac⟩:=A;dsimp only at Ih rQ Ik zF;have y0:=aEv (show w.cell? ⟨g,0,none⟩=some (.int .i64 k.node.id) from dx HK 0);have y1:=aEv (show w.cell? ⟨g,1,none⟩=some (.int .i64 k.node.par) from dx HK 1);have y2:=aEv (show w.cell? ⟨g,2,none⟩=some (.slice nk k.node.kids.length nck) from dx HK 2);have y3:=aEv (show w.cell? ⟨g,3,none⟩=some (.int .i64 k.node.next) from dx HK 3);have y4:=aEv (show w.cell? ⟨g,4,none⟩=some (.slice np k.node.pu.length ncp) from dx HK 4);have y5:=aEv (show w.cell? ⟨g,5,none⟩=some (.slice no k.node.out.length nco) from dx HK 5);have y6:=aEv (show w.cell? ⟨g,6,none⟩=some (.slice ns k.node.seen.length ncs) from dx HK 6);have y7:=aEv (show w.cell? ⟨g,7,none⟩=some (.int .i64 k.node.old) from dx HK 7);have y8:=aEv (show w.cell? ⟨g,8,none⟩=some (.slice nr k.node.reqs.length ncr) from dx HK 8);have y11:=aEv (show w.cell? ⟨g,11,none⟩=some (.int .i64 k.base.id) from dx HK 11);have y12:=aEv (show w.cell? ⟨g,12,none⟩=some (.int .i64 k.base.par) from dx HK 12);have y13:=aEv (show w.cell? ⟨g,13,none⟩=some (.slice bk k.base.kids.length bck) from dx HK 13);have y14:=aEv (show w.cell? ⟨g,14,none⟩=some (.int .i64 k.base.next) from dx HK 14);have y15:=aEv (show w.cell? ⟨g,15,none⟩=some (.slice bp k.base.pu.length bcp) from dx HK 15);have y16:=aEv (show w.cell? ⟨g,16,none⟩=some (.slice bo k.base.out.length bco) from dx HK 16);have y17:=aEv (show w.cell? ⟨g,17,none⟩=some (.slice bs k.base.seen.length bcs) from dx HK 17);have y18:=aEv (show w.cell? ⟨g,18,none⟩=some (.int .i64 k.base.old) from dx HK 18);have y19:=aEv (show w.cell? ⟨g,19,none⟩=some (.slice br k.base.reqs.length bcr) from dx HK 19);have y20:=aEv (show w.cell? ⟨g,20,none⟩=some (.string k.log) from dx HK 20);have y21:=aEv (show w.cell? ⟨g,21,none⟩=some (.int .i64 k.safe) from dx HK 21);cases h1:dQ k.base
 case' false=>
  have HP:=Hq (show¬rY k from λh=>by have h:=h.1;rw [h1] at h;cases h);have k1:∀d os,Calls Tryz.prog 159 #[gP k.base (⟨bk,bp,bo,bs,br,bck,bcp,bco,bcs,bcr⟩:bg)] (Sort.grow (redrawn w d) os) λe w''=>e= .returned (.bool false)/\∃p:Regrown,w''=Sort.grow (redrawn w p.d) p.os:=λd os=>aE1 (h1▸ah Ih _ (aEV w d os))
  clear h1 Ih rQ Eh Ik zF HK;go_in
  go_upto_region 1 with fail;refine aEJ Aab Aab ?_;repeat (first|go_big_quiet_step ((go_at_call_of 159 bk;exact k1 _ _))|quiet_step ((go_at_call_of 159 bk;exact k1 _ _)))
  refine aE2 ?_;intro _ hw';obtain⟨⟨dq,osq⟩,hw''⟩:=hw';subst hw'';clear k1 y0 y1 y2 y3 y4 y5 y6 y7 y8 y11 y12 y13 y14 y15 y16 y17 y18 y19 y20 y21;go_wp2_with fail;go_ret;exact .no HP (aEV _ dq osq)
 have k1:∀d os,Calls Tryz.prog 159 #[gP k.base (⟨bk,bp,bo,bs,br,bck,bcp,bco,bcs,bcr⟩:bg)] (Sort.grow (redrawn w d) os) λe w''=>e= .returned (.bool true)/\∃p:Regrown,w''=Sort.grow (redrawn w p.d) p.os:=λd os=>aE1 (h1▸ah Ih _ (aEV w d os))
 cases h2:dQ k.node
 case' false=>
  have HP:=Hq (show¬rY k from λh=>by have h:=h.2.1;rw [h2] at h;cases h);have k2:∀d os,Calls Tryz.prog 159 #[gP k.node (⟨nk,np,no,ns,nr,nck,ncp,nco,ncs,ncr⟩:bg)] (Sort.grow (redrawn w d) os) λe w''=>e= .returned (.bool false)/\∃p:Regrown,w''=Sort.grow (redrawn w p.d) p.os:=λd os=>aE1 (h2▸ah rQ _ (aEV w d os))
  clear h1 h2 Ih rQ Eh Ik zF HK;go_in
  go_upto_region 1 with fail;refine aEJ Aab Aab ?_;repeat (first|go_big_quiet_step (first|(go_at_call_of 159 nk;exact k2 _ _)|(go_at_call_of 159 bk;exact k1 _ _))|quiet_step (first|(go_at_call_of 159 nk;exact k2 _ _)|(go_at_call_of 159 bk;exact k1 _ _)))
  refine aE2 ?_;intro _ hw';obtain⟨⟨dq,osq⟩,hw''⟩:=hw';subst hw'';clear k1 k2 y0 y1 y2 y3 y4 y5 y6 y7 y8 y11 y12 y13 y14 y15 y16 y17 y18 y19 y20 y21;go_wp2_with fail;go_ret;exact .no HP (aEV _ dq osq)
 have k2:∀d os,Calls Tryz.prog 159 #[gP k.node (⟨nk,np,no,ns,nr,nck,ncp,nco,ncs,ncr⟩:bg)] (Sort.grow (redrawn w d) os) λe w''=>e= .returned (.bool true)/\∃p:Regrown,w''=Sort.grow (redrawn w p.d) p.os:=λd os=>aE1 (h2▸ah rQ _ (aEV w d os))
 have XC:=Hq (And.intro h1 h2);clear h1 h2 Ih rQ;by_cases h3:k.safe < 0
 case' pos=>
  have HP:=Hq (show¬rY k from λh=>by have:=h.2.2.1.1;omega);have hd:decide (k.safe < 0)=true:=aEy h3;clear h3 XC Eh Ik zF HK;go_in
  go_upto_region 1 with fail;refine aEJ Aab Aab ?_;repeat (first|go_big_quiet_step (first|(go_at_call_of 159 nk;exact k2 _ _)|(go_at_call_of 159 bk;exact k1 _ _))|quiet_step (first|(go_at_call_of 159 nk;exact k2 _ _)|(go_at_call_of 159 bk;exact k1 _ _)))
  refine aE2 ?_;intro _ hw';obtain⟨⟨dq,osq⟩,hw''⟩:=hw';subst hw'';clear hd k1 k2 y0 y1 y2 y3 y4 y5 y6 y7 y8 y11 y12 y13 y14 y15 y16 y17 y18 y19 y20 y21;go_wp2_with fail;go_ret;exact .no HP (aEV _ dq osq)
 have hd3:decide (k.safe < 0)=false:=aEw h3;by_cases h4:(k.log.size:Int) < k.safe
 case' pos=>
  have HP:=Hq (show¬rY k from λh=>by have:=h.2.2.1.2;omega);have hd:decide (k.safe > (k.log.size:Int))=true:=aEy h4;have hd':decide ((k.log.size:Int) < k.safe)=true:=aEy h4;clear h3 h4 XC Eh Ik zF HK;go_in
  go_upto_region 1 with fail;refine aEJ Aab Aab ?_;repeat (first|go_big_quiet_step (first|(go_at_call_of 159 nk;exact k2 _ _)|(go_at_call_of 159 bk;exact k1 _ _))|quiet_step (first|(go_at_call_of 159 nk;exact k2 _ _)|(go_at_call_of 159 bk;exact k1 _ _)))
  refine aE2 ?_;intro _ hw';obtain⟨⟨dq,osq⟩,hw''⟩:=hw';subst hw'';clear hd hd' hd3 k1 k2 y0 y1 y2 y3 y4 y5 y6 y7 y8 y11 y12 y13 y14 y15 y16 y17 y18 y19 y20 y21;go_wp2_with fail;go_ret;exact .no HP (aEV _ dq osq)
 have hd4:decide (k.safe > (k.log.size:Int))=false:=aEw h4;have aBS:decide ((k.log.size:Int) < k.safe)=false:=aEw h4;have HSF:=Hq (show 0<=k.safe/\k.safe<=k.log.size by omega);clear h3 h4;go_in
 go_upto_region 1 with fail;refine aEJ Aab Aab ?_;repeat (first|go_big_quiet_step (first|(go_at_call_of 159 nk;exact k2 _ _)|(go_at_call_of 159 bk;exact k1 _ _))|quiet_step (first|(go_at_call_of 159 nk;exact k2 _ _)|(go_at_call_of 159 bk;exact k1 _ _)))
 refine aE2 ?_;intro _ hw';obtain⟨⟨dq,osq⟩,hw''⟩:=hw';subst hw'';clear hd3 hd4 aBS k1 k2 y0 y1 y2 y3 y4 y5 y6 y7 y8 y11 y12 y13 y14 y15 y16 y17 y18 y19 y20 y21;have HB1:=Hq (aEV w dq osq);generalize Sort.grow (redrawn w dq) osq=V at *;have HKV:=Hq (aj HK HB1);have v20:V.cell? ⟨g,20,none⟩=some (.string k.log):=dx HKV 20;clear HK;go_wp2_with fail;refine(Eh V HB1).mono ?_;rintro e V2 ⟨v,rfl,hown,hb2⟩;obtain⟨la,lc,rfl,hops⟩:=GR.own_at (enc:=nQ) (sz:=11) jO hown;have ED:=Hq hops;have HB2:=Hq (Below.trans HB1 (hb2.mono HB1.size));have qE:=Hq (aj HKV hb2);clear hb2 HB1 HKV v20 hgl hown hops Eh;have hgl:=ay qE;have y20:=aEv (show V2.cell? ⟨g,20,none⟩=some (.string k.log) from dx qE 20);by_cases h5:(fT k.log).2=k.log.size
 case' neg=>
  have HP:=Hq (show¬rY k from λh=>h5 h.2.2.2.1);have hq:(((fT k.log).2:Int) == (k.log.size:Int))=false:=Aae
  clear h5 XC HSF Ik zF ED qE;go_upto_region 4 with fail;refine aEJ Aab Aab ?_;repeat (first|go_big_quiet_step (fail)|quiet_step (fail))
  refine aE2 ?_;intro _ hw';obtain⟨⟨dq,osq⟩,hw''⟩:=hw';subst hw'';clear y20;go_wp2_with fail;go_ret;exact .no HP (HB2.trans ((aEV _ dq osq).mono HB2.size))
 have hq:(((fT k.log).2:Int) == (k.log.size:Int))=true:=by simp[h5]
 have HE5:=Hq h5;clear h5;obtain⟨hr0,hr1⟩:=Yu qE;go_upto_region 4 with fail;refine Ip 21 ?_;refine tk [0,1,2,3,4,5,6,7,8,9,10] ?_;iterate 11 (refine iy (λK hK=>?_);go_simp;(first|refine hK _ ?_|(apply Exists.intro;refine⟨λ_=>?_,hK _ ?_⟩;rfl));clear hK K)
 refine jm ?_;refine jc 11 rfl Aab Aab Aab (λ_ _ _ _ h=>h) Aah 53 _ rfl g 0 rfl (dR k.node (⟨nk,np,no,ns,nr,nck,ncp,nco,ncs,ncr⟩:bg)).toList _ hr0 hgl Tryz.underlying53 rfl Aab ?_;refine tk [12,13,14] ?_;iterate 3 (refine iy (λK hK=>?_);go_simp;(first|refine hK _ ?_|(apply Exists.intro;refine⟨λ_=>?_,hK _ ?_⟩;rfl));clear hK K)
 refine jm ?_;refine jc 15 rfl Aab Aab Aab (λ_ _ _ _ h=>h) Aah 53 _ rfl g 11 rfl (dR k.base (⟨bk,bp,bo,bs,br,bck,bcp,bco,bcs,bcr⟩:bg)).toList _ hr1 hgl Tryz.underlying53 rfl Aab ?_;refine tk [16] ?_;(refine iy (λK hK=>?_);go_simp;(first|refine hK _ ?_|(apply Exists.intro;refine⟨λ_=>?_,hK _ ?_⟩;rfl));clear hK K)
 refine jm ?_;clear y20 hr0 hr1 hq;refine eu 17 rfl Aab Aah (λx17 ak6=>?_);go_simp;have g17:aG w x17:=Ge.trans (show Ge w V2 from HB2) ak6;refine(Ik la lc x17 g17 (GR.At.below ED ak6)).mono ?_;rintro e z17 ⟨A',G',c',rfl,hN',ala⟩;refine⟨ala,?_⟩;have HA':=Hq hN'.at;have HG:=Hq (show aG w z17 from Ge.trans (show Ge w x17 from g17) ala);clear hN' ak6 ala g17 HB2 Ik qE ED;refine eu 18 rfl Aab Aah (λx18 Yw=>?_);go_simp;have g18:aG w x18:=Ge.trans (show Ge w z17 from HG) Yw;refine(zF x18 g18 A' (HA'.below Yw)).mono ?_;rintro e z18 ⟨⟨r,rfl,hr⟩,alb⟩;refine⟨alb,?_⟩;have HR:=Hq (show r=true↔rY k from⟨λh=>⟨XC.1,XC.2,HSF,HE5,hr.1 h⟩,λh=>hr.2 h.2.2.2.2⟩);have HG2:=Hq (show aG w z18 from Ge.trans (show Ge w x18 from g18) alb);clear Yw alb g18 zF HG HA' hr XC HSF HE5;refine tk [19] ?_;(refine iy (λK hK=>?_);go_simp;(first|refine hK _ ?_|(apply Exists.intro;refine⟨λ_=>?_,hK _ ?_⟩;rfl));clear hK K)
 refine jm ?_;refine eu 20 rfl Aab Aah (λx20 ayI=>?_);go_simp;refine⟨aEK _ _,?_⟩;refine dJ Aab (λz hz=>?_);have Ey:=Hq (show aG w z from Ge.trans (show Ge w z18 from HG2) (Ge.trans ayI hz));clear ayI hz HG2;go_wp2_with fail;go_ret;exact⟨⟨r,rfl,HR⟩,Ey⟩
namespace Mth
def here (up:List Int) (i:Nat) (n:Nd):Prop:=n.id=(i:Int)/\up[i]?=some n.par/\n.kids=yc up i
def stand (up:List Int) (i:Nat) (k:Kp):Prop:=here up i k.base/\here up i k.node/\rY k
def upto (W:Wd) (k:Nat):Prop:=∀i (h:i < W.ks.length),i < k->stand W.up i W.ks[i]
def xP (W:Wd):Prop:=jG W.up=true/\W.ks.length=W.up.length/\W.net.length<=300/\upto W W.ks.length
theorem Lh (W:Wd):upto W 0:=λ_ _ h=>by omega
theorem Lg (h:upto W k) (hk:k < W.ks.length) (hs:stand W.up k W.ks[k]):upto W (k+1):=λi hi hik=>by
 by_cases e:i=k
 .subst e;exact hs
 .exact h i hi Aaa
theorem Sk (hk:k < W.ks.length) (hs:¬stand W.up k W.ks[k]):¬xP W:=λh=>hs (h.2.2.2 k hk hk)
end Mth
theorem rG.kp {w:World} {A:WA} (h:rG w A W) (k:Nat) (hk:k < W.ks.length):∃A' g off,A.k=some ⟨g,off,none⟩/\g < w.heap.size/\w.rangeAt g (off+k*22) (yN W.ks[k] A')/\oL w A' W.ks[k]:=by
 have hk2:k < A.L.length:=by rw [h.len];exact hk
 obtain⟨g,off,e,hg,hr⟩:=h.ks.range k hk2;have hx:=h.ks.each A.L[k] (aEL hk2);have he:A.L[k].1=W.ks[k]:=by simp only[<-h.ke,List.getElem_map]
 refine⟨A.L[k].2,g,off,e,hg,?_,?_⟩
 .rw [<-he];exact hr
 .rw [<-he];exact hx
theorem aco (hl:up.length<=1048600) (_:jG up=true) (hi:i < up.length) (hk:n.kids.length<=1048576) (ha:aK w a up) (hn:aK w A.k n.kids):
 Calls Tryz.prog 23 #[ZV a up ca,.int .i64 i,gP n A] w (iU w (here up i n)):=by
 obtain⟨g,off,rfl,hgw,q0⟩:=aK.one ha i hi;have VT:=Hq (λw1 (h:aG w w1)=>acr (some ⟨g,off,none⟩) ca up i w1 hl (GR.At.below ha h));have xS:=Hq (λw1 (h:aG w w1) (b:Option Addr) (cb:Nat) (hb:aK w1 b (yc up i))=>Gl A.k b A.ck cb n.kids (yc up i) w1 Aaa (GR.At.below hn h) hb);open aqN in exact awE
theorem adC (hl:up.length<=1048600) (htb:jG up=true) (hi:i < up.length) (hk:n.kids.length<=1048576) (ha:aK w a up) (hn:aK w A.k n.kids):
 Calls Tryz.prog 16 #[ZV a up ca,gP n A,.int .i64 i] w (iU w (here up i n)):=by
 obtain⟨g,off,rfl,hgw,q0⟩:=aK.one ha i hi;have VT:=Hq (λw1 (h:aG w w1)=>Vm (some ⟨g,off,none⟩) ca up i w1 hl (GR.At.below ha h) htb Aaa);have xS:=Hq (λw1 (h:aG w w1) (b:Option Addr) (cb:Nat) (hb:aK w1 b (yc up i))=>Bf A.k b A.ck cb n.kids (yc up i) w1 Aaa (GR.At.below hn h) hb);open aqM in exact awE
open Go.RowKit Go.MuLone
theorem hkB.look {w:World} {g:Nat} {k:Kp} {A:KA} {st:Int} {lk rt:Bool} (h:hkB w g k A st lk rt) (b:Bool):hkB ((w.setCell ⟨g,24,none⟩ (.bool true)).setCell ⟨g,25,none⟩ (.bool b)) g k A st true b:=by
 have h1:hkB (w.setCell ⟨g,24,none⟩ (.bool true)) g k A st true rt:=aT h 24 _;exact aT h1 25 _
def Right (w:World) (g:Nat) (k:Kp) (A:KA) (st:Int) (e:Ending) (w':World):Prop:=∃r,e= .returned (.bool r)/\(r=true↔rY k)/\hkB w' g k A st true r/\aC [g] w w'
theorem YE (k:Kp) (A:KA) (g:Nat) (st:Int) (E:Nat->Addr) (w:World) (hz:mO k 1048576) (ha:oL w A k) (hg:hkB w g k A st false false) (he:gX w E) (hH:Handle w):
 Calls Tryz.prog 79 #[.pointer (some ⟨g,0,none⟩)] w (Right w g k A st):=by
 have HL:=Hq (acu k A g st false false E w hz ha hg he hH);have HG:=Hq hg;have p24:w.cell? ⟨g,24,none⟩=some (.bool false):=dx hg 24;clear hz ha hg he hH;go_in
 go_wp2_with fail;refine HL.mono ?_;rintro e w1 ⟨⟨r,rfl,hr⟩,hb1⟩;have HR:=Hq hr;have JM:=Hq (aj HG hb1);have LA:=Hq (aC.of_below (F:=[g]) hb1);clear hb1 p24 HL HG hr;have q24:w1.cell? ⟨g,24,none⟩=some (.bool false):=dx JM 24;have q25:w1.cell? ⟨g,25,none⟩=some (.bool false):=dx JM 25;have f24:=aA JM 24;have f25:=aA JM 25;go_wp2_with fail;go_ret;exact⟨r,rfl,HR,(show hkB w1 g k A st false false from JM).look r,LA.trans ((aC.set _).trans (aC.set _))⟩
theorem afu (k:Kp) (A:KA) (g:Nat) (E:Nat->Addr) (w:World) (hz:mO k 1048576) (h1:∀w',aC [g] w w'->oL w' A k/\gX w' E/\Handle w') (hg:hkB w g k A 0 false false):
 Calls Tryz.prog 47 #[.pointer (some ⟨g,0,none⟩)] w (Right w g k A 0):=by
 have c9:w.cell? ⟨g,9,none⟩=some (.int .i32 0):=dx hg 9;have f9:=aA hg 9;have JM:=Hq (hkB.lock hg 1);have LA:=Hq (show aC [g] w (w.setCell ⟨g,9,none⟩ (.int .i32 1)) from aC.set _);have HA:=Hq h1;have HZ:=Hq hz;clear h1 hz hg;go_enter_defers Tryz.func47,Tryz.ntmps47
 go_wp2_with (go_at_call 77;refine(lock_free ajo ⟨g,9,none⟩ _ c9 f9).mono ?_;rintro e w' ⟨rfl,rfl⟩)
 generalize w.setCell ⟨g,9,none⟩ (.int .i32 1)=W1 at *;obtain⟨ha1,ha2,ha3⟩:=ah HA W1 LA;refine(YE k A g 1 E W1 HZ ha1 JM ha2 ha3).mono ?_;rintro e W2 ⟨r,rfl,hr,hg2,hk2⟩;have HR:=Hq hr;have HG2:=Hq hg2;have qE:=Hq (LA.trans hk2);clear hr hg2 hk2 ha1 ha2 ha3 JM LA HA HZ c9 f9;go_wp2_with fail;refine leaves_cons (f:=78) (args:=#[.pointer (some ⟨g,9,none⟩)]) Aac (by simp[go_sem]) ?_;refine(unlock_deferred ajo ⟨g,9,none⟩ .returning _ (dx HG2 9) (aA HG2 9)).mono ?_;rintro e u' w'' ⟨rfl,rfl,rfl⟩;exact⟨_,results_tmp rfl _ _ _,r,rfl,HR,(show hkB W2 g k A 1 true r from HG2).lock 0,qE.trans (aC.set _)⟩
theorem MH (k:Kp) (A:KA) (E:Nat->Addr) (w:World) (hz:mO k 1048576) (ha:oL w A k) (he:gX w E) (hH:Handle w):
 Calls Tryz.prog 24 #[kpv k A] w (iU w (rY k)):=by
 obtain⟨V,hV⟩:∃V,XL V k A:=⟨_,rfl⟩;have HHD:=Hq (λW (h:aG w W)=>hV.agg▸acp k A W hz (ha.below h));have jC:=Hq (au w (.cells V.toArray 57));have HK0:=Hq (KR.blk (aEu w (.cells V.toArray 57)));have HE:=Hq (λW (h:aG w W)=>And.intro (he.below h) (hH.below h));have HZ:=Hq hz;have HV:=Hq hV.len;rw [hV.agg];clear hz ha he hH hV;go_in
 go_upto_region 1 with fail;refine aGs ?_;show wpList _ _ _ [_,_,_,_] _ _
 refine ajm Aah (.tmp 1) rfl w.heap.size rfl V HV HK0 ?_;go_wp2_with fail;refine(HHD _ jC).mono ?_;rintro e w1 ⟨A',m1,m2,m3,g,rfl,hg,hk,hb⟩;obtain⟨l1,l2,l3,l4,l5⟩:=hk.le;have hlg:w.heap.size<=g:=by have:=jC.size;omega
 have HB:=Hq (jC.trans (hb.mono jC.size));have HK:=Hq hk;have HG:=Hq hg;clear hb hk hg l1 l2 l3 l4 l5 HHD jC HK0 HV;go_wp2_with fail;refine(afu k A' g E w1 HZ (λw' hk'=>⟨(HK.keeps hk' (λx hx=> .inl (by rw [aEM.1 hx];exact aEx _))).at,HE w' (zN HB hk' hlg HB.size)⟩) HG).mono ?_;rintro e w2 ⟨r,rfl,hr,_,hk2⟩;have HR:=Hq hr;have HB2:=Hq (zN HB hk2 hlg HB.size);clear hr hk2 HB HK HG HE HZ;go_wp2_with fail;go_ret;exact⟨⟨r,rfl,HR⟩,HB2⟩
theorem Qo (X:Wd) (A:WA) (E:Nat->Addr) (w:World) (hz:xD X 1048576) (ha:rG w A X) (he:gX w E) (hH:Handle w):
 Calls Tryz.prog 7 #[wdv X A] w (iU w (xP X)):=by
 have hul:=hz.u;have hkl:=hz.k;have Bq:=Hq (λW (h:aG w W)=>ald A.u A.uc X.up W Aaa (GR.At.below ha.up h));have DC:Hid (∀W,aG w W->jG X.up=true->∀i:Nat,i < X.up.length->∀(n:Nd) (B:bg),n.kids.length<=1048576->aK W B.k n.kids->Calls Tryz.prog 23 #[ZV A.u X.up A.uc,.int .i64 i,.agg (dR n B).toList.toArray] W (iU W (here X.up i n))):=λW h htb i hi n B hk hn=>aco A.u A.uc X.up i n B W Aaa htb hi hk (GR.At.below ha.up h) hn
 have Om:=Hq (λW (h:aG w W) k hk=>(ha.below h).kp k hk);have Ig:=Hq (λW (h:aG w W) (k:Kp) (A':KA) (hz:mO k 1048576) (ha:oL W A' k)=>show Calls Tryz.prog 24 #[.agg (yN k A').toArray] W (iU W (rY k)) from MH k A' E W hz ha (he.below h) (hH.below h));have SG:=Hq (λk (hk:k < X.ks.length)=>hz.kk X.ks[k] (aEL hk));have Tp:=Hq (aEu w (.cells (yA X A) 38));have jC:=Hq (au w (.cells (yA X A) 38));have hnl:=hz.n;clear hz ha he hH;have HNT:=Hq (fun(h:xP X)=>show jG X.up=true from h.1);have Ou:=Hq (fun(h:xP X)=>show X.ks.length=X.up.length from h.2.1);have LC:=Hq (fun(h:xP X)=>show X.net.length<=300 from h.2.2.1);have SS:=Hq (fun(h1:jG X.up=true) (h2:X.ks.length=X.up.length) (h3:X.net.length<=300) (h4:upto X X.ks.length)=>show xP X from⟨h1,h2,h3,h4⟩);have SH:=Hq (λk (hk:k < X.ks.length) (hs:¬stand X.up k X.ks[k])=>show¬xP X from Sk hk hs);have gu:=Hq (λk (h:upto X k) (hk:k < X.ks.length) (hs:stand X.up k X.ks[k])=>Lg h hk hs);have O3:=Hq (Lh X);generalize hPR:xP X=PR at *;generalize hUP:upto X=UP at *;clear hPR hUP;obtain⟨up,ks,net,td,bk⟩:=X;obtain⟨u,uc,ka,kc,L,na,nc,ta,tc,b,bc⟩:=A;dsimp only at *;obtain⟨c0,c1,c2,c3,c4⟩:=xI Tp;go_in
 go_wp2_with fail;refine(Bq _ jC).mono ?_;rintro e w1 ⟨rfl,hb⟩;have kU:=Hq (aj Tp hb);have jM:=Hq (jC.trans (hb.mono jC.size));clear hb c0 c1 c2 c3 c4 Tp jC Bq;cases htb:jG up
 case' false=>
  have HN:=Hq (show¬PR from λh=>by have h:=ah HNT h;rw [htb] at h;cases h);clear htb DC Om Ig SG HNT Ou LC SS SH gu O3;go_wp2_with fail;go_ret;exact .no HN jM
 have Ii:=Hq (λW h=>DC W h htb);have HYT:=Hq (SS htb);clear htb HNT DC SS;obtain⟨c0,c1,c2,c3,c4⟩:=xI kU;by_cases h1:ks.length=up.length
 case' neg=>
  have hq:((ks.length:Int) != (up.length:Int))=true:=Aae
  have HN:=Hq (show¬PR from λh=>h1 (Ou h));clear h1 Ii Om Ig SG Ou LC HYT SH gu O3;go_wp2_with fail;go_ret;exact .no HN jM
 have hq:((ks.length:Int) != (up.length:Int))=false:=Aae
 by_cases h3:net.length<=300
 case' neg=>
  have hq2:decide ((300:Int) < (net.length:Int))=true:=aEy Aaa;have HN:=Hq (show¬PR from λh=>h3 (LC h));clear h1 h3 Ii Om Ig SG Ou LC HYT SH gu O3;go_wp2_with fail;go_ret;exact .no HN jM
 have hq2:decide ((300:Int) < (net.length:Int))=false:=aEw Aaa;have HYU:=Hq (HYT h1 h3);have HE:=Hq h1;clear h1 h3 Ou LC HYT;go_wp2_with fail;go_loopw [28] (λi wr=>∃k:Nat,k<=ks.length/\i= .int .i64 k/\Hid (UP k)/\Hid (wr.heap[w.heap.size]?=some (.cells (yA ⟨up,ks,net,td,bk⟩ ⟨u,uc,ka,kc,L,na,nc,ta,tc,b,bc⟩) 38 (0,0)))/\aG w wr) (λi _=>ks.length - (intOf i).toNat)
 case atStart=>exact⟨0,aEN _,rfl,O3,kU,jM⟩
 case round=>
  obtain⟨k,hk,rfl,HU,HP,hbel⟩:=hrel;obtain⟨v0,hv0⟩:∃x,x=wr:=⟨_,rfl⟩;subst hv0;have HL:=Hq hbel;clear hbel c0 c1 c2 c3 c4;obtain⟨c0,c1,c2,c3,c4⟩:=xI HP;by_cases hlt:k < ks.length
  .obtain⟨A',g,off,rfl,hg,hr,hat⟩:=ah Om v0 HL k hlt;have hkz:=ah SG k hlt;have JV:=Hq (gu k HU hlt);have jD:=Hq (SH k hlt);have zq:=Hq (λW h n B=>Ii W h k (by have:=ah HE;omega) n B);clear Ii Om SG SH gu HYU O3;generalize ks[k]=kk at *;have HR:=Hq hr;have HAT:=Hq hat;have HZ:=Hq hkz;obtain⟨V,hV⟩:∃V,XL V kk A':=⟨_,rfl⟩;rw [show yN kk A'=V from hV.symm] at HR;have HI:Hid ((Tryz.prog.info? 57).map (·.size)=some V.length):=by rw [hV.len];exact yL
   have HI2:Hid ((Tryz.prog.info? 57).map (·.size)=some V.toArray.size):=by rw [show V.toArray.size=22 from hV.len];exact yL
   have XK:Hid ((v0.alloc (.cells Sz.toArray 57)).there v0.heap.size 0 V.toArray.size):=by
    rw [show V.toArray.size=22 from hV.len];exact λj hj=>⟨by rw [aEz _ _ _ _ _ (0,0) (aEu v0 _)];simp;omega,aA (aEu v0 _) _⟩
   have Tn:=Hq hV.one;clear hr hat hkz;go_upto_region 6 with(first|refine aF4 rfl 57 _ rfl g (off+k*22) rfl V _ HR Tryz.underlying57 rfl HI ?_|refine aF8 rfl 57 _ _ rfl v0.heap.size 0 V.toArray rfl rfl XK HI2 Tn ?_)
   refine wp_at (λv1 hW=>?_);have hb:aG v0 v1:=Acy
   have LA:Hid (v1.heap[v0.heap.size]?=some (.cells (yN kk A').toArray 57 (0,0))):=by
    rw [hW,qp,show V=yN kk A' from hV];exact(GR.setW_blk (yN kk A') (o:=0) (xs:=Sz) (aEu v0 _)).trans Aab
   have kU:=Hq (aj HP hb);have jM:=Hq (HL.trans (hb.mono HL.size));have HA1:=Hq (HAT.below hb);clear hb hW HP HL HAT HR HI HI2 XK Tn c0 c1 c2 c3 c4 hV;generalize v0.heap.size=gk at *;obtain⟨c0,c1,c2,c3,c4⟩:=xI kU;have vL:=Hq (rZ LA).1;go_wp2_with (refine aFd Aah (λ_ hK=>wp_load_mid 53 _ rfl gk 0 rfl (dR kk.base A'.b).toList _ vL Tryz.underlying53 rfl Aab (hK _ _ ?_)))
   refine(zq v1 jM kk.base A'.b HZ.b.k HA1.kb.k).mono ?_;rintro e v2 ⟨⟨r,rfl,hr⟩,hb⟩;have mD:=Hq (aj kU hb);have qE:=Hq (aj LA hb);have HL2:=Hq (jM.trans (hb.mono jM.size));have HA2:=Hq (HA1.below hb);clear hb kU LA jM HA1 vL c0 c1 c2 c3 c4;cases r
   case' false=>
    have HN:=Hq (jD (show¬stand up k kk from λh=>by have h:=hr.2 ((λh:stand up k kk=>h.1) h);cases h));clear hr jD JV zq Ig HZ HU;go_wp2_with fail;go_ret;exact .no HN HL2
   have HQ1:=Hq (show here up k kk.base from hr.1 rfl);clear hr;obtain⟨c0,c1,c2,c3,c4⟩:=xI mD;have Dw:=Hq (rZ qE).2;go_wp2_with (refine aFd Aah (λ_ hK=>wp_load_mid 53 _ rfl gk 9 rfl (dR kk.node A'.n).toList _ Dw Tryz.underlying53 rfl Aab (hK _ _ ?_)))
   refine(zq v2 HL2 kk.node A'.n HZ.n.k HA2.kn.k).mono ?_;rintro e v3 ⟨⟨r,rfl,hr⟩,hb⟩;have Ef:=Hq (aj mD hb);have VQ:=Hq (aj qE hb);have lu:=Hq (HL2.trans (hb.mono HL2.size));have SE:=Hq (HA2.below hb);clear hb mD qE HL2 HA2 Dw c0 c1 c2 c3 c4;cases r
   case' false=>
    have HN:=Hq (jD (show¬stand up k kk from λh=>by have h:=hr.2 ((λh:stand up k kk=>h.2.1) h);cases h));clear hr jD JV zq Ig HZ HU;go_wp2_with fail;go_ret;exact .no HN lu
   have HQ2:=Hq (show here up k kk.node from hr.1 rfl);clear hr;obtain⟨c0,c1,c2,c3,c4⟩:=xI Ef;have HN3:=Hq (KR.blk VQ).r;go_wp2_with (refine aFd Aah (λ_ hK=>wp_load_mid 57 _ rfl gk 0 rfl (yN kk A') _ HN3 Tryz.underlying57 rfl Aab (hK _ _ ?_)))
   refine(Ig v3 lu kk A' HZ SE).mono ?_;rintro e v4 ⟨⟨r,rfl,hr⟩,hb⟩;have JQ:=Hq (aj Ef hb);have HK4:=Hq (aj VQ hb);have xU:=Hq (lu.trans (hb.mono lu.size));have OA:=Hq (SE.below hb);clear hb Ef VQ lu SE HN3 c0 c1 c2 c3 c4;cases r
   case' false=>
    have HN:=Hq (jD (show¬stand up k kk from λh=>by have h:=hr.2 ((λh:stand up k kk=>h.2.2) h);cases h));clear hr jD JV zq Ig HZ HU;go_wp2_with fail;go_ret;exact .no HN xU
   have HQ3:=Hq (show rY kk from hr.1 rfl);clear hr;have HU2:=Hq (JV ⟨HQ1,HQ2,HQ3⟩);clear HQ1 HQ2 HQ3 jD JV zq Ig HZ HU HK4 OA;go_wp2_with fail;go_roundw
   case rel=>exact⟨k+1,Aaa,Aaf,HU2,JQ,xU⟩
   case measure=>simp[intOf];omega
  .have hke:k=ks.length:=Aaa
   subst hke;have HY:=Hq (HYU HU);have hnlt:decide ((ks.length:Int) < (ks.length:Int))=false:=Aac
   clear HYU HU Ii Om Ig SG SH gu O3;go_wp2_with fail;go_ret;exact .yes HY HL
end Go.Proofs.YtfachhcijcjbpaaGreatDoor
