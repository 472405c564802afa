/- Parts. -/
import Derived.Test.YtbolgdleijjgfaaGreatDoorRf39
import Derived.Test.YtbolgdleijjgfaaGreatDoorRf43
namespace Go.Proofs.YtbolgdleijjgfaaGreatDoor
open Go.Proofs.Tryz
set_option maxHeartbeats 4000000
set_option maxRecDepth 100000
open Go.RowKit Go.MuLone
open Mth
variable {k c:Kp} {A:KA} {w:World} {g:Nat} {st:Int} {lk rt:Bool} {B:bq}
theorem hkB.look (h:hkB w g k A st lk rt) (b:Bool):hkB ((w.setCell ⟨g,24,none⟩ (.bool true)).setCell ⟨g,25,none⟩ (.bool b)) g k A st true b:=by
 have h1:hkB (w.setCell ⟨g,24,none⟩ (.bool true)) g k A st true rt:=aP h 24 _;exact aP h1 25 _
def Right (w:World) (g:Nat) (k:Kp) (A:KA) (st:Int) (e:Ending) (w':World):Prop:=∃r,e= .returned (.bool r)/\(r=true↔uU k)/\hkB w' g k A st true r/\aA [g] w w'
theorem YH (k:Kp) (A:KA) (g:Nat) (st:Int) (E:Nat->Addr) (w:World) (hz:qd k 1048576) (ha:jw w A k) (hg:hkB w g k A st false false) (he:iy w E) (hH:Handle w):
 Calls prog 64 #[.pointer (some ⟨g,0,none⟩)] w (Right w g k A st):=by
 have HL:=Hq (aci k A g st false false E w hz ha hg he hH);have HG:=Hq hg;have p24:w.cell? ⟨g,24,none⟩=some (.bool false):=aV hg 24;clear hz ha hg he hH;go_in
 go_wp2_with fail;refine HL.mono ?_;rintro e w1 ⟨⟨r,rfl,hr⟩,hb1⟩;have HR:=Hq hr;have xY:=Hq (aj HG hb1);have yO:=Hq (aA.of_below (F:=[g]) hb1);clear hb1 p24 HL HG hr;have q24:w1.cell? ⟨g,24,none⟩=some (.bool false):=aV xY 24;have q25:w1.cell? ⟨g,25,none⟩=some (.bool false):=aV xY 25;have f24:=aC xY 24;have f25:=aC xY 25;go_wp2_with fail;go_ret;exact⟨r,rfl,HR,(show hkB w1 g k A st false false from xY).look r,yO.trans ((aA.set _).trans (aA.set _))⟩
namespace Mth
def Dk (k:Kp):Kp:={k with base:=k.node,log:=ByteArray.empty,safe:=0}
def FoM (k c:Kp):Prop:=((uU k/\k.safe=(k.log.size:Int))/\c=Dk k)\/(¬(uU k/\k.safe=(k.log.size:Int))/\c=k)
end Mth
theorem hkB.base (h:hkB w g k A st lk rt) (n:Nd) (B:bq):hkB (w.setCells g 11 (dD n B).toList) g {k with base:=n} {A with b:=B} st lk rt:=by
 rw [lU];exact GR.setW_blk (o:=11) (xs:=(hkG k A st lk rt).toList) (dD n B).toList h
theorem hkB.there11 (h:hkB w g k A st lk rt):w.there g 11 9:=λj hj=>by
 exact aie
def FoI (k:Kp) (A:KA) (c:Kp) (B:bq) (s:Nat) (w':World):Prop:=((uU k/\k.safe=(k.log.size:Int))/\c=Dk k/\∃G cc,NO w' s k.node B G cc)\/(¬(uU k/\k.safe=(k.log.size:Int))/\c=k/\B=A.b)
theorem ace (k:Kp) (A:KA) (g:Nat) (E:Nat->Addr) (w:World) (hz:qd k 1048576) (h1:∀w',aA [g] w w'->jw w' A k/\iy w' E/\Handle w') (hg:hkB w g k A 0 false false):
 Calls Tryz.prog 38 #[.pointer (some ⟨g,0,none⟩)] w λe w'=>∃c B lk rt,e= .returned (.tuple #[])/\hkB w' g c {A with b:=B} 0 lk rt/\aA [g] w w'/\FoI k A c B w.heap.size w':=by
 have c9:w.cell? ⟨g,9,none⟩=some (.int .i32 0):=aV hg 9;have f9:=aC hg 9;have xY:=Hq (hkB.lock hg 1);have yO:=Hq (show aA [g] w (w.setCell ⟨g,9,none⟩ (.int .i32 1)) from aA.set _);have HA:=Hq h1;have HZ:=Hq hz;have EL:=Hq (λW (h:aA [g] w W)=>ql k.node A.n W hz.n (h1 W h).1.kn);have hlg:k.log.size<=1048576:=hz.l;have hgl:=ay hg;clear h1 hz hg;go_enter_defers Tryz.func38,Tryz.ntmps38
 go_wp2_with (go_at_call 62;refine(lock_free WY ⟨g,9,none⟩ _ c9 f9).mono ?_;rintro e w' ⟨rfl,rfl⟩)
 generalize w.setCell ⟨g,9,none⟩ (.int .i32 1)=W1 at *;have y20:=aEQ (show W1.cell? ⟨g,20,none⟩=some (.string k.log) from aV xY 20);have y21:=aEQ (show W1.cell? ⟨g,21,none⟩=some (.int .i64 k.safe) from aV xY 21);refine Xt ?_;by_cases hs:k.safe=(k.log.size:Int)
 case' neg=>
  have hq:(k.safe != (k.log.size:Int))=true:=by simpa using hs
  have HS:=Hq hs
  clear hs EL HA HZ
  refine bZ Aab ?_
  show iZ _ _ _ _ 15 (Array.replicate 15 false) _ _
  refine tk [0,1,2,3,4,5,6,7,8,9,10,11,12,13,14] ?_
  iterate 15 (refine lW (λK hK=>?_);go_simp;first|refine hK _ ?_|(apply Exists.intro;refine⟨λ_=>?_,hK _ ?_⟩;rfl);clear hK K)
  refine jh ?_
  refine dW Aab (λz hz=>?_)
  have HGU:=Hq (show hkB z g k A 1 false false from aj xY hz)
  have HKU:=Hq (yO.trans (aA.of_below (F:=[g]) hz))
  clear hz y20 y21 xY yO hq
  unfold Wv
  dsimp only
  go_wp2_with fail
  open aqM in exact aj1
 have hq:(k.safe != (k.log.size:Int))=false:=by simpa using hs
 have HS:=Hq hs;clear hs;refine bC 12 Aab ?_;show fV _ _ _ _ _ 15 (Array.replicate 15 false) _ _
 refine fK 0 40 rfl Aab Aab Aab Aab Aab (λ_ _ _ _ h=>h) (λK hK=>?_);go_simp
 first
  |(refine hK _ ?_;clear hK K)
  |(apply Exists.intro
    refine⟨λ_=>?_,hK _ ?_⟩
    (rfl)
    clear hK K)
 refine fK 1 40 rfl Aab Aab Aab Aab Aab (λ_ _ _ _ h=>h) (λK hK=>?_);go_simp
 first
  |(refine hK _ ?_;clear hK K)
  |(apply Exists.intro
    refine⟨λ_=>?_,hK _ ?_⟩
    (rfl)
    clear hK K)
 refine fK 2 40 rfl Aab Aab Aab Aab Aab (λ_ _ _ _ h=>h) (λK hK=>?_);go_simp
 first
  |(refine hK _ ?_;clear hK K)
  |(apply Exists.intro
    refine⟨λ_=>?_,hK _ ?_⟩
    (rfl)
    clear hK K)
 refine fK 3 40 rfl Aab Aab Aab Aab Aab (λ_ _ _ _ h=>h) (λK hK=>?_);go_simp
 first
  |(refine hK _ ?_;clear hK K)
  |(apply Exists.intro
    refine⟨λ_=>?_,hK _ ?_⟩
    (rfl)
    clear hK K)
 refine fK 4 40 rfl Aab Aab Aab Aab Aab (λ_ _ _ _ h=>h) (λK hK=>?_);go_simp
 first
  |(refine hK _ ?_;clear hK K)
  |(apply Exists.intro
    refine⟨λ_=>?_,hK _ ?_⟩
    (rfl)
    clear hK K)
 refine fK 5 40 rfl Aab Aab Aab Aab Aab (λ_ _ _ _ h=>h) (λK hK=>?_);go_simp
 first
  |(refine hK _ ?_;clear hK K)
  |(apply Exists.intro
    refine⟨λ_=>?_,hK _ ?_⟩
    (rfl)
    clear hK K)
 refine fK 6 40 rfl Aab Aab Aab Aab Aab (λ_ _ _ _ h=>h) (λK hK=>?_);go_simp
 first
  |(refine hK _ ?_;clear hK K)
  |(apply Exists.intro
    refine⟨λ_=>?_,hK _ ?_⟩
    (rfl)
    clear hK K)
 refine fK 7 40 rfl Aab Aab Aab Aab Aab (λ_ _ _ _ h=>h) (λK hK=>?_);go_simp
 first
  |(refine hK _ ?_;clear hK K)
  |(apply Exists.intro
    refine⟨λ_=>?_,hK _ ?_⟩
    (rfl)
    clear hK K)
 refine fK 8 40 rfl Aab Aab Aab Aab Aab (λ_ _ _ _ h=>h) (λK hK=>?_);go_simp
 first
  |(refine hK _ ?_;clear hK K)
  |(apply Exists.intro
    refine⟨λ_=>?_,hK _ ?_⟩
    (rfl)
    clear hK K)
 refine fK 9 40 rfl Aab Aab Aab Aab Aab (λ_ _ _ _ h=>h) (λK hK=>?_);go_simp
 first
  |(refine hK _ ?_;clear hK K)
  |(apply Exists.intro
    refine⟨λ_=>?_,hK _ ?_⟩
    (rfl)
    clear hK K)
 refine fK 10 40 rfl Aab Aab Aab Aab Aab (λ_ _ _ _ h=>h) (λK hK=>?_);go_simp
 first
  |(refine hK _ ?_;clear hK K)
  |(apply Exists.intro
    refine⟨λ_=>?_,hK _ ?_⟩
    (rfl)
    clear hK K)
 refine fK 11 40 rfl Aab Aab Aab Aab Aab (λ_ _ _ _ h=>h) (λK hK=>?_);go_simp
 first
  |(refine hK _ ?_;clear hK K)
  |(apply Exists.intro
    refine⟨λ_=>?_,hK _ ?_⟩
    (rfl)
    clear hK K)
 clear y20 y21 hq;refine aS Aab (λx hx=>?_);have HGX:=Hq (show hkB x g k A 1 false false from aj xY hx);have zO:=Hq (yO.trans (aA.of_below (F:=[g]) hx));clear hx xY yO;obtain⟨ha1,ha2,ha3⟩:=ah HA x zO;refine aI 12 rfl Aab Aad ?_;go_simp;refine(YH k A g 1 E x HZ ha1 HGX ha2 ha3).mono ?_;rintro e W2 ⟨r,rfl,hr,hg2,hk2⟩;have HR:=Hq hr;have HG2:=Hq hg2;have oq:=Hq (zO.trans hk2);clear hr hg2 hk2 ha1 ha2 ha3 HGX zO HA HZ c9 f9;refine aI 13 rfl Aab Aad ?_;go_simp;refine aI 14 rfl Aab Aad ?_;go_simp;refine wpAny_done Aab ?_;unfold Wv;dsimp only;cases r
 case' false=>
  have HGU:=Hq (show hkB W2 g k A 1 true false from HG2)
  clear EL HG2
  go_wp2_with fail
  open aqL in exact aj1
 obtain⟨hr0,_⟩:=Co HG2;go_upto_region 3 with fail;refine aFm ?_;show wpList _ _ _ [_,_,_,_,_,_,_,_,_,_,_,_,_,_,_,_,_] _ _
 refine aFi Aad (λK hK=>?_);go_simp;refine hK _ _ ?_;clear hK K;refine aFi Aad (λK hK=>?_);go_simp;refine hK _ _ ?_;clear hK K;refine aFi Aad (λK hK=>?_);go_simp;refine hK _ _ ?_;clear hK K;refine aFi Aad (λK hK=>?_);go_simp;refine hK _ _ ?_;clear hK K;refine aFi Aad (λK hK=>?_);go_simp;refine hK _ _ ?_;clear hK K;refine aFi Aad (λK hK=>?_);go_simp;refine hK _ _ ?_;clear hK K;refine aGj rfl 39 (.tmp 29) rfl g 0 rfl (dD k.node A.n).toList _ hr0 Tryz.underlying39 rfl Aab ?_;clear hr0;go_wp2_with fail;refine(EL W2 oq).mono ?_;rintro e x4 ⟨B,G,cc,rfl,hN,hb⟩;have hgw:g < W2.heap.size:=ay HG2;have hs2:w.heap.size<=W2.heap.size:=oq.size;have HK5:=Hq (oq.trans (aA.of_below (F:=[g]) hb));have rR:=Hq (show hkB x4 g k A 1 true true from aj HG2 hb);have HN5:=Hq hN;clear hb hN HG2 oq EL;rename_i qC
 refine qC _ _ ?_;clear qC;open apz in exact SY
open Go.RowKit
theorem FoM.some (k:Kp):∃c,FoM k c:=by
 by_cases h:uU k/\k.safe=(k.log.size:Int)
 .exact⟨_,.inl ⟨h,rfl⟩⟩
 .exact⟨_,.inr ⟨h,rfl⟩⟩
theorem FoM.same {c':Kp} (h:FoM k c) (h':FoM k c'):c'=c:=by
 rcases h with⟨h1,rfl⟩|⟨h1,rfl⟩<;>rcases h' with⟨h2,rfl⟩|⟨h2,rfl⟩
 .rfl
 .exact absurd h1 h2
 .exact absurd h2 h1
 .rfl
theorem ae0 (hz:qd k 1048576) (hc:FoM k c):qd c 1048576:=by
 rcases hc with⟨_,rfl⟩|⟨_,rfl⟩
 .exact⟨hz.n,hz.n,aE7 _,hz.w,hz.a,hz.wk,hz.ak⟩
 .exact hz
theorem FoI.math {s:Nat} (h:FoI k A c B s w):FoM k c:=by
 rcases h with⟨h1,h2,_⟩|⟨h1,h2,_⟩
 .exact .inl ⟨h1,h2⟩
 .exact .inr ⟨h1,h2⟩
theorem FoI.kpw {lo gw ga:Nat} {w1 w2:World} {G1 G2:aN} (h:FoI k A c B w1.heap.size w2) (hK:Eu lo g w1 A k G1 G2 gw ga) (hk:aA [g] w1 w2) (hg:g < w1.heap.size) (hlo:lo<=g):
 ∃G,Eu lo w2.heap.size w2 {A with b:=B} c G G2 gw ga/\∀x∈G.all c.base++(G2.all c.node++(fp gw c.wait++fp ga c.asked)),x≠g:=by
 have hK2:=hK.keeps hk (λx hx=> .inr (by rw [aE6.1 hx];exact aER _));have hs:=hk.size;rcases h with⟨_,rfl,G,cc,hN⟩|⟨_,rfl,rfl⟩
 .obtain⟨Gb,q,S,_⟩:=hN.full;have hold:∀x∈G2.all k.node++(fp gw k.wait++fp ga k.asked),lo<=x/\x < g:=λx hx=>hK2.r x (aFz _ hx)
  refine⟨Gb,⟨q,hK2.n,S.nodup,hK2.nn,λx h1 h2=>?_,hK2.wt,hK2.sk,λx hx=>⟨λh1=>?_,(hK2.dl x hx).2⟩,hK2.dd,λx hx=>?_⟩,λx hx=>?_⟩
  .have:=S.rng x h1;have:=hold x (aFp _ h2);omega
  .have:=S.rng x h1;have:=hold x (aFz _ hx);omega
  .exact aiO
  .exact aiO
 .exact⟨G1,hK2.wide (aER _) Aaa,λx hx=>by have:=hK2.r x hx;omega⟩
def Sr (w:World) (c:Kp) (e:Ending) (w':World):Prop:=∃A G1 G2 gw ga,e= .returned (Jg c A)/\Eu w.heap.size w'.heap.size w' A c G1 G2 gw ga/\aH w w'
theorem FT (k c:Kp) (A:KA) (E:Nat->Addr) (w:World) (hM:FoM k c) (hz:qd k 1048576) (ha:jw w A k) (he:iy w E) (hH:Handle w):
 Calls Tryz.prog 19 #[Jg k A] w (Sr w c):=by
 obtain⟨V,hV⟩:∃V,BX V k A:=⟨_,rfl⟩;have HHD:=Hq (λW (h:aH w W)=>hV.agg▸acg k A W hz (ha.below h));have HV:=Hq hV.len;rw [hV.agg];have HE:=Hq (λW (h:aH w W)=>And.intro (he.below h) (hH.below h));have HZ:=Hq hz;have HM:=Hq hM;obtain⟨Wz,hR0,hB0⟩:=gH w (.cells V.toArray 43) (.cells Sq 43);clear hz ha he hH hV hM;go_in
 go_upto_region 1 with fail;refine wp_at (λW0 hW=>?_);have Oz:=Hq (show KR W0 w.heap.size V from by rw [hW];exact KR.blk Wz);have VB:=Hq (show W0.heap[w.heap.size+1]?=some (.cells Sq 43 (0,0)) from by rw [hW];exact hR0);have pY:=Hq (show aH w W0 from by rw [hW];exact hB0);clear hW Wz hR0 hB0;refine aFm ?_;show wpList _ _ _ [_,_,_] _ _
 refine oH Aad (.tmp 1) rfl w.heap.size rfl V HV Oz ?_;go_wp2_with fail;refine(HHD _ pY).mono ?_;rintro e w1 ⟨A',m1,m2,m3,g,rfl,hg,hk,hb⟩;obtain⟨l1,l2,l3,l4,l5⟩:=hk.le;have hl0:=ay VB;have hlg:w.heap.size<=g:=Aaa
 have hlo:W0.heap.size<=g:=Aaa
 have hrl:w.heap.size+1 < W0.heap.size:=hl0;have HB:=Hq (pY.trans (hb.mono pY.size));have HR1:=Hq (aj VB hb);obtain⟨G1,G2,gw,ga,hK⟩:=hk.kpw;have HK:=Hq hK;have HG:=Hq hg;have hgl:=ay hg;clear hb hg hk hK l1 l2 l3 l4 l5 hl0 HHD pY Oz HV VB;go_wp2_with fail;refine(ace k A' g E w1 HZ (λw' hk'=>⟨(HK.keeps hk' (λx hx=> .inr (by rw [aE6.1 hx];exact aER _))).at,HE w' (uJ HB hk' hlg HB.size)⟩) HG).mono ?_;rintro e w2 ⟨c',B,lk,rt,rfl,hg2,hk2,hfo⟩;obtain rfl:=FoM.same HM hfo.math;obtain⟨G,hKW,hng⟩:=hfo.kpw HK hk2 hgl hlo;have HB2:=Hq (uJ HB hk2 hlg HB.size);have HKW:=Hq hKW;have HNG:=Hq hng;have HG2:=Hq hg2;have HR2:=Hq (hk2.obj HR1 (λhm=>by have:=aE6.1 hm;omega));clear hg2 hk2 hfo hKW hng HB HG HE HZ HK HR1 HM;generalize hD:({A' with b:=B}:KA)=D at *;clear hD;go_upto_region 3 with fail;refine aFm ?_;show wpList _ _ _ [_,_,_] _ _
 go_wp2_with fail;refine(P6 c' D g lk rt w2 HG2).mono ?_;rintro e w3 ⟨rfl,hk3⟩;have HB3:=Hq (uJ HB2 hk3 hlg HB2.size);have ad5:=Hq (HKW.keepsF hk3 (λx hx hm=>HNG x hx (aE6.1 hm)));have HR3:=Hq (hk3.obj HR2 (λhm=>by have:=aE6.1 hm;omega));have hs3:=hk3.size;clear hk3 HB2 HKW HG2 HR2 HNG;obtain⟨VC,T9⟩:∃V,BX V c' D:=⟨_,rfl⟩;rw [show(yJ c' D).toArray=VC.toArray from by rw [show VC=_ from T9]];have OO:=Hq T9;clear T9;rename_i qC
 refine qC _ _ ?_;clear qC;refine uT Aad (.tmp 2) (.tmp 9) rfl (w.heap.size+1) rfl VC rfl OO.len OO.one Aad HR3 (λW5 Sk WB=>?_);have hk:aA [w.heap.size+1] w3 W5:=by rw [Sk];exact dz _ _ _ _
 have hb:aH w W5:=by rw [Sk];exact eZ Aaa _ _ _ _ HB3
 have q:=ad5.keeps hk (λx hx=> .inl (by rw [aE6.1 hx];exact hrl));have hs5:=hk.size;have HP:=Hq (show Sr w c' (Ending.returned (Value.agg VC.toArray)) W5 from⟨D,G,G2,gw,ga,by rw [<-(ah OO).agg],q.wide Aaa Aaa,hb⟩);clear Sk hk hb q HB3 ad5 HR3;go_wp2_with fail;exact aEY (v:= .agg VC.toArray) (jN rfl _ _ (w.heap.size+1) VC _ rfl WB.r Tryz.underlying43 rfl (by rw [(ah OO).len];kernel_rfl)) rfl HP
end Go.Proofs.YtbolgdleijjgfaaGreatDoor
