/- Parts. -/
import Derived.Test.YtohmklmkjmlpjaaGreatDoorRc44
import Derived.Test.YtohmklmkjmlpjaaGreatDoorRc36
namespace Go.Proofs.YtohmklmkjmlpjaaGreatDoor
open Go.Proofs.Tryz
set_option maxHeartbeats 8000000
set_option maxRecDepth 100000
open Go.RowKit
open Mth
variable {w X:World} {P:World->Prop}
def Lh (w:World) (c:Kp) (e:Ending) (w':World):Prop:=∃A1 A2,e= .returned (SA c ⟨A1,A2,none,0,none,0⟩)/\dD w' A1 c.base/\dD w' A2 c.node/\aI w w'
theorem Ef (k:Kp) (A:KA) (keep:Int) (w:World) (hz:uz k 1048576) (ha:nu w A k):
 Calls prog 10 #[SA k A,.int .i64 keep] w (Lh w (mD k keep)):=by
 have HC:=Hq (λW (h:aI w W)=>qb k.base A.b W hz.b (ha.below h).kb);have Sv:=Hq (λW=>Rz (fu k keep) (by have:=hz.l;unfold fu maxLen;simp;omega) W);have HRP:=Hq (λW (h:aI w W)=>Vp k.base A.b (k.log.extract 0 (dR (fu k keep)).2) W (by have:=hz.l;unfold maxLen;simp;omega) hz.b (ha.below h).kb);have hll:(k.log.size:Int)<=1048576:=by have:=hz.l;omega
 have hel:((dR (fu k keep)).2:Int)<=(k.log.size:Int):=by
  have:=AQ (fu k keep);have h2:(fu k keep).size<=k.log.size:=by unfold fu;simp;omega
  omega
 have HAG:=Hq (show dR (k.log.extract 0 (dR (fu k keep)).2)=dR (k.log.extract 0 (dR (fu k keep)).2) from rfl)
 have hpl:gD k.base (dR (k.log.extract 0 (dR (fu k keep)).2)).1=gD k.base (dR (fu k keep)).1:=by
  have h:=adH (fu k keep)
  have h2:(fu k keep).extract 0 (dR (fu k keep)).2=k.log.extract 0 (dR (fu k keep)).2:=by
   have h4:=AQ (fu k keep);have h3:(fu k keep).size<=Pt k.log.size k.safe keep:=by
    unfold fu;simp;omega
   generalize (dR (fu k keep)).2=r at *;unfold fu;rw [ByteArray.extract_extract,Nat.zero_add,Nat.zero_add,Nat.min_eq_left (by omega)]
  rw [h2] at h;rw [h]
 rw [hpl] at HRP;clear hpl HAG;have HCK:=Hq (show mD k keep=⟨k.base,gD k.base (dR (fu k keep)).1,k.log.extract 0 (dR (fu k keep)).2,(dR (fu k keep)).2,[],[]⟩ from rfl);have HCT:=Hq (show k.log.extract 0 (Pt k.log.size k.safe keep)=fu k keep from rfl);have su:=Hq (show Pt k.log.size k.safe keep=(min (max k.safe 0) k.log.size+min (max keep 0) (k.log.size - min (max k.safe 0) k.log.size)).toNat from rfl);unfold lM at Sv;unfold Ll at HRP;generalize mD k keep=ck at *;generalize fu k keep=ct at *;generalize dR ct=rd at *;generalize Pt k.log.size k.safe keep=cb at *;obtain⟨hP0,hR0,hB0⟩:=gQ w (.cells (zy k A).toArray 44) (.cells zkA 44);clear hz ha;go_in
 go_upto_region 1 with fail;refine wp_at (λW0 hW=>?_);have Hy:=Hq (show W0.heap[w.heap.size]?=some (.cells (zy k A).toArray 44 (0,0)) from by rw [hW];exact hP0);have XH:=Hq (show W0.heap[w.heap.size+1]?=some (.cells zkA 44 (0,0)) from by rw [hW];exact hR0);have qg:=Hq (show aI w W0 from by rw [hW];exact hB0);clear hW hP0 hR0 hB0;have c18:W0.cell? ⟨w.heap.size,18,none⟩=some (.string k.log):=aGu W0 w.heap.size 18 _ 44 (0,0) Hy;have c19:W0.cell? ⟨w.heap.size,19,none⟩=some (.int .i64 k.safe):=aGu W0 w.heap.size 19 _ 44 (0,0) Hy;go_upto_if 11 with fail;go_cut [5] (λl wx=>l= .int .i64 (max k.safe 0)/\W0=wx)
 case first=>
  by_cases h:k.safe < 0
  .have hq:decide (k.safe < 0)=true:=aGk h;go_wp2_with fail;go_meet
   case rel=>exact⟨by rw [show max k.safe 0=0 by omega],rfl⟩
  .have hq:decide (k.safe < 0)=false:=aGi h;go_wp2_with fail;go_meet
   case rel=>exact⟨by rw [show max k.safe 0=k.safe by omega],rfl⟩
 case rest=>
 obtain⟨rfl,rfl⟩:=hcut;have hs0:0<=max k.safe 0:=Aaa
 generalize max k.safe 0=s0 at *;go_upto_if 16 with fail;go_cut [5] (λl wx=>l= .int .i64 (min s0 k.log.size)/\W0=wx)
 case first=>
  by_cases h:s0 > (k.log.size:Int)
  .have hq:decide (s0 > (k.log.size:Int))=true:=aGk h;go_wp2_with fail;go_meet
   case rel=>exact⟨by rw [show min s0 (k.log.size:Int)=k.log.size by omega],rfl⟩
  .have hq:decide (s0 > (k.log.size:Int))=false:=aGi h;go_wp2_with fail;go_meet
   case rel=>exact⟨by rw [show min s0 (k.log.size:Int)=s0 by omega],rfl⟩
 case rest=>
 obtain⟨rfl,rfl⟩:=hcut;have hs1:0<=min s0 (k.log.size:Int):=Aaa
 have hs2:min s0 (k.log.size:Int)<=k.log.size:=Aaa
 generalize min s0 (k.log.size:Int)=s1 at *;go_upto_if 26 with fail;go_cut [1] (λl wx=>l= .int .i64 (min keep (k.log.size - s1))/\W0=wx)
 case first=>
  by_cases h:keep > (k.log.size:Int) - s1
  .have hq:decide (keep > (k.log.size:Int) - s1)=true:=aGk h;go_wp2_with fail;go_meet
   case rel=>exact⟨by rw [show min keep ((k.log.size:Int) - s1)=k.log.size - s1 by omega],rfl⟩
  .have hq:decide (keep > (k.log.size:Int) - s1)=false:=aGi h;go_wp2_with fail;go_meet
   case rel=>exact⟨by rw [show min keep ((k.log.size:Int) - s1)=keep by omega],rfl⟩
 case rest=>
 obtain⟨rfl,rfl⟩:=hcut;have hp0:min keep ((k.log.size:Int) - s1)<=k.log.size - s1:=Aaa
 have HP:=Hq (show max (min keep ((k.log.size:Int) - s1)) 0=min (max keep 0) (k.log.size - s1) by omega);generalize min keep ((k.log.size:Int) - s1)=kp at *;go_upto_if 33 with fail;go_cut [5] (λl wx=>l= .int .i64 (cb:Nat)/\W0=wx)
 case first=>
  have hcb:(cb:Int)=s1+max kp 0:=by rw [ah su,ah HP];omega
  by_cases h:kp > 0
  .have hq:decide (kp > 0)=true:=aGk h;go_wp2_with fail;go_meet
   case rel=>exact⟨by rw [hcb,show max kp 0=kp by omega],rfl⟩
  .have hq:decide (kp > 0)=false:=aGi h;go_wp2_with fail;go_meet
   case rel=>exact⟨by rw [hcb,show max kp 0=0 by omega,Int.add_zero],rfl⟩
 case rest=>
 obtain⟨rfl,rfl⟩:=hcut;have hcl:(cb:Int)<=k.log.size:=by have h:=ah su;have h2:=ah HP;omega
 clear hs0 hs1 hs2 hp0 HP su c19;go_upto_region 10 with fail;go_wp2_with fail;rw [ah HCT];refine(Sv _).mono ?_;rintro e w3 ⟨v,rfl,_,hb⟩;have JE:=Hq (au Hy hb);have HR3:=Hq (au XH hb);have rU:=Hq (qg.trans (hb.mono qg.size));clear hb c18 Hy XH qg Sv HCT hcl;obtain⟨c0,c1,c2,c3,c4,c5,c6,c7,c8,_⟩:=BN JE;have y0:=aGj c0;have y1:=aGj c1;have y2:=aGj c2;have y3:=aGj c3;have y4:=aGj c4;have y5:=aGj c5;have y6:=aGj c6;have y7:=aGj c7;have y8:=aGj c8;have y18:=aGj (show w3.cell? ⟨w.heap.size,18,none⟩=some (.string k.log) from aGu w3 w.heap.size 18 _ 44 (0,0) JE);clear c0 c1 c2 c3 c4 c5 c6 c7 c8;go_upto_region 11 with fail;refine dx 16 Aab ?_;show fA _ _ _ _ _ 17 (Array.replicate 17 false) _ _
 refine eX 0 40 rfl Aab Aab Aab Aab Aab (λ_ _ _ _ h=>h) (λK hK=>?_);go_simp
 first
  |(refine hK _ ?_;clear hK K)
  |(apply Exists.intro
    refine⟨λ_=>?_,hK _ ?_⟩
    (rfl)
    clear hK K)
 refine eX 1 40 rfl Aab Aab Aab Aab Aab (λ_ _ _ _ h=>h) (λK hK=>?_);go_simp
 first
  |(refine hK _ ?_;clear hK K)
  |(apply Exists.intro
    refine⟨λ_=>?_,hK _ ?_⟩
    (rfl)
    clear hK K)
 refine eX 3 40 rfl Aab Aab Aab Aab Aab (λ_ _ _ _ h=>h) (λK hK=>?_);go_simp
 first
  |(refine hK _ ?_;clear hK K)
  |(apply Exists.intro
    refine⟨λ_=>?_,hK _ ?_⟩
    (rfl)
    clear hK K)
 refine eX 4 40 rfl Aab Aab Aab Aab Aab (λ_ _ _ _ h=>h) (λK hK=>?_);go_simp
 first
  |(refine hK _ ?_;clear hK K)
  |(apply Exists.intro
    refine⟨λ_=>?_,hK _ ?_⟩
    (rfl)
    clear hK K)
 refine eX 5 40 rfl Aab Aab Aab Aab Aab (λ_ _ _ _ h=>h) (λK hK=>?_);go_simp
 first
  |(refine hK _ ?_;clear hK K)
  |(apply Exists.intro
    refine⟨λ_=>?_,hK _ ?_⟩
    (rfl)
    clear hK K)
 refine eX 6 40 rfl Aab Aab Aab Aab Aab (λ_ _ _ _ h=>h) (λK hK=>?_);go_simp
 first
  |(refine hK _ ?_;clear hK K)
  |(apply Exists.intro
    refine⟨λ_=>?_,hK _ ?_⟩
    (rfl)
    clear hK K)
 refine eX 7 40 rfl Aab Aab Aab Aab Aab (λ_ _ _ _ h=>h) (λK hK=>?_);go_simp
 first
  |(refine hK _ ?_;clear hK K)
  |(apply Exists.intro
    refine⟨λ_=>?_,hK _ ?_⟩
    (rfl)
    clear hK K)
 refine eX 8 40 rfl Aab Aab Aab Aab Aab (λ_ _ _ _ h=>h) (λK hK=>?_);go_simp
 first
  |(refine hK _ ?_;clear hK K)
  |(apply Exists.intro
    refine⟨λ_=>?_,hK _ ?_⟩
    (rfl)
    clear hK K)
 refine eX 10 40 rfl Aab Aab Aab Aab Aab (λ_ _ _ _ h=>h) (λK hK=>?_);go_simp
 first
  |(refine hK _ ?_;clear hK K)
  |(apply Exists.intro
    refine⟨λ_=>?_,hK _ ?_⟩
    (rfl)
    clear hK K)
 refine eX 11 40 rfl Aab Aab Aab Aab Aab (λ_ _ _ _ h=>h) (λK hK=>?_);go_simp
 first
  |(refine hK _ ?_;clear hK K)
  |(apply Exists.intro
    refine⟨λ_=>?_,hK _ ?_⟩
    (rfl)
    clear hK K)
 refine eX 12 40 rfl Aab Aab Aab Aab Aab (λ_ _ _ _ h=>h) (λK hK=>?_);go_simp
 first
  |(refine hK _ ?_;clear hK K)
  |(apply Exists.intro
    refine⟨λ_=>?_,hK _ ?_⟩
    (rfl)
    clear hK K)
 refine eX 13 40 rfl Aab Aab Aab Aab Aab (λ_ _ _ _ h=>h) (λK hK=>?_);go_simp
 first
  |(refine hK _ ?_;clear hK K)
  |(apply Exists.intro
    refine⟨λ_=>?_,hK _ ?_⟩
    (rfl)
    clear hK K)
 refine eX 14 40 rfl Aab Aab Aab Aab Aab (λ_ _ _ _ h=>h) (λK hK=>?_);go_simp
 first
  |(refine hK _ ?_;clear hK K)
  |(apply Exists.intro
    refine⟨λ_=>?_,hK _ ?_⟩
    (rfl)
    clear hK K)
 clear y0 y1 y2 y3 y4 y5 y6 y7 y8 y18;refine dP 2 rfl Aab Aad (λx2 hx2=>?_);go_simp;have g2:aI w x2:=Ge.trans (show Ge w w3 from rU) hx2;refine(HC x2 g2).mono ?_;rintro e z2 ⟨A1,G1,cc1,rfl,hN1,hy2,_⟩;refine⟨hy2,?_⟩;have DV:=Hq (show Ge w3 z2 from Ge.trans hx2 hy2);have Bq:=Hq hN1;have hrx:=aGq (aA HR3) hx2.size;clear hN1 hx2 hy2 g2 HC;refine dP 9 rfl Aab Aad (λx9 hx9=>?_);go_simp;have g9:aI w x9:=Ge.trans (show Ge w w3 from rU) (Ge.trans DV hx9);refine(HRP x9 g9).mono ?_;rintro e z9 ⟨A2,rfl,Iw,hy9⟩;refine⟨hy9,?_⟩;have HX9:=Hq (show Ge w3 z9 from Ge.trans DV (Ge.trans hx9 hy9));have VP:=Hq (Bq.belowN (Ge.trans hx9 hy9));have OE:=Hq Iw;have aEo:w.heap.size+1 < x9.heap.size:=aGq (aA HR3) (Ge.trans DV hx9).size;clear Iw hx9 hy9 g9 DV Bq HRP;refine eX 15 40 rfl Aab Aab Aab Aab Aab (λ_ _ _ _ h=>h) (λK hK=>?_);go_simp
 first
  |(refine hK _ ?_;clear hK K)
  |(apply Exists.intro
    refine⟨λ_=>?_,hK _ ?_⟩
    (rfl)
    clear hK K)
 refine bE Aab (λx hx=>?_);have HX:=Hq (show Ge w3 x from Ge.trans HX9 hx);have HRx:=Hq (au HR3 HX);have HBx:=Hq (show aI w x from Ge.trans (show Ge w w3 from rU) HX);obtain⟨VC,hVC⟩:∃V,EU V ck ⟨A1,A2,none,0,none,0⟩:=⟨_,rfl⟩;have aAt:VC=zy ⟨k.base,gD k.base rd.1,k.log.extract 0 rd.2,rd.2,[],[]⟩ ⟨A1,A2,none,0,none,0⟩:=by rw [<-ah HCK];exact hVC
 refine aG 16 rfl Aab Aad (wp_store_mid 44 (.tmp 4) (.tmp 60) rfl (w.heap.size+1) 0 VC.toArray rfl (by rw [aAt];rfl) (λj hj=>⟨by rw [aGu x _ _ _ _ (0,0) (ah HRx)];simp[hVC.len] at hj ⊢;omega,aj HRx _⟩) (by simp only[aHh,hVC.len];kernel_rfl) hVC.one ?_);have hth:x.there (w.heap.size+1) 0 VC.length:=λj hj=>⟨by rw [aGu x _ _ _ _ (0,0) (ah HRx)];simp[hVC.len] at hj ⊢;omega,aj HRx _⟩
 have hrg:=World.rangeAt_setCells_same x (w.heap.size+1) 0 VC hth;have alC:aC [w.heap.size+1] x (x.setCells (w.heap.size+1) 0 VC):=eP _ _ _ _;have hb:=gB (B:=w.heap.size) (g:=w.heap.size+1) Aaa VC w x 0 HBx;have q1:=((VP.belowN hx).keepsN Aaa alC).at;have q2:=ah OE _ ⟨[w.heap.size+1],(aC.of_below hx).trans alC,λy hy=>by rw [aGA.1 hy];exact aEo⟩;have HPP:=Hq (show Lh w ck (Ending.returned (Value.agg VC.toArray)) (x.setCells (w.heap.size+1) 0 VC) from⟨A1,A2,by rw [<-hVC.agg],by rw [ah HCK];exact q1,by rw [ah HCK];exact q2,hb⟩);have HRG:=Hq hrg;have HVL:=Hq hVC.len;clear hth hrg alC hb q1 q2 hVC aAt HRx HBx HX hx VP OE HX9 HR3 rU JE HCK;generalize x.setCells (w.heap.size+1) 0 VC=W4 at *;refine wpAny_done Aab ?_;go_wp2_with fail;exact aGn (v:= .agg VC.toArray) (nW rfl _ _ (w.heap.size+1) VC _ rfl HRG underlying44 rfl (by rw [ah HVL];kernel_rfl)) rfl HPP
structure HW (w:World) (P:World->Prop) (X:World):Prop where
 b:aI w X
 p:∀Y,aI X Y->P Y
theorem HW.step {Y:World} (h:HW w P X) (hb:aI X Y):HW w P Y:=⟨h.b.trans (hb.mono h.b.size),λZ hz=>h.p Z (hb.trans (hz.mono hb.size))⟩
theorem HW.add (h:HW w P X) (N:World->Prop) (hN:∀Y,aI X Y->N Y):HW w (λY=>P Y/\N Y) X:=⟨h.b,λY hy=>⟨h.p Y hy,hN Y hy⟩⟩
theorem HW.now (h:HW w P X):P X:=h.p X (aGs _ _)
theorem sU (k:Kp) (A:KA) (keep:Int) (hz:uz k maxLen) (E:Nat->Addr) (w:World) (ha:nu w A k) (he:iK w E) (hH:Handle w):
 Calls prog 4 #[SA k A,.int .i64 keep] w (dZ w (.bool true)):=by
 obtain⟨V,hV⟩:∃V,EU V k A:=⟨_,rfl⟩;have wB:=Hq (λW (h:nu W A k)=>hV.agg▸adY k A 1048576 W Aaa Aaa hz h);have Oq:=Hq (λW (h:nu W A k) (hz:uz k 1048576)=>hV.agg▸ZL k A W hz h);obtain⟨b,n,lg,sf,hc⟩:∃b n lg sf,mD k keep=⟨b,n,lg,sf,[],[]⟩:=⟨_,_,_,_,rfl⟩;have HCZ:=Hq (fun(hz:uz k 1048576)=>hc▸abN hz keep);have OU:=Hq (λA' W (h:nu W A' k) (hz:uz k 1048576)=>hc▸Ef k A' keep W hz h);have HIM:=Hq (λA' W (h:nu W A' k) (he:iK W E) (hH:Handle W) (hz:uz k 1048576)=>hc▸D9 k A' keep E W hz h he hH);unfold Lh at OU;unfold SE at HIM;have hL0:=ay w (.cells V.toArray 32);have LD:=Hq (show HW w (λY=>KR Y w.heap.size V/\nu Y A k/\iK Y E/\Handle Y) (w.alloc (.cells V.toArray 32)) from⟨hL0,λY hy=>⟨(KR.blk (aGg w (.cells V.toArray 32))).below hy,(ha.below hL0).below hy,(he.below hL0).below hy,(hH.below hL0).below hy⟩⟩);have HV:=Hq hV.len;rw [hV.agg];clear hz ha he hH hV hL0 hc;go_in
 go_upto_region 2 with fail;refine aHf ?_;show wpList _ _ _ [_,_,_,_] _ _
 refine M0 Aad (.tmp 2) rfl w.heap.size rfl V HV LD.now.1 ?_;go_wp2_with fail;refine(wB _ LD.now.2.1).mono ?_;rintro e w1 ⟨r,rfl,hcase,hb⟩;have BK:=Hq (LD.step hb);clear hb LD wB;rcases hcase with rfl|⟨z0,z1,hz⟩
 case' inl=>
  go_wp2_with fail;go_ret;exact⟨rfl,BK.b⟩
 have hzn:decide (r < 0)=false:=aGi Aaa;have HZ:=Hq hz;have HC:=Hq (HCZ hz);clear hz z0 z1 HCZ;go_upto_region 5 with fail;refine aHf ?_;show wpList _ _ _ [_,_,_,_,_,_] _ _
 refine M0 Aad (.tmp 2) rfl w.heap.size rfl V HV BK.now.1 ?_;go_wp2_with fail;refine(Oq _ BK.now.2.1 HZ).mono ?_;rintro e w2 ⟨A2,Q1,Q2,QL,rfl,ha2,hq,hb⟩;have HS2:=Hq (BK.step hb);have akx:=Hq (OU A2 w2 ha2 HZ);clear hb hq ha2 BK hzn OU;obtain⟨V2,hV2⟩:∃V,EU V k A2:=⟨_,rfl⟩;rw [hV2.agg] at akx;rw [hV2.agg];clear hV2;rename_i uO
 refine uO _ _ ?_;clear uO;go_wp2_with fail;refine akx.mono ?_;rintro e w3 ⟨S1,S2,rfl,hs1,hs2,hb⟩;have ER:=Hq ((HS2.step hb).add (λY=>nu Y ⟨S1,S2,none,0,none,0⟩ ⟨b,n,lg,sf,[],[]⟩) (λY hy=>⟨hs1.below hy,hs2.below hy,GR.at_nil _ _,GR.at_nil _ _⟩));clear hb hs1 hs2 HS2 akx;obtain⟨VS,hVS⟩:∃V,EU V ⟨b,n,lg,sf,[],[]⟩ ⟨S1,S2,none,0,none,0⟩:=⟨_,rfl⟩;have HVS:=Hq hVS;rw [hVS.agg];clear hVS;rename_i uO
 refine uO _ _ ?_;clear uO;refine aGP Aad (λK hK=>?_);go_simp;refine hK _ _ ?_;clear hK K;refine Cq Aad (.tmp 6) (.tmp 21) rfl w3.heap.size rfl VS rfl HVS.len HVS.one Aad (aGg w3 _) (λW3 hW hR=>?_);have hk:aI w3 W3:=by subst hW;exact gB (aGh _) _ _ _ _ (ay w3 _)
 have HA:=Hq ((ER.step hk).add (λY=>KR Y w3.heap.size VS) (λY hy=>hR.below hy));clear hW hR hk ER;generalize w3.heap.size=g4 at *;have HX0:=Hq (show HW W3 (λ_=>True) W3 from⟨aGs _ _,λ_ _=>trivial⟩);have Ik:=Hq (λY (h:aI W3 Y)=>HA.p Y h);have HB:=Hq HA.b;clear HA;have SG:=Hq (λW A' V' (hv:EU V' ⟨b,n,lg,sf,[],[]⟩ A') (h:aI W3 W) (h1:nu W A' ⟨b,n,lg,sf,[],[]⟩)=>show Calls prog 9 #[.agg V'.toArray,.agg VS.toArray] W _ from by rw [<-hv.agg,<-(ah HVS).agg];exact Pz ⟨b,n,lg,sf,[],[]⟩ A' ⟨S1,S2,none,0,none,0⟩ W HC h1 (Ik W h).1.2);go_upto_region 6 with fail;refine aHf ?_;show wpList _ _ _ [_,_,_,_] _ _
 refine M0 Aad (.tmp 2) rfl w.heap.size rfl V HV (Ik W3 HX0.b).1.1.1 ?_;go_wp2_with fail;refine(Oq _ (Ik W3 HX0.b).1.1.2.1 HZ).mono ?_;rintro e w4 ⟨AX,X1,X2,LX,rfl,hx,hxo,hb⟩;have zx:=Hq ((HX0.step hb).add (λY=>nu Y AX k/\Tn W3.heap.size w4.heap.size Y AX k X1 X2 LX) (λY hy=>⟨hx.below hy,hxo.below hy⟩));clear hb hx hxo HX0;obtain⟨VX,hVX⟩:∃V,EU V k AX:=⟨_,rfl⟩;have HVX:=Hq hVX;rw [hVX.agg];clear hVX;rename_i uO
 refine uO _ _ ?_;clear uO;refine aGP Aad (λK hK=>?_);go_simp;refine hK _ _ ?_;clear hK K;refine Cq Aad (.tmp 7) (.tmp 23) rfl w4.heap.size rfl VX rfl HVX.len HVX.one Aad (aGg w4 _) (λW5 hW hR=>?_);have hk:aI w4 W5:=by subst hW;exact gB (aGh _) _ _ _ _ (ay w4 _)
 have DV:=Hq ((zx.step hk).add (λY=>KR Y w4.heap.size VX) (λY hy=>hR.below hy));have h45:w4.heap.size < W5.heap.size:=hR.l;have h35:W3.heap.size<=W5.heap.size:=DV.b.size;clear hW hR hk zx;generalize w4.heap.size=gx at *;have amR:=Hq (λW (h:nu W AX k) (he:iK W E) (hH:Handle W)=>HVX.agg▸ah HIM AX W h he hH HZ);go_upto_region 7 with fail;refine aHf ?_;show wpList _ _ _ [_,_,_,_,_] _ _
 refine sZ Aad (.tmp 7) rfl gx rfl VX HVX.len DV.now.2 ?_;go_wp2_with fail;refine(amR _ DV.now.1.2.1 (Ik W5 DV.b).1.1.2.2.1 (Ik W5 DV.b).1.1.2.2.2).mono ?_;rintro e w6 ⟨B1,B2,H1,H2,rfl,hgo,hb⟩;have LH:=Hq ((DV.step hb).add (λY=>Tn W5.heap.size w6.heap.size Y ⟨B1,B2,none,0,none,0⟩ ⟨b,n,lg,sf,[],[]⟩ H1 H2 []) (λY hy=>hgo.below hy));have h56:W5.heap.size<=w6.heap.size:=hb.size;clear hb hgo DV amR;obtain⟨VG,hVG⟩:∃V,EU V ⟨b,n,lg,sf,[],[]⟩ ⟨B1,B2,none,0,none,0⟩:=⟨_,rfl⟩;have HVG:=Hq hVG;rw [hVG.agg];clear hVG;rename_i uO
 refine uO _ _ ?_;clear uO;refine aGP Aad (λK hK=>?_);go_simp;refine hK _ _ ?_;clear hK K;refine Cq Aad (.tmp 8) (.tmp 26) rfl w6.heap.size rfl VG rfl HVG.len HVG.one Aad (aGg w6 _) (λW7 hW hR=>?_);have hk:aI w6 W7:=by subst hW;exact gB (aGh _) _ _ _ _ (ay w6 _)
 have HX4:=Hq ((LH.step hk).add (λY=>KR Y w6.heap.size VG) (λY hy=>hR.below hy));clear hW hR hk LH;generalize w6.heap.size=gg at *;have hgg:gg < W7.heap.size:=HX4.now.2.l;go_upto_region 8 with fail;refine aHf ?_;show wpList _ _ _ [_,_,_,_] _ _
 refine sZ Aad (.tmp 8) rfl gg rfl VG HVG.len HX4.now.2 ?_;refine sZ Aad (.tmp 6) rfl g4 rfl VS HVS.len (Ik W7 HX4.b).2 ?_;go_wp2_with fail;refine(SG _ _ VG HVG HX4.b HX4.now.1.2.at0).mono ?_;rintro e w8 ⟨rfl,hb⟩;have HX5:=Hq (HX4.step hb);clear hb HX4;have HEX:=Hq (λW A' V' (hv:EU V' k A') (h1:nu W AX k) (h2:nu W A' k)=>show Calls prog 9 #[.agg VX.toArray,.agg V'.toArray] W _ from by rw [<-(ah HVX).agg,<-hv.agg];exact Pz k AX A' W HZ h1 h2);have HVL:=Hq HVX.len;go_upto_region 10 with fail;refine dB Aab ?_;show iq _ _ _ _ 5 (Array.replicate 5 false) _ _
 refine xO 0 rfl Aab Aab Aab (λ_ _ _ _ h=>h) Aad 44 _ rfl gx 0 rfl VX _ HX5.now.1.1.2.r HX5.now.1.1.2.l underlying44 rfl (by rw [ah HVL];kernel_rfl) ?_;refine xO 1 rfl Aab Aab Aab (λ_ _ _ _ h=>h) Aad 32 _ rfl w.heap.size 0 rfl V _ (Ik _ HX5.b).1.1.1.r (Ik _ HX5.b).1.1.1.l underlying32 rfl (by rw [ah HV];kernel_rfl) ?_;refine gM 2 rfl Aab Aad (λx2 hx2=>?_);go_simp;refine(Oq x2 (Ik _ (HX5.step hx2).b).1.1.2.1 HZ).mono ?_;rintro e z2 ⟨A7,R1,R2,RL,rfl,ha7,hq,hy2⟩;refine⟨hy2,?_⟩;obtain⟨V7,hV7⟩:∃V,EU V k A7:=⟨_,rfl⟩;have HV7:=Hq hV7;rw [hV7.agg];have HA7:=Hq ha7;have HX6:=Hq ((HX5.step hx2).step hy2);clear ha7 hq hx2 hy2 hV7 HX5;refine gM 3 rfl Aab Aad (λx3 hx3=>?_);go_simp;refine(HEX x3 A7 V7 HV7 (HX6.step hx3).now.1.1.1.2.1 (HA7.below hx3)).mono ?_;rintro e z3 ⟨rfl,hy3⟩;refine⟨hy3,?_⟩;have HX7:=Hq ((HX6.step hx3).step hy3);clear hx3 hy3 HA7 HX6 HEX HV7;refine aV 4 rfl Aab Aab Aab (λ_ _ _ _ h=>h) (λK hK=>?_);go_simp
 first
  |(refine hK _ ?_;clear hK K)
  |(apply Exists.intro
    refine⟨λ_=>?_,hK _ ?_⟩
    (rfl)
    clear hK K)
 refine fF Aab (λz hz=>?_);have HX8:=Hq (HX7.step hz);have hg8:gg < z.heap.size:=HX8.now.2.l;have h38:=HX8.b.size;clear hz HX7 HVL;go_upto_region 13 with fail;refine aHf ?_;show wpList _ _ _ [_,_,_,_] _ _
 refine sZ Aad (.tmp 7) rfl gx rfl VX HVX.len HX8.now.1.1.2 ?_;have HMK:=Hq (Di k AX X1 X2 LX W3.heap.size gx z HZ HX8.now.1.1.1.2.2 Aaa);rw [(ah HVX).agg] at HMK;go_wp2_with fail;refine HMK.mono ?_;rintro e wa ⟨rfl,hq,hk⟩;have hrx:=HX8.now.1.1.1.2.2.r;have HY0:=Hq (show HW W3 (λY=>Tn W5.heap.size gg Y ⟨B1,B2,none,0,none,0⟩ ⟨b,n,lg,sf,[],[]⟩ H1 H2 []/\KR Y gg VG) wa from⟨HX8.b.trans (hk.below (λx hx=>(hrx x hx).1) h38),λY hy=>⟨(HX8.now.1.2.keeps hk (λx hx=>by have:=hrx x hx;omega)).below hy,(HX8.now.2.keeps hk (λhm=>by have:=hrx _ hm;omega)).below hy⟩⟩);have gE:decide (((eKp k:Nat):Int) < 0)=false:=Aac
 clear hk hq hrx HMK HX8;go_upto_region 14 with fail;refine aHf ?_;show wpList _ _ _ [_,_,_,_,_,_,_,_] _ _
 refine aGP Aad (λK hK=>?_);go_simp;refine hK _ _ ?_;clear hK K;refine aGP Aad (λK hK=>?_);go_simp;refine hK _ _ ?_;clear hK K;refine aGP Aad (λK hK=>?_);go_simp;refine hK _ _ ?_;clear hK K;refine sZ Aad (.tmp 8) rfl gg rfl VG HVG.len HY0.now.2 ?_;refine sZ Aad (.tmp 6) rfl g4 rfl VS HVS.len (Ik wa HY0.b).2 ?_;go_wp2_with fail;refine(SG _ _ VG HVG HY0.b HY0.now.1.at0).mono ?_;rintro e wb ⟨rfl,hb⟩;have XK:=Hq (HY0.step hb);have hgb:gg < wb.heap.size:=XK.now.2.l;have h3b:=XK.b.size;clear hb HY0 gE;go_upto_region 17 with fail;refine aHf ?_;show wpList _ _ _ [_,_,_,_] _ _
 refine sZ Aad (.tmp 8) rfl gg rfl VG HVG.len XK.now.2 ?_;have HMK:=Hq (Di ⟨b,n,lg,sf,[],[]⟩ ⟨B1,B2,none,0,none,0⟩ H1 H2 [] W5.heap.size gg wb HC XK.now.1 Aaa);rw [(ah HVG).agg] at HMK;go_wp2_with fail;refine HMK.mono ?_;rintro e wc ⟨rfl,hM,hk⟩;have hrx:=XK.now.1.r;have HY2:=Hq (show HW W3 (λY=>MK Y ⟨B1,B2,none,0,none,0⟩ ⟨b,n,lg,sf,[],[]⟩ H1 H2/\KR Y gg VG) wc from⟨XK.b.trans (hk.below (λx hx=>by have:=hrx x hx;omega) h3b),λY hy=>⟨hM.below hy,(XK.now.2.keeps hk (λhm=>by have:=hrx _ hm;omega)).below hy⟩⟩);have HHK:=Hq (λW (h:MK W ⟨B1,B2,none,0,none,0⟩ ⟨b,n,lg,sf,[],[]⟩ H1 H2)=>show Calls prog 13 #[.agg VG.toArray,.int .i64 1] W _ from by rw [<-(ah HVG).agg];exact PV b n lg sf B1 B2 H1 H2 W HC.b HC.n h);have gE2:decide (((eKp ⟨b,n,lg,sf,[],[]⟩:Nat):Int) < 0)=false:=Aac
 clear hk hrx hM HMK XK;generalize eKp ⟨b,n,lg,sf,[],[]⟩=EC at *;have gE3:(((EC:Nat):Int) != ((EC:Nat):Int))=false:=Aac
 go_upto_region 19 with fail;refine aHf ?_;show wpList _ _ _ [_,_,_,_] _ _
 refine sZ Aad (.tmp 8) rfl gg rfl VG HVG.len HY2.now.2 ?_;go_wp2_with fail;refine(HHK wc HY2.now.1).mono ?_;rintro e wd ⟨rfl,hb⟩;have HY3:=Hq (HY2.step hb);clear hb HY2;go_upto_region 24 with fail;refine aHf ?_;show wpList _ _ _ [_,_,_,_,_,_] _ _
 refine M0 Aad (.tmp 2) rfl w.heap.size rfl V HV (Ik wd HY3.b).1.1.1 ?_;go_wp2_with fail;refine(Oq _ (Ik wd HY3.b).1.1.2.1 HZ).mono ?_;rintro e we ⟨A9,T1,T2,TL,rfl,ha9,hq,hb⟩;have HY4:=Hq (HY3.step hb);have akf:=Hq (HIM A9 we ha9 (Ik we HY4.b).1.1.2.2.1 (Ik we HY4.b).1.1.2.2.2 HZ);clear hb hq ha9 HY3 HIM;obtain⟨V9,hV9⟩:∃V,EU V k A9:=⟨_,rfl⟩;rw [hV9.agg] at akf;rw [hV9.agg];clear hV9;rename_i uO
 refine uO _ _ ?_;clear uO;go_wp2_with fail;refine akf.mono ?_;rintro e wf ⟨D1,D2,F1,F2,rfl,hho,hb⟩;have HY5:=Hq ((HY4.step hb).add (λY=>nu Y ⟨D1,D2,none,0,none,0⟩ ⟨b,n,lg,sf,[],[]⟩) (λY hy=>(hho.below hy).at0));clear hb hho HY4 akf;obtain⟨VH,hVH⟩:∃V,EU V ⟨b,n,lg,sf,[],[]⟩ ⟨D1,D2,none,0,none,0⟩:=⟨_,rfl⟩;have HVH:=Hq hVH;rw [hVH.agg];clear hVH;rename_i uO
 refine uO _ _ ?_;clear uO;refine aGP Aad (λK hK=>?_);go_simp;refine hK _ _ ?_;clear hK K;refine Cq Aad (.tmp 12) (.tmp 61) rfl wf.heap.size rfl VH rfl HVH.len HVH.one Aad (aGg wf _) (λWg hW hR=>?_);have hk:aI wf Wg:=by subst hW;exact gB (aGh _) _ _ _ _ (ay wf _)
 have HY6:=Hq ((HY5.step hk).add (λY=>KR Y wf.heap.size VH) (λY hy=>hR.below hy));clear hW hR hk HY5;generalize wf.heap.size=gh at *;go_upto_region 25 with fail;refine aHf ?_;show wpList _ _ _ [_,_,_,_] _ _
 refine sZ Aad (.tmp 12) rfl gh rfl VH HVH.len HY6.now.2 ?_;refine sZ Aad (.tmp 6) rfl g4 rfl VS HVS.len (Ik Wg HY6.b).2 ?_;go_wp2_with fail;refine(SG _ _ VH HVH HY6.b HY6.now.1.2).mono ?_;rintro e wh ⟨rfl,hb⟩;have HY7:=Hq (HY6.step hb);clear hb HY6;go_upto_region 28 with fail;refine aHf ?_;show wpList _ _ _ [_,_,_,_] _ _
 refine sZ Aad (.tmp 8) rfl gg rfl VG HVG.len HY7.now.1.1.2 ?_;go_wp2_with fail;refine(HHK wh HY7.now.1.1.1).mono ?_;rintro e wi ⟨rfl,hb⟩;have HY8:=Hq (HY7.step hb);clear hb HY7;go_wp2_with fail;go_ret;exact⟨rfl,HB.trans (HY8.b.mono HB.size)⟩
end Go.Proofs.YtohmklmkjmlpjaaGreatDoor
