/- Parts. -/
import Derived.Test.YtohmklmkjmlpjaaGreatDoorRk44
import Derived.Test.YtohmklmkjmlpjaaGreatDoorRk26
import Derived.Test.YtohmklmkjmlpjaaGreatDoorRk42
namespace Go.Proofs.YtohmklmkjmlpjaaGreatDoor
open Go.Proofs.Tryz
set_option maxHeartbeats 8000000
set_option maxRecDepth 100000
open Go.RowKit
open Mth
theorem Mt (k:Kp) (A:KA) (w:World) (hz:xK k 1048576) (ha:qX w A k):
 Calls prog 6 #[YN k A] w (kX w (xX k)):=by
 have Kh:=Hq (λW (h:aI w W)=>qg k.base A.b W (hz.b.mono Aaa) (ha.below h).kb);have Ao:=Hq (λW (h:aI w W)=>qg k.node A.n W (hz.n.mono Aaa) (ha.below h).kn);have Dr:=Hq (λW=>QI k.log (by have:=hz.l;unfold maxLen;omega) W);have Ng:=Hq (λW (h:aI w W)=>Uh k.base A.b k.log W (by have:=hz.l;unfold maxLen;omega) hz.b (ha.below h).kb);have yP:=Hq (λW (h:aI w W) A' (hb:dw W A' (gQ k.base (gH k.log).1))=>IE (gQ k.base (gH k.log).1) k.node A' A.n W (LY hz.b _) hb (ha.below h).kn);have hsl:=hz.l;unfold kN at Dr;unfold J8 at Ng;have HB0:=Hq (heap_alloc_new w (.cells (Nk k A).toArray 44));have nC:=Hq (ay w (.cells (Nk k A).toArray 44));clear hz ha;obtain⟨B0,N0,lg,sf,wt,sk⟩:=k;obtain⟨AB,AN,wa,wc,aa,ac⟩:=A;dsimp only at hsl Kh Ao Dr Ng yP HB0 nC ⊢;obtain⟨c0,c1,c2,c3,c4,c5,c6,c7,c8,c9,c10,c11,c12,c13,c14,c15,c16,c17,c18,c19,c20,c21⟩:=xO HB0;go_in
 go_wp2_with fail;refine(Kh _ nC).mono ?_;rintro e w1 ⟨rfl,hb⟩;have HB1:=Hq (au HB0 hb);have qU:=Hq (nC.trans (hb.mono nC.size));clear hb c0 c1 c2 c3 c4 c5 c6 c7 c8 c9 c10 c11 c12 c13 c14 c15 c16 c17 c18 c19 c20 c21 HB0 nC Kh;cases h1:dW B0
 case' false=>
  have HP:=Hq (show¬xX ⟨B0,N0,lg,sf,wt,sk⟩ from λh=>by have h:=h.1;rw [h1] at h;cases h);clear h1 Ao Dr Ng yP;go_wp2_with fail;go_ret;exact .no HP qU
 have H1:=Hq h1;clear h1;obtain⟨c0,c1,c2,c3,c4,c5,c6,c7,c8,c9,c10,c11,c12,c13,c14,c15,c16,c17,c18,c19,c20,c21⟩:=xO HB1;go_wp2_with fail;refine(Ao _ qU).mono ?_;rintro e w2 ⟨rfl,hb⟩;have HB2:=Hq (au HB1 hb);have HL2:=Hq (qU.trans (hb.mono qU.size));clear hb c0 c1 c2 c3 c4 c5 c6 c7 c8 c9 c10 c11 c12 c13 c14 c15 c16 c17 c18 c19 c20 c21 HB1 qU Ao;cases h2:dW N0
 case' false=>
  have HP:=Hq (show¬xX ⟨B0,N0,lg,sf,wt,sk⟩ from λh=>by have h:=h.2.1;rw [h2] at h;cases h);clear h2 Dr Ng yP;go_wp2_with fail;go_ret;exact .no HP HL2
 have H2:=Hq h2;clear h2;obtain⟨c0,c1,c2,c3,c4,c5,c6,c7,c8,c9,c10,c11,c12,c13,c14,c15,c16,c17,c18,c19,c20,c21⟩:=xO HB2;go_wp2_with fail;by_cases h3:0<=sf/\sf<=(lg.size:Int)
 case' neg=>
  have HP:=Hq (show¬xX ⟨B0,N0,lg,sf,wt,sk⟩ from λh=>h3 h.2.2.1);refine(pV sf 0 (lg.size:Int) w2 Aaa).mono ?_;rintro e w3 ⟨rfl,rfl⟩;clear h3 Dr Ng yP;go_wp2_with fail;go_ret;exact .no HP HL2
 refine(mH sf 0 (lg.size:Int) w2 h3.1 h3.2).mono ?_;rintro e w3 ⟨rfl,rfl⟩;have H3:=Hq h3;clear h3;go_wp2_with fail;refine(Dr _).mono ?_;rintro e w3 ⟨v,rfl,hown,hb⟩;have HB3:=Hq (au HB2 hb);have qz:=Hq (HL2.trans (hb.mono HL2.size));clear hb c0 c1 c2 c3 c4 c5 c6 c7 c8 c9 c10 c11 c12 c13 c14 c15 c16 c17 c18 c19 c20 c21 HB2 HL2 Dr hown;have hgl:=aA HB3;have y18:=cell_regrown (show w3.cell? ⟨w.heap.size,18,none⟩=some (.string lg) from cell_of_row w3 w.heap.size 18 _ 44 (0,0) HB3);by_cases h5:(gH lg).2=lg.size
 case' neg=>
  have HP:=Hq (show¬xX ⟨B0,N0,lg,sf,wt,sk⟩ from λh=>h5 h.2.2.2.1);have hq:(((gH lg).2:Int) == (lg.size:Int))=false:=Aag
  clear h5 H1 H2 H3 Ng yP;go_upto_region 4 with fail;refine wp_region_quiet_below Aab Aab ?_;repeat (first|go_big_quiet_step (fail)|quiet_step (fail))
  refine wpQuiet_nil ?_;intro _ hw';obtain⟨⟨dq,osq⟩,hw''⟩:=hw';subst hw'';clear y18;go_wp2_with fail;go_ret;exact .no HP (qz.trans ((below_regrown _ dq osq).mono qz.size))
 have hq:(((gH lg).2:Int) == (lg.size:Int))=true:=by simp[h5]
 have H5:=Hq h5;clear h5;obtain⟨hr0,hr1⟩:=PE (k:=⟨B0,N0,lg,sf,wt,sk⟩) (A:=⟨AB,AN,wa,wc,aa,ac⟩) HB3;dsimp only at hr0 hr1;go_upto_region 4 with fail;refine dx Aab ?_;show gL _ _ _ _ 16 (Array.replicate 16 false) _ _
 refine aJ 0 rfl Aab Aab Aab (λ_ _ _ _ h=>h) (λK hK=>?_);go_simp
 first
  |(refine hK _ ?_;clear hK K)
  |(apply Exists.intro
    refine⟨λ_=>?_,hK _ ?_⟩
    (rfl)
    clear hK K)
 refine aJ 1 rfl Aab Aab Aab (λ_ _ _ _ h=>h) (λK hK=>?_);go_simp
 first
  |(refine hK _ ?_;clear hK K)
  |(apply Exists.intro
    refine⟨λ_=>?_,hK _ ?_⟩
    (rfl)
    clear hK K)
 refine aJ 2 rfl Aab Aab Aab (λ_ _ _ _ h=>h) (λK hK=>?_);go_simp
 first
  |(refine hK _ ?_;clear hK K)
  |(apply Exists.intro
    refine⟨λ_=>?_,hK _ ?_⟩
    (rfl)
    clear hK K)
 refine aJ 3 rfl Aab Aab Aab (λ_ _ _ _ h=>h) (λK hK=>?_);go_simp
 first
  |(refine hK _ ?_;clear hK K)
  |(apply Exists.intro
    refine⟨λ_=>?_,hK _ ?_⟩
    (rfl)
    clear hK K)
 refine aJ 4 rfl Aab Aab Aab (λ_ _ _ _ h=>h) (λK hK=>?_);go_simp
 first
  |(refine hK _ ?_;clear hK K)
  |(apply Exists.intro
    refine⟨λ_=>?_,hK _ ?_⟩
    (rfl)
    clear hK K)
 refine aJ 5 rfl Aab Aab Aab (λ_ _ _ _ h=>h) (λK hK=>?_);go_simp
 first
  |(refine hK _ ?_;clear hK K)
  |(apply Exists.intro
    refine⟨λ_=>?_,hK _ ?_⟩
    (rfl)
    clear hK K)
 refine aJ 6 rfl Aab Aab Aab (λ_ _ _ _ h=>h) (λK hK=>?_);go_simp
 first
  |(refine hK _ ?_;clear hK K)
  |(apply Exists.intro
    refine⟨λ_=>?_,hK _ ?_⟩
    (rfl)
    clear hK K)
 refine lq 7 rfl Aab Aab Aab (λ_ _ _ _ h=>h) Aad 40 _ rfl w.heap.size 0 rfl (dG B0 AB).toList _ hr0 hgl underlying40 rfl Aab ?_;refine aJ 8 rfl Aab Aab Aab (λ_ _ _ _ h=>h) (λK hK=>?_);go_simp
 first
  |(refine hK _ ?_;clear hK K)
  |(apply Exists.intro
    refine⟨λ_=>?_,hK _ ?_⟩
    (rfl)
    clear hK K)
 refine aJ 9 rfl Aab Aab Aab (λ_ _ _ _ h=>h) (λK hK=>?_);go_simp
 first
  |(refine hK _ ?_;clear hK K)
  |(apply Exists.intro
    refine⟨λ_=>?_,hK _ ?_⟩
    (rfl)
    clear hK K)
 refine aJ 11 rfl Aab Aab Aab (λ_ _ _ _ h=>h) (λK hK=>?_);go_simp
 first
  |(refine hK _ ?_;clear hK K)
  |(apply Exists.intro
    refine⟨λ_=>?_,hK _ ?_⟩
    (rfl)
    clear hK K)
 refine lq 12 rfl Aab Aab Aab (λ_ _ _ _ h=>h) Aad 40 _ rfl w.heap.size 9 rfl (dG N0 AN).toList _ hr1 hgl underlying40 rfl Aab ?_;clear y18 hr0 hr1 hq HB3;refine fI 10 rfl Aab Aad (λx10 KY=>?_);go_simp;have g10:aI w x10:=Ge.trans (show Ge w w3 from qz) KY;refine(Ng x10 g10).mono ?_;rintro e z10 ⟨A',rfl,hat,akD⟩;refine⟨akD,?_⟩;have HA':=Hq (hat _ Dp.refl);have HG:=Hq (show aI w z10 from Ge.trans (show Ge w x10 from g10) akD);clear hat KY akD g10 qz Ng;refine fI 13 rfl Aab Aad (λx13 O4=>?_);go_simp;have g13:aI w x13:=Ge.trans (show Ge w z10 from HG) O4;refine(yP x13 g13 A' (HA'.below O4)).mono ?_;rintro e z13 ⟨⟨r,rfl,hr⟩,O6⟩;refine⟨O6,?_⟩;have HR:=Hq (show r=true↔xX ⟨B0,N0,lg,sf,wt,sk⟩ from⟨λh=>⟨H1,H2,H3,H5,(hr.1 h).symm⟩,λh=>hr.2 h.2.2.2.2.symm⟩);have HG2:=Hq (show aI w z13 from Ge.trans (show Ge w x13 from g13) O6);clear O4 O6 g13 yP HG HA' hr H1 H2 H3 H5;refine aJ 14 rfl Aab Aab Aab (λ_ _ _ _ h=>h) (λK hK=>?_);go_simp
 first
  |(refine hK _ ?_;clear hK K)
  |(apply Exists.intro
    refine⟨λ_=>?_,hK _ ?_⟩
    (rfl)
    clear hK K)
 refine fI 15 rfl Aab Aad (λx15 ayE=>?_);go_simp;refine⟨Below.refl _ _,?_⟩;refine eX Aab (λz hz=>?_);have DY:=Hq (show aI w z from Ge.trans (show Ge w z13 from HG2) (Ge.trans ayE hz));clear ayE hz HG2;go_wp2_with fail;go_ret;exact⟨⟨r,rfl,HR⟩,DY⟩
theorem uZ (k:Kp) (A:KA) (hz:xK k maxLen) (E:Nat->Addr) (w:World) (ha:qX w A k) (he:iG w E) (hH:Handle w):
 Calls prog 3 #[YN k A] w (eG w (.bool true)):=by
 obtain⟨V,hV⟩:∃V,Ri V k A:=⟨_,rfl⟩;have uV:=Hq (λW (h:aI w W)=>hV.agg▸acW k A 1048576 W Aaa Aaa hz (ha.below h));have Ni:=Hq (λW (h:aI w W) (hz:xK k 1048576)=>hV.agg▸Yn k A W hz (ha.below h));have HE:=Hq (λW (h:aI w W)=>And.intro (he.below h) (hH.below h));have nC:=Hq (ay w (.cells V.toArray 32));have HK0:=Hq (KR.blk (heap_alloc_new w (.cells V.toArray 32)));have HV:=Hq hV.len;rw [hV.agg];clear hz ha he hH hV;go_in
 go_upto_region 2 with fail;refine wp_region_list ?_;show wpList _ _ _ [_,_,_,_] _ _
 refine Tt Aad (.tmp 1) rfl w.heap.size rfl V HV HK0 ?_;go_wp2_with fail;refine(uV _ nC).mono ?_;rintro e w1 ⟨r,rfl,hcase,hb⟩;have qU:=Hq (nC.trans (hb.mono nC.size));have Rn:=Hq (HK0.below hb);clear hb nC HK0 uV;rcases hcase with rfl|⟨z0,z1,hz⟩
 case' inl=>
  go_wp2_with fail;go_ret;exact⟨rfl,qU⟩
 have hzn:decide (r < 0)=false:=decide_eq_false Aaa;have HZ:=Hq hz;clear hz z0 z1;go_upto_region 5 with fail;refine wp_region_list ?_;show wpList _ _ _ [_,_,_,_] _ _
 refine Tt Aad (.tmp 1) rfl w.heap.size rfl V HV Rn ?_;go_wp2_with fail;refine(Ni _ qU HZ).mono ?_;rintro e w2 ⟨A2,rfl,ha2,hb⟩;have HA2:=Hq ha2;have HL2:=Hq (qU.trans (hb.mono qU.size));have sU:=Hq (Rn.below hb);clear hb qU Rn ha2 hzn;obtain⟨V2,hV2⟩:∃V,Ri V k A2:=⟨_,rfl⟩;have Rf:=Hq (hV2.agg▸Mt k A2 w2 HZ HA2);rw [hV2.agg];clear hV2 HA2;rename_i Jt
 refine Jt _ _ ?_;clear Jt;go_wp2_with fail;refine Rf.mono ?_;rintro e w3 ⟨⟨r1,rfl,hr1⟩,hb⟩;have HR1:=Hq hr1;have qz:=Hq (HL2.trans (hb.mono HL2.size));have HK3:=Hq (sU.below hb);clear hb hr1 HL2 sU Rf;go_upto_region 6 with fail;refine wp_region_list ?_;show wpList _ _ _ [_,_,_,_] _ _
 refine Tt Aad (.tmp 1) rfl w.heap.size rfl V HV HK3 ?_;go_wp2_with fail;refine(Ni _ qz HZ).mono ?_;rintro e w4 ⟨A4,rfl,ha4,hb⟩;have HA4:=Hq ha4;have Gf:=Hq (qz.trans (hb.mono qz.size));have HK4:=Hq (HK3.below hb);clear hb qz HK3 ha4;obtain⟨V4,hV4⟩:∃V,Ri V k A4:=⟨_,rfl⟩;have HV4:=Hq hV4;rw [hV4.agg];clear hV4;rename_i Jt
 refine Jt _ _ ?_;clear Jt;refine BigFrame.wpList_want Aad (λK hK=>?_);go_simp;refine hK _ _ ?_;clear hK K;refine abW Aad (.tmp 5) (.tmp 16) rfl w4.heap.size rfl V4 rfl HV4.len HV4.one Aad (heap_alloc_new w4 _) (λW5 hW5 SH=>?_);have hk5:aI w4 W5:=by subst hW5;exact kR (Nat.le_refl _) _ _ _ _ (ay w4 _)
 have HL5:=Hq (Gf.trans (hk5.mono Gf.size));have HK5:=Hq (HK4.below hk5);have HA5:=Hq (HA4.below hk5);have Rw:=Hq SH;clear hW5 SH hk5 Gf HK4 HA4;generalize w4.heap.size=g4 at *;have HIM:=Hq (λW (h:aI w W) (ha:qX W A4 k)=>HV4.agg▸Lf k A4 E W HZ ha (HE W h).1 (HE W h).2);go_upto_region 7 with fail;refine wp_region_list ?_;show wpList _ _ _ [_,_,_] _ _
 refine abV Aad (.tmp 5) rfl g4 rfl V4 HV4.len Rw ?_;go_wp2_with fail;refine(HIM W5 HL5 HA5).mono ?_;rintro e w6 ⟨⟨r2,rfl,hr2⟩,hb⟩
 have hrr:r2=r1:=by
  have h1:=ah HR1;cases r1<;>cases r2<;>simp_all
 subst hrr;have HL6:=Hq (HL5.trans (hb.mono HL5.size));have YA:=Hq (HK5.below hb);have HR6:=Hq (Rw.below hb);have HA6:=Hq (HA5.below hb);clear hb hr2 HL5 HK5 Rw HA5 HIM HR1 HE;have hne:(r2 != r2)=false:=Aac
 have UA:=Hq (λW A' V' (hV':Ri V' k A') (ha:qX W A4 k) (hb:qX W A' k)=>show Calls prog 9 #[.agg V4.toArray,.agg V'.toArray] W _ from by rw [<-(ah HV4).agg,<-hV'.agg];exact aaW k A4 A' W HZ ha hb);have Gf:=Hq HV4.len;clear HV4;go_upto_region 10 with fail;refine dx Aab ?_;show gL _ _ _ _ 5 (Array.replicate 5 false) _ _
 refine lq 0 rfl Aab Aab Aab (λ_ _ _ _ h=>h) Aad 44 _ rfl g4 0 rfl V4 _ HR6.r HR6.l underlying44 rfl (by rw [ah Gf];kernel_rfl) ?_;refine lq 1 rfl Aab Aab Aab (λ_ _ _ _ h=>h) Aad 32 _ rfl w.heap.size 0 rfl V _ YA.r YA.l underlying32 rfl (by rw [ah HV];kernel_rfl) ?_;clear HR6 YA;refine fI 2 rfl Aab Aad (λx2 hx2=>?_);go_simp;have g2:aI w x2:=Ge.trans (show Ge w w6 from HL6) hx2;refine(Ni x2 g2 HZ).mono ?_;rintro e z2 ⟨A7,rfl,ha7,hy2⟩;refine⟨hy2,?_⟩;obtain⟨V7,hV7⟩:∃V,Ri V k A7:=⟨_,rfl⟩;have HV7:=Hq hV7;rw [hV7.agg];have HA7:=Hq ha7;have HG:=Hq (show aI w6 z2 from Ge.trans hx2 hy2);clear ha7 hx2 hy2 g2 Ni hV7;refine fI 3 rfl Aab Aad (λx3 hx3=>?_);go_simp;refine(UA x3 A7 V7 HV7 (HA6.below (Ge.trans (show Ge w6 z2 from HG) hx3)) (HA7.below hx3)).mono ?_;rintro e z3 ⟨rfl,hy3⟩;refine⟨hy3,?_⟩;have HG2:=Hq (show aI w6 z3 from Ge.trans (Ge.trans (show Ge w6 z2 from HG) hx3) hy3);clear hx3 hy3 HG HA7 HA6 UA HV7;refine aJ 4 rfl Aab Aab Aab (λ_ _ _ _ h=>h) (λK hK=>?_);go_simp
 first
  |(refine hK _ ?_;clear hK K)
  |(apply Exists.intro
    refine⟨λ_=>?_,hK _ ?_⟩
    (rfl)
    clear hK K)
 refine eX Aab (λz hz=>?_);have DY:=Hq (show aI w6 z from Ge.trans (show Ge w6 z3 from HG2) hz);clear hz HG2;go_wp2_with fail;go_ret;exact⟨rfl,HL6.trans (DY.mono HL6.size)⟩
end Go.Proofs.YtohmklmkjmlpjaaGreatDoor
