/- Parts. -/
import Derived.Test.YtbolgdleijjgfaaGreatDoorRf42
import Derived.Test.YtbolgdleijjgfaaGreatDoorRf44
namespace Go.Proofs.YtbolgdleijjgfaaGreatDoor
open Go.Proofs.Tryz
set_option maxHeartbeats 8000000
set_option maxRecDepth 100000
open Go.RowKit
open Mth
theorem Nt (k:Kp) (A:KA) (w:World) (hz:qd k 1048576) (ha:jw w A k):
 Calls prog 24 #[Jg k A] w (mG w (uU k)):=by
 have Ij:=Hq (λW (h:aH w W)=>ru k.base A.b W (hz.b.mono Aaa) (ha.below h).kb);have yP:=Hq (λW (h:aH w W)=>ru k.node A.n W (hz.n.mono Aaa) (ha.below h).kn);have Et:=Hq (λW=>Rs k.log (by have:=hz.l;unfold maxLen;omega) W);have Oe:=Hq (λW (h:aH w W)=>Vb k.base A.b k.log W (by have:=hz.l;unfold maxLen;omega) hz.b (ha.below h).kb);have zV:=Hq (λW (h:aH w W) A' (hb:cK W A' (gV k.base (gK k.log).1))=>JH (gV k.base (gK k.log).1) k.node A' A.n W (M8 hz.b _) hb (ha.below h).kn);have hsl:=hz.l;unfold lN at Et;unfold Lj at Oe;have HB0:=Hq (aEP w (.cells (yJ k A).toArray 43));have pY:=Hq (au w (.cells (yJ k A).toArray 43));clear hz ha;obtain⟨B0,N0,lg,sf,wt,sk⟩:=k;obtain⟨AB,AN,wa,wc,aa,ac⟩:=A;dsimp only at hsl Ij yP Et Oe zV HB0 pY ⊢;obtain⟨c0,c1,c2,c3,c4,c5,c6,c7,c8,c9,c10,c11,c12,c13,c14,c15,c16,c17,c18,c19,c20,c21⟩:=yS HB0;go_in
 go_wp2_with fail;refine(Ij _ pY).mono ?_;rintro e w1 ⟨rfl,hb⟩;have HB1:=Hq (aj HB0 hb);have vW:=Hq (pY.trans (hb.mono pY.size));clear hb c0 c1 c2 c3 c4 c5 c6 c7 c8 c9 c10 c11 c12 c13 c14 c15 c16 c17 c18 c19 c20 c21 HB0 pY Ij;cases h1:dV B0
 case' false=>
  have HP:=Hq (show¬uU ⟨B0,N0,lg,sf,wt,sk⟩ from λh=>by have h:=h.1;rw [h1] at h;cases h);clear h1 yP Et Oe zV;go_wp2_with fail;go_ret;exact .no HP vW
 have H1:=Hq h1;clear h1;obtain⟨c0,c1,c2,c3,c4,c5,c6,c7,c8,c9,c10,c11,c12,c13,c14,c15,c16,c17,c18,c19,c20,c21⟩:=yS HB1;go_wp2_with fail;refine(yP _ vW).mono ?_;rintro e w2 ⟨rfl,hb⟩;have HB2:=Hq (aj HB1 hb);have HL2:=Hq (vW.trans (hb.mono vW.size));clear hb c0 c1 c2 c3 c4 c5 c6 c7 c8 c9 c10 c11 c12 c13 c14 c15 c16 c17 c18 c19 c20 c21 HB1 vW yP;cases h2:dV N0
 case' false=>
  have HP:=Hq (show¬uU ⟨B0,N0,lg,sf,wt,sk⟩ from λh=>by have h:=h.2.1;rw [h2] at h;cases h);clear h2 Et Oe zV;go_wp2_with fail;go_ret;exact .no HP HL2
 have H2:=Hq h2;clear h2;obtain⟨c0,c1,c2,c3,c4,c5,c6,c7,c8,c9,c10,c11,c12,c13,c14,c15,c16,c17,c18,c19,c20,c21⟩:=yS HB2;go_wp2_with fail;by_cases h3:0<=sf/\sf<=(lg.size:Int)
 case' neg=>
  have HP:=Hq (show¬uU ⟨B0,N0,lg,sf,wt,sk⟩ from λh=>h3 h.2.2.1);refine(qQ sf 0 (lg.size:Int) w2 Aaa).mono ?_;rintro e w3 ⟨rfl,rfl⟩;clear h3 Et Oe zV;go_wp2_with fail;go_ret;exact .no HP HL2
 refine(nP sf 0 (lg.size:Int) w2 h3.1 h3.2).mono ?_;rintro e w3 ⟨rfl,rfl⟩;have H3:=Hq h3;clear h3;go_wp2_with fail;refine(Et _).mono ?_;rintro e w3 ⟨v,rfl,hown,hb⟩;have HB3:=Hq (aj HB2 hb);have sH:=Hq (HL2.trans (hb.mono HL2.size));clear hb c0 c1 c2 c3 c4 c5 c6 c7 c8 c9 c10 c11 c12 c13 c14 c15 c16 c17 c18 c19 c20 c21 HB2 HL2 Et hown;have hgl:=ay HB3;have y18:=aEQ (show w3.cell? ⟨w.heap.size,18,none⟩=some (.string lg) from aE1 w3 w.heap.size 18 _ 43 (0,0) HB3);by_cases h5:(gK lg).2=lg.size
 case' neg=>
  have HP:=Hq (show¬uU ⟨B0,N0,lg,sf,wt,sk⟩ from λh=>h5 h.2.2.2.1);have hq:(((gK lg).2:Int) == (lg.size:Int))=false:=Aah
  clear h5 H1 H2 H3 Oe zV;go_upto_region 4 with fail;refine aE5 Aab Aab ?_;repeat (first|go_big_quiet_step (fail)|quiet_step (fail))
  refine aFy ?_;intro _ hw';obtain⟨⟨dq,osq⟩,hw''⟩:=hw';subst hw'';clear y18;go_wp2_with fail;go_ret;exact .no HP (sH.trans ((aFl _ dq osq).mono sH.size))
 have hq:(((gK lg).2:Int) == (lg.size:Int))=true:=by simp[h5]
 have H5:=Hq h5;clear h5;obtain⟨hr0,hr1⟩:=oI (k:=⟨B0,N0,lg,sf,wt,sk⟩) (A:=⟨AB,AN,wa,wc,aa,ac⟩) HB3;dsimp only at hr0 hr1;go_upto_region 4 with fail;refine bZ Aab ?_;show iZ _ _ _ _ 16 (Array.replicate 16 false) _ _
 refine tk [0,1,2,3,4,5,6] ?_;iterate 7 (refine lW (λK hK=>?_);go_simp;first|refine hK _ ?_|(apply Exists.intro;refine⟨λ_=>?_,hK _ ?_⟩;rfl);clear hK K)
 refine jh ?_;refine l7 7 rfl Aab Aab Aab (λ_ _ _ _ h=>h) Aad 39 _ rfl w.heap.size 0 rfl (dD B0 AB).toList _ hr0 hgl underlying39 rfl Aab ?_;refine tk [8,9,11] ?_;iterate 3 (refine lW (λK hK=>?_);go_simp;first|refine hK _ ?_|(apply Exists.intro;refine⟨λ_=>?_,hK _ ?_⟩;rfl);clear hK K)
 refine jh ?_;refine l7 12 rfl Aab Aab Aab (λ_ _ _ _ h=>h) Aad 39 _ rfl w.heap.size 9 rfl (dD N0 AN).toList _ hr1 hgl underlying39 rfl Aab ?_;clear y18 hr0 hr1 hq HB3;refine fP 10 rfl Aab Aad (λx10 Mj=>?_);go_simp;have g10:aH w x10:=Ge.trans (show Ge w w3 from sH) Mj;refine(Oe x10 g10).mono ?_;rintro e z10 ⟨A',rfl,hat,akY⟩;refine⟨akY,?_⟩;have HA':=Hq (hat _ yA.refl);have HG:=Hq (show aH w z10 from Ge.trans (show Ge w x10 from g10) akY);clear hat Mj akY g10 sH Oe;refine fP 13 rfl Aab Aad (λx13 PV=>?_);go_simp;have g13:aH w x13:=Ge.trans (show Ge w z10 from HG) PV;refine(zV x13 g13 A' (HA'.below PV)).mono ?_;rintro e z13 ⟨⟨r,rfl,hr⟩,PW⟩;refine⟨PW,?_⟩;have HR:=Hq (show r=true↔uU ⟨B0,N0,lg,sf,wt,sk⟩ from⟨λh=>⟨H1,H2,H3,H5,(hr.1 h).symm⟩,λh=>hr.2 h.2.2.2.2.symm⟩);have HG2:=Hq (show aH w z13 from Ge.trans (show Ge w x13 from g13) PW);clear PV PW g13 zV HG HA' hr H1 H2 H3 H5;refine tk [14] ?_;(refine lW (λK hK=>?_);go_simp;first|refine hK _ ?_|(apply Exists.intro;refine⟨λ_=>?_,hK _ ?_⟩;rfl);clear hK K)
 refine jh ?_;refine fP 15 rfl Aab Aad (λx15 aze=>?_);go_simp;refine⟨aE3 _ _,?_⟩;refine dW Aab (λz hz=>?_);have Ir:=Hq (show aH w z from Ge.trans (show Ge w z13 from HG2) (Ge.trans aze hz));clear aze hz HG2;go_wp2_with fail;go_ret;exact⟨⟨r,rfl,HR⟩,Ir⟩
structure Io (V L:List Value) (p r g:Nat) (w w1 W:World):Prop where
 hp:W.heap[p]?=some (.cells V.toArray 43 (0,0))
 hr:W.heap[r]?=some (.cells Sq 43 (0,0))
 ho:W.heap[g]?=some (.cells L.toArray 43 (0,0))
 b:Below p w W
 k:aH w1 W
 d:p < r/\r < w1.heap.size/\w1.heap.size<=g
section
variable {V L L2:List Value} {p r g:Nat} {w w1 W W2:World}
theorem Io.step (h:Io V L p r g w w1 W) (hb:aH W W2):Io V L p r g w w1 W2:=
 ⟨aj h.hp hb,aj h.hr hb,aj h.ho hb,h.b.trans (hb.mono (Nat.le_of_lt (ay h.hp))),h.k.trans (hb.mono h.k.size),h.d⟩
theorem Io.put (h:Io V L p r g w w1 W) (hk:aA [g] W W2) (h2:W2.heap[g]?=some (.cells L2.toArray 43 (0,0))):Io V L2 p r g w w1 W2:=by
 obtain⟨d1,d2,d3⟩:=h.d;exact⟨hk.obj h.hp Aah,hk.obj h.hr Aah,h2,h.b.trans (hk.below (λx hx=>Acv) (Nat.le_of_lt (ay h.hp))),h.k.trans (hk.below (λx hx=>Acv) h.k.size),h.d⟩
theorem Io.mid (h:Io V L p r g w w1 W) (o:Nat) (vs:List Value):Io V (GR.setRun L o vs) p r g w w1 (W.setCells g o vs):=
 h.put (dz _ _ _ _) (by rw [lU];exact GR.setW_blk vs h.ho)
theorem Io.one (h:Io V L p r g w w1 W) (i:Nat) (v:Value):Io V (L.set i v) p r g w w1 (W.setCell ⟨g,i,none⟩ v):=
 h.put (aA.set v) (by have:=aP h.ho i v;simpa using this)
theorem Io.cp (h:Io V L p r g w w1 W) (i:Nat):W.cell? ⟨p,i,none⟩=V[i]?:=by rw [aE1 W _ _ _ _ (0,0) h.hp];simp
theorem Io.co (h:Io V L p r g w w1 W) (i:Nat):W.cell? ⟨g,i,none⟩=L[i]?:=by rw [aE1 W _ _ _ _ (0,0) h.ho];simp
theorem Io.there (h:Io V L p r g w w1 W) (o n:Nat) (hn:o+n<=L.length):W.there g o n:=λj hj=>⟨by rw [aE1 W _ _ _ _ (0,0) h.ho];simp;omega,aC h.ho _⟩
theorem Io.ends (h:Io V L p r g w w1 W):aA [r] w1 (W.setCells r 0 L)/\Below p w (W.setCells r 0 L):=
 ⟨(aA.of_below h.k).trans (dz _ _ _ _),eZ (by have:=h.d.1;omega) _ _ _ _ h.b⟩
end
theorem GY (k c:Kp) (A:KA) (w:World) (hM:FoM k c) (hz:qd k 1048576) (ha:jw w A k):
 Calls prog 18 #[Jg k A] w λe w'=>∃A',e= .returned (Jg c A')/\jw w' A' c/\Below w.heap.size w w':=by
 have BP:=Hq (λX (h:Below w.heap.size w X)=>kZ k.node A.n X hz.n (ha.below h).kn);have HCK:=Hq (λX (h:Below w.heap.size w X)=>UR k A X hz (ha.below h));have nH:=Hq (λX (h:Below w.heap.size w X)=>Nt k A X hz (ha.below h));unfold Lg at HCK;have hlg:(k.log.size:Int)<=1048576:=by have:=hz.l;omega
 obtain⟨V,hV⟩:∃V,BX V k A:=⟨_,rfl⟩;rw [hV.agg] at HCK nH ⊢;obtain⟨Wz,hR0,hB0⟩:=gH w (.cells V.toArray 43) (.cells Sq 43);have Xw:=Hq (show V=yJ k A from hV);have HVL:=Hq hV.len;clear hV;go_in
 go_upto_region 1 with fail;refine wp_at (λW0 hW=>?_);have HP0:=Hq (show W0.heap[w.heap.size]?=some (.cells V.toArray 43 (0,0)) from by rw [hW];exact Wz);have VB:=Hq (show W0.heap[w.heap.size+1]?=some (.cells Sq 43 (0,0)) from by rw [hW];exact hR0);have HB0:=Hq (show Below w.heap.size w W0 from by rw [hW];exact hB0);clear hW Wz hR0 hB0;generalize hp:w.heap.size=p at *;have hp:∀W,aH w W=Below p w W:=λW=>by show Below (w.heap.size) w W=_;rw [hp]
 have hpr:p < p+1:=Aaa
 generalize hr:p+1=r at *;have hrs:=ay VB;refine aFm ?_;show wpList _ _ _ [_,_,_,_] _ _
 refine oH Aad (.tmp 1) rfl p rfl V HVL (KR.blk HP0) ?_;go_wp2_with fail;refine(HCK W0 HB0).mono ?_;rintro e w1 ⟨A1,rfl,h1,hb⟩;have HA1:=Hq (show∀y,aA [r] w1 y->jw y A1 k from λy hk=>h1 y ⟨[r],hk,λx hx=>by rw [aE6.1 hx];exact hrs⟩);have hr1:r < w1.heap.size:=aEZ hrs hb.size;have wH:=Hq (aj HP0 hb);have HR1:=Hq (aj VB hb);have HB1:=Hq (show Below p w w1 from HB0.trans (hb.mono Aaa));clear h1 hb HCK HP0 VB HB0 hrs;obtain⟨VC,T9⟩:∃V,BX V k A1:=⟨_,rfl⟩;have OO:=Hq T9;rw [T9.agg];clear T9;rename_i qC
 refine qC _ _ ?_;clear qC;refine aFi Aad (λK hK=>?_);go_simp;refine hK _ _ ?_;clear hK K;refine uT Aad (.tmp 3) (.tmp 5) rfl w1.heap.size rfl VC rfl OO.len OO.one Aad (aEP w1 _) (λW2 hW _=>?_);have hk:aH w1 W2:=by subst hW;exact eZ (aER _) _ _ _ _ (au w1 _)
 have HS2:=Hq (show Io V VC p r w1.heap.size w w1 W2 from⟨aj wH hk,aj HR1 hk,by
  rw [hW,lU]
  exact KU VC _ (by rw [(ah OO).len];rfl) (aEP w1 (.cells Sq 43)),HB1.trans (hk.mono Aaa),hk,hpr,hr1,aER _⟩)
 clear hW hk wH HR1 HB1;generalize w1.heap.size=s1 at *;clear hz ha;go_upto_region 2 with fail;refine aFm ?_;show wpList _ _ _ [_,_,_,_,_,_,_,_,_,_,_] _ _
 refine oH Aad (.tmp 1) rfl p rfl V HVL (KR.blk HS2.hp) ?_;go_wp2_with fail;refine(nH W2 HS2.b).mono ?_;rintro e w3 ⟨⟨b,rfl,hb⟩,hy⟩;have vQ:=Hq (HS2.step (hy.mono (aER _)));have HBO:=Hq hb;clear hb hy HS2 nH;have p18:w3.cell? ⟨p,18,none⟩=some (.string k.log):=(vQ.cp 18).trans (by rw [ah Xw];rfl);have p19:w3.cell? ⟨p,19,none⟩=some (.int .i64 k.safe):=(vQ.cp 19).trans (by rw [ah Xw];rfl);rcases hM with⟨⟨hok,hsl⟩,rfl⟩|⟨hno,rfl⟩
 case' inr=>
  have hbb:b=false\/(b=true/\(c.safe != (c.log.size:Int))=true):=by
   cases b
   .exact .inl rfl
   .exact .inr ⟨rfl,by simpa using λh=>hno ⟨HBO.1 rfl,h⟩⟩
  clear HBO hno BP
  rcases hbb with rfl|⟨rfl,hq⟩
  .go_upto_region 3 with fail;clear p18 p19;exact axO
  .go_upto_region 3 with fail;clear p18 p19 hq;exact axO
 obtain rfl:b=true:=HBO.2 hok;have hq:(k.safe != (k.log.size:Int))=false:=by simpa using hsl
 obtain⟨_,hr1⟩:=oI (k:=k) (A:=A) (show w3.heap[p]?=some (.cells (yJ k A).toArray 43 (0,0)) from by rw [show yJ k A=V from(ah Xw).symm];exact vQ.hp);go_upto_region 4 with fail;refine aFm ?_;show wpList _ _ _ [_,_,_,_,_] _ _
 clear p18 p19 hq HBO;open apA in exact SY
theorem uO (k:Kp) (A:KA) (hz:qd k maxLen) (E:Nat->Addr) (w:World) (ha:jw w A k) (he:iy w E) (hH:Handle w):
 Calls prog 4 #[Jg k A] w (dU w (.bool true)):=by
 obtain⟨V,hV⟩:∃V,BX V k A:=⟨_,rfl⟩;have wJ:=Hq (λW (h:jw W A k)=>hV.agg▸adD k A 1048576 W Aaa Aaa hz h);have Og:=Hq (λW (h:jw W A k) (hz:qd k 1048576)=>hV.agg▸ZO k A W hz h);obtain⟨c,hc⟩:∃c,FoM k c:=FoM.some k;have HCZ:=Hq (fun(hz:qd k 1048576)=>ae0 hz hc);have Sg:=Hq (λA' W (h:jw W A' k) (hz:qd k 1048576)=>GY k c A' W hc hz h);have HIM:=Hq (λA' W (h:jw W A' k) (he:iy W E) (hH:Handle W) (hz:qd k 1048576)=>FT k c A' E W hc hz h he hH);unfold Sr at HIM;have hL0:=au w (.cells V.toArray 32);have Il:=Hq (show HW w (λY=>KR Y w.heap.size V/\jw Y A k/\iy Y E/\Handle Y) (w.alloc (.cells V.toArray 32)) from⟨hL0,λY hy=>⟨(KR.blk (aEP w (.cells V.toArray 32))).below hy,(ha.below hL0).below hy,(he.below hL0).below hy,(hH.below hL0).below hy⟩⟩);have HV:=Hq hV.len;rw [hV.agg];clear hz ha he hH hV hL0 hc;go_in
 go_upto_region 2 with fail;refine aFm ?_;show wpList _ _ _ [_,_,_,_] _ _
 refine MO Aad (.tmp 1) rfl w.heap.size rfl V HV Il.now.1 ?_;go_wp2_with fail;refine(wJ _ Il.now.2.1).mono ?_;rintro e w1 ⟨r,rfl,hcase,hb⟩;have zJ:=Hq (Il.step hb);clear hb Il wJ;rcases hcase with rfl|⟨z0,z1,hz⟩
 case' inl=>
  go_wp2_with fail;go_ret;exact⟨rfl,zJ.b⟩
 have hzn:decide (r < 0)=false:=aES Aaa;have HZ:=Hq hz;have HC:=Hq (HCZ hz);clear hz z0 z1 HCZ;go_upto_region 5 with fail;refine aFm ?_;show wpList _ _ _ [_,_,_,_,_] _ _
 refine MO Aad (.tmp 1) rfl w.heap.size rfl V HV zJ.now.1 ?_;go_wp2_with fail;refine(Og _ zJ.now.2.1 HZ).mono ?_;rintro e w2 ⟨A2,Q1,Q2,qw,qa,rfl,ha2,hq,hb⟩;have HS2:=Hq (zJ.step hb);have ajI:=Hq (Sg A2 w2 ha2 HZ);clear hb hq ha2 zJ hzn Sg;obtain⟨V2,hV2⟩:∃V,BX V k A2:=⟨_,rfl⟩;rw [hV2.agg] at ajI;rw [hV2.agg];clear hV2;rename_i qC
 refine qC _ _ ?_;clear qC;go_wp2_with fail;refine ajI.mono ?_;rintro e w3 ⟨S1,rfl,hs1,hb⟩;have vQ:=Hq ((HS2.step hb).add (λY=>jw Y S1 c) (λY hy=>hs1.below hy));clear hb hs1 HS2 ajI;obtain⟨VS,hVS⟩:∃V,BX V c S1:=⟨_,rfl⟩;have HVS:=Hq hVS;rw [hVS.agg];clear hVS;rename_i qC
 refine qC _ _ ?_;clear qC;refine aFi Aad (λK hK=>?_);go_simp;refine hK _ _ ?_;clear hK K;refine uT Aad (.tmp 4) (.tmp 18) rfl w3.heap.size rfl VS rfl HVS.len HVS.one Aad (aEP w3 _) (λW3 hW hR=>?_);have hk:aH w3 W3:=by subst hW;exact eZ (aER _) _ _ _ _ (au w3 _)
 have HA:=Hq ((vQ.step hk).add (λY=>KR Y w3.heap.size VS) (λY hy=>hR.below hy));clear hW hR hk vQ;generalize w3.heap.size=g4 at *;have HX0:=Hq (show HW W3 (λ_=>True) W3 from⟨aE3 _ _,λ_ _=>trivial⟩);have IE:=Hq (λY (h:aH W3 Y)=>HA.p Y h);have HB:=Hq HA.b;clear HA;have Sv:=Hq (λW A' V' (hv:BX V' c A') (h:aH W3 W) (h1:jw W A' c)=>show Calls prog 9 #[.agg V'.toArray,.agg VS.toArray] W _ from by rw [<-hv.agg,<-(ah HVS).agg];exact Pt c A' S1 W HC h1 (IE W h).1.2);go_upto_region 6 with fail;refine aFm ?_;show wpList _ _ _ [_,_,_,_] _ _
 refine MO Aad (.tmp 1) rfl w.heap.size rfl V HV (IE W3 HX0.b).1.1.1 ?_;go_wp2_with fail;refine(Og _ (IE W3 HX0.b).1.1.2.1 HZ).mono ?_;rintro e w4 ⟨AX,X1,X2,xw,xa,rfl,hx,hxo,hb⟩;have zK:=Hq ((HX0.step hb).add (λY=>jw Y AX k/\Eu W3.heap.size w4.heap.size Y AX k X1 X2 xw xa) (λY hy=>⟨hx.below hy,hxo.below hy⟩));clear hb hx hxo HX0;obtain⟨VX,hVX⟩:∃V,BX V k AX:=⟨_,rfl⟩;have HVX:=Hq hVX;rw [hVX.agg];clear hVX;rename_i qC
 refine qC _ _ ?_;clear qC;refine aFi Aad (λK hK=>?_);go_simp;refine hK _ _ ?_;clear hK K;refine uT Aad (.tmp 5) (.tmp 20) rfl w4.heap.size rfl VX rfl HVX.len HVX.one Aad (aEP w4 _) (λW5 hW hR=>?_);have hk:aH w4 W5:=by subst hW;exact eZ (aER _) _ _ _ _ (au w4 _)
 have JV:=Hq ((zK.step hk).add (λY=>KR Y w4.heap.size VX) (λY hy=>hR.below hy));have h45:w4.heap.size < W5.heap.size:=hR.l;have h35:W3.heap.size<=W5.heap.size:=JV.b.size;clear hW hR hk zK;generalize w4.heap.size=gx at *;have alZ:=Hq (λW (h:jw W AX k) (he:iy W E) (hH:Handle W)=>HVX.agg▸ah HIM AX W h he hH HZ);go_upto_region 7 with fail;refine aFm ?_;show wpList _ _ _ [_,_,_,_] _ _
 refine oH Aad (.tmp 5) rfl gx rfl VX HVX.len JV.now.2 ?_;go_wp2_with fail;refine(alZ _ JV.now.1.2.1 (IE W5 JV.b).1.1.2.2.1 (IE W5 JV.b).1.1.2.2.2).mono ?_;rintro e w6 ⟨B1,H1,H2,yw,ya,rfl,hgo,hb⟩;have Lv:=Hq ((JV.step hb).add (λY=>Eu W5.heap.size w6.heap.size Y B1 c H1 H2 yw ya) (λY hy=>hgo.below hy));have h56:W5.heap.size<=w6.heap.size:=hb.size;clear hb hgo JV alZ;obtain⟨VG,hVG⟩:∃V,BX V c B1:=⟨_,rfl⟩;have HVG:=Hq hVG;rw [hVG.agg];clear hVG;rename_i qC
 refine qC _ _ ?_;clear qC;refine aFi Aad (λK hK=>?_);go_simp;refine hK _ _ ?_;clear hK K;refine uT Aad (.tmp 6) (.tmp 22) rfl w6.heap.size rfl VG rfl HVG.len HVG.one Aad (aEP w6 _) (λW7 hW hR=>?_);have hk:aH w6 W7:=by subst hW;exact eZ (aER _) _ _ _ _ (au w6 _)
 have HX4:=Hq ((Lv.step hk).add (λY=>KR Y w6.heap.size VG) (λY hy=>hR.below hy));clear hW hR hk Lv;generalize w6.heap.size=gg at *;have hgg:gg < W7.heap.size:=HX4.now.2.l;go_upto_region 8 with fail;refine aFm ?_;show wpList _ _ _ [_,_,_,_] _ _
 refine oH Aad (.tmp 6) rfl gg rfl VG HVG.len HX4.now.2 ?_;refine oH Aad (.tmp 4) rfl g4 rfl VS HVS.len (IE W7 HX4.b).2 ?_;go_wp2_with fail;refine(Sv _ _ VG HVG HX4.b HX4.now.1.2.at).mono ?_;rintro e w8 ⟨rfl,hb⟩;have HX5:=Hq (HX4.step hb);clear hb HX4;have HEX:=Hq (λW A' V' (hv:BX V' k A') (h1:jw W AX k) (h2:jw W A' k)=>show Calls prog 9 #[.agg VX.toArray,.agg V'.toArray] W _ from by rw [<-(ah HVX).agg,<-hv.agg];exact Pt k AX A' W HZ h1 h2);have HVL:=Hq HVX.len;go_upto_region 10 with fail;refine bZ Aab ?_;show iZ _ _ _ _ 5 (Array.replicate 5 false) _ _
 refine l7 0 rfl Aab Aab Aab (λ_ _ _ _ h=>h) Aad 43 _ rfl gx 0 rfl VX _ HX5.now.1.1.2.r HX5.now.1.1.2.l underlying43 rfl (by rw [ah HVL];kernel_rfl) ?_;refine l7 1 rfl Aab Aab Aab (λ_ _ _ _ h=>h) Aad 32 _ rfl w.heap.size 0 rfl V _ (IE _ HX5.b).1.1.1.r (IE _ HX5.b).1.1.1.l underlying32 rfl (by rw [ah HV];kernel_rfl) ?_;refine fP 2 rfl Aab Aad (λx2 hx2=>?_);go_simp;refine(Og x2 (IE _ (HX5.step hx2).b).1.1.2.1 HZ).mono ?_;rintro e z2 ⟨A7,R1,R2,rw1,ra1,rfl,ha7,hq,hy2⟩;refine⟨hy2,?_⟩;obtain⟨V7,hV7⟩:∃V,BX V k A7:=⟨_,rfl⟩;have HV7:=Hq hV7;rw [hV7.agg];have HA7:=Hq ha7;have HX6:=Hq ((HX5.step hx2).step hy2);clear ha7 hq hx2 hy2 hV7 HX5;refine fP 3 rfl Aab Aad (λx3 hx3=>?_);go_simp;refine(HEX x3 A7 V7 HV7 (HX6.step hx3).now.1.1.1.2.1 (HA7.below hx3)).mono ?_;rintro e z3 ⟨rfl,hy3⟩;refine⟨hy3,?_⟩;have HX7:=Hq ((HX6.step hx3).step hy3);clear hx3 hy3 HA7 HX6 HEX HV7;refine tk [4] ?_;(refine lW (λK hK=>?_);go_simp;first|refine hK _ ?_|(apply Exists.intro;refine⟨λ_=>?_,hK _ ?_⟩;rfl);clear hK K)
 refine jh ?_;refine dW Aab (λz hz=>?_);have HX8:=Hq (HX7.step hz);have hg8:gg < z.heap.size:=HX8.now.2.l;have h38:=HX8.b.size;clear hz HX7 HVL;go_upto_region 13 with fail;refine aFm ?_;show wpList _ _ _ [_,_,_,_] _ _
 refine oH Aad (.tmp 5) rfl gx rfl VX HVX.len HX8.now.1.1.2 ?_;have HMK:=Hq (Du k AX X1 X2 xw xa W3.heap.size gx z HZ HX8.now.1.1.1.2.2 Aaa);rw [(ah HVX).agg] at HMK;go_wp2_with fail;refine HMK.mono ?_;rintro e wa ⟨rfl,hq,hk⟩;have hrx:=HX8.now.1.1.1.2.2.r;have HY0:=Hq (show HW W3 (λY=>Eu W5.heap.size gg Y B1 c H1 H2 yw ya/\KR Y gg VG) wa from⟨HX8.b.trans (hk.below (λx hx=>(hrx x hx).1) h38),λY hy=>⟨(HX8.now.1.2.keeps hk (λx hx=>by have:=hrx x hx;omega)).below hy,(HX8.now.2.keeps hk (λhm=>by have:=hrx _ hm;omega)).below hy⟩⟩);have gE:decide (((eKp k:Nat):Int) < 0)=false:=Aac
 clear hk hq hrx HMK HX8;go_upto_region 14 with fail;refine aFm ?_;show wpList _ _ _ [_,_,_,_,_,_,_,_] _ _
 refine aFi Aad (λK hK=>?_);go_simp;refine hK _ _ ?_;clear hK K;refine aFi Aad (λK hK=>?_);go_simp;refine hK _ _ ?_;clear hK K;refine aFi Aad (λK hK=>?_);go_simp;refine hK _ _ ?_;clear hK K;refine oH Aad (.tmp 6) rfl gg rfl VG HVG.len HY0.now.2 ?_;refine oH Aad (.tmp 4) rfl g4 rfl VS HVS.len (IE wa HY0.b).2 ?_;go_wp2_with fail;refine(Sv _ _ VG HVG HY0.b HY0.now.1.at).mono ?_;rintro e wb ⟨rfl,hb⟩;have XH:=Hq (HY0.step hb);have hgb:gg < wb.heap.size:=XH.now.2.l;have h3b:=XH.b.size;clear hb HY0 gE;go_upto_region 17 with fail;refine aFm ?_;show wpList _ _ _ [_,_,_,_] _ _
 refine oH Aad (.tmp 6) rfl gg rfl VG HVG.len XH.now.2 ?_;have HMK:=Hq (Du c B1 H1 H2 yw ya W5.heap.size gg wb HC XH.now.1 Aaa);rw [(ah HVG).agg] at HMK;go_wp2_with fail;refine HMK.mono ?_;rintro e wc ⟨rfl,hM,hk⟩;have hrx:=XH.now.1.r;have HY2:=Hq (show HW W3 (λY=>MKR Y B1 c H1 H2 yw ya/\KR Y gg VG) wc from⟨XH.b.trans (hk.below (λx hx=>by have:=hrx x hx;omega) h3b),λY hy=>⟨hM.below hy,(XH.now.2.keeps hk (λhm=>by have:=hrx _ hm;omega)).below hy⟩⟩);have HHK:=Hq (λW (h:MKR W B1 c H1 H2 yw ya)=>show Calls prog 15 #[.agg VG.toArray,.int .i64 1] W _ from by rw [<-(ah HVG).agg];exact PG c B1 H1 H2 yw ya W HC h);have gE2:decide (((eKp c:Nat):Int) < 0)=false:=Aac
 clear hk hrx hM HMK XH;generalize eKp c=EC at *;have gE3:(((EC:Nat):Int) != ((EC:Nat):Int))=false:=Aac
 go_upto_region 19 with fail;refine aFm ?_;show wpList _ _ _ [_,_,_,_] _ _
 refine oH Aad (.tmp 6) rfl gg rfl VG HVG.len HY2.now.2 ?_;go_wp2_with fail;refine(HHK wc HY2.now.1).mono ?_;rintro e wd ⟨rfl,hb⟩;have HY3:=Hq (HY2.step hb);clear hb HY2;go_upto_region 24 with fail;refine aFm ?_;show wpList _ _ _ [_,_,_,_,_] _ _
 refine MO Aad (.tmp 1) rfl w.heap.size rfl V HV (IE wd HY3.b).1.1.1 ?_;go_wp2_with fail;refine(Og _ (IE wd HY3.b).1.1.2.1 HZ).mono ?_;rintro e we ⟨A9,T1,T2,tw,ta,rfl,ha9,hq,hb⟩;have HY4:=Hq (HY3.step hb);have ajs:=Hq (HIM A9 we ha9 (IE we HY4.b).1.1.2.2.1 (IE we HY4.b).1.1.2.2.2 HZ);clear hb hq ha9 HY3 HIM;obtain⟨V9,hV9⟩:∃V,BX V k A9:=⟨_,rfl⟩;rw [hV9.agg] at ajs;rw [hV9.agg];clear hV9;rename_i qC
 refine qC _ _ ?_;clear qC;go_wp2_with fail;refine ajs.mono ?_;rintro e wf ⟨D1,F1,F2,fw,fa,rfl,hho,hb⟩;have HY5:=Hq ((HY4.step hb).add (λY=>jw Y D1 c) (λY hy=>(hho.below hy).at));clear hb hho HY4 ajs;obtain⟨VH,hVH⟩:∃V,BX V c D1:=⟨_,rfl⟩;have HVH:=Hq hVH;rw [hVH.agg];clear hVH;rename_i qC
 refine qC _ _ ?_;clear qC;refine aFi Aad (λK hK=>?_);go_simp;refine hK _ _ ?_;clear hK K;refine uT Aad (.tmp 10) (.tmp 56) rfl wf.heap.size rfl VH rfl HVH.len HVH.one Aad (aEP wf _) (λWg hW hR=>?_);have hk:aH wf Wg:=by subst hW;exact eZ (aER _) _ _ _ _ (au wf _)
 have HY6:=Hq ((HY5.step hk).add (λY=>KR Y wf.heap.size VH) (λY hy=>hR.below hy));clear hW hR hk HY5;generalize wf.heap.size=gh at *;go_upto_region 25 with fail;refine aFm ?_;show wpList _ _ _ [_,_,_,_] _ _
 refine oH Aad (.tmp 10) rfl gh rfl VH HVH.len HY6.now.2 ?_;refine oH Aad (.tmp 4) rfl g4 rfl VS HVS.len (IE Wg HY6.b).2 ?_;go_wp2_with fail;refine(Sv _ _ VH HVH HY6.b HY6.now.1.2).mono ?_;rintro e wh ⟨rfl,hb⟩;have HY7:=Hq (HY6.step hb);clear hb HY6;go_upto_region 28 with fail;refine aFm ?_;show wpList _ _ _ [_,_,_,_] _ _
 refine oH Aad (.tmp 6) rfl gg rfl VG HVG.len HY7.now.1.1.2 ?_;go_wp2_with fail;refine(HHK wh HY7.now.1.1.1).mono ?_;rintro e wi ⟨rfl,hb⟩;have HY8:=Hq (HY7.step hb);clear hb HY7;go_wp2_with fail;go_ret;exact⟨rfl,HB.trans (HY8.b.mono HB.size)⟩
end Go.Proofs.YtbolgdleijjgfaaGreatDoor
