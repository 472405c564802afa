/-
  Parts of proofs that stand more than once, each said once.
-/
import Derived.Test.YtohmklmkjmlpjaaGreatDoorRcZ4
namespace Go.Proofs.YtohmklmkjmlpjaaGreatDoor
open Go.Proofs.Tryz
set_option maxRecDepth 100000
variable{P:Prop}
theorem awP.AbS(h:P:=by
 have uo:=Hq (jl.trans (hz.mono jl.size));exact AaM):P:=h
theorem awQ.AbS(h:P:=by
 have HZ:=Hq ((ay w (.cells (bX mK mF mT mI mL mk mN) 98)).trans (hz.mono Aac));clear hz y0 y1 y2 y3 y4 y5 y6 y7 y8 z1 z2 Tg;go_simp;go_wp2_with fail;go_ret;exact⟨rfl,HZ⟩):P:=h
theorem ahM(h:P:=by
 go_in
 go_wp2_with (first|(go_at_call 100;refine(nV _ true _ h1).mono ?_;rintro e w1 ⟨rfl,rfl⟩)|(go_at_call 18;refine(yQ _ _ _ true _ h2).mono ?_;rintro e w1 ⟨rfl,rfl⟩))
 exact AdU):P:=h
theorem awR.AdU(h:P:=by
 go_loopw [3] (λi wr=>∃k:Nat,k<=kids.length/\i= .int .i64 k/\iA (kW id par) iX (kids.take k)=true/\wr.heap[w.heap.size]?=some (.cells (dG ⟨id,par,kids,next,pu,out,seen,old,reqs⟩ ⟨ak,ap,ao,as',ar,ck,cp,co,cs,cr⟩) 40 (0,0))/\aI w wr) (λi _=>kids.length - (intOf i).toNat)
 case atStart=>exact⟨0,aGB _,rfl,rfl,aGg w _,ay w _⟩
 case round=>
  open asR in exact Wi):P:=h
theorem awS.AdU(h:P:=by
 exact xQ):P:=h
theorem ahN(h:P:=by
 obtain⟨rl,rb⟩:=r;dsimp only at HZ ⊢;refine aG 21 rfl Aab Aad ?_;go_simp;refine aG 22 rfl Aab Aad ?_;go_simp;refine wpAny_done Aab ?_;go_simp;exact Aek):P:=h
theorem awT.Aek(h:P:=by
 cases rb
 .go_wp2_with fail;go_ret;exact⟨rfl,⟨A',G',c',HZ.wk,HZ.bk,HZ.si.mono (Nat.le_succ k),HZ.cs,HZ.cm⟩,λj o h1 _ h3=>HKO j o h1 h3⟩
 .obtain⟨⟨p0,p1,p2,p3,p4,p5,p6⟩,_⟩:=eT yG;obtain⟨⟨d0,d1⟩,_⟩:=mV HZ.bk;have hsl2:=aA HZ.bk;have alK:=aA yG;have hI1:fJ z2.drew mb k l:=HZ.si.kept rfl;obtain⟨z3,hrun,hI3,hK3⟩:=hI1.store mI hi0 hi1 Aai;have HR:=Hq (HZ.put hI3 (Keeps.trans (b:=z2.drew) (Keeps.of_below (aGs _ _).drew) hK3))
  have XA:Hid (∀j o,j≠wb->j≠mb->w.heap[j]?=some o->z3.heap[j]?=some o):=λj o h1 h2 h3=>by
   have h4:=ah HKO j o h1 h3
   rw [hK3.block j (aA h4) h2]
   exact h4
  clear hI1 hI3 hK3 yG;go_wp2_with fail;go_region
  all_goals
   go_wp2_with fail
   go_ret
   exact⟨rfl,⟨A',G',c',HR⟩,XA⟩):P:=h
theorem awU.Aek(h:P:=by
 cases rb
 all_goals
  go_wp2_with fail
  go_ret
  exact⟨rfl,A',G',c',HZ⟩):P:=h
theorem ahO(h:P:=by
 have cO:∀d os,Calls prog 202 #[xW ⟨pk,pm,pf,ps⟩] (Sort.grow (redrawn V d) os) λe w''=>e= .returned (.bool false)/\∃p:Regrown,w''=Sort.grow (redrawn V p.d) p.os:=λd os=>aG6 (HO _)
 exact Ad6):P:=h
theorem awV.Ad6(h:P:=by
 open av8 in exact OZ):P:=h
theorem awW.Ad6(h:P:=by
 exact azC):P:=h
theorem aaZ(h:P:=by
 rename_i uO
 refine uO _ _ ?_;clear uO;refine aGP Aad (λK hK=>?_);go_simp;refine hK _ _ ?_;clear hK K;exact AbR):P:=h
theorem awX.AbR(h:P:=by
 refine aIl rfl 40 (.tmp 7) (.tmp 6) rfl (w.heap.size+1+1) 0 (dG k.base A1) rfl rfl (LC.there 0 9 (aGw Aab)) Aab Aab ?_;have BK:=Hq (LC.mid 0 (dG k.base A1).toList);clear LC;generalize World.setCells _ _ _ _=W1 at *;go_upto_region 3 with fail;open aqv in exact aeR):P:=h
theorem awY.AbR(h:P:=by
 refine aIl rfl 40 (.tmp 11) (.tmp 10) rfl (w.heap.size+1+1) 9 (dG k.node A2) rfl rfl (LC.there 9 9 (aGw Aab)) Aab Aab ?_;have HS2:=Hq (LC.mid 9 (dG k.node A2).toList);clear LC;generalize World.setCells _ _ _ _=W1 at *;go_upto_region 4 with fail;have c18:World.cell? _ ⟨w.heap.size,18,none⟩=some (.string k.log):=(HS2.cell 18).trans Aab;have f18:=aj HS2.o 18;have o18:World.cell? _ ⟨w.heap.size+1+1,18,none⟩=some (.string ByteArray.empty):=(aGu _ _ 18 _ _ (0,0) HS2.o).trans Aab;go_upto_region 5 with fail;refine wp_at (λW hW=>?_);have ER:=Hq (hW.symm▸(ah HS2).one 18 (.string k.log));clear hW c18 f18 o18 HS2;have c19:World.cell? _ ⟨w.heap.size,19,none⟩=some (.int .i64 k.safe):=(ER.cell 19).trans Aab;have f19:=aj ER.o 19;have o19:World.cell? _ ⟨w.heap.size+1+1,19,none⟩=some (.int .i64 0):=(aGu _ _ 19 _ _ (0,0) ER.o).trans Aab;go_upto_region 6 with fail;refine wp_at (λW hW=>?_);have VW:=Hq (hW.symm▸(ah ER).one 19 (.int .i64 k.safe));clear hW c19 f19 o19 ER;have c20:World.cell? _ ⟨w.heap.size,20,none⟩=some (.slice A.wa k.wait.length A.wc):=(VW.cell 20).trans Aab;have f20:=aj VW.o 20;have o20:World.cell? _ ⟨w.heap.size+1+1,20,none⟩=some (.slice none 0 0):=(aGu _ _ 20 _ _ (0,0) VW.o).trans Aab;go_wp2_with fail;refine(H3 _ VW.b).mono ?_;rintro e x20 ⟨rfl,hN,hb⟩;have aAR:=VW.s;have HR3:=Hq (show s2<=W.heap.size from(VW.m _ (aC.refl _ _)).2.2);have LC:=Hq (VW.step hb (λW'=>GR.Blk jf 98 W' W.heap.size k.wait) (λW' hk=>hk.obj hN (λhm=>Acn)));clear hN hb VW H3 c20 f20 o20 aAR;generalize W.heap.size=g20 at *;have c20:World.cell? _ ⟨w.heap.size,20,none⟩=some (.slice A.wa k.wait.length A.wc):=(LC.cell 20).trans Aab;have f20:=aj LC.o 20;have o20:World.cell? _ ⟨w.heap.size+1+1,20,none⟩=some (.slice none 0 0):=(aGu _ _ 20 _ _ (0,0) LC.o).trans Aab;go_upto_region 7 with fail;refine wp_at (λW hW=>?_);have HS5:=Hq (hW.symm▸(ah LC).one 20 (.slice (some ⟨g20,0,none⟩) k.wait.length k.wait.length));clear hW c20 f20 o20 LC;have c21:World.cell? _ ⟨w.heap.size,21,none⟩=some (.slice A.aa k.asked.length A.ac):=(HS5.cell 21).trans Aab;have f21:=aj HS5.o 21;have o21:World.cell? _ ⟨w.heap.size+1+1,21,none⟩=some (.slice none 0 0):=(aGu _ _ 21 _ _ (0,0) HS5.o).trans Aab;go_wp2_with fail;refine(H4 _ HS5.b).mono ?_;rintro e x21 ⟨rfl,hN,hb⟩;have aAS:=HS5.s;have HR4:=Hq (show g20 < W.heap.size from aA (HS5.m _ (aC.refl _ _)).2);have LC:=Hq (HS5.step hb (λW'=>GR.Blk iF 120 W' W.heap.size k.asked) (λW' hk=>hk.obj hN (λhm=>Acn)));clear hN hb HS5 H4 c21 f21 o21 aAS;generalize W.heap.size=g21 at *;have c21:World.cell? _ ⟨w.heap.size,21,none⟩=some (.slice A.aa k.asked.length A.ac):=(LC.cell 21).trans Aab;have f21:=aj LC.o 21;have o21:World.cell? _ ⟨w.heap.size+1+1,21,none⟩=some (.slice none 0 0):=(aGu _ _ 21 _ _ (0,0) LC.o).trans Aab;go_upto_region 8 with fail;refine wp_at (λW hW=>?_);have HS6:=Hq (hW.symm▸(ah LC).one 21 (.slice (some ⟨g21,0,none⟩) k.asked.length k.asked.length));clear hW c21 f21 o21 LC;obtain⟨V,hV⟩:∃V,EU V k ⟨A1,A2,some ⟨g20,0,none⟩,k.wait.length,some ⟨g21,0,none⟩,k.asked.length⟩:=⟨_,rfl⟩;have HR:=Hq (KR.blk (V:=V) (show W.heap[w.heap.size+1+1]?=some (.cells V.toArray 44 (0,0)) from HS6.o.trans (by rw [show V=_ from hV];kernel_rfl)));have HV:=Hq hV;clear hV;refine aHf ?_;show wpList _ _ _ [_,_] _ _
 refine sZ Aad (.tmp 3) rfl (w.heap.size+1+1) rfl V HV.len HR ?_;refine Cq Aad (.tmp 2) (.tmp 26) rfl (w.heap.size+1) rfl V rfl HV.len HV.one Aad HS6.r (λW5 hW5 WL=>?_);have hk:aC [w.heap.size+1,w.heap.size+1+1] W W5:=by rw [hW5];exact(eP _ _ _ _).mono (λx hx=>by simp at hx;simp[hx])
 have hb:aI w W5:=by rw [hW5];exact gB Aaa _ _ _ _ HS6.b
 obtain⟨⟨⟨⟨_,q1,z1⟩,q2,z2⟩,q3⟩,q4⟩:=HS6.m W5 hk;have alx:=ah HR3;have aDS:=ah HR4;have aD1:=aA q4;obtain⟨hr2,hw1,hw2⟩:=ah HR2;have hr1:=HR1.1
 have HP:=Hq (show∃A' G1 G2 L,Ending.returned (Value.agg V.toArray)= .returned (SA k A')/\nu W5 A' k/\Tn w.heap.size W5.heap.size W5 A' k G1 G2 L/\aI w W5 from⟨_,G1,G2,[g20,g21],by rw [(ah HV).agg],⟨q1.at,q2.at,GR.Blk.at q3 dV,GR.Blk.at q4 dw⟩,
  ⟨q1,q2,HD1,HD2,λx h1 h2=>by have:=hr1 x h1;have:=hr2 x h2;omega,Wr.of_blk dV q3 (show g20∈[g20,g21] by simp),Wr.of_blk dw q4 (show g21∈[g20,g21] by simp),λx hx=>⟨λh1=>by have:=hr1 x h1;simp at hx;omega,λh2=>by have:=hr2 x h2;simp at hx;omega⟩,λx hx=>by
   rcases aGE.1 hx with hx|hx
   .have:=hr1 x hx;omega
   rcases aGE.1 hx with hx|hx
   .have:=hr2 x hx;omega
   .simp at hx;omega⟩,hb⟩)
 clear hW5 hk hb q1 q2 q3 q4 z1 z2 hr1 hr2 hw1 hw2 alx aDS aD1 HS6 HR HR1 HR2 HR3 HR4 HD1 HD2;go_wp2_with fail;exact aGn (v:= .agg V.toArray) (nW rfl _ _ (w.heap.size+1) V _ rfl WL.r underlying44 rfl (by rw [(ah HV).len];kernel_rfl)) rfl HP):P:=h
theorem awZ.AbR(h:P:=by
 refine aIl rfl 100 (.tmp 7) (.tmp 6) rfl (w.heap.size+1+1) 0 (opl x.o).toArray rfl rfl (BK.there 0 11 Aac) Aab Aab ?_;have HS2:=Hq (BK.mid 0 (opl x.o));clear BK;generalize World.setCells _ _ _ _=W1 at *;have c11:W1.cell? ⟨w.heap.size,11,none⟩=some (.int .i64 x.c):=(HS2.cell 11).trans Aab;have f11:=aj HS2.o 11;have o11:W1.cell? ⟨w.heap.size+1+1,11,none⟩=some (.int .i64 0):=(aGu _ _ 11 _ _ (0,0) HS2.o).trans Aab;go_upto_region 4 with fail;refine wp_at (λW hW=>?_);have ER:=Hq (hW.symm▸(ah HS2).one 11 (.int .i64 x.c));clear hW c11 f11 o11 HS2;obtain⟨L,hL⟩:∃L,L=iF x:=⟨_,rfl⟩;have VW:Hid (TO 87 120 (iF x) aeh w (λ_=>True) L W):=⟨ER.p,ER.r,ER.o.trans (by rw [hL];kernel_rfl),ER.b,λ_ _=>trivial⟩;have hl:L.length=12:=by rw [hL];rfl
 have h1:L.toArray.all (·.oneCell')=true:=by rw [hL];kernel_rfl
 have HQ:=Hq (show Ending.returned (.agg L.toArray)= .returned (anv x) by rw [hL]);have ht:W.there (w.heap.size+1) 0 12:=VW.thereR;clear ER hL;refine aHf ?_;show wpList _ _ _ [_,_] _ _
 refine aHV rfl 120 (.tmp 3) rfl (w.heap.size+1+1) 0 rfl L _ VW.rngO underlying120 rfl Acv ?_;refine aIl rfl 120 (.tmp 2) (.tmp 11) rfl (w.heap.size+1) 0 L.toArray rfl rfl (by simpa [hl] using ht) (by simp only[aHh,hl];kernel_rfl) h1 ?_;have hr:=World.rangeAt_setCells_same W (w.heap.size+1) 0 L (by rw [hl];exact ht);have hb:=VW.ends.2;go_wp2_with fail;exact aGn (v:= .agg L.toArray) (nW rfl _ _ (w.heap.size+1) L _ rfl hr underlying120 rfl Acv) rfl ⟨HQ,hb⟩):P:=h
theorem ahP(h:P:=by
 have cO:∀d os,Calls prog 202 #[xW ⟨pk,pm,pf,ps⟩] (Sort.grow (redrawn V d) os) λe w''=>e= .returned (.bool true)/\∃p:Regrown,w''=Sort.grow (redrawn V p.d) p.os:=λd os=>aG6 (HO _)
 exact AdY):P:=h
theorem aw0.AdY(h:P:=by
 exact Ac8):P:=h
theorem aw1.AdY(h:P:=by
 open av9 in exact OZ):P:=h
theorem ahQ(h:P:=by
 have hlit:(w.alloc (.cells #[] 108)).ownsRow w.heap.size 108 4 (.slice (some ⟨w.heap.size,0,none⟩) 0 0) 0 []:=aGY (base:=w.heap.size) (e:=108) (size:=4) w #[] 0 (aGh _) Aae rfl;exact Aet):P:=h
theorem aw2.Aet(h:P:=by
 cases a with
 |none=>
  have hl0:l=[]:=GR.none_nil ha;subst hl0;clear ha hlit;go_in
  exact TF
 |some x=>
  have HN:=Hq (aH.news (GR.At.below ha (dY w (.cells #[] 108))));clear ha;go_in
  open asq in exact ayW):P:=h
theorem aw3.Aet(h:P:=by
 cases a with
 |none=>
  obtain⟨h1,h2⟩:=hn rfl;have hl0:l=[]:=aGM h1;subst hl0 h2;go_in
  go_wp2_with (at_builtin;refine wpList_append_own_none rfl _ _ 35 rfl w.heap.size 108 i0 4 underlying35 hi _ 0 [] rfl hlit rfl ?_)
  go_ret;exact⟨_,rfl,(by intro h;cases h),hlit,dY w _⟩
 |some x=>
  have HN:=Hq (aH.news (GR.At.below ha (dY w (.cells #[] 108))));clear ha;go_in
  open asr in exact ayW):P:=h
theorem ahR(h:P:=by
 clear h1 h2;go_in
 go_wp2_with (first|(go_at_call_of 201 F;refine(H1 _).mono ?_;rintro e w1 ⟨rfl,rfl⟩)|(go_at_call_of 201 T;refine(H2 _).mono ?_;rintro e w1 ⟨rfl,rfl⟩))
 exact AcU):P:=h
theorem aw4.AcU(h:P:=by
 go_ret;exact⟨aF (by first|exact HP.symm|exact he.trans HP.symm),ay w _⟩):P:=h
theorem aw5.AcU(h:P:=by
 exact xQ):P:=h
theorem ahS(h:P:=by
 refine wp_at (λW1 hW1=>?_);have HW1:Hid (W1.heap[wr.heap.size]?=some (.cells #[.int .i64 fr,.int .i64 lo,.slice b ids.length c] 110 (0,0))):=Acf
 exact Aeg):P:=h
theorem aw6.Aeg(h:P:=by
 open aoP in exact aeQ):P:=h
theorem aw7.Aeg(h:P:=by
 have hbw:aI wr W1:=by rw [hW1];exact ay wr _
 have amJ:=Hq (kJ.trans (hbw.mono kJ.size));have HI1:=Hq (GR.At.below HI hbw);have p1:=(hbw.cell (p:=⟨g2,off2+k,none⟩) alB).trans p0;have rZ:=Hq (dS.trans (hbw.mono dS.size));clear hW1 hbw q0 q1 q2 p0 HI;obtain⟨d0,d1,d2⟩:=three HW1;have m0:=cell_grown' d0;have m1:=cell_grown' d1;have m2:=cell_grown' d2;have m3:=cell_grown' p1;by_cases h1:fr=y
 case' neg=>
  have hb1:(fr != y)=true:=Abc
  have HP:=Hq (show TT=false by rw [ah HD,aGi (ah zx h1)];rfl);clear h1 HST zx DV;refine aGH Aab Aab ?_;repeat (first|go_big_quiet_step (fail)|quiet_step (fail))
  exact ait
 have hb1:(fr != y)=false:=Abc
 cases h2:wu ⟨fr,lo,ids⟩
 case' false=>
  have HP:=Hq (show TT=false by rw [ah HD,ah DV h2];simp)
  have cS:=aj4 ⟨fr,lo,ids⟩ b c false W1 xU HI1 h2
  open awt in exact ahF
 have HG:=Hq (HST h1 h2);have cS:=aj4 ⟨fr,lo,ids⟩ b c true W1 xU HI1 h2;open aws in exact ahF):P:=h
theorem aa0(h:P:=by
 refine λx hx=>⟨λh=>Abz,λj hj=>⟨λe=>absurd (e▸hj) (hno listed hcl hr),λhjE=>?_⟩⟩
 exact AcP):P:=h
theorem aw8.AcP(h:P:=by
 by_cases hji:j=i
 .exact ajr
 .have h1:=((H x hx).2 j (ready_mono hj hji)).2 hjE;open aDm in exact aeN):P:=h
theorem aw9.AcP(h:P:=by
 by_cases hji:j=i
 .exact aje
 .have h1:=((H x hx).2 j (ready_mono hj hji)).2 hjE;open aDl in exact aeN):P:=h
theorem axa.AcP(h:P:=by
 by_cases hji:j=i
 .exact ajL
 .have h1:=((H x hx).2 j (ready_mono hj hji)).2 hjE;exact azx):P:=h
theorem ahT(h:P:=by
 rw [e1] at e2;injection e2 with e2
 injection e2 with e2 e3
 subst e2 e3 e1;have hgt:decide ((0:Int) < ((j+1:Nat):Int))=true:=aGk Aaa;exact Ae8):P:=h
theorem axb.Ae8(h:P:=by
 have iQ:Hid (iA (Cj lo) iX (ids.take (j+1+1))=(Cj lo ids[j+1]&&iX ids[j] ids[j+1])):=by
  have h:=wD (Cj lo) iX ids j hlm;rw [ah amz] at h;exact h
 clear hI3;generalize ids[j]=y at *;generalize ids[j+1]=x at *;cases h1:decide (lo<=x/\x<=1000000000)
 case' false=>
  exact ajR
 by_cases h2:y < x
 case' neg=>
  have hy:decide (x<=y)=true:=aGk Aaa;have HV:=Hq (HBM (by rw [ah iQ];simp[iX,h2]));exact azy
 have hy:decide (x<=y)=false:=aGi Aaa;have HV:=Hq (show iA (Cj lo) iX (ids.take (j+1+1))=true by rw [ah iQ];simp[Cj,h1,iX,h2]);open ap6 in exact akH):P:=h
theorem axc.Ae8(h:P:=by
 have iQ:Hid (iA (kW id par) iX (kids.take (j+1+1))=(kW id par kids[j+1]&&iX kids[j] kids[j+1])):=by
  have h:=ah EJ j hlt;rw [ah jG] at h;exact h
 clear Ow EJ su;generalize kids[j]=y at *;generalize kids[j+1]=x at *;open avK in exact ahu):P:=h
theorem ahU(h:P:=by
 rw [Mth.take_all s k hlt] at HA;have HF:Hid (Mth.keyOk s.data.toList=decide (1<=s.data.toList.length/\s.data.toList.length<=10)):=Mth.keyOk_all _ HA;rw [aW s] at HF;exact Afe):P:=h
theorem axd.Afe(h:P:=by
 by_cases hin:(1:Int)<=(s.size:Int)/\(s.size:Int)<=10
 .obtain⟨hi1,hi2⟩:=hin;exact aii
 .exact aii):P:=h
theorem axe.Afe(h:P:=by
 go_wp2
 go_ret;exact⟨aF (by rw [ah HF];simp;omega),rfl⟩):P:=h
theorem ahV(h:P:=by
 generalize l[k]=pu at *;have oN:=Hq (λw1=>FT pu w1 hkk);clear hkk;obtain⟨pk,pm,pf,ps⟩:=pu;exact Aeb):P:=h
theorem axf.Aeb(h:P:=by
 dsimp only at c0 c1 c2 c3 hf;go_wp2_with fail;refine(oN _).mono ?_;rintro e w1 ⟨rfl,hb1⟩;have hb2:=dS.trans ((Below.mono (Fo.one_block hb1).2.2 dS.size));have hB:w1.heap[w.heap.size]?=some (.cells (jh ⟨#[]⟩ 0 0 0) 108 (0,0)):=by rw [(Fo.one_block hb1).2.2.block _ afv];exact Hu
 have HB:=Hq hB;have HB2:=Hq hb2;obtain⟨⟨r0,r1,r2,r3⟩,s0,s1,s2,s3⟩:=gu hB;clear hB hb1 hb2;go_wp2_with fail;clear r0 r1 r2 r3;refine Fo.bodyPost_at (λW' hW'=>?_);obtain⟨⟨r0,r1,r2,r3⟩,_⟩:=gu (show W'.heap[w.heap.size]?=some (.cells (jh pk pm pf ps) 108 (0,0)) by rw [hW'];exact Fo.four_set HB);have hbb:aI w W':=by rw [hW'];exact Fo.four_below HB2 (aGh _)
 refine aGn (v:= .agg (jh pk pm pf ps)) (by simp[results,results240,go_sem,r0,r1,r2,r3]) rfl ⟨by rw [ah HX],hbb⟩):P:=h
theorem axg.Aeb(h:P:=by
 dsimp only at q0 q1 q2 q3;go_wp2_with fail;refine(oN _).mono ?_;rintro e w5 ⟨rfl,hb5⟩;obtain⟨_,_,hb6⟩:=Fo.one_block hb5;have iy:=Hq (xP.below HB hb6);have fZ:=Hq (dS.trans (hb6.mono dS.size));clear hb5 hb6 q0 q1 q2 q3;obtain⟨_,aFt,⟨s0,s1,s2,s3⟩,f0,f1,f2,f3⟩:=xP.four iy k hlt;go_wp2_with fail;go_roundw
 case rel=>
  have h:=xP.set iy k ⟨pk,pm,pf,ps⟩ hlt;rw [ah HSE] at h;exact⟨k+1,Aaa,Aaf,h,GR.setW_below (o:=k*4) hg (fD ⟨pk,pm,pf,ps⟩) fZ⟩
 case measure=>simp[intOf];omega):P:=h
theorem ahW(h:P:=by
 have HK:=Hq ((dW.of_below (ay w _)).trans hk1);have HR1:=Hq hr1;have HH1:=Hq (PY HH HK hg hge);clear hr1 hk1;go_wp2_with fail;refine(HGM _ HH1).mono ?_;rintro e w2 ⟨rfl,hb2⟩;exact AeG):P:=h
theorem axh.AeG(h:P:=by
 have HR2:=Hq (aK HR hb2);have HA2:=Hq (aK HR1 hb2);have uw:=Hq (HK.trans (dW.of_below hb2));have hz2:=dA HR2;have hz3:=dA HA2;clear hb2 HR HK HR1 HH1;go_upto_region 7 with fail;refine wp_at (λV hV=>?_);have HMV:Hid (V.heap[w2.heap.size]?=some (.cells (bX mK mF mT mI mL mk mN) 98 (0,0))):=by rw [hV];exact aGg w2 _
 have HRV:Hid (V.heap[w.heap.size]?=some (.cells (bX 0 0 0 0 0 ⟨#[]⟩ 0) 98 (0,0))):=by rw [hV];exact aK HR2 (ay w2 _)
 have HAV:Hid (jT V g s E):=by rw [hV];exact aK HA2 (ay w2 _)
 have HKV:Hid (dW g w V):=by rw [hV];exact uw.trans (dW.of_below (ay w2 _))
 clear hV HR2 HA2 uw;have Bw:=dA HMV;obtain⟨q0,q1,q2,q3,q4,q5,q6⟩:=uG HMV;obtain⟨⟨d0,d1,d2,d3,d4,d5,d6⟩,f0,f1,f2,f3,f4,f5,f6⟩:=eT HRV;go_wp2_with fail;refine iL (λW' hW'=>?_);obtain⟨⟨r0,r1,r2,r3,r4,r5,r6⟩,_⟩:=eT (show W'.heap[w.heap.size]?=some (.cells (bX mK mF mT mI mL mk mN) 98 (0,0)) by rw [hW'];exact uf HRV);have uO:dW g w W':=by rw [hW'];exact Dj HKV
 have hRR:jT W' g s E:=by rw [hW'];exact AY (Ne.symm hg2) HAV
 exact aGn (v:= .agg (bX mK mF mT mI mL mk mN)) Adn rfl ⟨rfl,hRR,uO⟩):P:=h
theorem axi.AeG(h:P:=by
 have HR2:=Hq (aK (aK HR1 hb2) (ay w2 (.cells (bX 0 0 0 0 0 ⟨#[]⟩ 0) 98)));have uw:=Hq (HK.trans (dW.of_below ((hb2.trans ((ay w2 (.cells (bX 0 0 0 0 0 ⟨#[]⟩ 0) 98)).mono hb2.size)))));clear hb2;go_wp2_with fail;refine(HF _ HR2).mono ?_;rintro e w3 ⟨rfl,rfl⟩;go_wp2_with fail;exact⟨rfl,⟨_,rfl⟩,uw⟩):P:=h
theorem ahX(h:P:=by
 have e2:b=g1:=by injection e1 with e1;injection e1 with e1 e2
 have e3:off=o1:=by injection e1 with e1;injection e1 with e1 e2
 subst e2 e3;exact AdT):P:=h
theorem axj.AdT(h:P:=by
 have HT:=Hq (aGt hlt);have Om:=Hq (λh2=>(place_at l pk k Aaa jG h2).1);clear s1 s2 s3 e1;cases hbl:Op.bytesLess l[k].k.toList pk.toList with
 |true=>
  clear Om;generalize l[k]=pu at *;obtain⟨qk,qm,qf,qs⟩:=pu;dsimp only at s0 hbl;go_wp2_with fail;go_quiet (fail);go_wp2
  go_roundw
  case rel=>
   refine⟨k+1,_,Aaa,Aaf,?_,rfl⟩;intro x hx;rw [ah HT] at hx;rcases aGE.1 hx with hx|hx
   .exact jG x hx
   .rw [aGA] at hx;subst hx;exact hbl
  case measure=>simp[intOf];omega
 |false=>
  have Sr:=Hq (Om (λ_=>hbl));clear Om HT;generalize l[k]=pu at *;obtain⟨qk,qm,qf,qs⟩:=pu;dsimp only at s0 hbl;exact ai2):P:=h
theorem axk.AdT(h:P:=by
 have hae:=hAe hlt;subst hae;have HF:=Hq hf;have hpos:decide (0 < l.length - place l pk)=true:=aGk Aaa;have aEm:0 < l.length - place l pk:=Aaa
 clear s1 s2 s3 e1 hf hAe hAd;generalize l[place l pk]=pu at *;obtain⟨qk,qm,qf,qs⟩:=pu;dsimp only at s0 HF;cases heq:qk.toList == pk.toList
 all_goals
  go_quiet (fail)
  go_wp2_with fail
  go_meet
  case rel=>exact⟨by rw [ah HF,heq],_,BR w1 _ _⟩):P:=h
theorem aa1(h:P:=by
 refine λx hx=>⟨λh=>Abz,λj hj=>⟨λe=>absurd (e▸hj) (hno listed hcl hr),λ_=>?_⟩⟩
 exact Ab8):P:=h
theorem axl.Ab8(h:P:=by
 by_cases hji:j=i
 .exact ajr
 .exact O6):P:=h
theorem axm.Ab8(h:P:=by
 by_cases hji:j=i
 .exact aje
 .exact O6):P:=h
theorem axn.Ab8(h:P:=by
 by_cases hji:j=i
 .exact ajL
 .exact O6):P:=h
theorem ahY(h:P:=by
 rintro e W1 ⟨rfl,hb1⟩;have lF:=Hq (au HN hb1);have rD:=Hq (au HR hb1);have HB1:=Hq (HB0.trans (hb1.mono HB0.size));have vZ:=Hq (Ig.kc (k:=9) (KC.of_below hb1) Aaa);exact Aey):P:=h
theorem axo.Aey(h:P:=by
 clear hb1 c0 c1 c2 c3 c4 c5 c6 c7 c8 hnl OL HN HR Ig HB0;exact Ab3):P:=h
theorem axp.Aey(h:P:=by
 clear hb1 c0 c1 c2 c3 c4 c5 c6 c7 c8 hnl JQ HN HR Ig HB0;exact Adr):P:=h
theorem Wt(h:P:=by
 refine aHo ?_;intro _ hw';obtain⟨⟨dq,osq⟩,hw''⟩:=hw';subst hw'';go_wp2_with fail;exact AbC):P:=h
theorem axq.AbC(h:P:=by
 go_roundw
 case rel=>exact⟨k+1,Aaa,Aaf,dS.trans ((aHr _ dq osq).mono dS.size)⟩
 case measure=>simp[intOf];omega):P:=h
theorem axr.AbC(h:P:=by
 go_roundw
 case rel=>exact⟨k+1,Aaa,Aaf,HG.1,HG.2,amJ.trans ((aHr _ dq osq).mono amJ.size)⟩
 case measure=>simp[intOf];omega):P:=h
theorem axt.AbC(h:P:=by
 go_ret;exact⟨aF HP.symm,rZ.trans ((aHr _ dq osq).mono rZ.size)⟩):P:=h
theorem axu.AbC(h:P:=by
 go_meet
 case rel=>exact yJ):P:=h
theorem ahZ(h:P:=by
 have HO:=Hq (show w1.ownsRow w.heap.size 108 4 v' l.length (GR.flat fD l) by simpa using hown');have hb:aI w w1:=(dY w _).grown hgrow Aac (λk hk=>Adb);exact AeF):P:=h
theorem axv.AeF(h:P:=by
 clear hown' hgrow hlit hnil;go_wp2
 go_ret;exact⟨_,rfl,HNN,HO,hb⟩):P:=h
theorem axw.AeF(h:P:=by
 clear hown' hgrow hlit;go_wp2
 go_ret;exact⟨_,rfl,HO,hb⟩):P:=h
theorem ah0(h:P:=by
 have g3:decide (yI ps 0 1000000000)=true:=aGk h3;have hA3:rz ps=true:=aGk h3;have e4:IntKind.i64.wrap (pf+ps)=pf+ps:=IntWalk.i64_in _ ⟨Aaa,Aaa⟩;exact AeW):P:=h
theorem axx.AeW(h:P:=by
 by_cases h4:0<=(pf+ps)/\(pf+ps)<=1000000000
 case' neg=>
  have hA:rz (pf+ps)=false:=aGi h4;have g4:decide (yI (pf+ps) 0 1000000000)=false:=aGi h4;have g5:=g4;rw [<-e4] at g4;exact aeZ
 have g4:decide (yI (pf+ps) 0 1000000000)=true:=aGk h4;have hA4:rz (pf+ps)=true:=aGk h4;have g5:=g4;rw [<-e4] at g4;have EL:=Hq (show oC l 0=true by rw [ah og];simp[iI,hkb,hA1,hA2,hA3,hA4]);clear og hA1 hA2 hA3 hA4;open aDg in exact akB):P:=h
theorem axy.AeW(h:P:=by
 by_cases h4:0<=(pf+ps)/\(pf+ps)<=1000000000
 case' neg=>
  have hA:rz (pf+ps)=false:=aGi h4;have g4:decide (yI (pf+ps) 0 1000000000)=false:=aGi h4;have g5:=g4;rw [<-e4] at g4;exact aeY
 have g4:decide (yI (pf+ps) 0 1000000000)=true:=aGk h4;have hA4:rz (pf+ps)=true:=aGk h4;have g5:=g4;rw [<-e4] at g4;have EL:=Hq (show oC l (j+1)=true by rw [ah og];simp[iI,hkb,hA1,hA2,hA3,hA4,ah hsl]);clear og hA1 hA2 hA3 hA4;open aDf in exact akB):P:=h
theorem ah1(h:P:=by
 go_wp2_with fail;refine(Oq _).mono ?_;rintro e w5 ⟨rfl,hb5⟩;have iy:=Hq (GR.Blk.stepW HB hb5);have fZ:=Hq (dS.trans (hb5.mono dS.size));exact AeR):P:=h
theorem axz.AeR(h:P:=by
 clear hb5 q0 q1 q2 q3 q4 q5 q6;obtain⟨s0,s1,s2,s3,s4,s5,s6⟩:=LJ iy k Aaa;have f0:=GR.Blk.free iy (k*7);have f1:=GR.Blk.free iy (k*7+1);have f2:=GR.Blk.free iy (k*7+2);have f3:=GR.Blk.free iy (k*7+3);have f4:=GR.Blk.free iy (k*7+4);have f5:=GR.Blk.free iy (k*7+5);have f6:=GR.Blk.free iy (k*7+6);go_wp2_with fail;go_roundw
 case rel=>
  have h:=GR.Blk.set iy dV k Aaa ⟨mK,mF,mT,mI,mL,mk,mN⟩;rw [ah TS] at h;exact⟨k+1,Aaa,Aaf,h,GR.setW_below (o:=k*7) (aGh w.heap.size) (jf ⟨mK,mF,mT,mI,mL,mk,mN⟩) fZ⟩
 case measure=>simp[intOf];omega):P:=h
theorem axA.AeR(h:P:=by
 clear hb5 q0 q1 q2 q3 q4 q5 q6 q7 q8 q9 Xk q11;obtain⟨s0,s1,s2,s3,s4,s5,s6,s7,s8,s9,s10,s11⟩:=Dy iy k Aaa;have f0:=GR.Blk.free iy (k*12);have f1:=GR.Blk.free iy (k*12+1);have f2:=GR.Blk.free iy (k*12+2);have f3:=GR.Blk.free iy (k*12+3);have f4:=GR.Blk.free iy (k*12+4);have f5:=GR.Blk.free iy (k*12+5);have f6:=GR.Blk.free iy (k*12+6);have f7:=GR.Blk.free iy (k*12+7);have f8:=GR.Blk.free iy (k*12+8);have f9:=GR.Blk.free iy (k*12+9);have f10:=GR.Blk.free iy (k*12+10);have f11:=GR.Blk.free iy (k*12+11);go_wp2_with fail;go_roundw
 case rel=>
  have h:=GR.Blk.set iy dw k Aaa ⟨⟨oK,QF,ok,on,⟨mK,mF,mT,mI,mL,mk,mN⟩⟩,ac⟩;rw [ah TS] at h;exact⟨k+1,Aaa,Aaf,h,GR.setW_below (o:=k*12) (aGh w.heap.size) (iF ⟨⟨oK,QF,ok,on,⟨mK,mF,mT,mI,mL,mk,mN⟩⟩,ac⟩) fZ⟩
 case measure=>simp[intOf];omega):P:=h
theorem ah2(h:P:=by
 have hl:=World.lt_of_cell h;have HG:=Hq (show Handle (w.alloc (.cells #[.int .i64 0] 274)) from h.below ((aGs _ _).alloc (aGh _) _));clear h;go_in
 exact Adx):P:=h
theorem axB.Adx(h:P:=by
 go_wp2_with (go_at_call 253;refine(PE _ w.heap.size (.int .i64 0) _ ⟨_,rfl⟩ (λtg t a old w h1 h2 h3=>ala p tg t a old w h1 h2 h3) HG ?_ ?_).mono ?_;(simp);(simp);rintro e w' ⟨rfl,hbel⟩)
 go_ret;exact⟨rfl,((aGs _ _).alloc (aGh _) _).trans hbel⟩):P:=h
theorem axC.Adx(h:P:=by
 go_wp2_with (go_at_call 253;refine(PE _ w.heap.size (.int .i64 0) _ ⟨_,rfl⟩ (λtg t a old w h1 h2 h3=>ak9 p tg t a old w h1 h2 h3) HG ?_ ?_).mono ?_;(simp);(simp);rintro e w' ⟨rfl,hbel⟩)
 go_ret;exact⟨rfl,((aGs _ _).alloc (aGh _) _).trans hbel⟩):P:=h
theorem ah3(h:P:=by
 obtain⟨v7,q7⟩:=aGT.1 (hcw 7 Aaa).1;have f7:=(hcw 7 Aaa).2;obtain⟨v8,q8⟩:=aGT.1 (hcw 8 Aaa).1;have f8:=(hcw 8 Aaa).2;exact Ae5):P:=h
theorem axD.Ae5(h:P:=by
 open aqm in exact ayB):P:=h
theorem axE.Ae5(h:P:=by
 open atF in exact agZ):P:=h
theorem ah4(h:P:=by
 obtain⟨v5,q5⟩:=aGT.1 (hcw 5 Aaa).1;have f5:=(hcw 5 Aaa).2;obtain⟨v6,q6⟩:=aGT.1 (hcw 6 Aaa).1;have f6:=(hcw 6 Aaa).2;exact AcS):P:=h
theorem axF.AcS(h:P:=by
 exact Ad4):P:=h
theorem axG.AcS(h:P:=by
 clear hcw;go_wp2_with fail;go_roundw
 case rel=>exact⟨k+1,_,Aaa,Aaf,rfl,by have:=ah HM;omega,oh.set (oh.set VN HS _ _) HS _ _⟩
 case measure=>simp[intOf];omega):P:=h
theorem ah5(h:P:=by
 rintro e w5 ⟨rfl,hb1⟩;have iy:=Hq (au nG hb1);have HL5:=Hq (Ie.trans (hb1.mono Ie.size));clear hb1 c0 c1 c2 c3 c4 c5 c6 c7 c8;obtain⟨c0,c1,c2,c3,c4,c5,c6,c7,c8⟩:=nine iy;exact AcW):P:=h
theorem axH.AcW(h:P:=by
 have HP:=Hq (show TT=RQ by rw [ah HD];simp[h1,h2,h3,h4,h5]);clear h1 h2 h3 h4 h5 HD;go_wp2_with fail;go_ret;exact⟨aF HP.symm,HL5⟩):P:=h
theorem axI.AcW(h:P:=by
 go_wp2_with fail;go_ret;exact⟨mQ Aaa,HL5⟩):P:=h
theorem aa3(h:P:=by
 generalize l[k]=pu at *;obtain⟨pk,pm,pf,ps⟩:=pu;dsimp only at c0 c1 c2 c3 hf;go_wp2_with fail;exact AcL):P:=h
theorem axJ.AcL(h:P:=by
 refine aGn (v:= .agg (jh pk pm pf ps)) (by simp[results,results151,go_sem]) rfl ⟨by rw [ah HX],?_⟩;exact(aGs _ _).alloc (aGh _) _):P:=h
theorem axK.AcL(h:P:=by
 go_roundw
 case rel=>exact⟨k+1,Aaa,Aaf,HX,by first|rfl|trivial⟩
 case measure=>simp[intOf];omega):P:=h
theorem axL.AcL(h:P:=by
 go_roundw
 case rel=>exact⟨k+1,Aaa,Aaf,HX,by first|exact dS.alloc dS.size _|exact dS,by first|(rw [aGv _ _ _ afv];exact Hu)|exact Hu⟩
 case measure=>simp[intOf];omega):P:=h
theorem O3(h:P:=by
 have q0:(mT != n.id)=false:=Abc
 have q0':(mT == n.id)=true:=Abc
 clear h1;exact Aa6):P:=h
theorem axM.Aa6(h:P:=by
 subst h3;have q4:(mF == n.par)=false:=by simpa using h4
 clear h4;open axV in exact ah6):P:=h
theorem axN.Aa6(h:P:=by
 subst h3;have q4:(mF == n.par)=true:=by simp[h4]
 clear h4;unfold gJ;have H9:=Hq h9;clear h9;have HMO:=Hq (λW=>kZ ⟨0,mF,mT,mI,mL,mk,mN⟩ W Aal);open ao4 in exact aa8):P:=h
theorem axO.Aa6(h:P:=by
 unfold gJ;have H9:=Hq h9;clear h9;have HMO:=Hq (λW=>kZ ⟨mK,mF,mT,mI,mL,mk,mN⟩ W Aal);open ao5 in exact aa8):P:=h
theorem axP.Aa6(h:P:=by
 subst h3;obtain⟨FL,hFL⟩:∃FL:Nat->List jM,∀k,FL k=(n.out.take k).filter (λs=> !jg ⟨2,mF,mT,mI,mL,mk,mN⟩ s):=⟨_,λ_=>rfl⟩;have HFE:Hid (n.out.filter (λs=> !jg ⟨2,mF,mT,mI,mL,mk,mN⟩ s)=FL n.out.length):=by unfold Hid;rw [hFL,aGL]
 rw [ah HFE];have HF0:Hid (FL 0=[]):=by unfold Hid;rw [hFL];rfl
 have HFS:Hid (∀k (hk:k < n.out.length),FL (k+1)=if n.out[k].i=mI/\n.out[k].t=mF then FL k else FL k++[n.out[k]]):=λk hk=>by
  rw [hFL,hFL,aGt hk,List.filter_append]
  by_cases e:n.out[k].i=mI/\n.out[k].t=mF
  .rw [aGC e];have e2:(!jg ⟨2,mF,mT,mI,mL,mk,mN⟩ n.out[k])=false:=by unfold jg;rw [aGk e];rfl
   rw [List.filter_cons,e2];simp
  .rw [aGr e];have e2:(!jg ⟨2,mF,mT,mI,mL,mk,mN⟩ n.out[k])=true:=by unfold jg;rw [aGi e];rfl
   rw [List.filter_cons,e2];simp
 have HFN:Hid (∀k,(FL k).length<=n.out.length):=λk=>by
  rw [hFL]
  exact aGm (aH9 _ _) Abk
 clear hFL HFE;obtain⟨i0,hi,hz0,hz1,hz2⟩:=aGV MV;have HI:=Hq (And.intro hi (And.intro hz0 (And.intro hz1 hz2)));clear hi hz0 hz1 hz2;unfold gJ;have H9:=Hq h9;clear h9;have HMO:=Hq (λW=>kZ ⟨2,mF,mT,mI,mL,mk,mN⟩ W Aal);open ao6 in exact aa8):P:=h
theorem axQ.Aa6(h:P:=by
 subst h3;open axU in exact ah6):P:=h
theorem aa4(h:P:=by
 have e1:(m:Int)+1+1=m+2:=Aaa
 have e3:(m:Int)+2+1=m+3:=Aaa
 (try simp only[e1,e3] at HB1 ⊢)
 exact Ab9):P:=h
theorem axR.Ab9(h:P:=by
 have h1:=GR.C.set h0 (k*4) (.int .i64 (jX m).no);have hB:=GR.C.below h1 HB1;have h2:=GR.C.set hB (k*4+1) (.string (jX m).k);have h3:=GR.C.set h2 (k*4+2) (.int .i64 (jX m).n);have h4:=GR.C.set h3 (k*4+3) (.int .i64 (jX m).s);have hf:=GR.flat_set aJ 4 aN (nN jX 4 s l k) k (jX m) Acr;have h5:=GR.C.toW (enc:=aJ) (l:=(nN jX 4 s l k).set k (jX m)) aN Aaa (by rw [<-hf];exact h4);have hmk:jX m=jX (s+4*k):=Abx
 rw [hmk,Eu jX 4 s l k hlt,<-hmk] at h5;refine⟨k+1,m+4,Aaa,Aaf,Aaf,by have:=ah HM;omega,h5,?_⟩;exact(((((HK.trans (jC (aC.set _) hpos)).trans (aC.of_below HB1)).trans (jC (aC.set _) hpos)).trans (jC (aC.set _) hpos)).trans (jC (aC.set _) hpos))):P:=h
theorem axS.Ab9(h:P:=by
 have h1:=GR.C.set h0 (k*4) (.int .i64 (iN m).i);have h2:=GR.C.set h1 (k*4+1) (.int .i64 (iN m).t);have hB:=GR.C.below h2 HB1;have h3:=GR.C.set hB (k*4+2) (.string (iN m).k);have h4:=GR.C.set h3 (k*4+3) (.int .i64 (iN m).n);have hf:=GR.flat_set aM 4 aZ (nN iN 4 s l k) k (iN m) Acr;have h5:=GR.C.toW (enc:=aM) (l:=(nN iN 4 s l k).set k (iN m)) aZ Aaa (by rw [<-hf];exact h4);have hmk:iN m=iN (s+4*k):=Abx
 rw [hmk,Eu iN 4 s l k hlt,<-hmk] at h5;refine⟨k+1,m+4,Aaa,Aaf,Aaf,by have:=ah HM;omega,h5,?_⟩;exact(((((HK.trans (jC (aC.set _) hpos)).trans (jC (aC.set _) hpos)).trans (aC.of_below HB1)).trans (jC (aC.set _) hpos)).trans (jC (aC.set _) hpos))):P:=h
theorem axT.Ab9(h:P:=by
 have hB:=GR.C.below h0 HB1;have h1:=GR.C.set hB (k*4) (.string (gI m).k);have h2:=GR.C.set h1 (k*4+1) (.int .i64 (gI m).m);have h3:=GR.C.set h2 (k*4+2) (.int .i64 (gI m).f);have h4:=GR.C.set h3 (k*4+3) (.int .i64 (gI m).s);have hf:=GR.flat_set fD 4 aU (nN gI 4 s l k) k (gI m) Acr;have h5:=GR.C.toW (enc:=fD) (l:=(nN gI 4 s l k).set k (gI m)) aU Aaa (by rw [<-hf];exact h4);have hmk:gI m=gI (s+4*k):=Abx
 rw [hmk,Eu gI 4 s l k hlt,<-hmk] at h5;refine⟨k+1,m+4,Aaa,Aaf,Aaf,by have:=ah HM;omega,h5,?_⟩;exact(((((HK.trans (aC.of_below HB1)).trans (jC (aC.set _) hpos)).trans (jC (aC.set _) hpos)).trans (jC (aC.set _) hpos)).trans (jC (aC.set _) hpos))):P:=h
theorem ah6(h:P:=by
 have h9n:∀x,6 < newC w.heap.size 9 c x->newC w.heap.size 9 c x=9:=λx hx=>by
  by_cases hlt:x < w.heap.size
  .rw [fE hlt] at hx ⊢;exact h9 x hx
  .exact bQ Aaa
 exact Aeu):P:=h
theorem axU.Aeu(h:P:=by
 have OV:=Hq (λW (hBW:B<=W.heap.size) (hN:NQ W B n A G (newC w.heap.size 9 c))=>adT n A G (newC w.heap.size 9 c) 1 mF mT mI mL mk mN W B hBW h9n hz hmk hP xR hok h2 hN);clear h9n hz hP xR hok;unfold gJ at OV;dsimp only at OV ⊢;generalize (takeN n ⟨1,mF,mT,mI,mL,mk,mN⟩).1=N1 at *;generalize (if (takeN n ⟨1,mF,mT,mI,mL,mk,mN⟩).2=true then[XZ n ⟨1,mF,mT,mI,mL,mk,mN⟩] else[])=L1 at *;generalize (if (takeN n ⟨1,mF,mT,mI,mL,mk,mN⟩).2=true then(0:Int) else 1)=CX at *;unfold gJ;have H9:=Hq h9;clear h9;have HMO:=Hq (λW=>kZ ⟨1,mF,mT,mI,mL,mk,mN⟩ W Aal);open ao7 in exact aa8):P:=h
theorem axV.Aeu(h:P:=by
 have HGV:=Hq (λW (hBW:B<=W.heap.size) (hN:NQ W B n A G (newC w.heap.size 9 c))=>Rt n A G (newC w.heap.size 9 c) mF mk mN W B hBW h9n hz hmk hP xR h0 hN);clear h9n hz hP xR;unfold gJ at HGV;generalize fC n mF mk mN=GV at *;obtain⟨N1,L1,b1⟩:=GV;dsimp only at HGV ⊢;generalize (if b1=true then(0:Int) else 1)=CX at *;unfold gJ;have H9:=Hq h9;clear h9;have HMO:=Hq (λW=>kZ ⟨0,mF,mT,mI,mL,mk,mN⟩ W Aal);open ao3 in exact aa8):P:=h
theorem ah7(h:P:=by
 have hVO:= @aG9 prog 270 _ (λargs=>ReflectliteValue.unpack (args.getD 0 (.tuple #[]))) func270 Aab Aab Aab Aab;exact AcY):P:=h
theorem axW.AcY(h:P:=by
 have hTY:= @aG9 prog 271 _ (ReflectliteValue.methodAny (ReflectliteValue.valueError "reflectlite.Value.Type" 0) (λt _ _ _=>ReflectliteType.toType t)) func271 Aab Aab Aab Aab;have hIN:= @aG9 prog 272 _ (ReflectliteValue.method (ReflectliteValue.valueError "reflectlite.Value.IsNil" 0) ReflectliteValue.isNil) func272 Aab Aab Aab Aab;have hKI:= @aG9 prog 333 _ (ReflectliteType.abiMethod λt=>do pure (.int .u8 (<-Rtype.kind t))) func333 Aab Aab Aab Aab;have hEL:= @aG9 prog 351 _ (ReflectliteType.method ReflectliteType.elem) func351 Aab Aab Aab Aab;have hIM:= @aG9 prog 352 _ (ReflectliteType.relation "Implements" ReflectliteType.implements_) func352 Aab Aab Aab Aab;have f1:=As.valueOfPtr;have f2:=As.typePtr;have f3:=As.methodKind;have f4:=As.kindPtr;have f5:=As.methodElem;have f6:=As.elemType;have f7:=As.kindStruct;have f8:=As.methodImplements;have f9:=As.implements;have hgl:=World.lt_of_cell hg;have htl:=World.lt_of_cell ht;simp only at hgl htl;have n8:=As.isNil ⟨w.heap.size,0,none⟩ ⟨tb,0,none⟩ ((w.alloc (.cells #[.pointer (some ⟨tb,0,none⟩)] 276)).alloc (.cells #[.pointer (some ⟨6,276,none⟩),.pointer (some ⟨w.heap.size,0,none⟩),.int .u64 150] 303)) Aac
 have hg2:((w.alloc (.cells #[.pointer (some ⟨tb,0,none⟩)] 276)).alloc (.cells #[.pointer (some ⟨6,276,none⟩),.pointer (some ⟨w.heap.size,0,none⟩),.int .u64 150] 303)).cell? ⟨0,0,none⟩=some (.iface 330 (.agg #[.pointer (some ⟨6,242,none⟩)])):=by
  rw [aGD _ _ ⟨0,0,none⟩ (by simp<;>omega),aGD _ _ ⟨0,0,none⟩ hgl];exact hg
 go_in
 go_wp2_with (go_at_call 273;refine(HAS _ ⟨tb,0,none⟩ ⟨w.heap.size,0,none⟩ old _ ?_ ?_ ?_).mono ?_;(simp);(rw [aGD _ _ ⟨tb,0,none⟩ Aag,aGD _ _ ⟨tb,0,none⟩ htl];exact ht);(rw [aHl _ _ ⟨tb,0,none⟩ Aag,aHl _ _ ⟨tb,0,none⟩ (Nat.ne_of_lt htl)];exact hf);rintro e w' ⟨rfl,hbel⟩)
 go_ret;exact⟨rfl,(((aGs _ _).alloc Aaa _).alloc Aag _).trans hbel⟩):P:=h
theorem axX.AcY(h:P:=by
 have hEL:= @aG9 prog 293 _ (ReflectliteValue.method (ReflectliteValue.valueError "reflectlite.Value.Elem" 0) ReflectliteValue.elem) func293 Aab Aab Aab Aab;have hST:= @aG9 prog 294 _ ReflectliteValue.set func294 Aab Aab Aab Aab;have f1:=As.typeOfNo;have f2:=As.typeOfUnread;have f3:=As.methodAssignableTo;have f4:=As.assignNo;have f5:=As.assignUnread;have f6:=As.noAs;have f7:=As.hasUnwrap;have f8:=As.methodUnwrap;have f9:=As.valueOfNo;have hal:a.block < w.heap.size:=World.lt_of_cell ha;have htl:t.block < w.heap.size:=World.lt_of_cell ht;exact AeY):P:=h
theorem ah8(h:P:=by
 obtain⟨avR,cvR,C9,_⟩:=GR.own_at (enc:=aS) (sz:=1) (l:=(aY s0 mL).take pos) aO (by rw [hlt1];exact Tk);rw [hlt1] at C9;subst C9;clear IG IE Ac IJ;exact AdV):P:=h
theorem axY.AdV(h:P:=by
 generalize x1.heap.size=rb at *;exact Zk2):P:=h
theorem axZ.AdV(h:P:=by
 generalize x2.heap.size=rb at *;exact Zk2):P:=h
theorem aa5(h:P:=by
 have z2:=aGj p2;have z3:=aGj p3;clear c0 c1 c2 c3 c4 c5 c6 c7 c8 c9 p0 p1 p2 p3 p4 p5 p6 p7 p8 p9 oU;exact Ab4):P:=h
theorem ax0.Ab4(h:P:=by
 open avW in exact ahx):P:=h
theorem ax1.Ab4(h:P:=by
 refine dx 16 Aab ?_;show fA _ _ _ _ _ 17 (Array.replicate 17 false) _ _
 refine tk [0,1,2,3,4,5,6,7,8,9,10,11,12,13,14,15] ?_;iterate 16 (refine vX (λK hK=>?_);go_simp;refine hK _ ?_;clear hK K)
 refine kD ?_;clear y0 y1 z2 z3;refine bE Aab (λx hx=>?_);have JU:=Hq (HSY x c v (HW1.step hx));clear hx;refine aG 16 rfl Aab Aad ?_;go_simp;refine JU.mono ?_;rintro e y ⟨rfl,c',v',hY⟩;have HY:=Hq hY;clear hY JU;refine wpAny_done Aab ?_;go_simp;go_wp2_with fail;go_ret;exact⟨rfl,c',v',HY⟩):P:=h
theorem ax2.Ab4(h:P:=by
 refine dx 17 Aab ?_;show fA _ _ _ _ _ 20 (Array.replicate 20 false) _ _
 refine tk [0,1,2,3,4,5,6,7,8,9,10,11,12,13,14,15,16] ?_;iterate 17 (refine vX (λK hK=>?_);go_simp;refine hK _ ?_;clear hK K)
 refine kD ?_;clear y1 z2 z3;refine bE Aab (λx hx=>?_);have JU:=Hq (Il x c v (HW1.step hx));clear hx;refine aG 17 rfl Aab Aad ?_;go_simp;refine JU.mono ?_;rintro e y ⟨rfl,A',G',c',v',hY⟩;have HY:=Hq hY;clear hY JU;refine aG 18 rfl Aab Aad ?_;go_simp;refine aG 19 rfl Aab Aad ?_;go_simp;refine wpAny_done Aab ?_;go_simp;cases gb
 all_goals
  go_wp2_with fail
  go_ret
  exact⟨rfl,A',G',c',v',HY⟩):P:=h
theorem ah9(h:P:=by
 have pO:Hid (aI w W'):=zu.trans (fU.below (λx hx=>by have:x=w.heap.size+2:=Aah;omega) zu.size);obtain⟨x0,x1,x2,x3,x4,x5,x6,x7,x8⟩:=nine e4;clear hW' e4 fU;exact Ae4):P:=h
theorem ax3.Ae4(h:P:=by
 exact aGn (v:= .tuple #[(gP N1 A2),.slice ma L1.length mc,.int .i64 CX]) Aaz rfl ⟨A2,ma,mc,rfl,HAT,Ol,pO⟩):P:=h
theorem ax4.Ae4(h:P:=by
 exact aGn (v:= .tuple #[(gP n A1),.slice (some ⟨W0.heap.size,0,none⟩) 0 0,.int .i64 1]) Aaz rfl ⟨A1,some ⟨W0.heap.size,0,none⟩,0,rfl,HAT,λW'' _ i hi=>Aas,pO⟩):P:=h
theorem aia(h:P:=by
 have c4:V.cell? ⟨g,off+j*4,none⟩=some (.string q):=by rw [hV,aGD _ _ _ hgw];exact d0
 have hgq:g < V.heap.size:=by rw [hV];simp;omega
 clear hblk hV c0 c1 c2 c3 d0;exact AeK):P:=h
theorem ax5.AeK(h:P:=by
 open aw0 in exact ahP):P:=h
theorem ax6.AeK(h:P:=by
 open awW in exact ahO):P:=h
theorem aib(h:P:=by
 go_wp2_with fail;refine(HCM _).mono ?_;rintro e w1 ⟨rfl,hb1⟩;have HB1:=Hq (HB.trans (hb1.mono HB.size));exact Ad9):P:=h
theorem ax7.Ad9(h:P:=by
 have HE:Hid (RF=(ln - no == 0)):=by
  show RF=_
  rw [ah HFP,aHu,aGR,beq_iff_eq];omega
 clear hb1 q0 q1 q2 q3 HFP;go_wp2_with fail;go_ret2
 exact⟨by rw [ah HE];rfl,HB1⟩):P:=h
theorem ax8.Ad9(h:P:=by
 clear hb1 q0 q1 q2 q3;by_cases hc:ln - no < 0
 .go_wp2_with fail;go_roundw
  case rel=>exact⟨m+1,q,by
   rcases aHa R (m+1) with h9|h9
   .have:=ah HHM Aaa;omega
   .exact h9,h3,h4,Aaf,rfl,HB1⟩
  case measure=>simp[intOf];omega
 .go_wp2_with fail;go_roundw
  case rel=>exact⟨p,m,h2,by
   rcases aHa m R with h9|h9
   .have:=ah HLM h9;omega
   .exact h9,Aaa,rfl,rfl,HB1⟩
  case measure=>simp[intOf];omega):P:=h
theorem aic(h:P:=by
 go_in
 go_wp2_with fail;refine(HO _).mono ?_;rintro e w1 ⟨rfl,hb1⟩;obtain⟨hA,hC,hbel⟩:=Bc hb1;have HC:=Hq hC;have dS:=Hq hbel;exact AdC):P:=h
theorem ax9.AdC(h:P:=by
 obtain⟨⟨p0,p1,p2,p3⟩,_⟩:=gu hA;obtain⟨⟨r0,r1,r2,r3⟩,s0,s1,s2,s3⟩:=gu hC;clear hb1 hA hC hbel;go_wp2_with fail;clear r0 r1 r2 r3;refine Fo.bodyPost_at (λW' hW'=>?_);obtain⟨⟨r0,r1,r2,r3⟩,_⟩:=gu (show W'.heap[w.heap.size+1+1]?=some (.cells (jh pk (pm+dm*n) (pf+df*n) (ps+ds*n)) 108 (0,0)) by rw [hW'];exact Fo.four_set HC);have hbb:aI w W':=by rw [hW'];exact Fo.four_below dS Aaa
 exact aGn (v:= .tuple #[.agg (jh pk (pm+dm*n) (pf+df*n) (ps+ds*n)),.nilIface]) (by simp[results,results303,go_sem,r0,r1,r2,r3]) rfl ⟨rfl,hbb⟩):P:=h
theorem aya.AdC(h:P:=by
 have ve:=(HE.below hbel).var 5 Aaa;have hsz:=(show w.heap.size+1+1 < w1.heap.size from Fo.lt_of_blk hC);have hve:5 < w.heap.size:=aHs _ _ (HE.var 5 Aaa);obtain⟨⟨r0,r1,r2,r3⟩,s0,s1,s2,s3⟩:=gu hC;clear hb1 hA hC hbel;go_wp2_with fail;go_region
 all_goals
  go_wp2_with fail
  refine Fo.bodyPost_at (λW' hW'=>?_)
  obtain⟨⟨t0,t1,t2,t3⟩,_⟩:=gu (show W'.heap[w.heap.size+1+1]?=some (.cells (jh ⟨#[]⟩ 0 0 0) 108 (0,0)) by rw [hW'];exact Fo.four_set (w:=w1.drew) HC)
  have hbb:aI w W':=by rw [hW'];exact Fo.four_below (w:=w1.drew) (dS.trans ⟨rfl,rfl,rfl,aGh _,λ_ _=>rfl⟩) Aaa
  exact aGn (v:= .tuple #[.agg (jh ⟨#[]⟩ 0 0 0),uJ (E 5)]) (by simp[results,results303,go_sem,t0,t1,t2,t3]) rfl ⟨rfl,hbb⟩):P:=h
theorem aa6(h:P:=by
 have HB1:=Hq (au HB0 hb1);have yF:=Hq (qg.trans (hb1.mono qg.size));exact AcJ):P:=h
theorem ayb.AcJ(h:P:=by
 clear hb1 c0 c1 c2 c3 c4 c5 c6 c7 c8;obtain⟨c0,c1,c2,c3,c4,c5,c6,c7,c8⟩:=nine HB1;exact AbW):P:=h
theorem ayc.AcJ(h:P:=by
 clear hb1 c0 c1 c2 c3 c4 c5 c6 c7 c8 Om;obtain⟨c0,c1,c2,c3,c4,c5,c6,c7,c8⟩:=nine HB1;cases h1:PL
 case' false=>
  have HV:=Hq (show bb=true by rw [<-ah fI];simp[h1])
  clear fI h1
  go_wp2_with fail
  go_meet
  case rel=>exact⟨Aam,HB1,yF⟩
 go_wp2_with fail;refine(HPU _ yF).mono ?_;rintro e w2 ⟨rfl,hb1⟩;have HB2:=Hq (au HB1 hb1);have HL2:=Hq (yF.trans (hb1.mono yF.size));clear hb1 c0 c1 c2 c3 c4 c5 c6 c7 c8 HPU;obtain⟨c0,c1,c2,c3,c4,c5,c6,c7,c8⟩:=nine HB2;cases h2:PS
 case' false=>
  have HV:=Hq (show bb=true by rw [<-ah fI];simp[h2])
  clear fI h2
  go_wp2_with fail
  go_meet
  case rel=>exact⟨Aam,HB2,HL2⟩
 go_wp2_with fail;refine(Oq _ HL2).mono ?_;rintro e w3 ⟨rfl,hb1⟩;have HB3:=Hq (au HB2 hb1);have rU:=Hq (HL2.trans (hb1.mono HL2.size));clear hb1 c0 c1 c2 c3 c4 c5 c6 c7 c8 Oq;obtain⟨c0,c1,c2,c3,c4,c5,c6,c7,c8⟩:=nine HB3;cases h3:TD
 case' false=>
  have HV:=Hq (show bb=true by rw [<-ah fI];simp[h3])
  clear fI h3
  go_wp2_with fail
  go_meet
  case rel=>exact⟨Aam,HB3,rU⟩
 cases h4:fO next
 case' false=>
  have HV:=Hq (show bb=true by rw [<-ah fI];simp[h4])
  clear fI h1 h2 h3
  go_wp2_with (go_at_call 49;refine(eU _ _ _ h4).mono ?_;rintro e w9 ⟨rfl,rfl⟩)
  go_meet
  case rel=>exact⟨Aam,HB3,rU⟩
 by_cases h5:out.length<=40
 case' neg=>
  have hq:decide ((40:Int) < out.length)=true:=aGk Aaa
  have HV:=Hq (show bb=true by rw [<-ah fI];simp[h5])
  clear fI h1 h2 h3
  go_wp2_with (go_at_call 49;refine(eU _ _ _ h4).mono ?_;rintro e w9 ⟨rfl,rfl⟩)
  go_meet
  case rel=>exact⟨Aam,HB3,rU⟩
 have hq:decide ((40:Int) < out.length)=false:=aGi Aaa;cases h6:rz old
 case' false=>
  have Hr:=Hq (λw1=>ac4 old false w1 h6)
  have HV:=Hq (show bb=true by rw [<-ah fI];simp[h6])
  clear fI h1 h2 h3
  go_wp2_with (first|(go_at_call 49;refine(eU _ _ _ h4).mono ?_;rintro e w9 ⟨rfl,rfl⟩)|(go_at_call 50;refine(Hr _).mono ?_;rintro e w9 ⟨rfl,rfl⟩))
  go_meet
  case rel=>exact⟨Aam,HB3,rU⟩
 have Hr:=Hq (λw1=>ac4 old true w1 h6);by_cases h7:reqs.length<=30
 case' neg=>
  have hq2:decide ((30:Int) < reqs.length)=true:=aGk Aaa
  have HV:=Hq (show bb=true by rw [<-ah fI];simp[h7])
  clear fI h1 h2 h3
  go_wp2_with (first|(go_at_call 49;refine(eU _ _ _ h4).mono ?_;rintro e w9 ⟨rfl,rfl⟩)|(go_at_call 50;refine(Hr _).mono ?_;rintro e w9 ⟨rfl,rfl⟩))
  go_meet
  case rel=>exact⟨Aam,HB3,rU⟩
 have hq2:decide ((30:Int) < reqs.length)=false:=aGi Aaa;have HV:=Hq (show bb=false by rw [<-ah fI];simp[h1,h2,h3,h4,h5,h6,h7]);clear fI h1 h2 h3;go_wp2_with (first|(go_at_call 49;refine(eU _ _ _ h4).mono ?_;rintro e w9 ⟨rfl,rfl⟩)|(go_at_call 50;refine(Hr _).mono ?_;rintro e w9 ⟨rfl,rfl⟩))
 go_meet
 case rel=>exact⟨Aam,HB3,rU⟩):P:=h
theorem ayd.AcJ(h:P:=by
 clear hb1 c0 c1 c2 c3 c4 c5 c6 c7 c8 d0 d1 d2 d3 d4 d5 d6 d7 d8;obtain⟨c0,c1,c2,c3,c4,c5,c6,c7,c8⟩:=nine HA1;obtain⟨d0,d1,d2,d3,d4,d5,d6,d7,d8⟩:=nine HB1;go_wp2_with fail;refine(HP _ yF).mono ?_;rintro e w2 ⟨rfl,hb1⟩;have HA2:=Hq (au HA1 hb1);have HB2:=Hq (au HB1 hb1);have HL2:=Hq (yF.trans (hb1.mono yF.size));clear hb1 c0 c1 c2 c3 c4 c5 c6 c7 c8 d0 d1 d2 d3 d4 d5 d6 d7 d8;obtain⟨c0,c1,c2,c3,c4,c5,c6,c7,c8⟩:=nine HA2;obtain⟨d0,d1,d2,d3,d4,d5,d6,d7,d8⟩:=nine HB2;go_wp2_with fail;refine(HO _ HL2).mono ?_;rintro e w3 ⟨rfl,hb1⟩;have HA3:=Hq (au HA2 hb1);have HB3:=Hq (au HB2 hb1);have rU:=Hq (HL2.trans (hb1.mono HL2.size));clear hb1 c0 c1 c2 c3 c4 c5 c6 c7 c8 d0 d1 d2 d3 d4 d5 d6 d7 d8;obtain⟨c0,c1,c2,c3,c4,c5,c6,c7,c8⟩:=nine HA3;obtain⟨d0,d1,d2,d3,d4,d5,d6,d7,d8⟩:=nine HB3;go_wp2_with fail;refine(HS _ rU).mono ?_;rintro e w4 ⟨rfl,hb1⟩;have HA4:=Hq (au HA3 hb1);have nG:=Hq (au HB3 hb1);have Ie:=Hq (rU.trans (hb1.mono rU.size));clear hb1 c0 c1 c2 c3 c4 c5 c6 c7 c8 d0 d1 d2 d3 d4 d5 d6 d7 d8;obtain⟨c0,c1,c2,c3,c4,c5,c6,c7,c8⟩:=nine HA4;obtain⟨d0,d1,d2,d3,d4,d5,d6,d7,d8⟩:=nine nG;go_wp2_with fail;refine(HR _ Ie).mono ?_;rintro e w5 ⟨rfl,hb1⟩;have HA5:=Hq (au HA4 hb1);have iy:=Hq (au nG hb1);have HL5:=Hq (Ie.trans (hb1.mono Ie.size));clear hb1 c0 c1 c2 c3 c4 c5 c6 c7 c8 d0 d1 d2 d3 d4 d5 d6 d7 d8;obtain⟨c0,c1,c2,c3,c4,c5,c6,c7,c8⟩:=nine HA5;obtain⟨d0,d1,d2,d3,d4,d5,d6,d7,d8⟩:=nine iy;go_wp2_with fail;go_ret;exact⟨rfl,HL5⟩):P:=h
end Go.Proofs.YtohmklmkjmlpjaaGreatDoor
