/-
  Parts of proofs that stand more than once, each said once.
-/
import Derived.Test.YtppmcficiphgdaaGreatDoorQaZ1
namespace Go.Proofs.YtppmcficiphgdaaGreatDoor
set_option maxRecDepth 100000
variable{P:Prop}
theorem Sa116.Ka26(h:P:=by
 obtain⟨si,st,sx,sn⟩:=s;dsimp only at hl HLW hP hR hO hB ⊢;have HP:=hide hP;have HR:=hide hR;have HO:=hide hO;have HB:=hide hB;clear ha hP hR hO hB HPM;go_enter Tryz.func134,Tryz.ntmps134
 go_upto_region 1 with fail;refine wp_at (fun W hW=>?_);rw [←hW] at HP HR HO HB;have HLW1:=hide (HLW W HB);have hz2:w.heap.size+1+1 < W.heap.size:=obj_lt HO;have hz1:w.heap.size+1 < W.heap.size:=by omega
 have hz0:w.heap.size < W.heap.size:=by omega
 have hne0:w.heap.size+1+1≠w.heap.size:=by omega
 have hne1:w.heap.size+1+1≠w.heap.size+1:=by omega
 clear hW HLW;obtain⟨c0,c1,c2,c3,c4,c5,c6,c7,c8⟩:=nine HP;obtain⟨d0,d1,d2,d3⟩:=fourC HR
 go_region_held (fun w'=>(w'.cell? ⟨w.heap.size,0,none⟩=some (.int .i64 id)∧w'.cell? ⟨w.heap.size,1,none⟩=some (.int .i64 par)∧w'.cell? ⟨w.heap.size,2,none⟩=some (.slice ak kids.length ck)∧w'.cell? ⟨w.heap.size,3,none⟩=some (.int .i64 next)∧w'.cell? ⟨w.heap.size,4,none⟩=some (.slice ap pu.length cp)∧w'.cell? ⟨w.heap.size,5,none⟩=some (.slice ao out.length co)∧w'.cell? ⟨w.heap.size,6,none⟩=some (.slice as' seen.length cs)∧w'.cell? ⟨w.heap.size,7,none⟩=some (.int .i64 old)∧w'.cell? ⟨w.heap.size,8,none⟩=some (.slice ar reqs.length cr))∧w'.cell? ⟨w.heap.size+1,0,none⟩=some (.int .i64 si)∧w'.cell? ⟨w.heap.size+1,1,none⟩=some (.int .i64 st)∧w'.cell? ⟨w.heap.size+1,2,none⟩=some (.string sx)∧w'.cell? ⟨w.heap.size+1,3,none⟩=some (.int .i64 sn)) (first|go_keep|(refine⟨⟨?_,?_,?_,?_,?_,?_,?_,?_,?_⟩,?_,?_,?_,?_⟩<;>first|exact far7 hne0 (by assumption)|exact far7 hne1 (by assumption)))
  (first
   |(go_at_call 180;refine(HLW1 W.drew rfl).mono ?_;rintro e w5 ⟨rfl,hb5⟩;have hb6:Below W.heap.size W w5:=⟨hb5.os,hb5.tape,hb5.output,hb5.size,hb5.block⟩;clear hb5;have HP5:=hide (obj_step HP hb6);have HR5:=hide (obj_step HR hb6);have HO5:=hide (obj_step HO hb6);have HB5:=hide (HB.trans (hb6.mono HB.size));clear hb6;obtain⟨y0,y1,y2,y3,y4,y5,y6,y7,y8⟩:=nine HP5;obtain⟨z0,z1,z2,z3⟩:=fourC HR5;obtain⟨r0,r1,r2,r3,r4,r5,r6⟩:=sevenC HO5;have f0:=obj_free HO5 0;have f1:=obj_free HO5 1;have f2:=obj_free HO5 2;have f3:=obj_free HO5 3;have f4:=obj_free HO5 4;have f5:=obj_free HO5 5;have f6:=obj_free HO5 6))
 all_goals
  go_wp2_with fail
  refine bodyPost_atN (fun W' hW'=>?_)
  have hR:=seven_setN (b0:= .int .i64 1) (b1:= .int .i64 id) (b2:= .int .i64 st) (b3:= .int .i64 si) (b4:= .int .i64 LO) (b5:= .string sx) (b6:= .int .i64 sn) HO5
  have hK:=seven_keepsN (w:=w5) (g:=w.heap.size+1+1) (b0:= .int .i64 1) (b1:= .int .i64 id) (b2:= .int .i64 st) (b3:= .int .i64 si) (b4:= .int .i64 LO) (b5:= .string sx) (b6:= .int .i64 sn)
  rw [←hW'] at hR hK
  obtain⟨x0,x1,x2,x3,x4,x5,x6⟩:=sevenC hR
  refine bodyPost_ret (v:= .agg #[.int .i64 1,.int .i64 id,.int .i64 st,.int .i64 si,.int .i64 LO,.string sx,.int .i64 sn]) (by simp[results,Tryz.results134,go_sem,x0,x1,x2,x3,x4,x5,x6]) rfl ⟨rfl,HB5.trans (hK.below (fun x hx=>by have:x=w.heap.size+1+1:=(by simpa using hx);omega) HB5.size)⟩):P:=h
theorem Sa117.Ka26(h:P:=by
 dsimp only at hlo HAO HPB HOK HPY HPL ⊢;go_enter Tryz.func61,Tryz.ntmps61
 go_upto_region 1 with fail;refine wp_at (fun W0 hW0=>?_);rw [←hW0] at HPB;have HB0:Hid (Below w.heap.size w W0):=by rw [hW0];exact below_one w _
 have hlt0:w.heap.size < W0.heap.size:=obj_lt HPB;have hnw0:w.heap.size≠W0.heap.size:=by omega
 clear hW0;have HLIT:Hid ((W0.alloc (.cells #[] 32)).ownsRow W0.heap.size 32 7 (.slice (some ⟨W0.heap.size,0,none⟩) 0 0) 0 []):=World.ownsRow_lit (base:=W0.heap.size) (e:=32) (size:=7) W0 #[] 0 (Nat.le_refl _) (by decide) rfl;go_wp2_with fail;go_loopw [3,4] (fun ov i wr=>∃(k:Nat) (va:Option Addr) (vc:Nat),k≤out.length∧i= .int .i64 k∧ov= .slice va k vc∧wr.ownsRow W0.heap.size 32 7 (.slice va k vc) k (GR.flat encM ((out.take k).map PM))∧Below W0.heap.size W0 wr∧(0 < k→OK=true)) (fun _ i _=>out.length - (intOf i).toNat)
 case atStart=>exact⟨0,some ⟨W0.heap.size,0,none⟩,0,Nat.zero_le _,rfl,rfl,HLIT,below_one W0 _,fun h=>by omega⟩
 case round=>
  obtain⟨k,va,vc,hk,rfl,rfl,hown,hbel,hpos⟩:=hrel;have HO:=hide hown;have HBL:=hide hbel;have HW:=hide (HB0.trans (hbel.mono HB0.size));have HP1:=hide (obj_step HPB hbel);clear hown hbel HLIT;obtain⟨c0,c1,c2,c3,c4,c5,c6,c7,c8⟩:=nine HP1;by_cases hlt:k < out.length
  ·obtain⟨g,off,e0,hg,q0,q1,q2,q3⟩:=SentAt.four (GR.At.below HAO HB0) k hlt;subst e0;have HOK1:=hide (HOK wr HW);go_wp2_with fail;refine HOK1.mono ?_;rintro e w4 ⟨rfl,hb4⟩;have HO4:=hide (GR.own_below HO hb4);have HBL4:=hide (HBL.trans (hb4.mono HBL.size));clear hb4 HOK1 c0 c1 c2 c3 c4 c5 c6 c7 c8 HP1 HBL HW HO;have HP4:=hide (obj_step HPB HBL4);have HW4:=hide (HB0.trans (HBL4.mono HB0.size));cases hOK:OK
   ·have hk0:k=0:=by
     rcases Nat.eq_zero_or_pos k with h|h
     ·exact h
     ·exact absurd (hpos h) (by rw [hOK];simp)
    subst hk0;have HE:Hid (L=[]):=by rw [unhide HPL,hOK];rfl
    clear hpos hOK HPL;go_wp2_with fail;go_ret;rw [unhide HE];exact GivesM.of_own rfl HO4 (by omega) HW4
   ·clear hpos;have HPYk:=hide (HPY out[k] w4 HW4);have HT:=hide (show(out.take (k+1)).map PM=(out.take k).map PM++[PM out[k]] by rw [List.take_succ_eq_append_getElem hlt,List.map_append];rfl);generalize out[k]=sk at *;generalize PM sk=mk at *;obtain⟨si,st,sx,sn⟩:=sk;obtain⟨mK,mF,mT,mI,mL,mk,mN⟩:=mk;dsimp only at q0 q1 q2 q3;have HQ0:=hide q0;have HQ1:=hide q1;have HQ2:=hide q2;have HQ3:=hide q3;have x0:=(HBL4.cell (p:=⟨g,off+k*4,none⟩) hg).trans q0;have x1:=(HBL4.cell (p:=⟨g,off+k*4+1,none⟩) hg).trans q1;have x2:=(HBL4.cell (p:=⟨g,off+k*4+2,none⟩) hg).trans q2;have x3:=(HBL4.cell (p:=⟨g,off+k*4+3,none⟩) hg).trans q3;clear q0 q1 q2 q3;obtain⟨c0,c1,c2,c3,c4,c5,c6,c7,c8⟩:=nine HP4;go_wp2_with fail
    go_region_held_law (fun w'=>(w'.cell? ⟨w.heap.size,0,none⟩=some (.int .i64 id)∧w'.cell? ⟨w.heap.size,1,none⟩=some (.int .i64 par)∧w'.cell? ⟨w.heap.size,2,none⟩=some (.slice ak kids.length ck)∧w'.cell? ⟨w.heap.size,3,none⟩=some (.int .i64 next)∧w'.cell? ⟨w.heap.size,4,none⟩=some (.slice ap pu.length cp)∧w'.cell? ⟨w.heap.size,5,none⟩=some (.slice (some ⟨g,off,none⟩) out.length co)∧w'.cell? ⟨w.heap.size,6,none⟩=some (.slice as' seen.length cs)∧w'.cell? ⟨w.heap.size,7,none⟩=some (.int .i64 old)∧w'.cell? ⟨w.heap.size,8,none⟩=some (.slice ar reqs.length cr))∧w'.cell? ⟨g,off+k*4,none⟩=some (.int .i64 si)∧w'.cell? ⟨g,off+k*4+1,none⟩=some (.int .i64 st)∧w'.cell? ⟨g,off+k*4+2,none⟩=some (.string sx)∧w'.cell? ⟨g,off+k*4+3,none⟩=some (.int .i64 sn)) (go_keep)
     (first
      |((go_at_call 134);(refine(HPYk w4.drew rfl).mono ?_);(rintro e w5 ⟨rfl,hb5⟩);(have hb6:Below w4.heap.size w4 w5:=⟨hb5.os,hb5.tape,hb5.output,hb5.size,hb5.block⟩);(clear hb5);(have HO5:=hide (GR.own_below HO4 hb6));(have HBL5:=hide (HBL4.trans (hb6.mono HBL4.size)));(clear hb6);(have HP5:=hide (obj_step HPB HBL5));(obtain⟨y0,y1,y2,y3,y4,y5,y6,y7,y8⟩:=nine HP5);(have u0:=(HBL5.cell (p:=⟨g,off+k*4,none⟩) hg).trans HQ0);(have u1:=(HBL5.cell (p:=⟨g,off+k*4+1,none⟩) hg).trans HQ1);(have u2:=(HBL5.cell (p:=⟨g,off+k*4+2,none⟩) hg).trans HQ2);(have u3:=(HBL5.cell (p:=⟨g,off+k*4+3,none⟩) hg).trans HQ3))
      |((refine step_append_ownM _ rfl (.tmp 17) (.tmp 25) 37 rfl W0.heap.size 32 i0 (.agg #[.int .i64 0,.int .i64 0,.int .i64 0,.int .i64 0,.int .i64 0,.string ByteArray.empty,.int .i64 0]) 7 64 Tryz.underlying37 hi hz0 hz1 hz2 rfl (by decide) (.slice va k vc) k (GR.flat encM ((out.take k).map PM)) (by simp[Act.eval]) (HO5.alloc _) ⟨w5.heap.size,0,none⟩ 1 1 (encM ⟨mK,mF,mT,mI,mL,mk,mN⟩) (by simp[Act.eval]) rfl (World.news_of_block (heap_alloc_new w5 _)) (encM_one _) (by unfold maxLen;omega) (by omega) (Nat.le_trans HBL5.size (by simp)) ?_);(intro v6 w6 hown6 hgr6 hnil6);(have hown7:w6.ownsRow W0.heap.size 32 7 v6 (k+1) (GR.flat encM ((out.take (k+1)).map PM)):=by rw [unhide HT,flat_snoc];exact hown6);(obtain⟨va6,vc6,hv6,_⟩:=GR.own_at (enc:=encM) (sz:=7) (l:=(out.take (k+1)).map PM) encM_length (by rw [List.length_map,List.length_take,Nat.min_eq_left (by omega)];exact hown7));(rw [List.length_map,List.length_take,Nat.min_eq_left (by omega)] at hv6);(subst hv6);(have HO6:=hide hown7);(have HBL6:=hide (show Below W0.heap.size W0 w6 from(HBL5.alloc HBL5.size _).trans (grown_belowM hgr6 (fun k e=>(HO5.lt k e).1) (Nat.le_trans HBL5.size (by simp)))));(clear hown6 hgr6 hnil6 hown7);(have HP6:=hide (obj_step HPB HBL6));(obtain⟨z0,z1,z2,z3,z4,z5,z6,z7,z8⟩:=nine HP6);(have t0:=(HBL6.cell (p:=⟨g,off+k*4,none⟩) hg).trans HQ0);(have t1:=(HBL6.cell (p:=⟨g,off+k*4+1,none⟩) hg).trans HQ1);(have t2:=(HBL6.cell (p:=⟨g,off+k*4+2,none⟩) hg).trans HQ2);(have t3:=(HBL6.cell (p:=⟨g,off+k*4+3,none⟩) hg).trans HQ3))
      |fail)
    all_goals
     go_wp2_with fail
     go_roundw
     case rel=>exact⟨k+1,va6,vc6,by omega,by go_num,rfl,HO6,HBL6,fun _=>hOK⟩
     case measure=>simp[intOf];omega
  ·open Sa197 in exact Ya48):P:=h
theorem Sa118.Ka26(h:P:=by
 dsimp only at HS HB0 HL0 HKK HPP HOO HSS HRR hzk hzp hzo hzs hzr ⊢;obtain⟨q1,q2,q3,q4,q5⟩:=unhide HS;have HQ4:=hide q4;clear q4 HS;obtain⟨c0,c1,c2,c3,c4,c5,c6,c7,c8⟩:=nine HB0;go_enter Tryz.func26,Tryz.ntmps26
 go_wp2_with fail;refine(HKK _ _ HL0 (by omega)).mono ?_;rintro e w1 ⟨rfl,hb1⟩;open Sa229 in exact Ya59):P:=h
theorem Sa119.Ka26(h:P:=by
 dsimp only at HS HMN HK0 HP0 HO0 HSE0 HR0 HB0 HL HKW0 HALL HD2 HD3 HD4 HD5 HD6 HN45 ⊢;obtain⟨q1,q2,q3,q4,q5⟩:=unhide HS;have HQ4:=hide q4;clear q4 HS;have hzk:=HZ.k;have hzp:=HZ.p;have hzo:=HZ.o;have hzs:=HZ.s;have hzr:=HZ.r;dsimp only at hzk hzp hzo hzs hzr;obtain⟨c0,c1,c2,c3,c4,c5,c6,c7,c8⟩:=nine HB0;go_enter Tryz.func24,Tryz.ntmps24
 go_wp2_with fail;refine(markIntZ ak G.k ck 1 _ kids _ (by omega) (by omega) (by omega) hzk HK0).mono ?_;rintro e w1 ⟨rfl,hw,hk⟩;have HK1:=hide hw;have HP1:=hide (GR.W.keeps HP0 hk (fun x hx=>fun hx2=>(Ne.symm (HD2 _ hx2 _ (.inl hx))) rfl));have HO1:=hide (GR.W.keeps HO0 hk (fun x hx=>fun hx2=>(Ne.symm (HD2 _ hx2 _ (.inr (.inl hx)))) rfl));have HSE1:=hide (SeenW.keeps HSE0 hk (fun x hx=>fun hx2=>(Ne.symm (HD2 _ hx2 _ (.inr (.inr (.inl hx))))) rfl) (fun x hx=>fun hx2=>(Ne.symm (HD2 _ hx2 _ (.inr (.inr (.inr (.inl hx)))))) rfl));have HR1:=hide (GR.W.keeps HR0 hk (fun x hx=>fun hx2=>(Ne.symm (HD2 _ hx2 _ (.inr (.inr (.inr (.inr hx)))))) rfl));have HB1:=hide (hk.obj HB0 (fun hx=>by have:=HL.1 _ hx;omega));have HKW1:=hide (HKW0.trans (hk.mono (fun x hx=>HALL _ (.inl hx))));clear hw hk c0 c1 c2 c3 c4 c5 c6 c7 c8 HK0 HP0 HO0 HSE0 HR0;obtain⟨c0,c1,c2,c3,c4,c5,c6,c7,c8⟩:=nine HB1;go_wp2_with fail;refine(markPurseZ ap G.p cp s1 _ pu _ (by omega) b1 (by omega) hzp HP1).mono ?_;rintro e w2 ⟨rfl,hw,hk⟩;have HP2:=hide hw;have HK2:=hide (GR.W.keeps HK1 hk (fun x hx=>fun hx2=>(HD2 _ (fp_mks hx) _ (.inl hx2)) rfl));have HO2:=hide (GR.W.keeps HO1 hk (fun x hx=>fun hx2=>(Ne.symm (HD3 _ hx2 _ (.inl hx))) rfl));have HSE2:=hide (SeenW.keeps HSE1 hk (fun x hx=>fun hx2=>(Ne.symm (HD3 _ hx2 _ (.inr (.inl hx)))) rfl) (fun x hx=>fun hx2=>(Ne.symm (HD3 _ hx2 _ (.inr (.inr (.inl hx))))) rfl));have HR2:=hide (GR.W.keeps HR1 hk (fun x hx=>fun hx2=>(Ne.symm (HD3 _ hx2 _ (.inr (.inr (.inr hx))))) rfl));have HB2:=hide (hk.obj HB1 (fun hx=>by have:=HL.2.1 _ hx;omega));have HKW2:=hide (HKW1.trans (hk.mono (fun x hx=>HALL _ (.inr (.inl hx)))));clear hw hk c0 c1 c2 c3 c4 c5 c6 c7 c8 HK1 HP1 HO1 HSE1 HR1;obtain⟨c0,c1,c2,c3,c4,c5,c6,c7,c8⟩:=nine HB2;go_wp2_with fail;refine(markSentZ ao G.o co s2 _ out _ (by omega) b3 (by omega) hzo HO2).mono ?_;rintro e w3 ⟨rfl,hw,hk⟩;have HO3:=hide hw;have HK3:=hide (GR.W.keeps HK2 hk (fun x hx=>fun hx2=>(HD2 _ (fp_mks hx) _ (.inr (.inl hx2))) rfl));have HP3:=hide (GR.W.keeps HP2 hk (fun x hx=>fun hx2=>(HD3 _ (fp_mks hx) _ (.inl hx2)) rfl));have HSE3:=hide (SeenW.keeps HSE2 hk (fun x hx=>fun hx2=>(Ne.symm (HD4 _ hx2 _ (.inl hx))) rfl) (fun x hx=>fun hx2=>(Ne.symm (HD4 _ hx2 _ (.inr (.inl hx)))) rfl));have HR3:=hide (GR.W.keeps HR2 hk (fun x hx=>fun hx2=>(Ne.symm (HD4 _ hx2 _ (.inr (.inr hx)))) rfl));have HB3:=hide (hk.obj HB2 (fun hx=>by have:=HL.2.2.1 _ hx;omega));have HKW3:=hide (HKW2.trans (hk.mono (fun x hx=>HALL _ (.inr (.inr (.inl hx))))));clear hw hk c0 c1 c2 c3 c4 c5 c6 c7 c8 HK2 HP2 HO2 HSE2 HR2;obtain⟨c0,c1,c2,c3,c4,c5,c6,c7,c8⟩:=nine HB3;go_wp2_with fail;refine(markSeenZ as' G.s cs s3 _ G.i seen _ (by omega) b5 b6 hzs HZ.sk HN45 HSE3).mono ?_;rintro e w4 ⟨rfl,hw,hk⟩;have HSE4:=hide hw;have HK4:=hide (GR.W.keeps HK3 hk (fun x hx=>fun hx2=>by rcases List.mem_append.1 hx2 with hx3|hx3;exact(HD2 _ (fp_mks hx) _ (.inr (.inr (.inl hx3)))) rfl;exact(HD2 _ (fp_mks hx) _ (.inr (.inr (.inr (.inl hx3))))) rfl));have HP4:=hide (GR.W.keeps HP3 hk (fun x hx=>fun hx2=>by rcases List.mem_append.1 hx2 with hx3|hx3;exact(HD3 _ (fp_mks hx) _ (.inr (.inl hx3))) rfl;exact(HD3 _ (fp_mks hx) _ (.inr (.inr (.inl hx3)))) rfl));have HO4:=hide (GR.W.keeps HO3 hk (fun x hx=>fun hx2=>by rcases List.mem_append.1 hx2 with hx3|hx3;exact(HD4 _ (fp_mks hx) _ (.inl hx3)) rfl;exact(HD4 _ (fp_mks hx) _ (.inr (.inl hx3))) rfl));have HR4:=hide (GR.W.keeps HR3 hk (fun x hx=>fun hx2=>by rcases List.mem_append.1 hx2 with hx3|hx3;exact(Ne.symm (HD5 _ hx3 _ (.inr hx))) rfl;exact(Ne.symm (HD6 _ hx3 _ hx)) rfl));have HB4:=hide (hk.obj HB3 (fun hx=>by have:=HL.2.2.2.1 _ hx;omega));have HKW4:=hide (HKW3.trans (hk.mono (fun x hx=>by rcases List.mem_append.1 hx with hx|hx;exact HALL _ (.inr (.inr (.inr (.inl hx))));exact HALL _ (.inr (.inr (.inr (.inr (.inl hx))))))));clear hw hk c0 c1 c2 c3 c4 c5 c6 c7 c8 HK3 HP3 HO3 HSE3 HR3;obtain⟨c0,c1,c2,c3,c4,c5,c6,c7,c8⟩:=nine HB4;rw [←unhide HQ4];go_wp2_with fail;refine(markReqZ ar G.r cr s4 _ reqs _ (by omega) b7 (by omega) hzr HR4).mono ?_;rintro e w5 ⟨rfl,hw,hk⟩;have HR5:=hide hw;have HK5:=hide (GR.W.keeps HK4 hk (fun x hx=>fun hx2=>(HD2 _ (fp_mks hx) _ (.inr (.inr (.inr (.inr hx2))))) rfl));have HP5:=hide (GR.W.keeps HP4 hk (fun x hx=>fun hx2=>(HD3 _ (fp_mks hx) _ (.inr (.inr (.inr hx2)))) rfl));have HO5:=hide (GR.W.keeps HO4 hk (fun x hx=>fun hx2=>(HD4 _ (fp_mks hx) _ (.inr (.inr hx2))) rfl));have HSE5:=hide (SeenW.keeps HSE4 hk (fun x hx=>fun hx2=>(HD5 _ (fp_mS hx) _ (.inr hx2)) rfl) (fun x hx=>fun hx2=>(HD6 _ (fpI_mS hx) _ hx2) rfl));have HB5:=hide (hk.obj HB4 (fun hx=>by have:=HL.2.2.2.2 _ hx;omega));have HKW5:=hide (HKW4.trans (hk.mono (fun x hx=>HALL _ (.inr (.inr (.inr (.inr (.inr hx))))))));clear hw hk c0 c1 c2 c3 c4 c5 c6 c7 c8 HK4 HP4 HO4 HSE4 HR4;obtain⟨c0,c1,c2,c3,c4,c5,c6,c7,c8⟩:=nine HB5;go_wp2_with fail;go_ret;refine⟨ret_int (by omega),?_,HKW5⟩;rw [unhide HMN];exact⟨HK5,HP5,HO5,HSE5,HR5⟩):P:=h
theorem Sa120.Ka26(h:P:=by
 dsimp only at hl HD HA HCB HCL HLS HKB HBX ⊢;clear ha;go_enter Tryz.func98,Tryz.ntmps98
 go_upto_region 1 with fail;refine wp_at (fun W0 hW0=>?_);have hblk:W0.heap[w.heap.size]?=some (.cells (ndc ⟨id,par,kids,next,pu,out,seen,old,reqs⟩ ⟨ak,ap,ao,as',ar,ck,cp,co,cs,cr⟩) 30 (0,0)):=by rw [hW0];exact HBX
 have HL0:Hid (Below w.heap.size w W0):=by rw [hW0];exact below_one w _
 obtain⟨c0,c1,c2,c3,c4,c5,c6,c7,c8⟩:=nine hblk;clear hW0 HBX hblk;obtain⟨bb,hbb⟩:∃bb,(!(ndB id&&(decide (par= -1)||(ndB par&&decide (par≠id)))))=bb:=⟨_,rfl⟩;have HBB:=hide hbb;clear hbb;go_cut [27] (fun r wx=>r= .bool bb∧wx=W0)
 case first=>
  cases h1:ndB id
  case' false=>
   have HV:=hide (show bb=true by rw [←unhide HBB];simp[h1])
   have H1:=hide (fun w1=>isNode id false w1 h1)
   clear HBB h1
   go_wp2_with (go_at_call 150;refine(H1 _).mono ?_;rintro e w1 ⟨rfl,rfl⟩)
   go_meet
   case rel=>exact⟨by rw [unhide HV],rfl⟩
  have H1:=hide (fun w1=>isNode id true w1 h1);by_cases h2:par= -1
  case' pos=>
   have HV:=hide (show bb=false by rw [←unhide HBB];simp[h1,h2])
   have hb2:(par != -1)=false:=by simp[h2]
   clear HBB h1 h2
   go_wp2_with (go_at_call 150;refine(H1 _).mono ?_;rintro e w1 ⟨rfl,rfl⟩)
   go_meet
   case rel=>exact⟨by rw [unhide HV],rfl⟩
  have hb2:(par != -1)=true:=by simp[h2]
  cases h3:ndB par
  case' false=>
   have HV:=hide (show bb=true by rw [←unhide HBB];simp[h2,h3])
   have H3:=hide (fun w1=>isNode par false w1 h3)
   clear HBB h1 h2 h3
   go_wp2_with (first|(go_at_call_of 150 id;refine(H1 _).mono ?_;rintro e w1 ⟨rfl,rfl⟩)|(go_at_call_of 150 par;refine(H3 _).mono ?_;rintro e w1 ⟨rfl,rfl⟩))
   go_meet
   case rel=>exact⟨by rw [unhide HV],rfl⟩
  have H3:=hide (fun w1=>isNode par true w1 h3);by_cases h4:par=id
  case' pos=>
   have HV:=hide (show bb=true by rw [←unhide HBB,decide_eq_false h2,decide_eq_false (show¬(par≠id) from fun h=>h h4)];simp)
   have hb4:(par == id)=true:=by simp[h4]
   subst h4
   clear HBB h1 h2 h3
   go_wp2_with (go_at_call 150;refine(H1 _).mono ?_;rintro e w1 ⟨rfl,rfl⟩)
   go_meet
   case rel=>exact⟨by rw [unhide HV],rfl⟩
  have HV:=hide (show bb=false by rw [←unhide HBB];simp[h1,h3,h4]);have hb4:(par == id)=false:=by simp[h4]
  clear HBB h1 h2 h3;go_wp2_with (first|(go_at_call_of 150 id;refine(H1 _).mono ?_;rintro e w1 ⟨rfl,rfl⟩)|(go_at_call_of 150 par;refine(H3 _).mono ?_;rintro e w1 ⟨rfl,rfl⟩))
  go_meet
  case rel=>exact⟨by rw [unhide HV],rfl⟩
 case rest=>
  obtain⟨rfl,rfl⟩:=hcut;cases hbv:bb
  case' true=>
   have HP:Hid (TT=false):=by
    have h:=unhide HBB;rw [hbv] at h;rw [unhide HD];generalize (ndB id&&(decide (par= -1)||(ndB par&&decide (par≠id))))=X at *;cases X
    ·rfl
    ·cases h
   clear HBB HD
   subst hbv
   go_wp2_with fail
   go_ret
   exact⟨ret_bool HP.symm,HL0⟩
  have HOK:Hid (TT=chk KB ltB kids):=by
   have h:=unhide HBB;rw [hbv] at h;rw [unhide HD];generalize (ndB id&&(decide (par= -1)||(ndB par&&decide (par≠id))))=X at *;cases X
   ·cases h
   ·rfl
  clear HBB HD;subst hbv;go_wp2_with fail;go_loop [3,31] (fun lv i=>∃(k:Nat) (y:Int),k≤kids.length∧i= .int .i64 k∧lv= .int .i64 y∧y=lastI (fun x=>x) (-1) (kids.take k)∧chk KB ltB (kids.take k)=true) (fun _ i=>kids.length - (intOf i).toNat)
  case atStart=>exact⟨0,-1,Nat.zero_le _,rfl,rfl,rfl,rfl⟩
  case round=>
   obtain⟨k,y,hk,rfl,rfl,hy,hall⟩:=hrel;have HALL:=hide hall;have HY:=hide hy;clear hall hy;by_cases hlt:k < kids.length
   case' neg=>
    have hke:k=kids.length:=by omega
    subst hke
    have hnlt:decide ((kids.length:Int) < (kids.length:Int))=false:=by simp
    have HF:Hid (TT=true):=by
     exact Za29
    go_wp2_with fail
    go_ret
    exact⟨ret_bool HF.symm,HL0⟩
   obtain⟨g,off,rfl,hgw,q0⟩:=IntsAt.one (GR.At.below HA HL0) k hlt;have HBAD:Hid (chk KB ltB (kids.take (k+1))=false→TT=false):=fun h=>HOK.trans (HCB _ h)
   have HNX:Hid (chk KB ltB (kids.take (k+1))=(KB kids[k]&&decide (y < kids[k]))):=by
    exact Za68
   have HLN:=hide (HLS k hlt);have HKX:=hide (HKB kids[k]);clear HCL HLS HCB HKB;generalize kids[k]=x at *;cases h1:ndB x
   case' false=>
    have H1:=hide (fun w1=>isNode x false w1 h1)
    have HV:=hide (HBAD (by rw [unhide HNX,unhide HKX];simp[h1]))
    clear HBAD HNX HKX h1
    go_wp2_with (go_at_call 150;refine(H1 _).mono ?_;rintro e w1 ⟨rfl,rfl⟩)
    go_ret
    exact⟨ret_bool HV.symm,HL0⟩
   have H1:=hide (fun w1=>isNode x true w1 h1);by_cases h2:y < x
   case' neg=>
    have hb2:decide (x≤y)=true:=decide_eq_true (by omega)
    have HV:=hide (HBAD (by rw [unhide HNX,unhide HKX];simp[h2]))
    clear HBAD HNX HKX h1
    go_wp2_with (go_at_call 150;refine(H1 _).mono ?_;rintro e w1 ⟨rfl,rfl⟩)
    go_ret
    exact⟨ret_bool HV.symm,HL0⟩
   have hb2:decide (x≤y)=false:=decide_eq_false (by omega);by_cases h3:x=id
   case' pos=>
    have hb3:(x == id)=true:=by simp[h3]
    have HV:=hide (HBAD (by rw [unhide HNX,unhide HKX];simp[h3]))
    clear HBAD HNX HKX h1 h3
    go_wp2_with (go_at_call 150;refine(H1 _).mono ?_;rintro e w1 ⟨rfl,rfl⟩)
    go_ret
    exact⟨ret_bool HV.symm,HL0⟩
   have hb3:(x == id)=false:=by simp[h3]
   by_cases h4:x=par
   case' pos=>
    have hb4:(x == par)=true:=by simp[h4]
    have HV:=hide (HBAD (by rw [unhide HNX,unhide HKX];simp[h4]))
    clear HBAD HNX HKX h1 h4
    go_wp2_with (go_at_call 150;refine(H1 _).mono ?_;rintro e w1 ⟨rfl,rfl⟩)
    go_ret
    exact⟨ret_bool HV.symm,HL0⟩
   have hb4:(x == par)=false:=by simp[h4]
   have HV:=hide (show chk KB ltB (kids.take (k+1))=true by rw [unhide HNX,unhide HKX];simp[h1,h2,h3,h4]);clear HBAD HNX HKX h1;go_wp2_with (go_at_call 150;refine(H1 _).mono ?_;rintro e w1 ⟨rfl,rfl⟩)
   exact Za95):P:=h
theorem Sa121.Ka26(h:P:=by
 dsimp only at hlo HD HCB HCL HLS HLB HKB HBX ⊢;generalize (fun s t:Rq=>ltB s.no t.no)=RR at *;cases h1:amB old
 case' false=>
  have HP:=hide (show TT=false by rw [unhide HD,h1];rfl)
  have H1:=hide (fun w1=>implAmB old false w1 h1)
  clear h1 HD
  go_enter Tryz.func103,Tryz.ntmps103
  go_wp2_with (go_at_call 156;refine(H1 _).mono ?_;rintro e w9 ⟨rfl,rfl⟩)
  go_ret
  exact⟨ret_bool HP.symm,below_one w _⟩
 have H1:=hide (fun w1=>implAmB old true w1 h1);have hold:0≤old∧old≤1000000000:=of_decide_eq_true h1;obtain⟨ho1,ho2⟩:=hold;by_cases h0:reqs.length≤30
 case' neg=>
  have HP:=hide (show TT=false by rw [unhide HD,decide_eq_false h0];simp)
  have hb0:decide ((30:Int) < reqs.length)=true:=decide_eq_true (by omega)
  clear h1 HD
  go_enter Tryz.func103,Tryz.ntmps103
  go_wp2_with (go_at_call 156;refine(H1 _).mono ?_;rintro e w9 ⟨rfl,rfl⟩)
  go_ret
  exact⟨ret_bool HP.symm,below_one w _⟩
 have hb0:decide ((30:Int) < reqs.length)=false:=decide_eq_false (by omega);have HOK:Hid (TT=chk KB RR reqs):=by rw [unhide HD,h1,decide_eq_true h0];rfl
 clear HD h1;go_enter Tryz.func103,Tryz.ntmps103
 go_wp2_with (go_at_call 156;refine(H1 _).mono ?_;rintro e w9 ⟨rfl,rfl⟩)
 go_loopw [3,21] (fun lv i wr=>∃(k:Nat) (y:Int),k≤reqs.length∧i= .int .i64 k∧lv= .int .i64 y∧y=lastI (fun s=>s.no) old (reqs.take k)∧chk KB RR (reqs.take k)=true∧wr.heap[w.heap.size]?=some (.cells (ndc ⟨id,par,kids,next,pu,out,seen,old,reqs⟩ ⟨ak,ap,ao,as',ar,ck,cp,co,cs,cr⟩) 30 (0,0))∧Below w.heap.size w wr) (fun _ i _=>reqs.length - (intOf i).toNat)
 case atStart=>exact⟨0,old,Nat.zero_le _,rfl,rfl,rfl,rfl,HBX,below_one w _⟩
 case round=>
  open Sa290 in exact Ya79):P:=h
theorem Sa122.Ka26(h:P:=by
 dsimp only at hlo HD HCB HCL HLS HLB HKB HNR HBX ⊢;generalize (fun s t:Snt=>ltB s.i t.i)=RR at *;by_cases h0:out.length≤40
 case' neg=>
  have HP:=hide (show TT=false by rw [unhide HD,decide_eq_false h0];rfl)
  have hb0:decide ((40:Int) < out.length)=true:=decide_eq_true (by omega)
  go_enter Tryz.func101,Tryz.ntmps101
  go_wp2_with fail
  go_ret
  exact⟨ret_bool HP.symm,below_one w _⟩
 have hb0:decide ((40:Int) < out.length)=false:=decide_eq_false (by omega);have HOK:Hid (TT=chk KB RR out):=by rw [unhide HD,decide_eq_true h0];rfl
 clear HD;go_enter Tryz.func101,Tryz.ntmps101
 go_wp2_with fail;go_loopw [3,13] (fun lv i wr=>∃(k:Nat) (y:Int),k≤out.length∧i= .int .i64 k∧lv= .int .i64 y∧y=lastI (fun s=>s.i) 0 (out.take k)∧chk KB RR (out.take k)=true∧wr.heap[w.heap.size]?=some (.cells (ndc ⟨id,par,kids,next,pu,out,seen,old,reqs⟩ ⟨ak,ap,ao,as',ar,ck,cp,co,cs,cr⟩) 30 (0,0))∧Below w.heap.size w wr) (fun _ i _=>out.length - (intOf i).toNat)
 case atStart=>exact⟨0,0,Nat.zero_le _,rfl,rfl,rfl,rfl,HBX,below_one w _⟩
 case round=>
  open Sa289 in exact Ya79):P:=h
theorem Sa123.Ka26(h:P:=by
 dsimp only at hl HC HBX HNB ⊢;clear ha;go_enter Tryz.func154,Tryz.ntmps154
 go_wp2_with fail;refine HC.mono ?_;rintro e w1 ⟨v,rfl,hown,hb1⟩;have HB1:=hide ((below_one w _).trans (hb1.mono (by simp)));have HO1:=hide (GR.own_lower (b':=w.heap.size) hown (by simp));obtain⟨c0,c1,_⟩:=nine (obj_step HBX hb1);clear hown hb1 HC;go_upto_if 9 with fail;go_cut [3] (fun r wx=>wx.ownsRow w.heap.size 3 1 r NB.length (GR.flat encNum NB)∧Below w.heap.size w wx)
 case first=>
  by_cases hp:par= -1
  ·have hb:(par != -1)=false:=by simp[hp]
   have HE:=hide (HNB.1 hp);clear hp;go_wp2_with fail;go_meet
   case rel=>exact⟨by rw [unhide HE];exact HO1,HB1⟩
  ·have hb:(par != -1)=true:=by simp[hp]
   have HE:=hide (HNB.2 hp);clear hp;have ho:=unhide HO1;go_wp2_with (at_builtin;refine wpList_append_own _ rfl _ _ 24 rfl w.heap.size 3 i0 (.int .i64 0) 1 8 Tryz.underlying24 hi hz0 hz1 hz2 rfl (by decide) _ _ _ rfl (ho.alloc _) ⟨w1.heap.size,0,none⟩ 1 1 [.int .i64 par] rfl rfl ?c1 ?c2 ?c3 ?c4 ?c5 ?_)
   case c1=>exact cell_one_new _ _ _
   case c2=>intro u hu;simp at hu;subst hu;rfl
   case c3=>unfold maxLen;omega
   case c4=>omega
   case c5=>have:=HB1.size;simp;omega
   intro v' w6 hown' hgrow _;have HB6:=hide (GR.below_append HB1 HB1.size ho hgrow)
   have HO6:Hid (w6.ownsRow w.heap.size 3 1 v' NB.length (GR.flat encNum NB)):=by
    rw [unhide HE,GR.flat_append,List.length_append];exact hown'
   clear hgrow ho hown';go_wp2_with fail;go_meet
   case rel=>exact⟨HO6,HB6⟩
 case rest=>
  obtain⟨ho,hb⟩:=hcut;have HS:=hide (sortOwn w.heap.size _ NB wc hln hb.size ho);have HB2:=hide hb;clear ho hb c0 c1;go_wp2_with fail;refine HS.mono ?_;rintro e w3 ⟨rfl,ho3,hb3⟩;have HO3:=hide ho3;have HB3:=hide (HB2.trans hb3);clear ho3 hb3;go_wp2_with fail;go_ret;exact⟨_,rfl,HO3,HB3⟩):P:=h
theorem Sa124.Ka26(h:P:=by
 dsimp only at HPL HPU HOT HSE HRE HD HBX ⊢;go_enter Tryz.func32,Tryz.ntmps32
 go_upto_region 1 with fail;open Sa157 in exact Ya37):P:=h
theorem Sa125.Ka26(h:P:=by
 dsimp only at hls HA HD HSK HNB HBX ⊢;go_enter Tryz.func102,Tryz.ntmps102
 go_wp2_with fail;refine HNB.mono ?_;rintro e w1 ⟨v,rfl,hown,hb1⟩;have HB1:=hide ((below_one w _).trans (hb1.mono (by simp)));have HBK1:=hide (obj_step HBX hb1);have hFL:=unhide HLS;subst hFL;obtain⟨fa,fc,rfl,hF⟩:=GR.own_at (enc:=encNum) (sz:=1) encNum_length hown;have HF:=hide hF;obtain⟨c0,c1,c2,c3,c4,c5,c6,c7,c8⟩:=nine HBK1;clear hown hb1 HNB HBX HLS hF;by_cases hlen:seen.length=F.length
 case' neg=>
  have hbn:((seen.length:Int) != (F.length:Int))=true:=by simp;omega
  have HP:=hide (show TT=false by
   rw [unhide HD,decide_eq_false (show¬seen.map (·.f)=F from fun h=>hlen (by rw [←h,List.length_map]))]
   rfl)
  clear HD
  go_wp2_with fail
  go_ret
  exact⟨ret_bool HP.symm,HB1⟩
 have hbn:((seen.length:Int) != (F.length:Int))=false:=by simp;omega
 have HLN:=hide hlen;clear hlen;go_wp2_with fail;go_loopw [17] (fun i wr=>∃k:Nat,k≤seen.length∧i= .int .i64 k∧(seen.take k).map (·.f)=F.take k∧(seen.take k).all snB=true∧Below w1.heap.size w1 wr) (fun i _=>seen.length - (intOf i).toNat)
 case atStart=>exact⟨0,Nat.zero_le _,rfl,rfl,rfl,Below.refl _ _⟩
 case round=>
  obtain⟨k,hk,rfl,hm,hall,hbx⟩:=hrel;have HM:=hide hm;have HALL:=hide hall;have HBX:=hide hbx;have HBK:=hide (obj_step HBK1 hbx);have HBL:=hide (HB1.trans (hbx.mono HB1.size));clear hm hall hbx;by_cases hlt:k < seen.length
  case' neg=>
   have hke:k=seen.length:=by omega
   subst hke
   have hnlt:decide ((seen.length:Int) < (seen.length:Int))=false:=by simp
   have HP:=hide (show TT=true by
    have h1:=unhide HM
    have h2:=unhide HALL
    rw [List.take_length] at h1 h2
    rw [unhide HLN,List.take_length] at h1
    rw [unhide HD,decide_eq_true h1,h2]
    rfl)
   go_wp2_with fail
   go_ret
   exact⟨ret_bool HP.symm,HBL⟩
  have hltF:k < F.length:=by rw [←unhide HLN];exact hlt
  obtain⟨g,off,b,c,e0,hgw,q0,q1,q2,hI⟩:=SeenAt.below (NodeAt.s HA) HBL k hlt;obtain⟨g2,off2,e2,hgw2,p0⟩:=IntsAt.one (GR.At.below HF HBX) k hltF;(try dsimp only at e0 q0 q1 q2 hI)
  subst e0 e2;have hids:=unhide HSK _ (List.getElem_mem hlt);have HI:=hide hI;have HST:=hide (fun h3 h4=>seen_step hlt HLN.symm HM HALL h3 h4);have HX1:=hide (fun h3=>seen_bad1 (F:=F) hlt HLN.symm h3);have HX2:=hide (fun h4=>seen_bad2 hlt h4);clear hI;generalize seen[k]=sk at *;generalize F[k]=y at *;obtain⟨fr,lo,ids⟩:=sk;dsimp only at q0 q1 q2 HI hids HST HX1 HX2;go_upto_region 7 with fail;open Sa288 in exact Ya78):P:=h
theorem Ya27(h:P:=by
 cases h1:NN fr
 case' false=>
  have cN:=unhide HNR fr false W1 HKI h1
  have HV:=hide (show bb=true by rw [←unhide HBB];simp[h1])
  clear HBB
  refine wp_region_quiet_below (by kernel_rfl) (by kernel_rfl) ?_
  repeat (first|go_big_quiet_step ((first|(go_at_call 49;exact cN _ _)|(go_at_call 46;exact cS _ _)))|quiet_step ((first|(go_at_call 49;exact cN _ _)|(go_at_call 46;exact cS _ _))))
  refine wpQuiet_nil ?_
  intro _ hw'
  obtain⟨⟨dq,osq⟩,hw''⟩:=hw'
  subst hw''
  go_wp2_with fail
  go_meet
  case rel=>exact Za9
 have cN:=unhide HNR fr true W1 HKI h1;exact Ka27):P:=h
theorem Sa126.Ka27(h:P:=by
 by_cases h2:y < fr
 case' neg=>
  have hy:decide (fr≤y)=true:=decide_eq_true (by omega)
  have HV:=hide (show bb=true by rw [←unhide HBB];simp[h2])
  clear HBB
  refine wp_region_quiet_below (by kernel_rfl) (by kernel_rfl) ?_
  repeat (first|go_big_quiet_step ((first|(go_at_call 49;exact cN _ _)|(go_at_call 46;exact cS _ _)))|quiet_step ((first|(go_at_call 49;exact cN _ _)|(go_at_call 46;exact cS _ _))))
  refine wpQuiet_nil ?_
  intro _ hw'
  obtain⟨⟨dq,osq⟩,hw''⟩:=hw'
  subst hw''
  go_wp2_with fail
  go_meet
  case rel=>exact Za9
 have hy:decide (fr≤y)=false:=decide_eq_false (by omega);open Sa33 in exact Ya9):P:=h
theorem Sa127.Ka27(h:P:=by
 open Sa34 in exact Ya9):P:=h
theorem Ya28(h:P:=by
 go_enter Tryz.func217,Tryz.ntmps217
 go_wp2_with fail;refine HOF.mono ?_;rintro e w1 ⟨mp,mb,v,rfl,hPM,hb1⟩;obtain⟨hblk,hlt1,hbw⟩:=Fo.one_block hb1;have HB1:=hide hbw;have c0:w1.cell? ⟨w.heap.size,0,none⟩=some (.int .i64 dm):=by rw [cell_of_row w1 _ _ _ _ (0,0) hblk];rfl
 have c1:w1.cell? ⟨w.heap.size,1,none⟩=some (.int .i64 df):=by rw [cell_of_row w1 _ _ _ _ (0,0) hblk];rfl
 have c2:w1.cell? ⟨w.heap.size,2,none⟩=some (.int .i64 ds):=by rw [cell_of_row w1 _ _ _ _ (0,0) hblk];rfl
 exact Ka28):P:=h
theorem Sa128.Ka28(h:P:=by
 have HMX:=hide (HMV _ mp mb _ v w1 hb1.size (by unfold maxLen;omega) hPM (HE.below hbw));clear hb1 hPM HOF hblk hbw HMV;go_wp2_with (first|(go_at_call 153;refine(HK _).mono ?_;rintro e w2 ⟨rfl,rfl⟩)|(go_at_call 100;refine(HAM _).mono ?_;rintro e w2 ⟨rfl,rfl⟩))
 refine HMX.mono ?_;rintro e w3 ⟨hb3,hcase⟩;have HB3:=hide (HB1.trans (Below.mono hb3 (by simp)));clear hb3 HMX;rcases hcase with⟨hf,h20,rfl⟩|⟨hf,rfl,v',hPM3⟩
 ·have HAD:=hide (HFULL hf h20);clear hf h20 HFULL HROOM;go_wp2_with fail;go_ret2
  exact⟨HB3,.inl ⟨HAD,_,by omega,rfl⟩⟩
 ·obtain⟨hadd,hlen⟩:=unhide HROOM hf;have HADD:=hide hadd;have HLS:=hide (implList _ mp mb _ v' PL G2 w3 hlen HPA HPK hPM3);clear hf HFULL HROOM hadd hPM3;go_wp2_with fail;refine HLS.mono ?_;rintro e w4 ⟨rfl,hblk4,hb4⟩;have HB4:=hide (HB3.trans (hb4.mono HB3.size));have HK4:=hide hblk4;clear hb4 hblk4;go_wp2_with fail;go_ret2
  rw [unhide HADD];exact⟨HB4,.inr ⟨rfl,_,HB3.size,rfl,HK4⟩⟩):P:=h
theorem Sa129.Ka28(h:P:=by
 have HMX:=hide (HMV _ mp mb _ v w1 hPM (HE.below hbw));clear hb1 hPM HOF hblk hbw HMV;go_wp2_with (first|(go_at_call 153;refine(HK _).mono ?_;rintro e w2 ⟨rfl,rfl⟩)|(go_at_call 100;refine(HAM _).mono ?_;rintro e w2 ⟨rfl,rfl⟩)|(go_at_call 245;refine HMX.mono ?_;rintro e w3 ⟨i,hi,rfl,hb3⟩))
 go_ret2
 exact⟨HB1.trans (hb3.mono HB1.size),.inl ⟨HAD,i,hi,rfl⟩⟩):P:=h
theorem Ya29(h:P:=by
 open Sa272 in exact Ya73):P:=h
theorem Sa130.Ka29(h:P:=by
 have r1:=cell_regrown q1;have r2:=cell_regrown q2;have r3:=cell_regrown q3;have e4:=cell_regrown d4;refine wp_region_mixE 23 (by kernel_rfl) ?_;show wpMixE _ _ _ _ _ 25 (Array.replicate 25 false) _ _
 refine tk [0,1,2,3,4,5,6,7,8,9,10,11,12,13,14,15,16,17,18,19] ?_;iterate 20 (refine tkE (fun K hK=>?_);go_simp;refine hK _ ?_;clear hK K)
 refine tkN ?_;clear r1 r2 r3 e4;refine wpMixE_one 20 rfl (by kernel_rfl) (by rfl) (fun x hx=>?_);go_simp;have HX:=hide (HZ1.step hx);refine(HUN x HX).mono ?_;rintro e y ⟨a,cp,g5,hg5,rfl,hp,hby⟩;refine⟨hby,?_⟩;have HST:=hide (fun u (hu:Ge y u)=>settleR (cp:=cp) HX (hby.trans (hu.mono hby.size)) hg5 (hp.below hu));clear hby hg5 hp HUN hx;refine tk [21,22] ?_;iterate 2 (refine tkE (fun K hK=>?_);go_simp;refine hK _ ?_;clear hK K)
 refine tkN ?_;refine wpMixE_leave (by kernel_rfl) (fun u hu=>?_);refine wpAny_one 23 rfl (by kernel_rfl) (by rfl) ?_;go_simp;refine(HST u hu).mono ?_;rintro e z2 ⟨rfl,A',G',c',hZ2,hA2⟩;have HZ2:=hide hZ2;have HA2:=hide (hA2.trans hAr);clear hZ2 HST hu hA2 d0 d1 d2 d3 d4 d5 d6 d7 d8 d9 q0 q1 q2 q3 qf;obtain⟨rl,rb⟩:=r;dsimp only at HZ2 ⊢;refine wpAny_one 24 rfl (by kernel_rfl) (by rfl) ?_;go_simp;refine wpAny_done (by kernel_rfl) ?_;go_simp;cases rb
 ·rw [if_neg (by simp)] at HZ2;obtain⟨g6,hA6,_,hg6,⟨s0,s1,s2,s3⟩,sf⟩:=HZ2.reqRow i hil;rw [unhide HA2] at hA6;cases hA6
  rw [hs] at s3;go_wp2_with fail;go_ret;exact⟨rfl,A',G',c',HZ2⟩
 ·rw [if_pos rfl] at HZ2;obtain⟨g6,hA6,_,hg6,⟨s0,s1,s2,s3⟩,sf⟩:=HZ2.reqRow i hil;rw [unhide HA2] at hA6;cases hA6
  have HFIN:=hide (HZ2.reqSet i hil g HA2);clear HZ2 HZ1 HX HW;go_wp2_with fail;go_ret;exact⟨rfl,A',G',c',HFIN⟩):P:=h
theorem Sa131.Ka29(h:P:=by
 have r3:=cell_regrown q3;refine wp_region_mix (by kernel_rfl) ?_;show wpMix _ _ _ _ 25 (Array.replicate 25 false) _ _
 refine tk [0,1,2,3,4,5,6,7,8,9,10,11,12,13,14,15,16,17,18,19,20,21,22,23,24] ?_;iterate 25 (refine tk0 (fun K hK=>?_);go_simp;refine hK _ ?_;clear hK K)
 refine tkN ?_;refine wpMix_done (by kernel_rfl) (fun x hx=>?_);have HX:=hide (HZ1.step hx);have x3:=(bcell hx).1 g (i*4+3) hgl;clear hx r3;go_simp;go_wp2_with fail;go_ret;exact⟨rfl,A,G,c,HX⟩):P:=h
theorem Ya30(h:P:=by
 have HW1:=hide (h.step (below_one w (.cells #[.int .i64 mK,.int .i64 mF,.int .i64 mT,.int .i64 mI,.int .i64 mL,.string mk,.int .i64 mN] 32)));have HP1:=hide (heap_alloc_new w (.cells #[.int .i64 mK,.int .i64 mF,.int .i64 mT,.int .i64 mI,.int .i64 mL,.string mk,.int .i64 mN] 32));exact Ka30):P:=h
theorem Sa132.Ka30(h:P:=by
 have hwl:=obj_lt h.blk;have hne:wb≠w.heap.size:=by omega
 have HTG:=hide (fun p:Regrown=>HW1.no.at.below (below_regrown _ p.d p.os));clear h hp hz;obtain⟨c0,c1,c2,c3,c4,c5,c6,c7,c8,c9⟩:=tenC HW1.blk;obtain⟨p0,p1,p2,p3,p4,p5,p6⟩:=sevenC HP1;open Sa162 in exact Ya38):P:=h
theorem Sa133.Ka30(h:P:=by
 clear h;obtain⟨c0,c1,c2,c3,c4,c5,c6,c7,c8,c9⟩:=tenC HW1.blk;have hwl:=obj_lt HW.blk;have hne:wb≠w.heap.size:=by omega
 go_enter Tryz.func168,Tryz.ntmps168
 go_wp2_with fail;refine(HIX w.heap.size _ HW1.no.at.s HP1).mono ?_;rintro e w2 ⟨rfl,hb2⟩;have HW2:=hide (HW1.step hb2);have HP2:=hide (obj_step HP1 hb2);have HJ2:Hid (∀j mm,msgB w j mm→msgB w2 j mm):=fun j mm hj=>obj_step (obj_step hj (below_one w _)) hb2
 clear hb2 HW1 HP1 HIX c0 c1 c2 c3 c4 c5 c6 c7 c8 c9;obtain⟨c0,c1,c2,c3,c4,c5,c6,c7,c8,c9⟩:=tenC HW2.blk;obtain⟨g,off,b,cc,e0,hg,q0,q1,q2,hids⟩:=HW2.no.at.s i hi;rw [unhide HS0] at q0 q1 q2 hids;have HSO:=hide (setOf s0.f s0.l b cc s0.ids w2 HSNP.2.2.1 (fun x hx=>by have:=HSNP.2.2.2.1 x hx;have:=HSNP.1;omega) hids);have hwl2:=obj_lt HW2.blk;have hiI:(i:Int) < (n.seen.length:Int):=by omega
 clear hids;rw [e0] at c6;go_wp2_with fail;refine HSO.mono ?_;rintro e w3 ⟨sb,mb,rfl,hsb,hmb,hS3,hI3,hb3⟩;have HW3:Hid (WSet w0 w3 wb sb mb s0.ids.length n A G (newC w2.heap.size 9 c) v L s0.l s0.ids):=⟨(HW2.recol (c':=newC w2.heap.size 9 c) (fun x hx=>newC_old hx)).step hb3,hS3,hI3,newC_new hsb,newC_new hmb⟩;have HP3:=hide (obj_step HP2 hb3);have HJ3:Hid (∀j mm,msgB w j mm→msgB w3 j mm):=fun j mm hj=>obj_step (HJ2 j mm hj) hb3
 have hBsb:w.heap.size≠sb:=by have:=obj_lt HP2;omega
 have hBmb:w.heap.size≠mb:=by have:=obj_lt HP2;omega
 clear hS3 hI3 hb3 hsb hmb q0 q1 q2 e0 HSO c0 c1 c2 c3 c4 c5 c6 c7 c8 c9;obtain⟨⟨p0,p1,p2,p3,p4,p5,p6⟩,_⟩:=seven_at HP3;have hpl:=obj_lt HP3;go_wp2_with fail;refine(liftSet sb mb s0.ids.length s0.l mL (lowS s0 mL) s0.ids w3 HMX HW3.bk HW3.si).mono ?_;rintro e w4 ⟨rfl,hS4,hI4,hk4⟩;have HW4:=hide (HW3.lift hS4 hI4 hk4);have HP4:=hide (hk4.obj HP3 (by simp[hBsb,hBmb]))
 have HJ4:Hid (∀j mm,msgB w j mm→msgB w4 j mm):=fun j mm hj=>hk4.obj (HJ3 j mm hj) (by
  have h1:=msg_ne_set (HJ3 j mm hj) HW3.bk
  have h2:=HW3.si.far (HJ3 j mm hj)
  simp[h1,h2])
 clear hS4 hI4 hk4 p0 p1 p2 p3 p4 p5 p6 hpl HJ2 HJ3;obtain⟨⟨p0,p1,p2,p3,p4,p5,p6⟩,_⟩:=seven_at HP4;have hpl:=obj_lt HP4;go_wp2_with fail;refine(hasSet sb mb s0.ids.length (lowS s0 mL) mI (idsS s0 mL) w4 hI0 hI1 HW4.bk HW4.si).mono ?_;rintro e w5 ⟨rfl,hb5⟩;have HW5:=hide (HW4.step hb5);have HP5:=hide (obj_step HP4 hb5);have HJ5:Hid (∀j mm,msgB w j mm→msgB w5 j mm):=fun j mm hj=>obj_step (HJ4 j mm hj) hb5
 have hhs:(decide (mI < lowS s0 mL)||decide (mI∈idsS s0 mL))=hasS s0 mL mI:=by
  unfold hasS;congr 1
  rw [Bool.eq_iff_iff,decide_eq_true_iff,has_iff]
 rw [hhs];clear hhs hb5 p0 p1 p2 p3 p4 p5 p6 hpl HW4 HP4 HW3 HP3;cases hq:hasS s0 mL mI
 case' true=>
  have HQ:=hide hq
  clear hq
  go_wp2_with fail
  obtain⟨n',A',G',c',kk,l2,HWS,HASC,HLEN,HSL,HTE⟩:∃(n':Nd) (A':Ads) (G':Blks) (c':Nat→Nat) (kk:Nat) (l2:List Int),Hid (WSet w0 w5 wb sb mb kk n' A' G' c' v L (lowS s0 mL) l2)∧Hid (l2.Pairwise (· < ·))∧Hid (l2.length≤1000)∧Hid (n'.seen.length=n.seen.length)∧Hid (TT=(setSeen n' (n'.seen.set i ⟨mF,lowS s0 mL,l2⟩),true)):=⟨n,A,G,_,_,_,HW5,HIDS.2.2.2.2,Nat.le_trans HIDS.2.2.1 (by omega),rfl,HTH HQ⟩
  have HBB:=hide HP5
  have HJW:=hide HJ5
  clear HTH HTG HTN HGS HGF HQ HW5 HP5 HW2 HP2
  obtain⟨c0,c1,c2,c3,c4,c5,c6,c7,c8,c9⟩:=tenC HWS.wk.blk
  have e0:A'.s=some ⟨G'.s,0,none⟩:=by
   exact Za35
  rw [e0,unhide HSL] at c6
  obtain⟨⟨p0,p1,p2,p3,p4,p5,p6⟩,_⟩:=seven_at HBB
  have hwl:=obj_lt HWS.wk.blk
  have hBl:=obj_lt HBB
  go_upto_region 5 with fail
  have y6:=cell_regrown c6
  have z1:=cell_regrown p1
  clear c0 c1 c2 c3 c4 c5 c6 c7 c8 c9 p0 p1 p2 p3 p4 p5 p6
  refine wp_region_mixE 11 (by kernel_rfl) ?_
  show wpMixE _ _ _ _ _ 12 (Array.replicate 12 false) _ _
  refine tk [0,1,2,3,4,5,6,7,8] ?_
  iterate 9 (refine tkE (fun K hK=>?_);go_simp;refine hK _ ?_;clear hK K)
  refine tkN ?_
  clear y6 z1
  refine wpMixE_one 9 rfl (by kernel_rfl) (by rfl) (fun x hx=>?_)
  go_simp
  have HX:=hide (HWS.step hx)
  have HJX:Hid (∀j mm,msgB w j mm→msgB x j mm):=fun j mm hj=>obj_step (HJW j mm hj) hx
  have HSO:=hide (seenOfSet sb mb kk mF (lowS s0 mL) l2 x HLEN HASC HX.bk HX.si)
  clear hx
  refine HSO.mono ?_
  rintro e y ⟨v2,rfl,hrow,hby⟩
  refine⟨hby,?_⟩
  obtain⟨b2,c2,g2,rfl,hW2,hg2,_⟩:=GR.W.of_own (enc:=encNum) encNum_length hrow
  have HY:Hid (WK w0 y wb n' A' G' (newC x.heap.size 5 c') v L):=(HX.wk.recol (c':=newC x.heap.size 5 c') (fun z hz=>newC_old hz)).step hby
  have HI2:=hide hW2
  have HJY:Hid (∀j mm,msgB w j mm→msgB y j mm):=fun j mm hj=>obj_step (HJX j mm hj) hby
  have HC5:Hid (∀z∈fp g2 l2,newC x.heap.size 5 c' z=5∧z∉fpI G'.i n'.seen):=fun z hz=>⟨newC_new (hg2 z hz).1,fun hm=>by
   have h1:=(seen_lt HX.wk.no.s).2 z hm
   have h2:=(hg2 z hz).1
   omega⟩
  clear hrow hby hW2 hg2 HSO HX HWS
  refine tk [10] ?_
  (refine tkE (fun K hK=>?_);go_simp;refine hK _ ?_;clear hK K)
  refine tkN ?_
  refine wpMixE_leave (by kernel_rfl) (fun x3 hx3=>?_)
  have HY3:=hide (HY.step hx3)
  have HI3:=hide (HI2.below hx3)
  have HJ6:Hid (∀j mm,msgB w j mm→msgB x3 j mm):=fun j mm hj=>obj_step (HJY j mm hj) hx3
  obtain⟨b0,cc0,_,hg0,⟨q0,q1,q2⟩,⟨f0,f1⟩,_⟩:=SeenW.three HY3.no.s i (by rw [unhide HSL];exact hi)
  have f2:x3.frozen? ⟨G'.s,i*3+2,none⟩=false:=by
   exact Za30
  have HRES:=hide (HY3.seenPut i (by rw [unhide HSL];exact hi) ⟨mF,lowS s0 mL,l2⟩ b2 c2 g2 HI3 HC5)
  have HJF:Hid (∀j mm,msgB w j mm→msgB (GR.setW x3 G'.s (i*3) [.int .i64 mF,.int .i64 (lowS s0 mL),.slice b2 l2.length c2]) j mm):=fun j mm hj=>by
   have h3:=unhide HJ6 j mm hj
   have hne:=msg_ne_seen h3 q2
   unfold msgB
   rw [GR.setW_other hne]
   exact h3
  clear hx3 HY HI2
  refine wpAny_one 11 rfl (by kernel_rfl) (by rfl) ?_
  go_simp
  refine wpAny_done (by kernel_rfl) ?_
  go_simp
  clear q0 q1 q2 f0 f1 f2
  go_wp2_with fail
  go_ret
  exact⟨by rw [unhide HTE];first|done|rfl,⟨A',_,_,by rw [unhide HTE];exact HRES⟩,HJF⟩
 have HQ:=hide hq;clear hq;obtain⟨⟨p0,p1,p2,p3,p4,p5,p6⟩,_⟩:=seven_at HP5;have hpl:=obj_lt HP5;have hnd:(idsS s0 mL).Nodup:=HIDS.2.2.2.2.imp (fun h=>by omega);have HND:=hide hnd;clear hnd;by_cases hf:(idsS s0 mL).length=40
 case' pos=>
  have HF:=hide hf
  clear hf
  go_wp2_with fail
  refine(HGF w5 sb mb _ A G _ _ _ HND HF HW5).mono ?_
  rintro e w6 ⟨rfl,hb6⟩
  have HBB:=hide (obj_step HP5 hb6)
  have HJW:Hid (∀j mm,msgB w j mm→msgB w6 j mm):=fun j mm hj=>obj_step (HJ5 j mm hj) hb6
  have HGB:Hid (gainB n s0 ⟨mK,mF,mT,mI,mL,mk,mN⟩=false):=by
   show gainB n s0 ⟨mK,mF,mT,mI,mL,mk,mN⟩=false
   unfold gainB;rw [decide_eq_false (by have:=unhide HF;dsimp only;omega),Bool.and_false]
  go_wp2_with fail
  obtain⟨n',A',G',c',kk,l2,HWS,HASC,HLEN,HSL,HTE⟩:∃(n':Nd) (A':Ads) (G':Blks) (c':Nat→Nat) (kk:Nat) (l2:List Int),Hid (WSet w0 w6 wb sb mb kk n' A' G' c' v L (lowS s0 mL) l2)∧Hid (l2.Pairwise (· < ·))∧Hid (l2.length≤1000)∧Hid (n'.seen.length=n.seen.length)∧Hid (TT=(setSeen n' (n'.seen.set i ⟨mF,lowS s0 mL,l2⟩),false)):=⟨n,A,G,_,_,_,HW5.step hb6,HIDS.2.2.2.2,Nat.le_trans HIDS.2.2.1 (by omega),rfl,HTN HQ HGB⟩
  clear hb6 HTH HTG HTN HGS HGF HQ HW5 HP5 HW2 HP2 HGB HF HND p0 p1 p2 p3 p4 p5 p6 hpl
  obtain⟨c0,c1,c2,c3,c4,c5,c6,c7,c8,c9⟩:=tenC HWS.wk.blk
  have e0:A'.s=some ⟨G'.s,0,none⟩:=by
   exact Za35
  rw [e0,unhide HSL] at c6
  obtain⟨⟨p0,p1,p2,p3,p4,p5,p6⟩,_⟩:=seven_at HBB
  have hwl:=obj_lt HWS.wk.blk
  have hBl:=obj_lt HBB
  go_upto_region 5 with fail
  have y6:=cell_regrown c6
  have z1:=cell_regrown p1
  clear c0 c1 c2 c3 c4 c5 c6 c7 c8 c9 p0 p1 p2 p3 p4 p5 p6
  refine wp_region_mixE 11 (by kernel_rfl) ?_
  show wpMixE _ _ _ _ _ 12 (Array.replicate 12 false) _ _
  refine tk [0,1,2,3,4,5,6,7,8] ?_
  iterate 9 (refine tkE (fun K hK=>?_);go_simp;refine hK _ ?_;clear hK K)
  refine tkN ?_
  clear y6 z1
  refine wpMixE_one 9 rfl (by kernel_rfl) (by rfl) (fun x hx=>?_)
  go_simp
  have HX:=hide (HWS.step hx)
  have HJX:Hid (∀j mm,msgB w j mm→msgB x j mm):=fun j mm hj=>obj_step (HJW j mm hj) hx
  have HSO:=hide (seenOfSet sb mb kk mF (lowS s0 mL) l2 x HLEN HASC HX.bk HX.si)
  clear hx
  refine HSO.mono ?_
  rintro e y ⟨v2,rfl,hrow,hby⟩
  refine⟨hby,?_⟩
  obtain⟨b2,c2,g2,rfl,hW2,hg2,_⟩:=GR.W.of_own (enc:=encNum) encNum_length hrow
  have HY:Hid (WK w0 y wb n' A' G' (newC x.heap.size 5 c') v L):=(HX.wk.recol (c':=newC x.heap.size 5 c') (fun z hz=>newC_old hz)).step hby
  have HI2:=hide hW2
  have HJY:Hid (∀j mm,msgB w j mm→msgB y j mm):=fun j mm hj=>obj_step (HJX j mm hj) hby
  have HC5:Hid (∀z∈fp g2 l2,newC x.heap.size 5 c' z=5∧z∉fpI G'.i n'.seen):=fun z hz=>⟨newC_new (hg2 z hz).1,fun hm=>by
   have h1:=(seen_lt HX.wk.no.s).2 z hm
   have h2:=(hg2 z hz).1
   omega⟩
  clear hrow hby hW2 hg2 HSO HX HWS
  refine tk [10] ?_
  (refine tkE (fun K hK=>?_);go_simp;refine hK _ ?_;clear hK K)
  refine tkN ?_
  refine wpMixE_leave (by kernel_rfl) (fun x3 hx3=>?_)
  have HY3:=hide (HY.step hx3)
  have HI3:=hide (HI2.below hx3)
  have HJ6:Hid (∀j mm,msgB w j mm→msgB x3 j mm):=fun j mm hj=>obj_step (HJY j mm hj) hx3
  obtain⟨b0,cc0,_,hg0,⟨q0,q1,q2⟩,⟨f0,f1⟩,_⟩:=SeenW.three HY3.no.s i (by rw [unhide HSL];exact hi)
  have f2:x3.frozen? ⟨G'.s,i*3+2,none⟩=false:=by
   exact Za30
  have HRES:=hide (HY3.seenPut i (by rw [unhide HSL];exact hi) ⟨mF,lowS s0 mL,l2⟩ b2 c2 g2 HI3 HC5)
  have HJF:Hid (∀j mm,msgB w j mm→msgB (GR.setW x3 G'.s (i*3) [.int .i64 mF,.int .i64 (lowS s0 mL),.slice b2 l2.length c2]) j mm):=fun j mm hj=>by
   have h3:=unhide HJ6 j mm hj
   have hne:=msg_ne_seen h3 q2
   unfold msgB
   rw [GR.setW_other hne]
   exact h3
  clear hx3 HY HI2
  refine wpAny_one 11 rfl (by kernel_rfl) (by rfl) ?_
  go_simp
  refine wpAny_done (by kernel_rfl) ?_
  go_simp
  clear q0 q1 q2 f0 f1 f2
  go_wp2_with fail
  go_ret
  exact⟨by rw [unhide HTE];first|done|rfl,⟨A',_,_,by rw [unhide HTE];exact HRES⟩,HJF⟩
 have HF:Hid ((idsS s0 mL).length < 40):=by
  have:=HIDS.2.2.1;show(idsS s0 mL).length < 40
  omega
 clear hf;go_wp2_with fail;refine(HGS w5 sb mb _ A G _ _ _ (by have:=HSNP.2.2.1;omega) HND HF HW5).mono ?_;rintro e w6 ⟨rfl,⟨A1,G1,c1,hW6⟩,hk6⟩;have HBB:=hide (hk6 w.heap.size _ (by omega) hBmb HP5);have HJW:Hid (∀j mm,msgB w j mm→msgB w6 j mm):=fun j mm hj=>hk6 j _ (msg_ne_wk (HJ5 j mm hj) HW5.wk.blk) (HW5.si.far (HJ5 j mm hj)) (HJ5 j mm hj)
 have HW6:=hide hW6;clear hW6 hk6 p0 p1 p2 p3 p4 p5 p6 hpl HGS HGF;cases hr:(addP n.pu mk 0 1 0 mN).2
 case' false=>
  have HGB:Hid (gainB n s0 ⟨mK,mF,mT,mI,mL,mk,mN⟩=false):=by
   show gainB n s0 ⟨mK,mF,mT,mI,mL,mk,mN⟩=false
   unfold gainB;rw [hr,Bool.false_and]
  rw [hr] at HW6
  clear hr
  go_wp2_with fail
  obtain⟨n',A',G',c',kk,l2,HWS,HASC,HLEN,HSL,HTE⟩:∃(n':Nd) (A':Ads) (G':Blks) (c':Nat→Nat) (kk:Nat) (l2:List Int),Hid (WSet w0 w6 wb sb mb kk n' A' G' c' v L (lowS s0 mL) l2)∧Hid (l2.Pairwise (· < ·))∧Hid (l2.length≤1000)∧Hid (n'.seen.length=n.seen.length)∧Hid (TT=(setSeen n' (n'.seen.set i ⟨mF,lowS s0 mL,l2⟩),false)):=⟨n,A1,G1,c1,_,_,HW6,HIDS.2.2.2.2,Nat.le_trans HIDS.2.2.1 (by omega),rfl,HTN HQ HGB⟩
  clear HTH HTG HTN HQ HW5 HP5 HW2 HP2 HGB HF HND HW6
  obtain⟨c0,c1,c2,c3,c4,c5,c6,c7,c8,c9⟩:=tenC HWS.wk.blk
  have e0:A'.s=some ⟨G'.s,0,none⟩:=by
   exact Za35
  rw [e0,unhide HSL] at c6
  obtain⟨⟨p0,p1,p2,p3,p4,p5,p6⟩,_⟩:=seven_at HBB
  have hwl:=obj_lt HWS.wk.blk
  have hBl:=obj_lt HBB
  go_upto_region 5 with fail
  have y6:=cell_regrown c6
  have z1:=cell_regrown p1
  clear c0 c1 c2 c3 c4 c5 c6 c7 c8 c9 p0 p1 p2 p3 p4 p5 p6
  refine wp_region_mixE 11 (by kernel_rfl) ?_
  show wpMixE _ _ _ _ _ 12 (Array.replicate 12 false) _ _
  refine tk [0,1,2,3,4,5,6,7,8] ?_
  iterate 9 (refine tkE (fun K hK=>?_);go_simp;refine hK _ ?_;clear hK K)
  refine tkN ?_
  clear y6 z1
  refine wpMixE_one 9 rfl (by kernel_rfl) (by rfl) (fun x hx=>?_)
  go_simp
  have HX:=hide (HWS.step hx)
  have HJX:Hid (∀j mm,msgB w j mm→msgB x j mm):=fun j mm hj=>obj_step (HJW j mm hj) hx
  have HSO:=hide (seenOfSet sb mb kk mF (lowS s0 mL) l2 x HLEN HASC HX.bk HX.si)
  clear hx
  refine HSO.mono ?_
  rintro e y ⟨v2,rfl,hrow,hby⟩
  refine⟨hby,?_⟩
  obtain⟨b2,c2,g2,rfl,hW2,hg2,_⟩:=GR.W.of_own (enc:=encNum) encNum_length hrow
  have HY:Hid (WK w0 y wb n' A' G' (newC x.heap.size 5 c') v L):=(HX.wk.recol (c':=newC x.heap.size 5 c') (fun z hz=>newC_old hz)).step hby
  have HI2:=hide hW2
  have HJY:Hid (∀j mm,msgB w j mm→msgB y j mm):=fun j mm hj=>obj_step (HJX j mm hj) hby
  have HC5:Hid (∀z∈fp g2 l2,newC x.heap.size 5 c' z=5∧z∉fpI G'.i n'.seen):=fun z hz=>⟨newC_new (hg2 z hz).1,fun hm=>by
   have h1:=(seen_lt HX.wk.no.s).2 z hm
   have h2:=(hg2 z hz).1
   omega⟩
  clear hrow hby hW2 hg2 HSO HX HWS
  refine tk [10] ?_
  (refine tkE (fun K hK=>?_);go_simp;refine hK _ ?_;clear hK K)
  refine tkN ?_
  refine wpMixE_leave (by kernel_rfl) (fun x3 hx3=>?_)
  have HY3:=hide (HY.step hx3)
  have HI3:=hide (HI2.below hx3)
  have HJ6:Hid (∀j mm,msgB w j mm→msgB x3 j mm):=fun j mm hj=>obj_step (HJY j mm hj) hx3
  obtain⟨b0,cc0,_,hg0,⟨q0,q1,q2⟩,⟨f0,f1⟩,_⟩:=SeenW.three HY3.no.s i (by rw [unhide HSL];exact hi)
  have f2:x3.frozen? ⟨G'.s,i*3+2,none⟩=false:=by
   exact Za30
  have HRES:=hide (HY3.seenPut i (by rw [unhide HSL];exact hi) ⟨mF,lowS s0 mL,l2⟩ b2 c2 g2 HI3 HC5)
  have HJF:Hid (∀j mm,msgB w j mm→msgB (GR.setW x3 G'.s (i*3) [.int .i64 mF,.int .i64 (lowS s0 mL),.slice b2 l2.length c2]) j mm):=fun j mm hj=>by
   have h3:=unhide HJ6 j mm hj
   have hne:=msg_ne_seen h3 q2
   unfold msgB
   rw [GR.setW_other hne]
   exact h3
  clear hx3 HY HI2
  refine wpAny_one 11 rfl (by kernel_rfl) (by rfl) ?_
  go_simp
  refine wpAny_done (by kernel_rfl) ?_
  go_simp
  clear q0 q1 q2 f0 f1 f2
  go_wp2_with fail
  go_ret
  exact⟨by rw [unhide HTE];first|done|rfl,⟨A',_,_,by rw [unhide HTE];exact HRES⟩,HJF⟩
 have HGB:Hid (gainB n s0 ⟨mK,mF,mT,mI,mL,mk,mN⟩=true):=by
  show gainB n s0 ⟨mK,mF,mT,mI,mL,mk,mN⟩=true
  unfold gainB;rw [hr,decide_eq_true (unhide HF),Bool.true_and]
 rw [hr] at HW6;clear hr;have HNI:=hide (hasS_no HQ).2;go_wp2_with fail
 obtain⟨n',A',G',c',kk,l2,HWS,HASC,HLEN,HSL,HTE⟩:∃(n':Nd) (A':Ads) (G':Blks) (c':Nat→Nat) (kk:Nat) (l2:List Int),Hid (WSet w0 w6 wb sb mb kk n' A' G' c' v L (lowS s0 mL) l2)∧Hid (l2.Pairwise (· < ·))∧Hid (l2.length≤1000)∧Hid (n'.seen.length=n.seen.length)∧Hid (TT=(setSeen n' (n'.seen.set i ⟨mF,lowS s0 mL,l2⟩),true)):=⟨setPu n (addP n.pu mk 0 1 0 mN).1,A1,G1,c1,_,insI (idsS s0 mL) mI,⟨HW6.wk,HW6.bk,HW6.si.same (fun x=>by rw [insI_mem];exact List.mem_cons),HW6.cs,HW6.cm⟩,insI_asc HIDS.2.2.2.2 HNI,(by
  show(insI (idsS s0 mL) mI).length≤1000
  rw [insI_length]
  have:=unhide HF
  omega),rfl,HTG HQ HGB⟩
 clear HTH HTG HTN HQ HW5 HP5 HW2 HP2 HGB HF HND HW6 HNI;obtain⟨c0,c1,c2,c3,c4,c5,c6,c7,c8,c9⟩:=tenC HWS.wk.blk
 have e0:A'.s=some ⟨G'.s,0,none⟩:=by
  exact Za35
 rw [e0,unhide HSL] at c6;obtain⟨⟨p0,p1,p2,p3,p4,p5,p6⟩,_⟩:=seven_at HBB;have hwl:=obj_lt HWS.wk.blk;have hBl:=obj_lt HBB;go_upto_region 5 with fail;have y6:=cell_regrown c6;have z1:=cell_regrown p1;clear c0 c1 c2 c3 c4 c5 c6 c7 c8 c9 p0 p1 p2 p3 p4 p5 p6;refine wp_region_mixE 11 (by kernel_rfl) ?_;show wpMixE _ _ _ _ _ 12 (Array.replicate 12 false) _ _
 refine tk [0,1,2,3,4,5,6,7,8] ?_;iterate 9 (refine tkE (fun K hK=>?_);go_simp;refine hK _ ?_;clear hK K)
 refine tkN ?_;clear y6 z1;refine wpMixE_one 9 rfl (by kernel_rfl) (by rfl) (fun x hx=>?_);go_simp;have HX:=hide (HWS.step hx);have HJX:Hid (∀j mm,msgB w j mm→msgB x j mm):=fun j mm hj=>obj_step (HJW j mm hj) hx
 have HSO:=hide (seenOfSet sb mb kk mF (lowS s0 mL) l2 x HLEN HASC HX.bk HX.si);clear hx;refine HSO.mono ?_;rintro e y ⟨v2,rfl,hrow,hby⟩;refine⟨hby,?_⟩;obtain⟨b2,c2,g2,rfl,hW2,hg2,_⟩:=GR.W.of_own (enc:=encNum) encNum_length hrow;have HY:Hid (WK w0 y wb n' A' G' (newC x.heap.size 5 c') v L):=(HX.wk.recol (c':=newC x.heap.size 5 c') (fun z hz=>newC_old hz)).step hby;have HI2:=hide hW2;have HJY:Hid (∀j mm,msgB w j mm→msgB y j mm):=fun j mm hj=>obj_step (HJX j mm hj) hby
 have HC5:Hid (∀z∈fp g2 l2,newC x.heap.size 5 c' z=5∧z∉fpI G'.i n'.seen):=fun z hz=>⟨newC_new (hg2 z hz).1,fun hm=>by
  have h1:=(seen_lt HX.wk.no.s).2 z hm
  have h2:=(hg2 z hz).1
  omega⟩
 clear hrow hby hW2 hg2 HSO HX HWS;refine tk [10] ?_;(refine tkE (fun K hK=>?_);go_simp;refine hK _ ?_;clear hK K)
 refine tkN ?_;refine wpMixE_leave (by kernel_rfl) (fun x3 hx3=>?_);have HY3:=hide (HY.step hx3);have HI3:=hide (HI2.below hx3);have HJ6:Hid (∀j mm,msgB w j mm→msgB x3 j mm):=fun j mm hj=>obj_step (HJY j mm hj) hx3
 obtain⟨b0,cc0,_,hg0,⟨q0,q1,q2⟩,⟨f0,f1⟩,_⟩:=SeenW.three HY3.no.s i (by rw [unhide HSL];exact hi)
 have f2:x3.frozen? ⟨G'.s,i*3+2,none⟩=false:=by
  exact Za30
 have HRES:=hide (HY3.seenPut i (by rw [unhide HSL];exact hi) ⟨mF,lowS s0 mL,l2⟩ b2 c2 g2 HI3 HC5)
 have HJF:Hid (∀j mm,msgB w j mm→msgB (GR.setW x3 G'.s (i*3) [.int .i64 mF,.int .i64 (lowS s0 mL),.slice b2 l2.length c2]) j mm):=fun j mm hj=>by
  have h3:=unhide HJ6 j mm hj
  have hne:=msg_ne_seen h3 q2
  unfold msgB
  rw [GR.setW_other hne]
  exact h3
 clear hx3 HY HI2;refine wpAny_one 11 rfl (by kernel_rfl) (by rfl) ?_;go_simp;refine wpAny_done (by kernel_rfl) ?_;go_simp;clear q0 q1 q2 f0 f1 f2;go_wp2_with fail;go_ret;exact⟨by rw [unhide HTE];first|done|rfl,⟨A',_,_,by rw [unhide HTE];exact HRES⟩,HJF⟩):P:=h
theorem Sa134.Ka30(h:P:=by
 obtain⟨c0,c1,c2,c3,c4,c5,c6,c7,c8,c9⟩:=tenC HW1.wk.blk;obtain⟨⟨p0,p1,p2,p3,p4,p5,p6⟩,_⟩:=seven_at HP1;obtain⟨⟨d0,d1⟩,_⟩:=two_at HW1.bk;have hlen:=lenG HW1.si hnd;have hwl:=obj_lt HW.wk.blk;have hsl:=obj_lt HW.bk;have hne:wb≠w.heap.size:=by omega
 have hne2:sb≠w.heap.size:=by omega
 clear h;go_enter Tryz.func198,Tryz.ntmps198
 go_upto_region 1 with fail;have y4:=cell_regrown c4;have z3:=cell_regrown p3;have z5:=cell_regrown p5;have z6:=cell_regrown p6;have x1:=cell_regrown d1;clear c0 c1 c2 c3 c4 c5 c6 c7 c8 c9 p0 p1 p2 p3 p4 p5 p6 d0 d1;exact Ka19):P:=h
theorem Ya31(h:P:=by
 rw [←hW] at e2 e3;have HPB:=hide e2;have HW1:=hide (HW0.step e3);clear hW e2 e3;generalize w.heap.size+1=B at *;obtain⟨c0,c1,c2,c3,c4,c5,c6,c7,c8,c9⟩:=tenC HW1.blk;obtain⟨⟨p0,p1,p2,p3,p4,p5,p6⟩,_⟩:=seven_at HPB;have hBl:=obj_lt HPB;have hwl1:=obj_lt HW1.blk;exact Ka31):P:=h
theorem Sa135.Ka31(h:P:=by
 go_upto_region 12 with fail;go_wp2_with fail;refine(HDL W B HPB HW1.no.o).mono ?_;rintro e y ⟨a2,cp2,rfl,hrow,hgr,hx2⟩;have HY:=hide (HW1.setOut hgr hrow hx2);clear hrow hgr hx2 HDL c0 c1 c2 c3 c4 c5 c6 c7 c8 c9 p0 p1 p2 p3 p4 p5 p6;obtain⟨c0,c1,c2,c3,c4,c5,c6,c7,c8,c9⟩:=tenC HY.1;have f5:=obj_free HY.1 5;have hwl2:=obj_lt HY.1;go_wp2_with fail;go_ret;exact⟨rfl,_,G,c,v,by rw [List.append_nil];exact HY.2⟩):P:=h
theorem Sa136.Ka31(h:P:=by
 go_wp2_with fail;refine(HTK W HW1).mono ?_;rintro e y ⟨rfl,⟨A',G',c',hY⟩,hJ⟩;have HY:=hide hY;have HPY:=hide (hJ B ⟨1,mF,mT,mI,mL,mk,mN⟩ HPB);clear hY hJ HTK p0 p1 p2 p3 p4 p5 p6 c0 c1 c2 c3 c4 c5 c6 c7 c8 c9;exact Ka11):P:=h
theorem Sa137.Ka31(h:P:=by
 have HTG:=hide (fun p:Regrown=>HW1.no.at.below (below_regrown _ p.d p.os));go_upto_region 4 with fail;open Sa161 in exact Ya38):P:=h
theorem Ya32(h:P:=by
 clear h hc;obtain⟨⟨p0,p1,p2,p3,p4,p5,p6,p7,p8,p9,p10⟩,_⟩:=eleven_at HPZ;have hpl:=obj_lt HPZ;go_upto_region 3 with fail;have z1:=cell_regrown p1;have z2:=cell_regrown p2;have z3:=cell_regrown p3;clear p0 p1 p2 p3 p4 p5 p6 p7 p8 p9 p10;refine wp_region_mixE 9 (by kernel_rfl) ?_;show wpMixE _ _ _ _ _ 10 (Array.replicate 10 false) _ _
 refine tk [0,1,2,3,5,6] ?_;iterate 6 (refine tkE (fun K hK=>?_);go_simp;refine hK _ ?_;clear hK K)
 refine tkN ?_;clear z1 z2 z3;exact Ka32):P:=h
theorem Sa138.Ka32(h:P:=by
 refine wpMixE_two 4 8 rfl rfl (by kernel_rfl) (by rfl) (by rfl) (fun x hx=>?c1) (fun x hx=>?c2)
 case' c1=>
  go_simp
  refine(clone k x (by omega)).mono ?_
  rintro e y ⟨rfl,hby⟩
  refine⟨hby,?_⟩
  have HY:=hide (Ge.trans hx hby)
  clear hx hby
  refine tk [7] ?_
  (refine tkE (fun K hK=>?_);go_simp;refine hK _ ?_;clear hK K)
  refine tkN ?_
  refine wpMixE_one 8 rfl (by kernel_rfl) (by rfl) (fun x2 hx2=>?_)
  go_simp
  refine⟨below_one x2 _,?_⟩
  have hgl:z.heap.size≤x2.heap.size:=(Ge.trans HY hx2).size
  have HGA:=hide (heap_alloc_new x2 (.cells #[.int .i64 0,.string ⟨#[]⟩,.int .i64 0,.int .i64 0] 49))
  have HBA:=hide (Ge.trans (Ge.trans HY hx2) (below_one x2 (.cells #[.int .i64 0,.string ⟨#[]⟩,.int .i64 0,.int .i64 0] 49)))
  clear hx2 HY
  generalize x2.alloc (.cells #[.int .i64 0,.string ⟨#[]⟩,.int .i64 0,.int .i64 0] 49)=y2 at *
  generalize x2.heap.size=g at *
  refine wpMixE_leave (by kernel_rfl) (fun z2 hz2=>?_)
  have HGB:=hide (obj_step HGA hz2)
  have HBB:=hide (Ge.trans HBA hz2)
  clear hz2 HGA HBA
  have hz2l:=obj_lt HGB
  obtain⟨g0,g1,g2,g3⟩:=fourC HGB
  have f0:=obj_free HGB 0
  have f1:=obj_free HGB 1
  have f2:=obj_free HGB 2
  have f3:=obj_free HGB 3
  refine wpAny_one 9 rfl (by kernel_rfl) (by rfl) ?_
  go_simp
  refine wpAny_done (by kernel_rfl) ?_
  go_simp
  go_upto_region 4 with fail
  refine wp_at (fun W hW=>?_)
  have HGW:Hid (W.heap[g]?=some (.cells #[.int .i64 no,.string k,.int .i64 nn,.int .i64 0] 49 (0,0))):=by rw [hW];exact four_setW HGB
  have HBW:Hid (Below z.heap.size z W):=by rw [hW];exact four_setW_below HBB hgl
  clear hW HGB HBB hz2l g0 g1 g2 g3 f0 f1 f2 f3
 case' c2=>
  go_simp
  refine⟨below_one x _,?_⟩
  have hgl:z.heap.size≤x.heap.size:=hx.size
  have HGA:=hide (heap_alloc_new x (.cells #[.int .i64 0,.string ⟨#[]⟩,.int .i64 0,.int .i64 0] 49))
  have HBA:=hide (Ge.trans hx (below_one x (.cells #[.int .i64 0,.string ⟨#[]⟩,.int .i64 0,.int .i64 0] 49)))
  clear hx
  generalize x.alloc (.cells #[.int .i64 0,.string ⟨#[]⟩,.int .i64 0,.int .i64 0] 49)=y2 at *
  generalize x.heap.size=g at *
  refine wpMixE_one 4 rfl (by kernel_rfl) (by rfl) (fun x2 hx2=>?_)
  go_simp
  refine(clone k x2 (by omega)).mono ?_
  rintro e y3 ⟨rfl,hby⟩
  refine⟨hby,?_⟩
  have HGC:=hide (obj_step HGA (Ge.trans hx2 hby))
  have HBC:=hide (Ge.trans HBA (Ge.trans hx2 hby))
  clear hx2 hby HGA HBA
  refine tk [7] ?_
  (refine tkE (fun K hK=>?_);go_simp;refine hK _ ?_;clear hK K)
  refine tkN ?_
  refine wpMixE_leave (by kernel_rfl) (fun z2 hz2=>?_)
  have HGB:=hide (obj_step HGC hz2)
  have HBB:=hide (Ge.trans HBC hz2)
  clear hz2 HGC HBC
  have hz2l:=obj_lt HGB
  obtain⟨g0,g1,g2,g3⟩:=fourC HGB
  have f0:=obj_free HGB 0
  have f1:=obj_free HGB 1
  have f2:=obj_free HGB 2
  have f3:=obj_free HGB 3
  refine wpAny_one 9 rfl (by kernel_rfl) (by rfl) ?_
  go_simp
  refine wpAny_done (by kernel_rfl) ?_
  go_simp
  go_upto_region 4 with fail
  refine wp_at (fun W hW=>?_)
  have HGW:Hid (W.heap[g]?=some (.cells #[.int .i64 no,.string k,.int .i64 nn,.int .i64 0] 49 (0,0))):=by rw [hW];exact four_setW HGB
  have HBW:Hid (Below z.heap.size z W):=by rw [hW];exact four_setW_below HBB hgl
  clear hW HGB HBB hz2l g0 g1 g2 g3 f0 f1 f2 f3
 all_goals
  have HWW:=hide (HZ.step HBW)
  have HPW:=hide (obj_step HPZ HBW)
  clear HZ HPZ HBW
  obtain⟨⟨p0,p1,p2,p3,p4,p5,p6,p7,p8,p9,p10⟩,_⟩:=eleven_at HPW
  have hpw:=obj_lt HPW
  go_wp2_with fail
  refine(HRA W HWW).mono ?_
  rintro e w1 ⟨rfl,hb1⟩
  have HW2:=hide (HWW.step hb1)
  have HG2:=hide (obj_step HGW hb1)
  clear hb1 HRA p0 p1 p2 p3 p4 p5 p6 p7 p8 p9 p10 HWW HPW HGW
  go_upto_region 5 with fail
  refine wp_at (fun V hV=>?_)
  obtain rfl:=hV
  obtain⟨g6,hAr,hgw6,hgl6,⟨q0,q1,q2,q3⟩,_⟩:=HW2.reqRow i hil
  obtain⟨d0,d1,d2,d3,d4,d5,d6,d7,d8,d9⟩:=tenC HW2.blk
  rw [hAr] at d8
  obtain⟨s0,s1,s2,s3⟩:=fourC HG2
  have hw2:=obj_lt HW2.blk
  have hg2:=obj_lt HG2
  have hilI:(i:Int) < (n.reqs.length:Int):=by omega
  generalize n.reqs[i]=lm at *
  obtain⟨ln,lk,lx,ls⟩:=lm
  dsimp only at q0 q1 q2 q3 hino HSQ
  subst hino
  have heq:=eqRq ln lk k lx nn ls 0
  have hB:=unhide HSQ
  generalize (lk.toList == k.toList&&decide (lx=nn)&&decide (ls=0))=B at *
  subst hB
  have y8:=cell_regrown d8
  have x0:=cell_regrown q0
  have x1:=cell_regrown q1
  have x2:=cell_regrown q2
  have x3:=cell_regrown q3
  have v0:=cell_regrown s0
  have v1:=cell_regrown s1
  have v2:=cell_regrown s2
  have v3:=cell_regrown s3
  clear d0 d1 d2 d3 d4 d5 d6 d7 d8 d9 q0 q1 q2 q3 s0 s1 s2 s3
  refine wp_region_mix (by kernel_rfl) ?_
  show wpMix _ _ _ _ 13 (Array.replicate 13 false) _ _
  refine tk [0,1,2,3,4,5,6,7,8,9,10,11,12] ?_
  iterate 13 (refine tk0 (fun K hK=>?_);go_simp;refine hK _ ?_;clear hK K)
  refine tkN ?_
  refine wpMix_done (by kernel_rfl) (fun V hV=>?_)
  have HW3:=hide (HW2.step hV)
  clear hV HW2 HG2 y8 x0 x1 x2 x3 v0 v1 v2 v3 heq
  go_simp
  cases SQ
  all_goals
   go_wp2_with fail
   go_ret
   rw [unhide HAD]
   exact⟨rfl,A,G,c,HW3⟩):P:=h
theorem Sa139.Ka32(h:P:=by
 refine wpMixE_two 4 8 rfl rfl (by kernel_rfl) (by rfl) (by rfl) (fun x hx=>?c1) (fun x hx=>?c2)
 case' c1=>
  go_simp
  refine(clone k x (by omega)).mono ?_
  rintro e y ⟨rfl,hby⟩
  refine⟨hby,?_⟩
  have HY:=hide (Ge.trans hx hby)
  clear hx hby
  refine tk [7] ?_
  (refine tkE (fun K hK=>?_);go_simp;refine hK _ ?_;clear hK K)
  refine tkN ?_
  refine wpMixE_one 8 rfl (by kernel_rfl) (by rfl) (fun x2 hx2=>?_)
  go_simp
  refine⟨below_one x2 _,?_⟩
  have hgl:z.heap.size≤x2.heap.size:=(Ge.trans HY hx2).size
  have HGA:=hide (heap_alloc_new x2 (.cells #[.int .i64 0,.string ⟨#[]⟩,.int .i64 0,.int .i64 0] 49))
  have HBA:=hide (Ge.trans (Ge.trans HY hx2) (below_one x2 (.cells #[.int .i64 0,.string ⟨#[]⟩,.int .i64 0,.int .i64 0] 49)))
  clear hx2 HY
  generalize x2.alloc (.cells #[.int .i64 0,.string ⟨#[]⟩,.int .i64 0,.int .i64 0] 49)=y2 at *
  generalize x2.heap.size=g at *
  refine wpMixE_leave (by kernel_rfl) (fun z2 hz2=>?_)
  have HGB:=hide (obj_step HGA hz2)
  have HBB:=hide (Ge.trans HBA hz2)
  clear hz2 HGA HBA
  have hz2l:=obj_lt HGB
  obtain⟨g0,g1,g2,g3⟩:=fourC HGB
  have f0:=obj_free HGB 0
  have f1:=obj_free HGB 1
  have f2:=obj_free HGB 2
  have f3:=obj_free HGB 3
  refine wpAny_one 9 rfl (by kernel_rfl) (by rfl) ?_
  go_simp
  refine wpAny_done (by kernel_rfl) ?_
  go_simp
  go_upto_region 4 with fail
  refine wp_at (fun W hW=>?_)
  have HGW:Hid (W.heap[g]?=some (.cells #[.int .i64 no,.string k,.int .i64 nn,.int .i64 0] 49 (0,0))):=by rw [hW];exact four_setW HGB
  have HBW:Hid (Below z.heap.size z W):=by rw [hW];exact four_setW_below HBB hgl
  clear hW HGB HBB hz2l g0 g1 g2 g3 f0 f1 f2 f3
 case' c2=>
  go_simp
  refine⟨below_one x _,?_⟩
  have hgl:z.heap.size≤x.heap.size:=hx.size
  have HGA:=hide (heap_alloc_new x (.cells #[.int .i64 0,.string ⟨#[]⟩,.int .i64 0,.int .i64 0] 49))
  have HBA:=hide (Ge.trans hx (below_one x (.cells #[.int .i64 0,.string ⟨#[]⟩,.int .i64 0,.int .i64 0] 49)))
  clear hx
  generalize x.alloc (.cells #[.int .i64 0,.string ⟨#[]⟩,.int .i64 0,.int .i64 0] 49)=y2 at *
  generalize x.heap.size=g at *
  refine wpMixE_one 4 rfl (by kernel_rfl) (by rfl) (fun x2 hx2=>?_)
  go_simp
  refine(clone k x2 (by omega)).mono ?_
  rintro e y3 ⟨rfl,hby⟩
  refine⟨hby,?_⟩
  have HGC:=hide (obj_step HGA (Ge.trans hx2 hby))
  have HBC:=hide (Ge.trans HBA (Ge.trans hx2 hby))
  clear hx2 hby HGA HBA
  refine tk [7] ?_
  (refine tkE (fun K hK=>?_);go_simp;refine hK _ ?_;clear hK K)
  refine tkN ?_
  refine wpMixE_leave (by kernel_rfl) (fun z2 hz2=>?_)
  have HGB:=hide (obj_step HGC hz2)
  have HBB:=hide (Ge.trans HBC hz2)
  clear hz2 HGC HBC
  have hz2l:=obj_lt HGB
  obtain⟨g0,g1,g2,g3⟩:=fourC HGB
  have f0:=obj_free HGB 0
  have f1:=obj_free HGB 1
  have f2:=obj_free HGB 2
  have f3:=obj_free HGB 3
  refine wpAny_one 9 rfl (by kernel_rfl) (by rfl) ?_
  go_simp
  refine wpAny_done (by kernel_rfl) ?_
  go_simp
  go_upto_region 4 with fail
  refine wp_at (fun W hW=>?_)
  have HGW:Hid (W.heap[g]?=some (.cells #[.int .i64 no,.string k,.int .i64 nn,.int .i64 0] 49 (0,0))):=by rw [hW];exact four_setW HGB
  have HBW:Hid (Below z.heap.size z W):=by rw [hW];exact four_setW_below HBB hgl
  clear hW HGB HBB hz2l g0 g1 g2 g3 f0 f1 f2 f3
 all_goals
  have HWW:=hide ((HZ.recol (c':=newC z.heap.size 9 c) (fun x hx=>newC_old hx)).step HBW)
  have hcg:newC z.heap.size 9 c g=9:=newC_new hgl
  have HPW:=hide (obj_step HPZ HBW)
  have hgw:=obj_lt HGW
  have hgne:g≠wb:=by have:=obj_lt HZ.blk;omega
  clear HZ HPZ HBW
  obtain⟨⟨p0,p1,p2,p3,p4,p5,p6,p7,p8,p9,p10⟩,_⟩:=eleven_at HPW
  have hpw:=obj_lt HPW
  go_wp2_with fail
  refine(HRA W _ HWW).mono ?_
  rintro e w1 ⟨rfl,hb1⟩
  have HW2:=hide (HWW.step hb1)
  have HP2:=hide (obj_step HPW hb1)
  have HG2:=hide (obj_step HGW hb1)
  clear hb1 HRA p0 p1 p2 p3 p4 p5 p6 p7 p8 p9 p10 HWW HPW HGW hgw
  go_upto_region 5 with fail
  refine wp_at (fun V hV=>?_)
  obtain rfl:=hV
  refine wp_region_mix (by kernel_rfl) ?_
  show wpMix _ _ _ _ 13 (Array.replicate 13 false) _ _
  refine tk [0,1,2,3,4,5,6,7,8,9,10,11,12] ?_
  iterate 13 (refine tk0 (fun K hK=>?_);go_simp;refine hK _ ?_;clear hK K)
  refine tkN ?_
  refine wpMix_done (by kernel_rfl) (fun V hV=>?_)
  have HW3:=hide (HW2.step hV)
  have HP3:=hide (obj_step HP2 hV)
  have HG3:=hide (obj_step HG2 hV)
  clear hV HW2 HP2 HG2
  obtain⟨c0,c1,c2,c3,c4,c5,c6,c7,c8,c9⟩:=tenC HW3.blk
  obtain⟨⟨p0,p1,p2,p3,p4,p5,p6,p7,p8,p9,p10⟩,_⟩:=eleven_at HP3
  have hw3:=obj_lt HW3.blk
  have hp3:=obj_lt HP3
  go_simp
  go_upto_region 10 with fail
  have y4:=cell_regrown c4
  have z2:=cell_regrown p2
  have z3:=cell_regrown p3
  clear c0 c1 c2 c3 c4 c5 c6 c7 c8 c9 p0 p1 p2 p3 p4 p5 p6 p7 p8 p9 p10
  refine wp_region_mixE 13 (by kernel_rfl) ?_
  show wpMixE _ _ _ _ _ 15 (Array.replicate 15 false) _ _
  refine tk [0,1,2,3,4,5,6,7,8,9] ?_
  iterate 10 (refine tkE (fun K hK=>?_);go_simp;refine hK _ ?_;clear hK K)
  refine tkN ?_
  clear y4 z2 z3
  refine wpMixE_one 10 rfl (by kernel_rfl) (by rfl) (fun x hx=>?_)
  go_simp
  have HX:=hide (HW3.step hx)
  refine(HSP x _ HX).mono ?_
  rintro e y ⟨a,cp,g5,hg5,rfl,hp,hby⟩
  refine⟨hby,?_⟩
  have hgx:g < x.heap.size:=Nat.lt_of_lt_of_le (obj_lt HG3) hx.size
  have HGX:=hide (obj_step HG3 (Ge.trans hx hby))
  have HST:=hide (fun u (hu:Ge y u)=>settleK (cp:=cp) HX (hby.trans (hu.mono hby.size)) hg5 (hp.below hu))
  clear hby hg5 hp HSP hx HG3 HP3
  refine tk [11,12] ?_
  iterate 2 (refine tkE (fun K hK=>?_);go_simp;refine hK _ ?_;clear hK K)
  refine tkN ?_
  refine wpMixE_leave (by kernel_rfl) (fun u hu=>?_)
  refine wpAny_one 13 rfl (by kernel_rfl) (by rfl) ?_
  go_simp
  refine(HST u hu).mono ?_
  rintro e z9 ⟨rfl,A',G',c',hZ9,hk9,hcol⟩
  have hc9:c' g=9:=(hcol g hgx).trans hcg
  have HZ9:=hide hZ9
  have HG9:=hide (hk9 g _ hgne (obj_step HGX hu))
  clear hZ9 HST hu hk9 HGX HX HW3 hcol hcg hgx
  obtain⟨rl,rb⟩:=r
  dsimp only at HZ9 HAD HRL ⊢
  refine wpAny_one 14 rfl (by kernel_rfl) (by rfl) ?_
  go_simp
  refine wpAny_done (by kernel_rfl) ?_
  go_simp
  have h9l:=obj_lt HG9
  obtain⟨s0,s1,s2,s3⟩:=fourC HG9
  have sf3:=obj_free HG9 3
  cases rb
  ·rw [if_neg (by simp)] at HZ9;have hrl:=unhide HRL rfl;subst hrl;rw [if_neg (by simp)] at HAD;have HZ10:=hide (HZ9.kc (k:=9) (KC.set (i:=3) (v:= .int .i64 1) hc9) (by omega));have HG10:=hide (setB4 (u:= .int .i64 1) HG9);clear HZ9;go_upto_region 12 with fail;refine wp_at (fun Y hY=>?_);have HZ11:Hid (WK w0 Y wb n A' G' c' v L):=by rw [hY];exact HZ10
   have HG11:Hid (Y.heap[g]?=some (.cells #[.int .i64 no,.string k,.int .i64 nn,.int .i64 1] 49 (0,0))):=by rw [hY];exact HG10
   clear hY HZ10 HG10 HG9 s0 s1 s2 s3 sf3 h9l;have h9l:=obj_lt HG11;obtain⟨s0,s1,s2,s3⟩:=fourC HG11;have HKP:=hide (wkKeep w0 Y wb n A' G' c' v L ⟨no,k,nn,1⟩ i hil hlen HZ11);rw [unhide HKN] at HKP;exact Za45
  ·rw [if_pos rfl] at HZ9;rw [if_pos rfl] at HAD;have HKP:=hide (wkKeep w0 z9 wb (setPu n rl) A' G' c' v L ⟨no,k,nn,0⟩ i hil hlen HZ9);have hki:keepI (setPu n rl) ⟨no,k,nn,0⟩ i=keepN (setPu n rl) ⟨no,k,nn,0⟩:=unhide HKI rl 0;rw [hki] at HKP;clear hki;exact Za45):P:=h
theorem Ya33(h:P:=by
 have HF:=hide hf;have HPUT:=hide (implPut mp mb n0 _ G ⟨pk,qm,qf,qs⟩ w6 hkey hn0 hPM.blk hPM.map);have HP6:=hide hPM;obtain⟨⟨p0,p1,p2,p3⟩,_⟩:=four_at hpb6;clear hf hPM hpb6;go_wp2_with fail;refine HPUT.mono ?_;rintro e w7 ⟨rfl,hm7,hk7⟩;have HP7:=hide (HP6.turned hk7 hm7);have HB7:=hide (HB6.trans (keeps_below hk7 HP6.lom (Nat.le_trans hB HB6.size)));clear hm7 hk7 p0 p1 p2 p3;go_wp2_with fail;go_ret;exact Ka33):P:=h
theorem Sa140.Ka33(h:P:=by
 exact⟨HB7,.inr ⟨.inr h20,rfl,_,HP7⟩⟩):P:=h
theorem Sa141.Ka33(h:P:=by
 exact⟨HB7,.inr ⟨.inl HF,rfl,_,HP7⟩⟩):P:=h
theorem Ya34(h:P:=by
 have HW1:=hide (h.step (below_one w (.cells #[.int .i64 K,.int .i64 no,.string k,.int .i64 nn,.int .i64 mK,.int .i64 mF,.int .i64 mT,.int .i64 mI,.int .i64 mL,.string mk,.int .i64 mN] 34)));exact Ka34):P:=h
theorem Sa142.Ka34(h:P:=by
 have hq2:(n.par == -1)=true:=by simpa using hpar
 clear h hR HSY hpar;obtain⟨c0,c1,c2,c3,c4,c5,c6,c7,c8,c9⟩:=tenC HW1.blk;go_enter Tryz.func109,Tryz.ntmps109
 go_wp2_with fail;go_ret;exact⟨rfl,c,v,HW1⟩):P:=h
theorem Sa143.Ka34(h:P:=by
 have hwl:=obj_lt h.blk;have hne:wb≠w.heap.size:=by omega
 have HBO:=hide (show Below w0.heap.size w0 (w.alloc (.cells #[.int .i64 K,.int .i64 no,.string k,.int .i64 nn,.int .i64 mK,.int .i64 mF,.int .i64 mT,.int .i64 mI,.int .i64 mL,.string mk,.int .i64 mN] 34)) from HW1.keep);have HSA:=hide (fun W c v L' (hW:WK w0 W wb n A G c v L')=>hW.no.at.o);clear h hz;generalize payM n=PM at *;obtain⟨ak,ap,ao,as',ar,ck,cp,co,cs,cr⟩:=A;obtain⟨c0,c1,c2,c3,c4,c5,c6,c7,c8,c9⟩:=tenC HW1.blk;go_enter Tryz.func111,Tryz.ntmps111
 go_wp2_with fail;go_loopw [13] (fun i wr=>∃(k:Nat) (c':Nat→Nat) (v':Value),k≤n.out.length∧i= .int .i64 k∧WK w0 wr wb n ⟨ak,ap,ao,as',ar,ck,cp,co,cs,cr⟩ G c' v' (L++(n.out.take k).map PM)) (fun i _=>n.out.length - (intOf i).toNat)
 case atStart=>exact⟨0,c,v,Nat.zero_le _,rfl,by simpa using unhide HW1⟩
 case round=>
  obtain⟨k,cc,vv,hk,rfl,hS⟩:=hrel;have HS1:=hide hS;clear hS c0 c1 c2 c3 c4 c5 c6 c7 c8 c9;have hwr:=obj_lt HS1.blk;by_cases hlt:k < n.out.length
  ·obtain⟨g,off,e0,hg,q0,q1,q2,q3⟩:=SentAt.four (HSA wr cc vv _ HS1) k hlt;have HKk:=hide (HKK n.out[k] (List.getElem_mem hlt));have HT:=hide (show L++(n.out.take (k+1)).map PM=L++(n.out.take k).map PM++[PM n.out[k]] by rw [List.take_succ_eq_append_getElem hlt,List.map_append,List.append_assoc];rfl);have HPYk:=hide (HPY n.out[k]);generalize n.out[k]=sk at *;generalize PM sk=mk' at *;obtain⟨si,st,sx,sn⟩:=sk;obtain⟨qK,qF,qT,qI,qL,qk,qN⟩:=mk';dsimp only at q0 q1 q2 q3 HKk e0;subst e0;go_upto_region 4 with fail;refine wp_at (fun W3 hW3=>?_);have HR3:Hid (W3.heap[wr.heap.size]?=some (.cells #[.int .i64 si,.int .i64 st,.string sx,.int .i64 sn] 79 (0,0))):=by rw [hW3];exact heap_alloc_new _ _
   have HS3:Hid (WK w0 W3 wb n ⟨ak,ap,some ⟨g,off,none⟩,as',ar,ck,cp,co,cs,cr⟩ G cc vv (L++(n.out.take k).map PM)):=by rw [hW3];exact HS1.step (below_one wr _)
   clear hW3 q0 q1 q2 q3;have HPY3:=hide (fun p:Regrown=>HPYk (Gr W3 p) (GR.At.below (HSA W3 cc vv _ HS3) (below_regrown W3 p.d p.os)));have hr3:=obj_lt HR3;have hw3:=obj_lt HS3.blk;have hnr:wb≠wr.heap.size:=by omega
   obtain⟨c0,c1,c2,c3,c4,c5,c6,c7,c8,c9⟩:=tenC HS3.blk;obtain⟨d0,d1,d2,d3⟩:=fourC HR3;open Sa160 in exact Ya38
  ·have hke:k=n.out.length:=by omega
   subst hke;have hnlt:decide ((n.out.length:Int) < (n.out.length:Int))=false:=by simp
   go_wp2_with fail;go_ret;have hS:=unhide HS1;rw [List.take_length] at hS;exact⟨rfl,cc,vv,hS⟩):P:=h
theorem Sa144.Ka34(h:P:=by
 have hq2:(n.par == -1)=true:=by simpa using hpar
 clear h hR HPY hpar;obtain⟨c0,c1,c2,c3,c4,c5,c6,c7,c8,c9⟩:=tenC HW1.blk;go_enter Tryz.func110,Tryz.ntmps110
 go_upto_region 1 with fail;have y1:=cell_regrown c1;clear c0 c1 c2 c3 c4 c5 c6 c7 c8 c9;refine wp_region_mix (by kernel_rfl) ?_;show wpMix _ _ _ _ 20 (Array.replicate 20 false) _ _
 refine tk [0,1,2,3,4,5,6,7,8,9,10,11,12,13,14,15,16,17,18,19] ?_;iterate 20 (refine tk0 (fun K hK=>?_);go_simp;refine hK _ ?_;clear hK K)
 refine tkN ?_;refine wpMix_done (by kernel_rfl) (fun z hz=>?_);have HZ:=hide (HW1.step hz);clear hz y1;exact Za108):P:=h
theorem Sa145.Ka34(h:P:=by
 have HP1:=hide (heap_alloc_new w (.cells #[.int .i64 K,.int .i64 no,.string k,.int .i64 nn,.int .i64 mK,.int .i64 mF,.int .i64 mT,.int .i64 mI,.int .i64 mL,.string mk,.int .i64 mN] 34));exact Ka12):P:=h
theorem Ya35(h:P:=by
 obtain⟨k,m,hk,rfl,rfl,hm,hR,hkp⟩:=hrel;have HM:=hide hm;have HR:=hide hR;have HK:=hide hkp;clear hR hkp;exact Ka35):P:=h
theorem Sa146.Ka35(h:P:=by
 by_cases hlt:k < l.length
 ·have hml:=mks_length mkInt 1 s l k hk;have hk':k < (mks mkInt 1 s l k).length:=by rw [hml];exact hlt
  have hm0:0 < m:=by omega
  have hm1:(m:Int)≤92233720368547758:=by omega
  obtain⟨e0,hg0,s0,f0⟩:=GR.W.one HR k hk';subst e0;have HML:=hide hml;clear hm hml;go_wp2_with fail;go_roundw
  case rel=>
   have hpos:0 < l.length:=by omega
   have h5:=GR.W.set encNum_length HR k (mkInt m) (by rw [unhide HML];exact hlt);have hmk:mkInt m=mkInt (s+1*k):=by rw [unhide HM]
   rw [hmk,mks_set mkInt 1 s l k hlt,←hmk,Nat.mul_one] at h5;exact⟨k+1,m+1,by omega,by go_num,by go_num,by have:=unhide HM;omega,h5,HK.trans (fp_keeps (KeepsL.set _) hpos)⟩
  case measure=>simp[intOf];omega
 ·exact Za21):P:=h
theorem Sa147.Ka35(h:P:=by
 by_cases hlt:k < l.length
 ·have hml:=mks_length mkReq 4 s l k hk;have hk':k < (mks mkReq 4 s l k).length:=by rw [hml];exact hlt
  have hm0:0 < m:=by omega
  have hm1:(m:Int)≤92233720368547758:=by omega
  obtain⟨e0,hg0,⟨s0,s1,s2,s3⟩,f0,f1,f2,f3⟩:=GR.W.fourReq HR k hk';subst e0;have HMT:=hide (fun z w1 (hz:z=((m+1:Nat):Int))=>markTextI (m+1) z w1 hz (by omega) (by omega));open Sa179 in exact Ya42
 ·exact Za21):P:=h
theorem Sa148.Ka35(h:P:=by
 by_cases hlt:k < l.length
 ·have hml:=mks_length mkSent 4 s l k hk;have hk':k < (mks mkSent 4 s l k).length:=by rw [hml];exact hlt
  have hm0:0 < m:=by omega
  have hm1:(m:Int)≤92233720368547758:=by omega
  obtain⟨e0,hg0,⟨s0,s1,s2,s3⟩,f0,f1,f2,f3⟩:=GR.W.fourSent HR k hk';subst e0;have HMT:=hide (fun z w1 (hz:z=((m+2:Nat):Int))=>markTextI (m+2) z w1 hz (by omega) (by omega));open Sa178 in exact Ya42
 ·exact Za21):P:=h
theorem Sa149.Ka35(h:P:=by
 by_cases hlt:k < l.length
 ·have hml:=mks_length mkPurse 4 s l k hk;have hk':k < (mks mkPurse 4 s l k).length:=by rw [hml];exact hlt
  have hm0:0 < m:=by omega
  have hm1:(m:Int)≤92233720368547758:=by omega
  obtain⟨e0,hg0,⟨s0,s1,s2,s3⟩,f0,f1,f2,f3⟩:=GR.W.fourPurse HR k hk';subst e0;have HMT:=hide (fun z w1 (hz:z=((m+0:Nat):Int))=>markTextI (m+0) z w1 hz (by omega) (by omega));open Sa177 in exact Ya42
 ·exact Za21):P:=h
theorem Sa150.Ka35(h:P:=by
 by_cases hlt:k < l.length
 ·open Sa207 in exact Ya51
 ·open Sa73 in exact Ya17):P:=h
theorem Ya36(h:P:=by
 open Sa280 in exact Ya76):P:=h
theorem Sa151.Ka36(h:P:=by
 clear HO HM p0 p1 p2 p3 p4 p5 p6;have f1:=mt_ack;open Sa97 in exact Ya23):P:=h
theorem Sa152.Ka36(h:P:=by
 clear HO HM p0 p1 p2 p3 p4 p5 p6;have f1:=mt_want;open Sa96 in exact Ya23):P:=h
theorem Sa153.Ka36(h:P:=by
 clear HO p0 p1 p2 p3 p4 p5 p6;have f1:=mt_want;open Sa57 in exact Ya14):P:=h
theorem Sa154.Ka36(h:P:=by
 clear HO p0 p1 p2 p3 p4 p5 p6;have f1:=mt_pay;open Sa56 in exact Ya14):P:=h
theorem Sa155.Ka36(h:P:=by
 clear HO HM p0 p1 p2 p3 p4 p5 p6;have f1:=mt_pay;open Sa95 in exact Ya23):P:=h
theorem Sa156.Ka36(h:P:=by
 clear HO p0 p1 p2 p3 p4 p5 p6;have f1:=mt_ack;open Sa55 in exact Ya14):P:=h
theorem Ya37(h:P:=by
 refine wp_at (fun W0 hW0=>?_);have HB0:Hid (W0.heap[w.heap.size]?=some (.cells (ndc ⟨id,par,kids,next,pu,out,seen,old,reqs⟩ ⟨ak,ap,ao,as',ar,ck,cp,co,cs,cr⟩) 30 (0,0))):=by rw [hW0];exact HBX
 have HL0:Hid (Below w.heap.size w W0):=by rw [hW0];exact below_one w _
 clear hW0 HBX;exact Ka37):P:=h
theorem Sa157.Ka37(h:P:=by
 obtain⟨c0,c1,c2,c3,c4,c5,c6,c7,c8⟩:=nine HB0;go_wp2_with fail;refine(HPL _ HL0).mono ?_;rintro e w1 ⟨rfl,hb1⟩;open Sa228 in exact Ya59):P:=h
theorem Sa158.Ka37(h:P:=by
 obtain⟨bb,hbb⟩:∃bb,(!(PL&&PS&&TD&&smB next&&decide (out.length≤40)&&amB old&&decide (reqs.length≤30)))=bb:=⟨_,rfl⟩;have HBB:=hide hbb;clear hbb;obtain⟨c0,c1,c2,c3,c4,c5,c6,c7,c8⟩:=nine HB0;go_cut [44] (fun r wx=>r= .bool bb∧wx.heap[w.heap.size]?=some (.cells (ndc ⟨id,par,kids,next,pu,out,seen,old,reqs⟩ ⟨ak,ap,ao,as',ar,ck,cp,co,cs,cr⟩) 30 (0,0))∧Below w.heap.size w wx)
 case first=>
  go_wp2_with fail;refine(HPL _ HL0).mono ?_;rintro e w1 ⟨rfl,hb1⟩;open Sa339 in exact Ya101
 case rest=>
  obtain⟨rfl,hblk,hbel⟩:=hcut;have HB1:=hide hblk;have HL1:=hide hbel;clear hblk hbel c0 c1 c2 c3 c4 c5 c6 c7 c8 HPL HPU HTO HB0 HL0;cases hbv:bb
  case' true=>
   have HP:Hid (TT=false):=by
    have h:=unhide HBB;rw [hbv] at h;rw [unhide HD];generalize (PL&&PS&&TD&&smB next&&decide (out.length≤40)&&amB old&&decide (reqs.length≤30))=X at *;cases X
    ·rfl
    ·cases h
   clear HBB HD
   subst hbv
   go_wp2_with fail
   go_ret
   exact⟨ret_bool HP.symm,HL1⟩
  have HF:Hid (smB next=true∧amB old=true∧TT=(chk OT (fun s t=>ltB s.i t.i) out&&chk RQ (fun s t=>ltB s.no t.no) reqs)):=by
   have h:=unhide HBB;rw [hbv] at h;rw [unhide HD];cases h4:smB next<;>cases h6:amB old<;>rw [h4,h6] at h
   all_goals first
    |(simp at h;done)
    |skip
   refine⟨rfl,rfl,?_⟩;generalize (PL&&PS&&TD&&true&&decide (out.length≤40)&&true&&decide (reqs.length≤30))=X at *;cases X
   ·cases h
   ·rfl
  clear HBB HD;subst hbv;obtain⟨hn1,ho1,hTT⟩:=unhide HF;have HTT:=hide hTT;have hn2:1≤next∧next≤1000000000:=of_decide_eq_true hn1;have ho2:0≤old∧old≤1000000000:=of_decide_eq_true ho1;obtain⟨hn3,hn4⟩:=hn2;obtain⟨ho3,ho4⟩:=ho2;clear hn1 ho1 hTT HF;have HCB:=hide (fun k h=>chk_bad OT (fun s t=>ltB s.i t.i) out k h);have HCF:=hide (chk_first OT (fun s t=>ltB s.i t.i) out);have HCN:=hide (chk_next OT (fun s t=>ltB s.i t.i) out);have HDB:=hide (fun k h=>chk_bad RQ (fun s t=>ltB s.no t.no) reqs k h);have HDF:=hide (chk_first RQ (fun s t=>ltB s.no t.no) reqs);have HDN:=hide (chk_next RQ (fun s t=>ltB s.no t.no) reqs);generalize (fun s t:Snt=>ltB s.i t.i)=RO at *;generalize (fun s t:Rq=>ltB s.no t.no)=RR at *;go_wp2_with fail;go_loopw [3] (fun i wr=>∃k:Nat,k≤out.length∧i= .int .i64 k∧chk OT RO (out.take k)=true∧wr.heap[w.heap.size]?=some (.cells (ndc ⟨id,par,kids,next,pu,out,seen,old,reqs⟩ ⟨ak,ap,ao,as',ar,ck,cp,co,cs,cr⟩) 30 (0,0))∧Below w.heap.size w wr) (fun i _=>out.length - (intOf i).toNat)
  case atStart=>exact⟨0,Nat.zero_le _,rfl,rfl,HB1,HL1⟩
  case round=>
   open Sa233 in exact Ya60):P:=h
theorem Sa159.Ka37(h:P:=by
 obtain⟨al,hal⟩:∃al:Int,(kids.length:Int)+(if 0≤par then 1 else 0)=al:=⟨_,rfl⟩;rw [hal] at HD;go_cut [3] (fun r wx=>r= .int .i64 al∧wx=W0)
 case first=>
  by_cases hp:0≤par
  ·rw [if_pos hp] at hal;have HAL:=hide hal;clear hal;go_wp2_with fail;go_meet
   case rel=>exact⟨by rw [←unhide HAL],rfl⟩
  ·rw [if_neg hp] at hal;have HAL:=hide hal;clear hal;go_wp2_with fail;go_meet
   case rel=>exact⟨by rw [←unhide HAL,Int.add_zero],rfl⟩
 case rest=>
  obtain⟨rfl,rfl⟩:=hcut;clear hal;obtain⟨c0,c1,c2,c3,c4,c5,c6,_⟩:=nine HB0;by_cases hlen:(seen.length:Int)=al
  case' neg=>
   have hbn:((seen.length:Int) != al)=true:=by simpa using hlen
   have HP:Hid (TT=false):=by rw [unhide HD,decide_eq_false hlen];rfl
   clear hlen HD HCB HCF HCN HNR HPP HRR
   go_wp2_with fail
   go_ret
   exact⟨ret_bool HP.symm,HL0⟩
  have hbn:((seen.length:Int) != al)=false:=by simpa using hlen
  have HOK:Hid (TT=chk PP RR seen):=by rw [unhide HD,decide_eq_true hlen];rfl
  clear hlen HD;go_wp2_with fail;go_loopw [4] (fun i wr=>∃k:Nat,k≤seen.length∧i= .int .i64 k∧chk PP RR (seen.take k)=true∧wr.heap[w.heap.size]?=some (.cells (ndc ⟨id,par,kids,next,pu,out,seen,old,reqs⟩ ⟨ak,ap,ao,as',ar,ck,cp,co,cs,cr⟩) 30 (0,0))∧Below w.heap.size w wr) (fun i _=>seen.length - (intOf i).toNat)
  case atStart=>exact⟨0,Nat.zero_le _,rfl,rfl,HB0,HL0⟩
  case round=>
   open Sa232 in exact Ya60):P:=h
theorem Ya38(h:P:=by
 have y0:=cell_regrown c0;have y1:=cell_regrown c1;have y2:=cell_regrown c2;have y3:=cell_regrown c3;have y4:=cell_regrown c4;have y5:=cell_regrown c5;have y6:=cell_regrown c6;have y7:=cell_regrown c7;have y8:=cell_regrown c8;exact Ka38):P:=h
theorem Sa160.Ka38(h:P:=by
 have x0:=cell_regrown d0;have x1:=cell_regrown d1;have x2:=cell_regrown d2;have x3:=cell_regrown d3;clear c0 c1 c2 c3 c4 c5 c6 c7 c8 c9 d0 d1 d2 d3 HR3;refine wp_region_mixE 7 (by kernel_rfl) ?_;show wpMixE _ _ _ _ _ 8 (Array.replicate 8 false) _ _
 refine tk [0,1,2,3,4,5] ?_;iterate 6 (refine tkE (fun K hK=>?_);go_simp;refine hK _ ?_;clear hK K)
 refine tkN ?_;refine wpMixE_take 6 20 rfl (by kernel_rfl) (by kernel_rfl) (by kernel_rfl) (by kernel_rfl) (by kernel_rfl) (fun _ _ _ _ h=>h) (fun K hK=>?_);go_simp
 first
  |(refine hK _ ?_;clear hK K)
  |(apply Exists.intro
    refine⟨fun _=>?_,hK _ ?_⟩
    (exact HPY3 _)
    clear hK K)
 clear y0 y1 y2 y3 y4 y5 y6 y7 y8 x0 x1 x2 x3;refine wpMixE_leave (by kernel_rfl) (fun x hx=>?_);have HSX:=hide (HSY x cc vv k hk ⟨qK,qF,qT,qI,qL,qk,qN⟩ HKk (HS3.step hx));clear hx HS3;refine wpAny_one 7 rfl (by kernel_rfl) (by rfl) ?_;go_simp;refine HSX.mono ?_;rintro e y ⟨rfl,c',v',hY⟩;have HY:=hide hY;clear hY HSX;refine wpAny_done (by kernel_rfl) ?_;go_simp;go_wp2_with fail;go_roundw
 case rel=>exact⟨k+1,c',v',by omega,by go_num,by rw [unhide HT];exact HY⟩
 case measure=>simp[intOf];omega):P:=h
theorem Sa161.Ka38(h:P:=by
 have z1:=cell_regrown p1;clear c0 c1 c2 c3 c4 c5 c6 c7 c8 c9 p0 p1 p2 p3 p4 p5 p6;refine wp_region_mix (by kernel_rfl) ?_;show wpMix _ _ _ _ 8 (Array.replicate 8 false) _ _
 refine tk [0,1,2,3,4,5] ?_;iterate 6 (refine tk0 (fun K hK=>?_);go_simp;refine hK _ ?_;clear hK K)
 refine tkN ?_;refine wpMix_take 6 rfl (by kernel_rfl) (by kernel_rfl) (by kernel_rfl) (fun _ _ _ _ h=>h) (fun K hK=>?_);go_simp
 first
  |(refine hK _ ?_;clear hK K)
  |(apply Exists.intro
    refine⟨fun _=>?_,hK _ ?_⟩
    (exact HKD _ (HTG _))
    clear hK K)
 refine tk [7] ?_;(refine tk0 (fun K hK=>?_);go_simp;refine hK _ ?_;clear hK K)
 refine tkN ?_;refine wpMix_done (by kernel_rfl) (fun z hz=>?_);have HZ:=hide (HW1.step hz);exact Ka6):P:=h
theorem Sa162.Ka38(h:P:=by
 have z1:=cell_regrown p1;have z2:=cell_regrown p2;clear c0 c1 c2 c3 c4 c5 c6 c7 c8 c9 p0 p1 p2 p3 p4 p5 p6 HP1 HW1;by_cases hT:mT=n.id
 ·have hq:(mT == n.id)=true:=by simpa using hT
  have HD:=hide (show(decide (mT=n.id)&&nb)=nb by rw [decide_eq_true hT];rfl);exact Za11
 ·have hq:(mT == n.id)=false:=by simpa using hT
  have HD:=hide (show(decide (mT=n.id)&&nb)=false by rw [decide_eq_false hT];rfl);exact Za11):P:=h
theorem Ya39(h:P:=by
 clear hr;go_enter Tryz.func184,Tryz.ntmps184
 go_upto_region 11 with fail;refine wp_at (fun V hV=>?_);exact Ka39):P:=h
theorem Sa163.Ka39(h:P:=by
 have hblk:V.heap[w.heap.size]?=some (.cells #[.int .i64 2,.int .i64 F,.int .i64 T,.int .i64 I,.int .i64 0,.string ByteArray.empty,.int .i64 0] 32 (0,0)):=by rw [hV,Below.heap_alloc _ _ _ (by simp)];exact heap_alloc_new w _
 open Sa6 in exact Ya1):P:=h
theorem Sa164.Ka39(h:P:=by
 have hblk:V.heap[w.heap.size]?=some (.cells #[.int .i64 2,.int .i64 F,.int .i64 T,.int .i64 I,.int .i64 0,.string ByteArray.empty,.int .i64 N] 32 (0,0)):=by rw [hV,Below.heap_alloc _ _ _ (by simp)];exact heap_alloc_new w _
 open Sa7 in exact Ya1):P:=h
theorem Sa165.Ka39(h:P:=by
 open Sa312 in exact Ya89):P:=h
theorem Sa166.Ka39(h:P:=by
 open Sa311 in exact Ya89):P:=h
theorem Sa167.Ka39(h:P:=by
 open Sa314 in exact Ya90):P:=h
theorem Sa168.Ka39(h:P:=by
 open Sa313 in exact Ya90):P:=h
theorem Sa169.Ka39(h:P:=by
 have hblk:V.heap[w.heap.size]?=some (.cells #[.int .i64 0,.int .i64 F,.int .i64 T,.int .i64 0,.int .i64 0,.string k,.int .i64 N] 32 (0,0)):=by rw [hV,Below.heap_alloc _ _ _ (by simp)];exact heap_alloc_new w _
 open Sa21 in exact Ya5):P:=h
theorem Sa170.Ka39(h:P:=by
 have hblk:V.heap[w.heap.size]?=some (.cells #[.int .i64 0,.int .i64 F,.int .i64 T,.int .i64 0,.int .i64 L,.string k,.int .i64 N] 32 (0,0)):=by rw [hV,Below.heap_alloc _ _ _ (by simp)];exact heap_alloc_new w _
 open Sa22 in exact Ya5):P:=h
theorem Sa171.Ka39(h:P:=by
 open Sa316 in exact Ya91):P:=h
theorem Sa172.Ka39(h:P:=by
 open Sa315 in exact Ya91):P:=h
theorem Ya40(h:P:=by
 obtain⟨i,hi,hcmp⟩:=Option.map_eq_some_iff.1 Is.comp;obtain⟨j,hj,hjs⟩:=Option.map_eq_some_iff.1 Is.size;have h8:= @run_callFunc_extern Tryz.prog 265 _ Extern.ReflectliteType.typeOf Tryz.func265 (by kernel_rfl) (by kernel_rfl) (by kernel_rfl) (by kernel_rfl);have h32:= @run_callFunc_extern Tryz.prog 312 _ Is.cmp Tryz.func312 (by kernel_rfl) (by kernel_rfl) (by kernel_rfl) (by kernel_rfl);have tT:=Is.typeOf;have cT:=Is.comparable;have mR:=Is.methodComparable;exact Ka40):P:=h
theorem Sa173.Ka40(h:P:=by
 have nE:=Is.noIs;have uE:=Is.noUnwrap;have vE:=Is.noUnwraps;have heq:=run_eql_iface_ptr_other (P:=Tryz.prog) w Tryz.underlying230 Tryz.underlying342 hi hcmp hj (by rw [hjs];decide) hne ha hb;exact Za89):P:=h
theorem Sa174.Ka40(h:P:=by
 have heq:=run_eql_iface_ptr_same (P:=Tryz.prog) w a Tryz.underlying230 Tryz.underlying342 hi hcmp hj;exact Za89):P:=h
theorem Ya41(h:P:=by
 clear hm hM;go_enter Tryz.func261,Tryz.ntmps261
 go_wp2_with fail;refine(HN _).mono ?_;rintro e w1 ⟨rfl,hb1⟩;rw [hno];obtain⟨hA,hz,hbel⟩:=Fo.one_block hb1;obtain⟨⟨p0,p1,p2,p3⟩,_⟩:=four_at hA;have hm1:w1.heap[mp]?=some (.cells #[v,.map (some mb)] 308 (0,0)):=by rw [hbel.block _ hmp];exact HM
 obtain⟨⟨m0,m1⟩,_⟩:=two_at hm1;have hI1:MapIs w1.drew mb n G:=HI.kept (by rw [←hbel.block _ hmb];rfl);exact Ka41):P:=h
theorem Sa175.Ka41(h:P:=by
 obtain⟨w2,hrun,hI2,hK2⟩:=unhide HST _ 0 hI1;have HI2:=hide (hI2.mono (Nat.le_succ n));have HK2:=hide ((Keeps.of_below (g:=mb) hbel).trans (Keeps.trans (b:=w1.drew) (Keeps.of_below (Below.refl _ _).drew) hK2));clear hb1 hA hbel hm1 hI1 hI2 hK2 HST HN;go_wp2_with fail;go_region
 all_goals
  go_wp2_with fail
  exact bodyPost_ret (v:= .tuple #[]) (by simp[results,Tryz.results261,go_sem]) rfl ⟨rfl,HI2,HK2⟩):P:=h
theorem Sa176.Ka41(h:P:=by
 obtain⟨w2,hrun,hI2,hK2⟩:=unhide HST _ hI1;have HI2:=hide hI2;have HK2:=hide ((Keeps.of_below (g:=mb) hbel).trans (Keeps.trans (b:=w1.drew) (Keeps.of_below (Below.refl _ _).drew) hK2));clear hb1 hA hbel hm1 hI1 hI2 hK2 HST HN;go_wp2_with fail;go_region
 all_goals
  go_wp2_with fail
  exact bodyPost_end (v:= .tuple #[]) (by simp[results,Tryz.results261,go_sem]) rfl ⟨rfl,HI2,HK2⟩):P:=h
theorem Ya42(h:P:=by
 have HML:=hide hml;clear hm hml;go_wp2_with (go_at_call 81;refine(HMT _ _ (by omega)).mono ?_;rintro e w1 ⟨rfl,hb1⟩;have HB1:=hide hb1;have hgz:=hb1.size;obtain⟨hcc,hff⟩:=bcell hb1;clear hb1)
 exact Ka42):P:=h
theorem Sa177.Ka42(h:P:=by
 go_roundw
 case rel=>
  have hpos:0 < l.length:=by omega
  have h0:=GR.W.toC encP_length (by omega) HR;open Sa326 in exact Ya95
 case measure=>simp[intOf];omega):P:=h
theorem Sa178.Ka42(h:P:=by
 go_roundw
 case rel=>
  have hpos:0 < l.length:=by omega
  have h0:=GR.W.toC encSnt_length (by omega) HR;open Sa325 in exact Ya95
 case measure=>simp[intOf];omega):P:=h
theorem Sa179.Ka42(h:P:=by
 go_roundw
 case rel=>
  have hpos:0 < l.length:=by omega
  have h0:=GR.W.toC encRq_length (by omega) HR;open Sa324 in exact Ya95
 case measure=>simp[intOf];omega):P:=h
theorem Ya43(h:P:=by
 refine wpAnyG_pure 0 rfl (by kernel_rfl) (by kernel_rfl) (by kernel_rfl) (fun _ _ _ _ h=>h) (fun K hK=>?_);go_simp
 first
  |(refine hK _ ?_;clear hK K)
  |(apply Exists.intro
    refine⟨fun _=>rfl,hK _ ?_⟩
    clear hK K)
 exact Ka43):P:=h
theorem Sa180.Ka43(h:P:=by
 refine wpAnyG_mixE 7 ?_;refine tk [1,2,3,4,5] ?_;iterate 5 (refine tkE (fun K hK=>?_);go_simp;refine hK _ ?_;clear hK K)
 refine tkN ?_;clear y9 z0 z1 z2 z3 z4 z5 z6;refine wpMixE_one 6 rfl (by kernel_rfl) (by rfl) (fun x hx=>?_);go_simp;refine⟨below_one x _,?_⟩;have HSX:=hide ((HSW.step hx).step (below_one x (.cells #[.int .i64 mK,.int .i64 mF,.int .i64 mT,.int .i64 mI,.int .i64 mL,.string mk,.int .i64 mN] 32)));have HNX:=hide (heap_alloc_new x (.cells #[.int .i64 mK,.int .i64 mF,.int .i64 mT,.int .i64 mI,.int .i64 mL,.string mk,.int .i64 mN] 32));have hbs:w0.heap.size≤x.heap.size:=(HSW.step hx).keep.size;clear hx HSW HXW HBW HS;generalize x.alloc (.cells #[.int .i64 mK,.int .i64 mF,.int .i64 mT,.int .i64 mI,.int .i64 mL,.string mk,.int .i64 mN] 32)=y at *;refine wpMixE_leave (by kernel_rfl) (fun z hz=>?_);have HSZ:=hide (HSX.step hz);have HNZ:=hide (obj_step HNX hz);clear hz HSX HNX;refine wpAny_one 7 rfl (by kernel_rfl) (by rfl) ?_;refine wp_append_where z (.tmp 12) (.tmp 14) 37 rfl w0.heap.size 32 i0 (.agg #[.int .i64 0,.int .i64 0,.int .i64 0,.int .i64 0,.int .i64 0,.string ByteArray.empty,.int .i64 0]) 7 64 Tryz.underlying37 hi hz0 hz1 hz2 rfl (by decide) (.slice va L.length vc) L.length (GR.flat encM L) (by simp[Act.eval]) HSZ.m ⟨x.heap.size,0,none⟩ 1 1 (encM ⟨mK,mF,mT,mI,mL,mk,mN⟩) (by simp[Act.eval]) rfl (World.news_of_block HNZ) (encM_one _) (by unfold maxLen;omega) (by omega) HSZ.keep.size ?_;intro v6 w6 hown6 hgr6 hwh6;obtain⟨va6,vc6,hv6,_⟩:=GR.own_at (enc:=encM) (sz:=7) (l:=L++[⟨mK,mF,mT,mI,mL,mk,mN⟩]) encM_length (by rw [List.length_append,flat_snoc];exact hown6);rw [List.length_append] at hv6;have hv7:v6= .slice va6 (L.length+1) vc6:=hv6;subst hv7;clear hv6;obtain⟨hb6,hS6⟩:=HSZ.app ⟨mK,mF,mT,mI,mL,mk,mN⟩ hown6 hgr6 hwh6;have HS6:=hide hS6;obtain⟨k0,k1,k2,k3,k4,k5,k6,k7,k8,k9⟩:=tenC hb6;have kf:=obj_free hb6 9;clear hown6 hgr6 hwh6 hb6 hS6 HSZ HNZ;refine wpAny_one 8 rfl (by kernel_rfl) (by rfl) ?_;go_simp;refine wpAny_one 9 rfl (by kernel_rfl) (by rfl) ?_;go_simp;refine wpAny_one 10 rfl (by kernel_rfl) (by rfl) ?_;go_simp;refine wpAny_done (by kernel_rfl) ?_;go_simp;go_wp2_with fail;exact bodyPost_end (v:= .tuple #[]) (by simp[results,Tryz.results164,go_sem]) rfl ⟨rfl,_,_,HS6⟩):P:=h
theorem Sa181.Ka43(h:P:=by
 refine wpAnyG_mixE 9 ?_;refine tk [1,2,3,4,5,6,7] ?_;iterate 7 (refine tkE (fun K hK=>?_);go_simp;refine hK _ ?_;clear hK K)
 refine tkN ?_;clear y8 z0 z1 z2 z3;refine wpMixE_one 8 rfl (by kernel_rfl) (by rfl) (fun x hx=>?_);go_simp;refine⟨below_one x _,?_⟩;have HX:=hide ((HW1.step hx).step (below_one x (.cells #[.int .i64 q.no,.string q.k,.int .i64 q.n,.int .i64 q.s] 49)));have HN:=hide (heap_alloc_new x (.cells #[.int .i64 q.no,.string q.k,.int .i64 q.n,.int .i64 q.s] 49));have HRL:=hide (show∀y,(Value.slice A.r n.reqs.length A.cr).ownBlock=some y→x.heap.size≠y from fun y hy=>by have:=((HW1.step hx).no.r.lt y hy).2;omega);clear hx HW HW1 HP1;generalize x.alloc (.cells #[.int .i64 q.no,.string q.k,.int .i64 q.n,.int .i64 q.s] 49)=x1 at *;refine wpMixE_leave (by kernel_rfl) (fun u hu=>?_);have HU:=hide (HX.step hu);have HNU:=hide (obj_step HN hu);clear hu HX HN;refine wpAny_one 9 rfl (by kernel_rfl) (by rfl) ?_;go_simp;refine(insReq w0.heap.size A.r A.cr i n.reqs q x.heap.size u (by omega) hi HU.keep.size HU.no.r HNU HRL).mono ?_;rintro e w6 ⟨a6,c6,rfl,hown6,hgr6,hwh6⟩;obtain⟨hb6,hW6⟩:=HU.reqPut hown6 hgr6 hwh6;have HW6:=hide hW6;obtain⟨k0,k1,k2,k3,k4,k5,k6,k7,k8,k9⟩:=tenC hb6;have kf:=obj_free hb6 8;have hw6:=obj_lt hb6;clear hown6 hgr6 hwh6 hb6 hW6 HU HNU HRL;rw [hlen] at HW6 ⊢;refine wpAny_one 10 rfl (by kernel_rfl) (by rfl) ?_;go_simp;refine wpAny_one 11 rfl (by kernel_rfl) (by rfl) ?_;go_simp;refine wpAny_one 12 rfl (by kernel_rfl) (by rfl) ?_;go_simp;refine wpAny_one 13 rfl (by kernel_rfl) (by rfl) ?_;go_simp;refine wpAny_done (by kernel_rfl) ?_;go_simp;go_upto_region 2 with fail;refine wp_at (fun V hV=>?_);have HV:Hid (WK w0 V wb (setReqs n (insA n.reqs i q)) ⟨A.k,A.p,A.o,A.s,a6,A.ck,A.cp,A.co,A.cs,c6⟩ G (newC u.heap.size 6 c) v L):=by rw [hV];exact HW6
 clear hV HW6 k0 k1 k2 k3 k4 k5 k6 k7 k8 k9 kf hw6;have hl2:(setReqs n (insA n.reqs i q)).reqs.length=n.reqs.length+1:=hlen;obtain⟨d0,d1,d2,d3,d4,d5,d6,d7,d8,d9⟩:=tenC HV.blk;rw [hl2] at d8;have hVl:=obj_lt HV.blk;by_cases hmany:30 < n.reqs.length+1
 case' neg=>
  have hm2:¬((30:Int) < (n.reqs.length:Int)+1):=by omega
  have HK:=hide (show keepI n q i=setReqs n (insA n.reqs i q) by unfold keepI;rw [hlen,if_neg hmany])
  go_wp2_with fail
  exact bodyPost_end (v:= .tuple #[]) (by simp[results,Tryz.results162,go_sem]) rfl ⟨rfl,_,_,_,by rw [unhide HK];exact HV⟩
 have hm2:(30:Int) < (n.reqs.length:Int)+1:=by omega
 obtain⟨g,hAr,hgw,hgl,⟨q0,_,_,_⟩,_⟩:=HV.reqRow 0 (by omega);dsimp only at hAr;subst hAr;have hz8:(0:Int) < (n.reqs.length:Int)+1:=by omega
 have HK:=hide (show keepI n q i=setReqs (setOld n (setReqs n (insA n.reqs i q)).reqs[0].no) ((insA n.reqs i q).drop 1) by
  unfold keepI
  rw [hlen,if_pos hmany]
  congr 2
  show((insA n.reqs i q).headD default).no=(insA n.reqs i q)[0].no
  rw [List.headD_eq_head?_getD,List.head?_eq_getElem?,List.getElem?_eq_getElem (by omega)]
  rfl)
 generalize (setReqs n (insA n.reqs i q)).reqs[0].no=old at *;rw [Nat.zero_mul] at q0;have vf7:=obj_free HV.blk 7;have vf8:=obj_free HV.blk 8;have HO:=hide (HV.oldPut old);go_upto_region 4 with fail;refine wp_at (fun V2 hV2=>?_);have HV2:Hid (WK w0 V2 wb (setOld (setReqs n (insA n.reqs i q)) old) ⟨A.k,A.p,A.o,A.s,some ⟨g,0,none⟩,A.ck,A.cp,A.co,A.cs,c6⟩ G (newC u.heap.size 6 c) v L):=by rw [hV2];exact HO
 clear hV2 HO HV d0 d1 d2 d3 d4 d5 d6 d7 d8 d9 q0 vf7 vf8 hVl;have hl3:(setOld (setReqs n (insA n.reqs i q)) old).reqs.length=n.reqs.length+1:=hlen;obtain⟨d0,d1,d2,d3,d4,d5,d6,d7,d8,d9⟩:=tenC HV2.blk;rw [hl3] at d8;have hVl:=obj_lt HV2.blk;have HD:=hide (delReq w0.heap.size (some ⟨g,0,none⟩) c6 (insA n.reqs i q) V2 (by omega) (by omega) HV2.no.r);rw [hlen] at HD;go_wp2_with fail;refine HD.mono ?_;rintro e w7 ⟨a7,c7,rfl,hown7,hgr7,hwh7⟩;obtain⟨hb7,hW7⟩:=HV2.reqPut hown7 (by rw [hl3];exact hgr7) (by rw [hl3];exact hwh7);have hl7:((insA n.reqs i q).drop 1).length=n.reqs.length:=by rw [List.length_drop,hlen];omega
 rw [hl7] at hW7;have HW7:=hide hW7;obtain⟨k0,k1,k2,k3,k4,k5,k6,k7,k8,k9⟩:=tenC hb7;have kf:=obj_free hb7 8;have hw7:=obj_lt hb7;clear hown7 hgr7 hwh7 hb7 hW7 HV2 HD d0 d1 d2 d3 d4 d5 d6 d7 d8 d9;go_wp2_with fail;exact bodyPost_end (v:= .tuple #[]) (by simp[results,Tryz.results162,go_sem]) rfl ⟨rfl,_,_,_,by rw [unhide HK];exact HW7⟩):P:=h
theorem Sa182.Ka43(h:P:=by
 refine wpAnyG_pure 2 rfl (by kernel_rfl) (by kernel_rfl) (by kernel_rfl) (fun _ _ _ _ h=>h) (fun K hK=>?_);go_simp
 first
  |(refine hK _ ?_;clear hK K)
  |(apply Exists.intro
    refine⟨fun _=>rfl,hK _ ?_⟩
    clear hK K)
 refine wpAnyG_pure 4 rfl (by kernel_rfl) (by kernel_rfl) (by kernel_rfl) (fun _ _ _ _ h=>h) (fun K hK=>?_);go_simp
 first
  |(refine hK _ ?_;clear hK K)
  |(apply Exists.intro
    refine⟨fun _=>rfl,hK _ ?_⟩
    clear hK K)
 refine fun x hx=>?_
 have HW4:=hide (HW3.step hx);have HR2:=hide (obj_step HR HW4.keep);have hwr:w.heap.size+2≠wb:=by have:=HW4.lo;omega
 clear hx HW3;obtain⟨c0,c1,c2,c3,c4,c5,c6,c7,c8,c9⟩:=tenC HW4.blk;open Sa248 in exact Ya65):P:=h
theorem Ya44(h:P:=by
 open Sa332 in exact Ya98):P:=h
theorem Sa183.Ka44(h:P:=by
 exact Za16):P:=h
theorem Sa184.Ka44(h:P:=by
 open Sa279 in exact Ya76):P:=h
theorem Ya45(h:P:=by
 have hwl:=obj_lt h.blk;obtain⟨K,no,k,nn,⟨mK,mF,mT,mI,mL,mk,mN⟩⟩:=o;dsimp only at *;subst hK;have HW0:=hide h;clear h;go_enter Tryz.func112,Tryz.ntmps112
 go_upto_region 2 with fail;refine wp_at (fun W hW=>?_);exact Ka45):P:=h
theorem Sa185.Ka45(h:P:=by
 obtain⟨_,e2,e3⟩:=allocsE2 w (.cells #[.int .i64 K,.int .i64 no,.string k,.int .i64 nn,.int .i64 2,.int .i64 mF,.int .i64 mT,.int .i64 mI,.int .i64 mL,.string mk,.int .i64 mN] 34) (.cells #[.int .i64 2,.int .i64 mF,.int .i64 mT,.int .i64 mI,.int .i64 mL,.string mk,.int .i64 mN] 32);open Sa135 in exact Ya31):P:=h
theorem Sa186.Ka45(h:P:=by
 obtain⟨_,e2,e3⟩:=allocsE2 w (.cells #[.int .i64 K,.int .i64 no,.string k,.int .i64 nn,.int .i64 1,.int .i64 mF,.int .i64 mT,.int .i64 mI,.int .i64 mL,.string mk,.int .i64 mN] 34) (.cells #[.int .i64 1,.int .i64 mF,.int .i64 mT,.int .i64 mI,.int .i64 mL,.string mk,.int .i64 mN] 32);open Sa136 in exact Ya31):P:=h
theorem Sa187.Ka45(h:P:=by
 obtain⟨_,e2,e3⟩:=allocsE2 w (.cells #[.int .i64 K,.int .i64 no,.string k,.int .i64 nn,.int .i64 0,.int .i64 mF,.int .i64 mT,.int .i64 mI,.int .i64 mL,.string mk,.int .i64 mN] 34) (.cells #[.int .i64 0,.int .i64 mF,.int .i64 mT,.int .i64 mI,.int .i64 mL,.string mk,.int .i64 mN] 32);open Sa137 in exact Ya31):P:=h
theorem Ya46(h:P:=by
 have hkk:=hks l[k] (List.getElem_mem hlt);have HT:=hide (List.take_succ_eq_append_getElem hlt);generalize l[k]=pu at *;exact Ka46):P:=h
theorem Sa188.Ka46(h:P:=by
 have HSZ:=hide (fun w1=>szPurse pu z w1 hz0 hz1 hkk);obtain⟨pk,pm,pf,ps⟩:=pu;exact Za6):P:=h
theorem Sa189.Ka46(h:P:=by
 have HSZ:=hide (fun w1=>szSent pu z w1 hz0 hz1 hkk);obtain⟨pi,pt,pk,pn⟩:=pu;exact Za6):P:=h
theorem Sa190.Ka46(h:P:=by
 have HSZ:=hide (fun w1=>szReq pu z w1 hz0 hz1 hkk);obtain⟨pno,pk,pn,ps⟩:=pu;exact Za6):P:=h
theorem Sa191.Ka46(h:P:=by
 have HSZ:=hide (fun w1=>szSeen pu b c z w1 hz0 hz1 hkk);obtain⟨fr,lo,ids⟩:=pu;dsimp only at q0 q1 q2 hkk;unfold maxLen at hkk;go_wp2_with fail;refine(HSZ _).mono ?_;rintro e w5 ⟨rfl,hb5⟩;have HBL5:=hide (HBL.trans (hb5.mono HBL.size));clear hb5 q0 q1 q2;dsimp only;by_cases hc:(ids.length:Int)≤z
 ·rw [if_pos hc];have hn2:decide (z - (ids.length:Int) < 0)=false:=decide_eq_false (by omega);go_wp2_with fail;go_roundw
  case rel=>
   refine⟨k+1,z - ids.length,by omega,by go_num,rfl,by omega,by omega,?_,HBL5⟩;intro p hp;rw [unhide HT] at hp;rcases List.mem_append.1 hp with h|h
   ·exact HALL p h
   ·rw [List.mem_singleton] at h;subst h;show ids.length≤1048576
    omega
  case measure=>simp[intOf];omega
 ·rw [if_neg hc];go_wp2_with fail;go_ret;exact⟨-1,rfl,HBL5,.inl rfl⟩):P:=h
theorem Ya47(h:P:=by
 clear HNk HYk;go_wp2_with fail;refine(HCk wr HB).mono ?_;rintro e w1 ⟨rfl,hb1⟩;have HB1:=hide (HB.trans (hb1.mono HB.size));rw [hq];exact Ka47):P:=h
theorem Sa192.Ka47(h:P:=by
 clear hb1 q0 q1 q2;exact Za90):P:=h
theorem Sa193.Ka47(h:P:=by
 clear hb1 q0 q1 q2;go_wp2_with fail;go_ret;exact⟨rfl,HB1⟩):P:=h
theorem Sa194.Ka47(h:P:=by
 clear hb1 q0 q1 q2 q3;exact Za90):P:=h
theorem Sa195.Ka47(h:P:=by
 clear hb1 q0 q1 q2 q3;go_wp2_with fail;go_ret;exact⟨by simp,HB1⟩):P:=h
theorem Ya48(h:P:=by
 have hke:k=out.length:=by omega
 subst hke;have hnlt:decide ((out.length:Int) < (out.length:Int))=false:=by simp
 exact Ka48):P:=h
theorem Sa196.Ka48(h:P:=by
 have HOF:Hid (TT=chk RQ RR reqs):=by
  have h:=unhide HALL;rw [List.take_length] at h;rw [unhide HTT,h];rfl
 clear HCF HCN HCB HOT;go_wp2_with fail;go_loopw [5] (fun i wr=>∃k:Nat,k≤reqs.length∧i= .int .i64 k∧chk RQ RR (reqs.take k)=true∧wr.heap[w.heap.size]?=some (.cells (ndc ⟨id,par,kids,next,pu,out,seen,old,reqs⟩ ⟨ak,ap,ao,as',ar,ck,cp,co,cs,cr⟩) 30 (0,0))∧Below w.heap.size w wr) (fun i _=>reqs.length - (intOf i).toNat)
 case atStart=>exact⟨0,Nat.zero_le _,rfl,rfl,HBK,HBL⟩
 case round=>
  open Sa231 in exact Ya60):P:=h
theorem Sa197.Ka48(h:P:=by
 have HRS:Hid (L=(out.take out.length).map PM):=by
  rw [unhide HPL,List.take_length];cases hOK:OK
  ·rcases Nat.eq_zero_or_pos out.length with h|h
   ·rw [List.eq_nil_of_length_eq_zero h];rfl
   ·exact absurd (hpos h) (by rw [hOK];simp)
  ·rfl
 clear hpos;go_wp2_with fail;go_ret;rw [unhide HRS];exact GivesM.of_own (by simp) HO (by omega) HW):P:=h
theorem Sa198.Ka48(h:P:=by
 have HF:=hide (HLN HN);go_wp2_with fail;go_ret;exact⟨ret_int HF.symm,below_one w _⟩):P:=h
theorem Sa199.Ka48(h:P:=by
 have hyy:=unhide HLN HN;clear HLY HLS HLN;subst hyy;go_upto_region 8 with fail;refine wp_at (fun W3 hW3=>?_);have hbw:Below wr.heap.size wr W3:=by rw [hW3];exact Below.refl _ _
 open Sa93 in exact Ya22):P:=h
theorem Ya49(h:P:=by
 have HBK2:=hide (obj_step HBK1 hbx);have HBL2:=hide (HBL1.trans (hbx.mono HBL1.size));exact Ka49):P:=h
theorem Sa200.Ka49(h:P:=by
 clear hbx d0 d1 d2 d3 c0 c1 c2 c3 c4 c5 c6 c7 c8 k0 k1 k2 k3 k4 k5 k6 k7 k8 m0 m1 m2 m3 HW1 HBK1 HBL1 HPK1
 have HVB:=hide (show chk OT RO (out.take (k+1))= !bb by
  rw [unhide HNX,←unhide HBB,unhide HOK]
  simp only[Bool.not_not])
 cases hbv:bb
 ·have HG:Hid (chk OT RO (out.take (k+1))=true):=by rw [unhide HVB,hbv];exact hide rfl
  exact Za48
 ·exact Za44):P:=h
theorem Sa201.Ka49(h:P:=by
 have HW2:=hide (obj_step HW1 hbx);clear hbx d0 d1 d2 d3 c0 c1 c2 c3 c4 c5 c6 c7 c8 HW1 HBK1 HBL1 HBB;obtain⟨d0,d1,d2,d3⟩:=fourC HW2;cases hbv:bb
 ·have HG:=hide (show chk KB RR (out.take (k+1))=true by rw [unhide HVB,hbv];rfl);subst hbv;clear HBAD HVB;go_wp2_with fail;go_roundw
  case rel=>exact⟨k+1,si,by omega,by go_num,rfl,HLN.symm,HG,HBK2,HBL2⟩
  case measure=>simp[intOf];omega
 ·have HP:=hide (HBAD (by rw [unhide HVB,hbv];rfl));subst hbv;clear HBAD HVB;go_wp2_with fail;go_ret;exact⟨ret_bool HP.symm,HBL2⟩):P:=h
theorem Sa202.Ka49(h:P:=by
 clear hbx d0 d1 d2 d3 c0 c1 c2 c3 c4 c5 c6 c7 c8 k0 k1 k2 k3 k4 k5 k6 k7 k8 m0 m1 m2 m3 HW1 HBK1 HBL1 HPK1
 have HVB:=hide (show chk RQ RR (reqs.take (k+1))= !bb by
  rw [unhide HNX,←unhide HBB,unhide HOK]
  simp only[Bool.not_not])
 cases hbv:bb
 ·have HG:Hid (chk RQ RR (reqs.take (k+1))=true):=by rw [unhide HVB,hbv];exact hide rfl
  exact Za48
 ·exact Za44):P:=h
theorem Sa203.Ka49(h:P:=by
 have HI2:=hide (GR.At.below HI1 hbx);clear hbx d0 d1 d2 c0 c1 c2 c3 c4 c5 c6 c7 c8 k0 k1 k2 k3 k4 k5 k6 k7 k8 m0 m1 m2 HW1 HBK1 HBL1 HI1 HPK1 HKI;cases hbv:bb
 case' true=>
  have HP:Hid (TT=false):=unhide HBAD (by
   rw [unhide HNX]
   have h:=unhide HBB
   rw [hbv] at h
   unfold snB
   dsimp only
   cases h1:NN fr<;>cases h2:pv<;>cases h3:smB lo<;>cases h4:decide (ids.length≤40)<;>simp_all)
  clear HBAD HNX HBB
  subst hbv
  go_wp2_with fail
  go_ret
  exact⟨ret_bool HP.symm,HBL2⟩
 have HGD:Hid (chk PP RR (seen.take (k+1))=chk (idB lo) ltB ids):=by
  rw [unhide HNX];have h:=unhide HBB;rw [hbv] at h;unfold snB;dsimp only;cases h1:NN fr<;>cases h2:pv<;>cases h3:smB lo<;>cases h4:decide (ids.length≤40)<;>simp_all
 subst hbv;clear HNX HBB;obtain⟨d0,d1,d2⟩:=three HW2;have hidl:=unhide HIDS;go_wp2_with fail;go_loopw [6] (fun i wr2=>∃m:Nat,m≤ids.length∧i= .int .i64 m∧chk (idB lo) ltB (ids.take m)=true∧Below wc.heap.size wc wr2) (fun i _=>ids.length - (intOf i).toNat)
 case atStart=>exact Za110
 case round=>
  obtain⟨m,hm,rfl,hall,hbx⟩:=hrel;have HBX:=hide hbx;have HALM:=hide hall;have HW3:=hide (obj_step HW2 hbx);obtain⟨d0,d1,d2⟩:=three HW3;clear hall;by_cases hlm:m < ids.length
  case' neg=>
   have hke:m=ids.length:=by omega
   subst hke
   have hnlt:decide ((ids.length:Int) < (ids.length:Int))=false:=by simp
   have HF:Hid (chk PP RR (seen.take (k+1))=true):=by
    have h:=unhide HALM;rw [List.take_length] at h;exact HGD.trans h
   have HB9:=hide (obj_step HBK2 hbx)
   have HL9:=hide (HBL2.trans (hbx.mono HBL2.size))
   clear hbx
   go_wp2_with fail
   go_roundw
   case rel=>exact⟨k+1,by omega,by go_num,HF,HB9,HL9⟩
   case measure=>simp[intOf];omega
  have HBM:Hid (chk (idB lo) ltB (ids.take (m+1))=false→TT=false):=fun h=>HBAD (HGD.trans (chk_bad _ _ _ _ h))
  have HL9:=hide (HBL2.trans (hbx.mono HBL2.size));have hI3:=GR.At.below HI2 hbx;clear hbx;cases m with
  |zero=>
   obtain⟨g2,off2,rfl,hg2,q0⟩:=IntsAt.one hI3 0 hlm
   rw [Nat.add_zero] at q0
   have hgt:decide ((0:Int) < ((0:Nat):Int))=false:=rfl
   have HNX:Hid (chk (idB lo) ltB (ids.take (0+1))=idB lo ids[0]):=chk_first (idB lo) ltB ids hlm
   clear hI3
   generalize ids[0]=x at *
   cases h1:decide (lo≤x∧x≤1000000000)
   case' false=>
    have HV:=hide (HBM (by rw [unhide HNX];simp[idB,h1]))
    clear HNX HBM
    go_wp2_with fail
    refine wp_region_quiet_lit (by kernel_rfl) (by kernel_rfl) ?_
    repeat (first|go_big_quiet_step ((first|(go_at_call 48;exact qIn _ _ _ _ h1 _ _)))|quiet_step ((first|(go_at_call 48;exact qIn _ _ _ _ h1 _ _))))
    refine wpQuiet_nil ?_
    intro _ hw'
    obtain⟨nq,hw''⟩:=hw'
    subst hw''
    go_wp2_with fail
    go_ret
    exact⟨ret_bool HV.symm,HL9.trans ⟨rfl,rfl,rfl,Nat.le_refl _,fun _ _=>rfl⟩⟩
   have HV:=hide (show chk (idB lo) ltB (ids.take (0+1))=true by rw [unhide HNX];simp[idB,h1])
   clear HNX HBM
   go_wp2_with fail
   refine wp_region_quiet_lit (by kernel_rfl) (by kernel_rfl) ?_
   repeat (first|go_big_quiet_step ((first|(go_at_call 48;exact qIn _ _ _ _ h1 _ _)))|quiet_step ((first|(go_at_call 48;exact qIn _ _ _ _ h1 _ _))))
   refine wpQuiet_nil ?_
   intro _ hw'
   obtain⟨nq,hw''⟩:=hw'
   subst hw''
   go_wp2_with fail
   go_roundw
   case rel=>exact⟨0+1,by omega,by go_num,HV,HBX.trans ⟨rfl,rfl,rfl,Nat.le_refl _,fun _ _=>rfl⟩⟩
   case measure=>simp[intOf];omega
  |succ j=>
   obtain⟨g2,off2,e1,hg2,q0⟩:=IntsAt.one hI3 (j+1) hlm
   obtain⟨g3,off3,e2,hg3,q1⟩:=IntsAt.one hI3 j (by omega)
   rw [e1] at e2
   injection e2 with e2
   injection e2 with e2 e3
   subst e2 e3 e1
   have hgt:decide ((0:Int) < ((j+1:Nat):Int))=true:=decide_eq_true (by omega)
   have HNX:Hid (chk (idB lo) ltB (ids.take (j+1+1))=(idB lo ids[j+1]&&ltB ids[j] ids[j+1])):=by
    have h:=chk_next (idB lo) ltB ids j hlm;rw [unhide HALM] at h;exact h
   clear hI3
   generalize ids[j]=y at *
   generalize ids[j+1]=x at *
   cases h1:decide (lo≤x∧x≤1000000000)
   case' false=>
    have HV:=hide (HBM (by rw [unhide HNX];simp[idB,h1]))
    clear HNX HBM
    go_wp2_with fail
    refine wp_region_quiet_lit (by kernel_rfl) (by kernel_rfl) ?_
    repeat (first|go_big_quiet_step ((first|(go_at_call 48;exact qIn _ _ _ _ h1 _ _)))|quiet_step ((first|(go_at_call 48;exact qIn _ _ _ _ h1 _ _))))
    refine wpQuiet_nil ?_
    intro _ hw'
    obtain⟨nq,hw''⟩:=hw'
    subst hw''
    go_wp2_with fail
    go_ret
    exact⟨ret_bool HV.symm,HL9.trans ⟨rfl,rfl,rfl,Nat.le_refl _,fun _ _=>rfl⟩⟩
   by_cases h2:y < x
   case' neg=>
    have hy:decide (x≤y)=true:=decide_eq_true (by omega)
    have HV:=hide (HBM (by rw [unhide HNX];simp[ltB,h2]))
    clear HNX HBM
    go_wp2_with fail
    refine wp_region_quiet_lit (by kernel_rfl) (by kernel_rfl) ?_
    repeat (first|go_big_quiet_step ((first|(go_at_call 48;exact qIn _ _ _ _ h1 _ _)))|quiet_step ((first|(go_at_call 48;exact qIn _ _ _ _ h1 _ _))))
    refine wpQuiet_nil ?_
    intro _ hw'
    obtain⟨nq,hw''⟩:=hw'
    subst hw''
    go_wp2_with fail
    go_ret
    exact⟨ret_bool HV.symm,HL9.trans ⟨rfl,rfl,rfl,Nat.le_refl _,fun _ _=>rfl⟩⟩
   have hy:decide (x≤y)=false:=decide_eq_false (by omega)
   have HV:=hide (show chk (idB lo) ltB (ids.take (j+1+1))=true by rw [unhide HNX];simp[idB,h1,ltB,h2])
   clear HNX HBM
   go_wp2_with fail
   refine wp_region_quiet_lit (by kernel_rfl) (by kernel_rfl) ?_
   repeat (first|go_big_quiet_step ((first|(go_at_call 48;exact qIn _ _ _ _ h1 _ _)))|quiet_step ((first|(go_at_call 48;exact qIn _ _ _ _ h1 _ _))))
   refine wpQuiet_nil ?_
   intro _ hw'
   obtain⟨nq,hw''⟩:=hw'
   subst hw''
   go_wp2_with fail
   go_roundw
   case rel=>exact⟨j+1+1,by omega,by go_num,HV,HBX.trans ⟨rfl,rfl,rfl,Nat.le_refl _,fun _ _=>rfl⟩⟩
   case measure=>simp[intOf];omega):P:=h
theorem Ya50(h:P:=by
 have hno:∀(listed:Array Bool),ClosedL md ops listed→i∈Region.ready md ops listed→E∉Region.ready md ops listed:=fun listed hcl hr hEr=>by
  have h3:=anc_listed hcl hEr n i hE
  have h4:=(mem_ready.1 hr).1
  rcases Nat.lt_or_ge i listed.size with h'|h'
  ·simp[h'] at h3 h4;rw [h4] at h3;cases h3
  ·simp[Array.getElem?_eq_none h'] at h3
 intro fuel;exact Ka50):P:=h
theorem Sa204.Ka50(h:P:=by
 induction fuel with
 |zero=>
  intro listed a w hcl _ hr hy H
  refine fun x hx=>⟨fun h=>(by rw [h] at hr;cases hr),fun j hj=>⟨fun e=>absurd (e▸hj) (hno listed hcl hr),fun _=>?_⟩⟩
  by_cases hji:j=i
  ·exact Za114
  ·exact Za69
 |succ fuel ih=>
  intro listed a w hcl hfree hr hy H
  refine fun x hx=>⟨fun h=>(by rw [h] at hr;cases hr),fun j hj=>⟨fun e=>absurd (e▸hj) (hno listed hcl hr),fun hjE=>?_⟩⟩
  by_cases hji:j=i
  ·exact Za114
  ·have h1:=((H x hx).2 j (ready_mono hj hji)).2 hjE;exact Za10):P:=h
theorem Sa205.Ka50(h:P:=by
 induction fuel with
 |zero=>
  intro listed a w hb hcl _ hr hy H
  refine fun x hx=>⟨fun h=>(by rw [h] at hr;cases hr),fun j hj=>⟨fun e=>absurd (e▸hj) (hno listed hcl hr),fun _=>?_⟩⟩
  by_cases hji:j=i
  ·exact Za87
  ·exact Za69
 |succ fuel ih=>
  intro listed a w hb hcl hfree hr hy H
  refine fun x hx=>⟨fun h=>(by rw [h] at hr;cases hr),fun j hj=>⟨fun e=>absurd (e▸hj) (hno listed hcl hr),fun hjE=>?_⟩⟩
  by_cases hji:j=i
  ·exact Za87
  ·have h1:=((H x hx).2 j (ready_mono hj hji)).2 hjE;open Sa67 in exact Ya16):P:=h
theorem Ya51(h:P:=by
 have hbd:=eSeen_le s 1048600 (l.take k) (fun x hx=>HL2 x (List.mem_of_mem_take hx));rw [←hm,List.length_take,Nat.min_eq_left (by omega)] at hbd;obtain⟨hb1,hb2⟩:=hbd;have hm0:0 < m:=by omega
 have hm1:(m:Int)≤92233720368547758:=by omega
 exact Ka51):P:=h
theorem Sa206.Ka51(h:P:=by
 have hS:SeenW wr a g I (mSeen s l):=SeenW.keeps (F:=[]) HA (KeepsL.of_below (HBL.mono (Nat.le_refl _))) (fun _ _=>by simp) (fun _ _=>by simp);obtain⟨b,cc,e0,hg0,⟨s0,s1,s2⟩,_,hI⟩:=SeenW.three hS k (by rw [mSeen_length];exact hlt);rw [mSeen_at s l k hlt,←hm] at s0 s1 s2 hI;have hids:=unhide HL2 l[k] (List.getElem_mem hlt);have HE1:Hid (eSeen s (l.take (k+1))=m+2+(l[k]).ids.length):=by rw [List.take_succ_eq_append_getElem hlt,eSeen_snoc,←hm];rfl
 subst e0;clear hm hS;generalize l[k]=sk at *;obtain⟨fr,lo,ids⟩:=sk;unfold mSn at s0 s1 s2 hI;rw [mks_length mkInt 1 (m+2) ids ids.length (Nat.le_refl _)] at s2;dsimp only at s0 s1 s2 hI hids HE1;have HH:=hide (fun z (hz:z=((m+2:Nat):Int))=>heldIntZ b (I k) cc ids.length (m+2) z ids wr hz rfl (by omega) (by omega) hids hI);clear hI;go_wp2_with (go_at_call 82;refine(HH _ (by omega)).mono ?_;rintro e w1 ⟨rfl,hb5⟩;have HBL1:=hide (HBL.trans (hb5.mono HBL.size));clear hb5)
 go_roundw
 case rel=>exact⟨k+1,m+2+ids.length,by omega,by go_num,by go_num,HE1.symm,HBL1⟩
 case measure=>simp[intOf];omega):P:=h
theorem Sa207.Ka51(h:P:=by
 have hk':k < (mSk s l k).length:=by rw [mSk_length s l k hk];exact hlt
 obtain⟨b,cc,e0,hg0,⟨s0,s1,s2⟩,⟨f0,f1⟩,hI⟩:=SeenW.three HR k hk';have hpos:0 < l.length:=by omega
 have hgfp:g∈fp g l:=fp_mem hpos
 have HNE:Hid (∀x∈fpI I (mSk s l k),x≠g):=by
  rw [fpI_congr (mSk_length s l k hk) (fun i h1 h2=>mSk_len s l k hk i h1 h2)];exact fun x hx e=>HND.2.2 g hgfp x hx e.symm
 have HNI:Hid ((fpI I (mSk s l k)).Nodup):=by
  rw [fpI_congr (mSk_length s l k hk) (fun i h1 h2=>mSk_len s l k hk i h1 h2)];exact HND.2.1
 have hids:=unhide HL2 l[k] (List.getElem_mem hlt);have hat:=mSk_at s l k hlt;rw [hat] at s0 s1 s2 hI;have HPT:=hide (SeenW.put HR k hk' (m:Int) ((m:Int)+1) HNE);rw [hat] at HPT;have HSE:=hide (mSk_set s l k hlt);have HIK:=hide (fpI_mem (I:=I) hlt);subst e0;have HI:=hide hI;have HE1:Hid (eSeen s (l.take (k+1))=m+2+(l[k]).ids.length):=by rw [List.take_succ_eq_append_getElem hlt,eSeen_snoc,←hm];rfl
 have HMS:Hid (mSn (eSeen s (l.take k)) l[k]=⟨(m:Int),(m:Int)+1,mks mkInt 1 (m+2) (l[k]).ids (l[k]).ids.length⟩):=by rw [←hm];rfl
 clear hm hI hat;have hmz:(mSk s l k)[k]=l[k]:=mSk_at s l k hlt;have HMZ:=hide hmz;clear hmz;generalize l[k]=sk at *;obtain⟨fr,lo,ids⟩:=sk;dsimp only at s0 s1 s2 HI hids HPT HIK HE1 HMS;go_wp2_with fail;have hKK:KeepsL [g] wr ((wr.setCell ⟨g,k*3,none⟩ (.int .i64 (m:Int))).setCell ⟨g,k*3+1,none⟩ (.int .i64 ((m:Int)+1))):=(KeepsL.set _).trans (KeepsL.set _)
 have hI2:=HI.keeps hKK (fun x hx=>by
  have h1:=unhide HIK x hx
  have h2:=HND.2.2 g hgfp x h1
  simp
  exact fun e=>h2 e.symm)
 have hc2:((wr.setCell ⟨g,k*3,none⟩ (.int .i64 (m:Int))).setCell ⟨g,k*3+1,none⟩ (.int .i64 ((m:Int)+1))).cell? ⟨g,k*3+2,none⟩=some (.slice b ids.length cc):=(World.cell?_setCell_other _ _ _ _ (by simp)).trans ((World.cell?_setCell_other _ _ _ _ (by simp)).trans s2);have HC2:=hide hc2;have HKK:=hide hKK;refine(markIntZ b (I k) cc (m+2) _ ids _ (by omega) (by omega) (by omega) hids hI2).mono ?_;rintro e w2 ⟨rfl,hW2,hK2⟩
 have HFIN:Hid (SeenW w2 (some ⟨g,0,none⟩) g I (mSk s l (k+1))∧KeepsL (fp g l++fpI I l) w w2):=by
  have hk2:k < ((mSk s l k).set k ⟨(m:Int),(m:Int)+1,ids⟩).length:=by simpa using hk'
  have hcg:fpI I ((mSk s l k).set k ⟨(m:Int),(m:Int)+1,ids⟩)=fpI I (mSk s l k):=fpI_congr (by simp) (fun i h1 h2=>by
   by_cases hik:i=k
   ·subst hik;rw [List.getElem_set_self,unhide HMZ]
   ·rw [List.getElem_set_ne (by omega)])
  have hx:=SeenW.ids HPT k hk2 b cc (mks mkInt 1 (m+2) ids ids.length) (by rw [List.getElem_set_self];exact HC2) (by rw [List.getElem_set_self];exact mks_length mkInt 1 (m+2) ids ids.length (Nat.le_refl _)) hW2 (by rw [List.getElem_set_self];exact hK2) (by rw [hcg];exact HNE) (by rw [hcg];exact HNI);rw [List.getElem_set_self,List.set_set] at hx;dsimp only at hx;rw [←unhide HMS,unhide HSE] at hx;refine⟨hx,(HK.trans (HKK.mono (fun x hx=>?_))).trans (hK2.mono (fun x hx=>List.mem_append_right _ (HIK x hx)))⟩;have:x=g:=by simpa using hx
  rw [this];exact List.mem_append_left _ hgfp
 clear hW2 hK2 hc2 hKK hI2;go_wp2_with fail;go_roundw
 case rel=>exact⟨k+1,m+2+ids.length,by omega,by go_num,by go_num,HE1.symm,HFIN.1,HFIN.2⟩
 case measure=>simp[intOf];omega):P:=h
theorem Ya52(h:P:=by
 obtain⟨k,hk,rfl,hB,hbel⟩:=hrel;have HB:=hide hB;have HBL:=hide hbel;clear hB hbel hmk;exact Ka52):P:=h
theorem Sa208.Ka52(h:P:=by
 by_cases hlt:k < l.length
 ·obtain⟨g,off,rfl,hgw,q0,q1,q2,q3⟩:=PursesAt.four (GR.At.below HA HBL) k hlt;have TS:=hide (take_set_pu l ⟨ByteArray.empty,0,0,0⟩ k hlt);generalize l[k]=pu at *;obtain⟨pk,pm,pf,ps⟩:=pu;dsimp only at q0 q1 q2 q3;have hln:(l.take k++List.replicate (l.length - k) (⟨ByteArray.empty,0,0,0⟩:Pu)).length=l.length:=by simp;omega
  go_wp2_with fail;refine(toPurse ⟨pk,pm,pf,ps⟩ _).mono ?_;rintro e w5 ⟨rfl,hb5⟩;have HB5:=hide (blkstep HB hb5);have HBL5:=hide (HBL.trans (hb5.mono HBL.size));clear hb5 q0 q1 q2 q3;exact Za25
 ·exact Za12):P:=h
theorem Sa209.Ka52(h:P:=by
 by_cases hlt:k < l.length
 ·obtain⟨g,off,rfl,hgw,q0⟩:=IntsAt.one (GR.At.below HA HBL) k hlt;have TS:=hide (take_setI l 0 k hlt);generalize l[k]=pu at *;have hln:(l.take k++List.replicate (l.length - k) (0:Int)).length=l.length:=by simp;omega
  have s0:=intBlk.one HB k (by omega);have f0:=GR.Blk.free HB k;go_wp2_with fail;first|go_region|skip
  go_roundw
  case rel=>
   have h:=GR.Blk.set HB encNum_length k (by omega) pu;rw [unhide TS] at h;have h2:=GR.setW_below (o:=k*1) (Nat.le_refl w.heap.size) (encNum pu) HBL;rw [Nat.mul_one] at h h2;exact⟨k+1,by omega,by go_num,h,h2⟩
  case measure=>simp[intOf];omega
 ·exact Za12):P:=h
theorem Sa210.Ka52(h:P:=by
 by_cases hlt:k < l.length
 ·obtain⟨g,off,rfl,hgw,q0,q1,q2,q3⟩:=SentAt.four (GR.At.below HA HBL) k hlt;have TS:=hide (take_setSent l ⟨0,0,ByteArray.empty,0⟩ k hlt);generalize l[k]=pu at *;obtain⟨pi,pt,pk,pn⟩:=pu;dsimp only at q0 q1 q2 q3;have hln:(l.take k++List.replicate (l.length - k) (⟨0,0,ByteArray.empty,0⟩:Snt)).length=l.length:=by simp;omega
  go_wp2_with fail;refine(toSent ⟨pi,pt,pk,pn⟩ _).mono ?_;rintro e w5 ⟨rfl,hb5⟩;have HB5:=hide (SentBlk.step HB hb5);have HBL5:=hide (HBL.trans (hb5.mono HBL.size));clear hb5 q0 q1 q2 q3;obtain⟨s0,s1,s2,s3⟩:=SentBlk.four HB5 k (by omega);open Sa255 in exact Ya68
 ·exact Za12):P:=h
theorem Sa211.Ka52(h:P:=by
 by_cases hlt:k < l.length
 ·obtain⟨g,off,rfl,hgw,q0,q1,q2,q3⟩:=ReqAt.four (GR.At.below HA HBL) k hlt;have TS:=hide (take_setReq l ⟨0,ByteArray.empty,0,0⟩ k hlt);generalize l[k]=pu at *;obtain⟨pno,pk,pn,ps⟩:=pu;dsimp only at q0 q1 q2 q3;have hln:(l.take k++List.replicate (l.length - k) (⟨0,ByteArray.empty,0,0⟩:Rq)).length=l.length:=by simp;omega
  go_wp2_with fail;refine(toReq ⟨pno,pk,pn,ps⟩ _).mono ?_;rintro e w5 ⟨rfl,hb5⟩;have HB5:=hide (ReqBlk.step HB hb5);have HBL5:=hide (HBL.trans (hb5.mono HBL.size));clear hb5 q0 q1 q2 q3;obtain⟨s0,s1,s2,s3⟩:=ReqBlk.four HB5 k (by omega);open Sa254 in exact Ya68
 ·exact Za12):P:=h
theorem Sa212.Ka52(h:P:=by
 by_cases hlt:k < l.length
 ·obtain⟨g,cap',ev,hgl,hgw⟩:=HR.form (by omega);have ea:a=some ⟨g,0,none⟩:=by injection ev
  subst ea;have c0:∀(_:k < l.length),Hid True:=fun _=>trivial
  clear c0 ev;have hcl:_:=HBL.cell (p:=⟨g,k,none⟩) hgw;have hce:=HR.cellAt k (by omega);have hck:w.cell? ⟨g,k,none⟩=some (.string l[k].k):=by rw [hce];simp[hlt]
  rw [hck] at hcl;clear hce hck;have TS:=hide (take_set_pu l ⟨ByteArray.empty,0,0,0⟩ k hlt);have hkk:=unhide HKS l[k] (List.getElem_mem hlt);have hgk:=unhide HG l[k] (List.getElem_mem hlt);have hPMr:=HH.below HBL;generalize l[k]=pu at *;have HGET:=hide (implGet mp mb n _ G pu.k wr hkk hPMr.blk hPMr.map);rw [hgk] at HGET;have HOK:=hide (fun w1=>implOwnKey pu w1 hkk);clear hkk hgk hPMr;obtain⟨pk,pm,pf,ps⟩:=pu;dsimp only at hcl;have hln:(l.take k++List.replicate (l.length - k) (⟨ByteArray.empty,0,0,0⟩:Pu)).length=l.length:=by simp;omega
  go_wp2_with fail;refine HGET.mono ?_;rintro e w4 ⟨rfl,hb4⟩;have HB4:=hide (blkstep HB hb4);have HBL4:=hide (HBL.trans (hb4.mono HBL.size));clear hb4 HGET;go_wp2_with fail;refine(HOK _).mono ?_;rintro e w5 ⟨rfl,hb5⟩;have HB5:=hide (blkstep HB4 hb5);have HBL5:=hide (HBL4.trans (hb5.mono HBL4.size));clear hb5;exact Za25
 ·exact Za12):P:=h
theorem Ya53(h:P:=by
 clear HR;clear ho hk hn;go_enter Tryz.func104,Tryz.ntmps104
 go_wp2_with (first|(go_at_call_of 100 no;refine(HO _).mono ?_;rintro e w1 ⟨rfl,rfl⟩)|(go_at_call_of 153 k;refine(HK _).mono ?_;rintro e w1 ⟨rfl,rfl⟩)|(go_at_call_of 100 n;refine(HN _).mono ?_;rintro e w1 ⟨rfl,rfl⟩))
 exact Ka53):P:=h
theorem Sa213.Ka53(h:P:=by
 go_region
 go_upto_region 23 with fail;open Sa239 in exact Ya62):P:=h
theorem Sa214.Ka53(h:P:=by
 go_ret;exact⟨ret_bool (by rw [unhide HP];simp),by first|exact below_two w _ _|exact Below.setNew (below_two w _ _) (by omega)⟩):P:=h
theorem Ya54(h:P:=by
 have hwl:=obj_lt h.blk;have HIO:=hide (fun w1=>implOpOk o w1);rw [ho] at HIO;obtain⟨K,no,k,nn,⟨mK,mF,mT,mI,mL,mk,mN⟩⟩:=o;dsimp only at *;exact Ka54):P:=h
theorem Sa215.Ka54(h:P:=by
 open Sa44 in exact Ya12):P:=h
theorem Sa216.Ka54(h:P:=by
 open Sa45 in exact Ya12):P:=h
theorem Sa217.Ka54(h:P:=by
 open Sa46 in exact Ya12):P:=h
theorem Sa218.Ka54(h:P:=by
 open Sa48 in exact Ya12):P:=h
theorem Ya55(h:P:=by
 obtain⟨hil,hino⟩:=(reqF_iff n.reqs o.no).1 hf;have hgd:n.reqs.getD (reqI n.reqs o.no) default=n.reqs[reqI n.reqs o.no]:=by rw [List.getD_eq_getElem?_getD,List.getElem?_eq_getElem hil];rfl
 exact Ka55):P:=h
theorem Sa219.Ka55(h:P:=by
 rw [hgd] at hs ⊢;open Sa286 in exact Ya77):P:=h
theorem Sa220.Ka55(h:P:=by
 have hR:admitN n o.no o.k o.n=(n,if sameQ n.reqs[reqI n.reqs o.no] o.k o.n=true then 0 else 1):=by
  unfold admitN;rw [if_neg hc,if_pos hf,hgd]
 have HSQ:=hide (show sameQ n.reqs[reqI n.reqs o.no] o.k o.n=((n.reqs[reqI n.reqs o.no].k.toList == o.k.toList)&&decide (n.reqs[reqI n.reqs o.no].n=o.n)&&decide (n.reqs[reqI n.reqs o.no].s=0)) by unfold sameQ;rw [Bool.and_assoc,Bool.and_comm]);have HAD:=hide hR;generalize admitN n o.no o.k o.n=RES at *;have hd:decide (o.no≤n.old)=false:=decide_eq_false hc;open Sa285 in exact Ya77):P:=h
theorem Sa221.Ka55(h:P:=by
 rw [hgd] at hs;open Sa284 in exact Ya77):P:=h
theorem Ya56(h:P:=by
 open Sa297 in exact Ya82):P:=h
theorem Sa222.Ka56(h:P:=by
 exact Za7):P:=h
theorem Sa223.Ka56(h:P:=by
 exact Za1):P:=h
theorem Ya57(h:P:=by
 refine wp_region_mix (by kernel_rfl) ?_;show wpMix _ _ _ _ 23 (Array.replicate 23 false) _ _
 refine tk [0,1,2,3,4,5,6,7,8,9,10,11,12,13,14,15,16,17,18,19,20,21,22] ?_;iterate 23 (refine tk0 (fun K hK=>?_);go_simp;refine hK _ ?_;clear hK K)
 refine tkN ?_;refine wpMix_done (by kernel_rfl) (fun z hz=>?_);exact Ka57):P:=h
theorem Sa224.Ka57(h:P:=by
 have HZ:=hide ((below_one w (.cells #[.int .i64 mK,.int .i64 mF,.int .i64 mT,.int .i64 mI,.int .i64 mL,.string mk,.int .i64 mN] 32)).trans (hz.mono (by simp)));clear hz y4 z3 z5 z6 x1 hlen;go_simp;go_wp2_with fail;go_ret;exact⟨rfl,HZ⟩):P:=h
theorem Sa225.Ka57(h:P:=by
 have HZ:=hide (HW1.step hz);clear hz y1;go_simp;go_wp2_with fail;go_ret;exact⟨rfl,A,G,c,HZ⟩):P:=h
theorem Ya58(h:P:=by
 have HS:Hid ((s.data.toList.take (k+1)).all Mth.keyByte=((s.data.toList.take k).all Mth.keyByte&&Mth.keyByte s[k])):=by rw [Mth.take_snoc s k hlt];exact Mth.all_snoc _ _
 have hc:s[k].toNat < 256:=s[k].toNat_lt;exact Ka58):P:=h
theorem Sa226.Ka58(h:P:=by
 rcases Mth.byte_cases s[k] with h|h
 ·have HK:=hide (Mth.keyByte_yes _ h);rcases h with⟨h1,h2⟩|⟨h1,h2⟩
  all_goals
   go_wp2_with (go_at_call 48;first|(refine(l01In_yes _ _ _ _ ?_ ?_).mono ?_;omega;omega;rintro e w' ⟨rfl,rfl⟩)|(refine(l01In_no _ _ _ _ ?_).mono ?_;omega;rintro e w' ⟨rfl,rfl⟩))
   go_round
   case rel=>exact⟨k+1,by omega,by go_num,by rw [unhide HS,unhide HA,unhide HK];rfl⟩
   case measure=>simp[intOf];omega
 ·have HK:=hide (Mth.keyByte_no _ h);have HF:Hid (Mth.keyOk s.data.toList=false):=Mth.keyOk_bad _ (k+1) (by rw [unhide HS,unhide HA,unhide HK];rfl);rcases h with h1|⟨h1,h2⟩|h1
  all_goals
   go_wp2_with (go_at_call 48;first|(refine(l01In_yes _ _ _ _ ?_ ?_).mono ?_;omega;omega;rintro e w' ⟨rfl,rfl⟩)|(refine(l01In_no _ _ _ _ ?_).mono ?_;omega;rintro e w' ⟨rfl,rfl⟩))
   go_ret
   exact⟨ret_bool HF.symm,rfl⟩):P:=h
end Go.Proofs.YtppmcficiphgdaaGreatDoor
