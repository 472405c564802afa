/-
  Parts of proofs that stand more than once, each said once.
-/
import Derived.Test.YtacgbldlonoaaaaGreatDoorRaZ2
namespace Go.Proofs.YtacgbldlonoaaaaGreatDoor
set_option maxRecDepth 100000
variable{P:Prop}
theorem aft.Ka65(h:P:=by
 go_cut [9,10] (fun p9 lT wx=>∃pb:Nat,p9= .pointer (some ⟨pb,0,none⟩)∧lT= .nilIface∧Below w.heap.size w wx∧wx.heap[pb]?=some (.cells #[.string pk,.int .i64 qm,.int .i64 qf,.int .i64 qs] 143 (0,0))∧w.heap.size≤pb)
 case first=>
  have hnV:w.heap.size≠V.heap.size:=by omega
  have hmV:V.heap.size≠w.heap.size:=by omega
  go_region_held (fun w'=>w'.cell? ⟨w.heap.size,0,none⟩=some (.int .i64 dm)∧w'.cell? ⟨w.heap.size,1,none⟩=some (.int .i64 df)∧w'.cell? ⟨w.heap.size,2,none⟩=some (.int .i64 ds)) (go_keep)
   (first
    |((go_at_call 260);(refine(FI _ (by exact Fu.trans (by exact⟨rfl,rfl,rfl,by simp,fun k hk=>by first|rfl|exact Below.heap_alloc _ _ _ (by omega)⟩))).mono ?_);(rintro e w4 ⟨rfl,hb4⟩);(have hs4:=hb4.size);(simp at hs4);(have nK:=hide (Fu.trans (Below.trans (b:=_) (by exact⟨rfl,rfl,rfl,by simp,fun k hk=>by first|rfl|exact Below.heap_alloc _ _ _ (by omega)⟩) (hb4.mono (by first|omega|(simp<;>omega))))));(obtain⟨hc4,hf4⟩:=Gp hb4);(have d0:w4.cell? ⟨w.heap.size,0,none⟩=some (.int .i64 dm):=by rw [hc4 _ _ (by first|omega|(simp<;>omega))];first|exact c0|exact(World.cell?_alloc_lt _ _ _ hlt).trans c0);(have d1:w4.cell? ⟨w.heap.size,1,none⟩=some (.int .i64 df):=by rw [hc4 _ _ (by first|omega|(simp<;>omega))];first|exact c1|exact(World.cell?_alloc_lt _ _ _ hlt).trans c1);(have d2:w4.cell? ⟨w.heap.size,2,none⟩=some (.int .i64 ds):=by rw [hc4 _ _ (by first|omega|(simp<;>omega))];first|exact c2|exact(World.cell?_alloc_lt _ _ _ hlt).trans c2);(first|(guard_hyp hs4:V.heap.size+1≤w4.heap.size;obtain⟨⟨z0,z1,z2,z3⟩,x0,x1,x2,x3⟩:=eX (Fo.one_block (show Below (V.alloc (.cells #[.string ⟨#[]⟩,.int .i64 0,.int .i64 0,.int .i64 0] 143)).heap.size (V.alloc (.cells #[.string ⟨#[]⟩,.int .i64 0,.int .i64 0,.int .i64 0] 143)) w4 from⟨hb4.os,hb4.tape,hb4.output,hb4.size,hb4.block⟩)).1;have yD:V.heap.size < w4.heap.size:=World.block_lt_of_cell? _ _ z0;have HZ:=hide (Fo.one_block (show Below (V.alloc (.cells #[.string ⟨#[]⟩,.int .i64 0,.int .i64 0,.int .i64 0] 143)).heap.size (V.alloc (.cells #[.string ⟨#[]⟩,.int .i64 0,.int .i64 0,.int .i64 0] 143)) w4 from⟨hb4.os,hb4.tape,hb4.output,hb4.size,hb4.block⟩)).1)|skip);(have J6:w.heap.size < w4.heap.size:=by omega);(have hn4:w.heap.size≠w4.heap.size:=by omega);(have hm4:w4.heap.size≠w.heap.size:=by omega);(clear hb4 hc4 hf4))
    |((go_at_call 261);(refine(HSH _ (by exact nK.trans (by exact⟨rfl,rfl,rfl,by simp,fun k hk=>by first|rfl|exact Below.heap_alloc _ _ _ (by omega)⟩))).mono ?_);(rintro e w5 ⟨rfl,hb5⟩);(have hs5:=hb5.size);(try simp at hs5);(have jJ:=hide (nK.trans (Below.trans (b:=_) (by exact⟨rfl,rfl,rfl,by simp,fun k hk=>by first|rfl|exact Below.heap_alloc _ _ _ (by omega)⟩) (hb5.mono (by first|omega|(simp<;>omega))))));(obtain⟨yO,Me⟩:=Gp hb5);(have e0:w5.cell? ⟨w.heap.size,0,none⟩=some (.int .i64 dm):=by rw [yO _ _ (by first|omega|(simp<;>omega))];first|exact d0|exact(World.cell?_alloc_lt _ _ _ J6).trans d0);(have e1:w5.cell? ⟨w.heap.size,1,none⟩=some (.int .i64 df):=by rw [yO _ _ (by first|omega|(simp<;>omega))];first|exact d1|exact(World.cell?_alloc_lt _ _ _ J6).trans d1);(have e2:w5.cell? ⟨w.heap.size,2,none⟩=some (.int .i64 ds):=by rw [yO _ _ (by first|omega|(simp<;>omega))];first|exact d2|exact(World.cell?_alloc_lt _ _ _ J6).trans d2);(first|(guard_hyp yD:V.heap.size < w4.heap.size;have HY:=hide ((hb5.block _ yD).trans HZ);have y0:=(yO _ 0 yD).trans z0;have y1:=(yO _ 1 yD).trans z1;have y2:=(yO _ 2 yD).trans z2;have y3:=(yO _ 3 yD).trans z3;have v0:=(Me _ 0 yD).trans x0;have v1:=(Me _ 1 yD).trans x1;have v2:=(Me _ 2 yD).trans x2;have v3:=(Me _ 3 yD).trans x3)|(guard_hyp hs5:w4.heap.size+1≤w5.heap.size;have HY:=hide (Fo.one_block hb5).1;obtain⟨⟨y0,y1,y2,y3⟩,v0,v1,v2,v3⟩:=eX (Fo.one_block hb5).1)|skip);(have aqz:w.heap.size < w5.heap.size:=by omega);(have hn5:w.heap.size≠w5.heap.size:=by omega);(have hm5:w5.heap.size≠w.heap.size:=by omega);(clear hb5 yO Me)))
  all_goals
   go_wp2_with fail
   go_meet
   case rel=>
    first
     |exact⟨_,rfl,rfl,Fo.four_below jJ (by omega),Fo.four_set HY,by omega⟩
     |exact⟨_,rfl,rfl,jJ.alloc jJ.size _,heap_alloc_new w5 _,by omega⟩
 case rest=>
  obtain⟨pb,rfl,rfl,hbx,hpb,hge⟩:=hcut;obtain⟨⟨p0,p1,p2,p3⟩,_⟩:=eX hpb;have ab7:=hide (Ui _ hbx);have jy:=hide hbx;have JC:=hide hpb;have aqB:=Fo.lt_of_blk hpb
  have HNE:=hide (show pb≠mp∧v.ownBlock≠some pb from⟨fun e=>by
   have:=(Pe _ hbx).blk
   rw [←e,hpb] at this
   injection this with this
   injection this with h1 h2 h3
   exact absurd h2 (by decide),own_ne (Pe _ hbx).row hpb (by decide)⟩)
  clear hbx hpb Ui FI HSH Fu c0 c1 c2 hlt;go_wp2_with fail;refine ab7.mono ?_;rintro e w6 ⟨hb6,anL,hcase⟩;have rW:=hide (Below.trans (jy.mono hB) hb6);have aby:=(anL pb aqB HNE.1 HNE.2).trans JC;clear anL hb6 p0 p1 p2 p3 ab7;rcases hcase with⟨hf,rfl,wX⟩|⟨hf,h20,rfl⟩|⟨hf,h20,rfl,v',wX⟩
  ·rw [ah oJ hf] at wX;open agQ in exact amy
  ·have HF:=hide hf;have H20:=hide h20;clear hf h20 aby;go_wp2_with fail;go_ret;exact⟨rW,.inl ⟨HF,H20,rfl⟩⟩
  ·rw [ah HKN hf] at wX;open agP in exact amy):P:=h
theorem afu.Ka65(h:P:=by
 have hnV:w.heap.size≠V.heap.size:=by omega
 have hmV:V.heap.size≠w.heap.size:=by omega
 go_region_held (fun w'=>w'.cell? ⟨w.heap.size,0,none⟩=some (.int .i64 dm)∧w'.cell? ⟨w.heap.size,1,none⟩=some (.int .i64 df)∧w'.cell? ⟨w.heap.size,2,none⟩=some (.int .i64 ds)) (go_keep)
  (first
   |((go_at_call 260);(refine(FI _ (by exact Fu.trans (by exact⟨rfl,rfl,rfl,by simp,fun k hk=>by first|rfl|exact Below.heap_alloc _ _ _ (by omega)⟩))).mono ?_);(rintro e w4 ⟨rfl,hb4⟩);(have hs4:=hb4.size);(simp at hs4);(have nK:=hide (Fu.trans (Below.trans (b:=_) (by exact⟨rfl,rfl,rfl,by simp,fun k hk=>by first|rfl|exact Below.heap_alloc _ _ _ (by omega)⟩) (hb4.mono (by first|omega|(simp<;>omega))))));(obtain⟨hc4,hf4⟩:=Gp hb4);(have d0:w4.cell? ⟨w.heap.size,0,none⟩=some (.int .i64 dm):=by rw [hc4 _ _ (by first|omega|(simp<;>omega))];first|exact c0|exact(World.cell?_alloc_lt _ _ _ hlt).trans c0);(have d1:w4.cell? ⟨w.heap.size,1,none⟩=some (.int .i64 df):=by rw [hc4 _ _ (by first|omega|(simp<;>omega))];first|exact c1|exact(World.cell?_alloc_lt _ _ _ hlt).trans c1);(have d2:w4.cell? ⟨w.heap.size,2,none⟩=some (.int .i64 ds):=by rw [hc4 _ _ (by first|omega|(simp<;>omega))];first|exact c2|exact(World.cell?_alloc_lt _ _ _ hlt).trans c2);(first|(guard_hyp hs4:V.heap.size+1≤w4.heap.size;obtain⟨⟨z0,z1,z2,z3⟩,x0,x1,x2,x3⟩:=eX (Fo.one_block (show Below (V.alloc (.cells #[.string ⟨#[]⟩,.int .i64 0,.int .i64 0,.int .i64 0] 143)).heap.size (V.alloc (.cells #[.string ⟨#[]⟩,.int .i64 0,.int .i64 0,.int .i64 0] 143)) w4 from⟨hb4.os,hb4.tape,hb4.output,hb4.size,hb4.block⟩)).1;have yD:V.heap.size < w4.heap.size:=World.block_lt_of_cell? _ _ z0)|skip);(have J6:w.heap.size < w4.heap.size:=by omega);(have hn4:w.heap.size≠w4.heap.size:=by omega);(have hm4:w4.heap.size≠w.heap.size:=by omega);(clear hb4 hc4 hf4))
   |((go_at_call 261);(refine(HSH _ (by exact nK.trans (by exact⟨rfl,rfl,rfl,by simp,fun k hk=>by first|rfl|exact Below.heap_alloc _ _ _ (by omega)⟩))).mono ?_);(rintro e w5 ⟨ix,hix,rfl,hb5⟩);(have hs5:=hb5.size);(try simp at hs5);(have jJ:=hide (nK.trans (Below.trans (b:=_) (by exact⟨rfl,rfl,rfl,by simp,fun k hk=>by first|rfl|exact Below.heap_alloc _ _ _ (by omega)⟩) (hb5.mono (by first|omega|(simp<;>omega))))));(obtain⟨yO,Me⟩:=Gp hb5);(have e0:w5.cell? ⟨w.heap.size,0,none⟩=some (.int .i64 dm):=by rw [yO _ _ (by first|omega|(simp<;>omega))];first|exact d0|exact(World.cell?_alloc_lt _ _ _ J6).trans d0);(have e1:w5.cell? ⟨w.heap.size,1,none⟩=some (.int .i64 df):=by rw [yO _ _ (by first|omega|(simp<;>omega))];first|exact d1|exact(World.cell?_alloc_lt _ _ _ J6).trans d1);(have e2:w5.cell? ⟨w.heap.size,2,none⟩=some (.int .i64 ds):=by rw [yO _ _ (by first|omega|(simp<;>omega))];first|exact d2|exact(World.cell?_alloc_lt _ _ _ J6).trans d2);(first|(guard_hyp yD:V.heap.size < w4.heap.size;have y0:=(yO _ 0 yD).trans z0;have y1:=(yO _ 1 yD).trans z1;have y2:=(yO _ 2 yD).trans z2;have y3:=(yO _ 3 yD).trans z3;have v0:=(Me _ 0 yD).trans x0;have v1:=(Me _ 1 yD).trans x1;have v2:=(Me _ 2 yD).trans x2;have v3:=(Me _ 3 yD).trans x3)|(guard_hyp hs5:w4.heap.size+1≤w5.heap.size;obtain⟨⟨y0,y1,y2,y3⟩,v0,v1,v2,v3⟩:=eX (Fo.one_block hb5).1)|skip);(have aqz:w.heap.size < w5.heap.size:=by omega);(have hn5:w.heap.size≠w5.heap.size:=by omega);(have hm5:w5.heap.size≠w.heap.size:=by omega);(clear hb5 yO Me)))
 all_goals
  go_wp2_with fail
  go_ret
  refine⟨ix,hix,rfl,?_⟩
  first|exact jJ.alloc jJ.size _|exact Fo.four_below jJ (by omega)):P:=h
theorem Nk(h:P:=by
 open aj7 in exact Gg):P:=h
theorem afv.Ka66(h:P:=by
 clear HO HM p0 p1 p2 p3 p4 p5 p6;have f1:=SA;open afP in exact aaM):P:=h
theorem afw.Ka66(h:P:=by
 clear HO HM p0 p1 p2 p3 p4 p5 p6;have f1:=Ml;open afO in exact aaM):P:=h
theorem afx.Ka66(h:P:=by
 clear HO p0 p1 p2 p3 p4 p5 p6;have f1:=Ml;open ady in exact JK):P:=h
theorem afy.Ka66(h:P:=by
 clear HO p0 p1 p2 p3 p4 p5 p6;have f1:=SE;open adx in exact JK):P:=h
theorem afz.Ka66(h:P:=by
 clear HO HM p0 p1 p2 p3 p4 p5 p6;have f1:=SE;open afN in exact aaM):P:=h
theorem afA.Ka66(h:P:=by
 clear HO p0 p1 p2 p3 p4 p5 p6;have f1:=SA;open adw in exact JK):P:=h
theorem ami(h:P:=by
 have Pb:=hide (aj uL hbw);have HR3:=hide (aj HR1 hbw);have AQ:=hide (aj UG hbw);have HB3:=hide (HB1.trans (hbw.mono HB1.size));clear hW3 hbw c0 c1 c2 c3 c4 c5 c6 c7 c8 d0 d1 d2 d3;obtain⟨c0,c1,c2,c3,c4,c5,c6,c7,c8⟩:=nine Pb;obtain⟨d0,d1,d2,d3⟩:=eY HR3;obtain⟨r0,r1,r2,r3,r4,r5,r6⟩:=iq AQ;have f0:=ay AQ 0;have f1:=ay AQ 1;have f2:=ay AQ 2;have f3:=ay AQ 3;have f4:=ay AQ 4;have f5:=ay AQ 5;have f6:=ay AQ 6;go_wp2_with fail;refine aO (fun W' hW'=>?_);exact Ka67):P:=h
theorem afB.Ka67(h:P:=by
 have hR:=uw (b0:= .int .i64 1) (b1:= .int .i64 id) (b2:= .int .i64 st) (b3:= .int .i64 LO) (b4:= .int .i64 LO) (b5:= .string sx) (b6:= .int .i64 sn) AQ;have hK:=pV (w:=W3) (g:=w.heap.size+1+1) (b0:= .int .i64 1) (b1:= .int .i64 id) (b2:= .int .i64 st) (b3:= .int .i64 LO) (b4:= .int .i64 LO) (b5:= .string sx) (b6:= .int .i64 sn);rw [←hW'] at hR hK;obtain⟨x0,x1,x2,x3,x4,x5,x6⟩:=iq hR;refine bodyPost_ret (v:= .agg #[.int .i64 1,.int .i64 id,.int .i64 st,.int .i64 LO,.int .i64 LO,.string sx,.int .i64 sn]) (by simp[results,Tryz.results126,go_sem,x0,x1,x2,x3,x4,x5,x6]) rfl ⟨rfl,HB3.trans (hK.below (fun x hx=>by have:x=w.heap.size+1+1:=(by simpa using hx);omega) HB3.size)⟩):P:=h
theorem afC.Ka67(h:P:=by
 have hR:=uw (b0:= .int .i64 1) (b1:= .int .i64 id) (b2:= .int .i64 st) (b3:= .int .i64 si) (b4:= .int .i64 LO) (b5:= .string sx) (b6:= .int .i64 sn) AQ;have hK:=pV (w:=W3) (g:=w.heap.size+1+1) (b0:= .int .i64 1) (b1:= .int .i64 id) (b2:= .int .i64 st) (b3:= .int .i64 si) (b4:= .int .i64 LO) (b5:= .string sx) (b6:= .int .i64 sn);rw [←hW'] at hR hK;obtain⟨x0,x1,x2,x3,x4,x5,x6⟩:=iq hR;refine bodyPost_ret (v:= .agg #[.int .i64 1,.int .i64 id,.int .i64 st,.int .i64 si,.int .i64 LO,.string sx,.int .i64 sn]) (by simp[results,Tryz.results126,go_sem,x0,x1,x2,x3,x4,x5,x6]) rfl ⟨rfl,HB3.trans (hK.below (fun x hx=>by have:x=w.heap.size+1+1:=(by simpa using hx);omega) HB3.size)⟩):P:=h
theorem amj(h:P:=by
 rw [←hW] at e1 e2 e3 e4;have HN:=hide e1;have HM:=hide e2;have HR:=hide e3;have HB0:=hide e4;have Fz:=hide (jY.kc (k:=9) (KC.of_below e4) (by omega));clear hW e1 e2 e3 e4 jY;obtain⟨m0,m1,m2,m3,m4,m5,m6⟩:=iq HM;have hml:=aA HM;have hnl:=aA HN;go_wp2_with fail;refine(PY W0).mono ?_;rintro e W1 ⟨rfl,hb1⟩;have jg:=hide (aj HN hb1);have FQ:=hide (aj HM hb1);have mD:=hide (aj HR hb1);have HB1:=hide (HB0.trans (hb1.mono HB0.size));have sW:=hide (Fz.kc (k:=9) (KC.of_below hb1) (by omega));clear hb1 HM HR HN HB0 Fz;clear m0 m1 m2 m3 m4 m5 m6 hml hnl PY;obtain⟨m0,m1,m2,m3,m4,m5,m6⟩:=iq FQ;exact Ka68):P:=h
theorem afD.Ka68(h:P:=by
 have hml:=aA FQ;have qB:=hide (aj mD (au W1 (.cells #[] 32)));have O7:=hide (sW.kc (k:=9) (KC.of_below (au W1 (.cells #[] 32))) (by omega));have qA:=hide (HB1.trans ((au W1 (.cells #[] 32)).mono HB1.size));obtain⟨c0,c1,c2,c3,c4,c5,c6,c7,c8⟩:=nine jg;open adH in exact Ni):P:=h
theorem afE.Ka68(h:P:=by
 obtain⟨c0,c1,c2,c3,c4,c5,c6,c7,c8⟩:=nine jg;have hml:=aA FQ;have hnl:=aA jg;go_wp2_with fail;refine(Js W1 sW.at.k).mono ?_;rintro e W2 ⟨rfl,hb2⟩;have iQ:=hide (aj jg hb2);have uJ:=hide (aj FQ hb2);have iI:=hide (aj mD hb2);have HB2:=hide (HB1.trans (hb2.mono HB1.size));have MQ:=hide (sW.kc (k:=9) (KC.of_below hb2) (by omega));clear hb2 FQ mD jg HB1 sW;clear m0 m1 m2 m3 m4 m5 m6 c0 c1 c2 c3 c4 c5 c6 c7 c8 hml hnl Js;obtain⟨m0,m1,m2,m3,m4,m5,m6⟩:=iq uJ;exact Ka4):P:=h
theorem Vg(h:P:=by
 refine rA 3 (by kernel_rfl) ?_;show iK _ _ _ _ _ 5 (Array.replicate 5 false) _ _
 refine tk [0] ?_;(refine tkF (fun K hK=>?_);go_simp;refine hK _ ?_;clear hK K)
 refine jI ?_;clear y0 y1 y2 y3 y4 y5 y6 y7 y8;exact Ka69):P:=h
theorem afF.Ka69(h:P:=by
 refine iB 1 rfl rfl (by kernel_rfl) (by rfl) (by rfl) (by decide) (fun x hx=>?_) (fun x hx=>?_)
 ·go_simp;refine⟨Below.refl _ _,?_⟩;refine iB 2 rfl rfl (by kernel_rfl) (by rfl) (by rfl) (by decide) (fun x2 hx2=>?_) (fun x2 hx2=>?_)
  ·have Jy:=(eY (aj DV (Ge.trans hx hx2))).2.2.2;open ah3 in exact LK
  ·have hg3:=Ge.trans hx hx2;have Jy:=(eY (aj DV hg3)).2.2.2;have rC:=hide (aj jA hg3);open aoJ in exact Pk
 ·have Jy:=(eY (aj DV hx)).2.2.2;have rC:=hide (aj jA hx);open aoI in exact Pk):P:=h
theorem afG.Ka69(h:P:=by
 refine iB 1 rfl rfl (by kernel_rfl) (by rfl) (by rfl) (by decide) (fun x hx=>?_) (fun x hx=>?_)
 ·go_simp;refine⟨Below.refl _ _,?_⟩;refine iB 2 rfl rfl (by kernel_rfl) (by rfl) (by rfl) (by decide) (fun x2 hx2=>?_) (fun x2 hx2=>?_)
  ·have Jy:=(eY (aj yx (Ge.trans hx hx2))).2.2.2;open ah2 in exact LK
  ·have hg3:=Ge.trans hx hx2;have Jy:=(eY (aj yx hg3)).2.2.2;have rC:=hide (aj iJ hg3);open aoG in exact Pk
 ·have Jy:=(eY (aj yx hx)).2.2.2;have rC:=hide (aj iJ hx);open aoF in exact Pk):P:=h
theorem afH.Ka69(h:P:=by
 refine iB 1 rfl rfl (by kernel_rfl) (by rfl) (by rfl) (by decide) (fun x hx=>?_) (fun x hx=>?_)
 ·go_simp;refine⟨Below.refl _ _,?_⟩;refine iB 2 rfl rfl (by kernel_rfl) (by rfl) (by rfl) (by decide) (fun x2 hx2=>?_) (fun x2 hx2=>?_)
  ·have Jy:=(eY (aj DV (Ge.trans hx hx2))).2.2.2;open ah1 in exact LK
  ·have hg3:=Ge.trans hx hx2;have Jy:=(eY (aj DV hg3)).2.2.2;have rC:=hide (aj jA hg3);open aoP in exact Pk
 ·have Jy:=(eY (aj DV hx)).2.2.2;have rC:=hide (aj jA hx);open aoO in exact Pk):P:=h
theorem afI.Ka69(h:P:=by
 refine iB 1 rfl rfl (by kernel_rfl) (by rfl) (by rfl) (by decide) (fun x hx=>?_) (fun x hx=>?_)
 ·go_simp;refine⟨Below.refl _ _,?_⟩;refine iB 2 rfl rfl (by kernel_rfl) (by rfl) (by rfl) (by decide) (fun x2 hx2=>?_) (fun x2 hx2=>?_)
  ·have Jy:=(eY (aj yx (Ge.trans hx hx2))).2.2.2;open ah0 in exact LK
  ·have hg3:=Ge.trans hx hx2;have Jy:=(eY (aj yx hg3)).2.2.2;have rC:=hide (aj iJ hg3);open aoM in exact Pk
 ·have Jy:=(eY (aj yx hx)).2.2.2;have rC:=hide (aj iJ hx);open aoL in exact Pk):P:=h
theorem amk(h:P:=by
 cases h1:NN fr
 case' false=>
  have cN:=ah Js fr false W1 HKI h1
  have HV:=hide (show bb=true by rw [←ah dY];simp[h1])
  clear dY
  refine wp_region_quiet_below (by kernel_rfl) (by kernel_rfl) ?_
  repeat (first|go_big_quiet_step ((first|(go_at_call 47;exact cN _ _)|(go_at_call 61;exact cS _ _)))|quiet_step ((first|(go_at_call 47;exact cN _ _)|(go_at_call 61;exact cS _ _))))
  refine wpQuiet_nil ?_
  intro _ hw'
  obtain⟨⟨dq,osq⟩,hw''⟩:=hw'
  subst hw''
  go_wp2_with fail
  go_meet
  case rel=>exact tC
 have cN:=ah Js fr true W1 HKI h1;exact Ka70):P:=h
theorem afJ.Ka70(h:P:=by
 by_cases h2:y < fr
 case' neg=>
  have hy:decide (fr≤y)=true:=decide_eq_true (by omega)
  have HV:=hide (show bb=true by rw [←ah dY];simp[h2])
  clear dY
  refine wp_region_quiet_below (by kernel_rfl) (by kernel_rfl) ?_
  repeat (first|go_big_quiet_step ((first|(go_at_call 47;exact cN _ _)|(go_at_call 61;exact cS _ _)))|quiet_step ((first|(go_at_call 47;exact cN _ _)|(go_at_call 61;exact cS _ _))))
  refine wpQuiet_nil ?_
  intro _ hw'
  obtain⟨⟨dq,osq⟩,hw''⟩:=hw'
  subst hw''
  go_wp2_with fail
  go_meet
  case rel=>exact tC
 have hy:decide (fr≤y)=false:=decide_eq_false (by omega);open adD in exact alX):P:=h
theorem afK.Ka70(h:P:=by
 open adE in exact alX):P:=h
theorem aml(h:P:=by
 rw [←hW] at e1 e2 e3 e4;have UE:=hide e1;have Uv:=hide e2;have acJ:=hide e3;have HB0:=hide e4;have Uz:=hide (jY.kc (k:=9) (KC.of_below e4) (by omega));clear hW e1 e2 e3 e4;obtain⟨bi,ci,eA,hgs0,⟨t0,t1,t2⟩,_,hWi⟩:=eO.three Uz.s i hi;rw [hs0] at t0 t1 t2 hWi;rw [hfi] at t0;have arK:G.s < w.heap.size:=SS HGS (by omega);have Xd:=hide hWi;have HT:=hide (And.intro t0 (And.intro t1 t2));clear hWi t0 t1 t2;dsimp only at eA;subst eA;obtain⟨c0,c1,c2,c3,c4,c5,c6,c7,c8⟩:=nine UE;obtain⟨m0,m1,m2,m3,m4,m5,m6⟩:=iq Uv;have hnl:=aA UE;have hml:=aA Uv;go_upto_block 0 with fail;exact Ka71):P:=h
theorem afL.Ka71(h:P:=by
 go_cut [7] from 15 (fun j wx=>j= .int .i64 (i:Nat)∧Ge W0 wx)
 case first=>
  exact aaX
 case rest=>
  open ac1 in exact aaG):P:=h
theorem afM.Ka71(h:P:=by
 exact Ka37):P:=h
theorem aaM(h:P:=by
 refine wp_region_quiet_below (by kernel_rfl) (by kernel_rfl) ?_;repeat (first|go_big_quiet_step (first|exact cO _ _|exact cM _ _)|quiet_step (first|exact cO _ _|exact cM _ _))
 refine wpQuiet_nil ?_;intro _ hw';obtain⟨⟨dq,osq⟩,hw''⟩:=hw';subst hw'';have jX:=hide (Fu.trans ((below_regrown _ dq osq).mono Fu.size));clear cO cM y0 y1 y2 y3 y4 y5 y6;exact Ka72):P:=h
theorem afN.Ka72(h:P:=by
 go_wp2_with fail;exact bodyPost_ret (v:= .tuple #[rH ⟨1,F,T,I,L,k,N⟩,.bool true]) (by simp[results,Tryz.results65,go_sem,rH]) rfl ⟨by rw [ah HP],jX⟩):P:=h
theorem afO.Ka72(h:P:=by
 exact Ka16):P:=h
theorem afP.Ka72(h:P:=by
 exact Ka6):P:=h
theorem amm(h:P:=by
 open ai5 in exact Qs):P:=h
theorem afQ.Ka73(h:P:=by
 refine jB 5 7 rfl rfl (by kernel_rfl) (by rfl) (by rfl) (by decide) (by decide) (fun x2 hx2=>?_) (fun x2 hx2=>?_)
 ·open adv in exact alW
 ·go_simp;open ajL in exact Qv):P:=h
theorem afR.Ka73(h:P:=by
 refine jB 5 7 rfl rfl (by kernel_rfl) (by rfl) (by rfl) (by decide) (by decide) (fun x2 hx2=>?_) (fun x2 hx2=>?_)
 ·open adu in exact alW
 ·go_simp;open ajK in exact Qv):P:=h
theorem DZ(h:P:=by
 have hke:k=l.length:=by omega
 subst hke;have hnlt:decide ((l.length:Int) < (l.length:Int))=false:=by simp
 exact Ka74):P:=h
theorem afS.Ka74(h:P:=by
 have HX:=hide (show aF l key=⟨key,0,0,0⟩ by
  have h:=ah HN
  rw [List.take_length] at h
  unfold aF
  rw [h]
  rfl)
 go_wp2_with fail;refine bodyPost_ret (v:= .agg #[.string key,.int .i64 0,.int .i64 0,.int .i64 0]) (by simp[results,Tryz.results120,go_sem]) rfl ⟨by rw [ah HX],?_⟩;exact(Below.refl _ _).alloc (Nat.le_refl _) _):P:=h
theorem afT.Ka74(h:P:=by
 have h:=ah HN;rw [List.take_length] at h;have HF:=hide h;clear h;go_wp2_with fail;go_ret;exact⟨aD HF.symm,rfl⟩):P:=h
theorem afU.Ka74(h:P:=by
 have HX:=hide (show aF l key=⟨key,0,0,0⟩ by
  have h:=ah HN
  rw [List.take_length] at h
  unfold aF
  rw [h]
  rfl)
 go_wp2_with fail;refine(iN _).mono ?_;rintro e w1 ⟨rfl,hb1⟩;have hB:w1.heap[w.heap.size]?=some (.cells #[.string ⟨#[]⟩,.int .i64 0,.int .i64 0,.int .i64 0] 143 (0,0)):=by rw [hb1.block _ Vy];exact DC
 have HB:=hide hB;have HB2:=hide (fD.trans (hb1.mono fD.size));obtain⟨⟨r0,r1,r2,r3⟩,s0,s1,s2,s3⟩:=eX hB;clear hB hb1;go_wp2_with fail;clear r0 r1 r2 r3;refine Fo.bodyPost_at (fun W' hW'=>?_);obtain⟨⟨r0,r1,r2,r3⟩,_⟩:=eX (show W'.heap[w.heap.size]?=some (.cells #[.string key,.int .i64 0,.int .i64 0,.int .i64 0] 143 (0,0)) by rw [hW'];exact Fo.four_set HB);have hbb:Below w.heap.size w W':=by rw [hW'];exact Fo.four_below HB2 (Nat.le_refl _)
 refine bodyPost_ret (v:= .agg #[.string key,.int .i64 0,.int .i64 0,.int .i64 0]) (by simp[results,Tryz.results136,go_sem,r0,r1,r2,r3]) rfl ⟨by rw [ah HX],hbb⟩):P:=h
theorem afV.Ka74(h:P:=by
 go_wp2_with fail;go_ret;exact⟨a',c',g,hg,rfl,HB,fD⟩):P:=h
theorem afW.Ka74(h:P:=by
 have h:=ah HN;rw [List.take_length] at h;have HF:=hide h;clear h;go_wp2_with fail;go_ret;exact⟨⟨-1,rfl,by rw [ah HF];rfl⟩,rfl⟩):P:=h
theorem afX.Ka74(h:P:=by
 go_wp2_with fail;go_ret2
 have h:=ah HP;rw [List.take_length] at h;exact⟨_,_,_,rfl,h,fD⟩):P:=h
theorem afY.Ka74(h:P:=by
 go_wp2_with fail;go_ret;have h:=ah HB;rw [List.take_length,Nat.sub_self,List.replicate_zero,List.append_nil] at h;exact⟨rfl,h,fD⟩):P:=h
theorem afZ.Ka74(h:P:=by
 have FW:=hide (place_at l pk l.length (Nat.le_refl _) kV (fun h=>absurd h (Nat.lt_irrefl _))).1;go_wp2_with fail;go_quiet (fail);go_wp2_with fail;go_meet
 case rel=>exact⟨by rw [ah FW],_,rF w1 _ _⟩):P:=h
theorem af0.Ka74(h:P:=by
 have HF:=hide (Ow kV);go_wp2_with fail;go_ret;exact⟨aD (by rw [ah HF];simp<;>omega),fD⟩):P:=h
theorem amn(h:P:=by
 have HAT:=hide (fun W'' (ho:Out c w W' W'')=>(O7.kc (k:=9) ((KC.keeps eU (fun x hx=>by have:x=w.heap.size+2:=(by simpa using hx);rw [this];exact aT (by omega))).trans (KC.out H9 ho)) (by omega)).rm);have jW:Hid (Below B w W'):=(qA.mono hB).trans (eU.below (fun x hx=>by have:x=w.heap.size+2:=(by simpa using hx);omega) (Nat.le_trans hB (qA.mono hB).size));have oJ:=hide (Apart.keeps (c:=c) (Apart.of_below qA) (qA.mono hB).size eU (fun x hx=>by have:x=w.heap.size+2:=(by simpa using hx);omega));obtain⟨x0,x1,x2,x3,x4,x5,x6,x7,x8⟩:=nine e4;clear hW' e4 eU;exact Ka75):P:=h
theorem af2.Ka75(h:P:=by
 exact Ka22):P:=h
theorem af3.Ka75(h:P:=by
 exact bodyPost_ret (v:= .tuple #[.agg #[.int .i64 n.id,.int .i64 n.par,.slice A.k n.kids.length A.ck,.int .i64 n.next,.slice A.p n.pu.length A.cp,.slice A.o n.out.length A.co,.slice A.s n.seen.length A.cs,.int .i64 n.old,.slice A.r n.reqs.length A.cr],.slice (some ⟨W1.heap.size,0,none⟩) 0 0,.int .i64 3]) (by simp[results,Tryz.results41,go_sem,x0,x1,x2,x3,x4,x5,x6,x7,x8]) rfl ⟨A,some ⟨W1.heap.size,0,none⟩,0,rfl,HAT,fun W'' _ i hi=>by simp at hi,jW,oJ⟩):P:=h
theorem amo(h:P:=by
 go_wp2_with fail;refine(iN X A1 HPR.1 wM.at.p).mono ?_;rintro e W5 ⟨v,rfl,_,hown,hb5⟩;obtain⟨pa,pc,rfl,_⟩:=GR.own_at (enc:=eG) aZ hown;have jK:=hide (aj fF hb5);have iJ:=hide (aj oH hb5);have rW:=hide (jy.trans (hb5.mono jy.size));have JB:=hide (wM.kc (k:=9) (KC.of_below hb5) (by omega));have CP:=hide hown;have hxr:=aA oH;clear hown hb5 c0 c1 c2 c3 c4 c5 c6 c7 c8 p0 p1 p2 p3 p4 p5 p6 p7 p8 p9 lT hnl hol iN fF HOX oH wM HPR jy;obtain⟨c0,c1,c2,c3,c4,c5,c6,c7,c8⟩:=nine jK;have hnl:=aA jK;exact Ka76):P:=h
theorem af4.Ka76(h:P:=by
 have f4:=ay jK 4;go_upto_region 11 with fail;refine wp_at (fun Y hY=>?_)
 have hky:aC [w.heap.size] W5 Y:=by
  rw [hY];exact aC.set _
 have mq:Hid (Y.heap[w.heap.size]?=some (.cells #[.int .i64 n.id,.int .i64 n.par,.slice A1.k n.kids.length A1.ck,.int .i64 n.next,.slice pa RL.length pc,.slice A1.o n.out.length A1.co,.slice A1.s n.seen.length A1.cs,.int .i64 n.old,.slice A1.r n.reqs.length A1.cr] 30 (0,0))):=by
  rw [hY];exact bg jK 4 (.slice pa RL.length pc)
 have kC:=hide (hky.obj iJ (by simp));have Cq:=hide (rW.trans (hky.below (B:=w.heap.size) (fun x hx=>by have:x=w.heap.size:=(by simpa using hx);omega) rW.size));have aoj:=hide (JB.kc (k:=9) (KC.keeps hky (fun x hx=>by have:x=w.heap.size:=(by simpa using hx);rw [this];exact yY)) (by omega));have aon:=hide (cK CP hky (fun x hx=>by have:x=w.heap.size:=(by simpa using hx);omega));clear hY hky f4 c0 c1 c2 c3 c4 c5 c6 c7 c8 hnl jK iJ rW JB CP;obtain⟨c0,c1,c2,c3,c4,c5,c6,c7,c8⟩:=nine mq;have hnl:=aA mq;open aja in exact XP):P:=h
theorem af5.Ka76(h:P:=by
 go_upto_region 9 with fail;open aif in exact Xv):P:=h
theorem wS(h:P:=by
 obtain⟨id,par,kids,next,pu,out,seen,old,reqs⟩:=n;obtain⟨ak,ap,ao,as',ar,ck,cp,co,cs,cr⟩:=A;exact Ka77):P:=h
theorem af6.Ka77(h:P:=by
 dsimp only at hl HA HD AY rX yg yK ⊢;cases h1:nY id
 case' false=>
  have HP:=hide (HD (by rw [h1];rfl))
  clear HD AY rX yg yK
  go_enter Tryz.func58,Tryz.ntmps58
  go_wp2_with (first|(go_at_call 134;refine(jv _ false _ h1).mono ?_;rintro e w1 ⟨rfl,rfl⟩))
  go_ret
  exact⟨aD HP.symm,au w _⟩
 cases h2:decide (-1≤par∧par≤29)
 case' false=>
  have HP:=hide (HD (by rw [h2];simp))
  clear HD AY rX yg yK
  go_enter Tryz.func58,Tryz.ntmps58
  go_wp2_with (first|(go_at_call 134;refine(jv _ true _ h1).mono ?_;rintro e w1 ⟨rfl,rfl⟩)|(go_at_call 63;refine(pz _ _ _ false _ h2).mono ?_;rintro e w1 ⟨rfl,rfl⟩))
  go_ret
  exact⟨aD HP.symm,au w _⟩
 by_cases h3:par=id
 case' pos=>
  have hb3:(par == id)=true:=by simp[h3]
  have HP:=hide (HD (by simp[h3]))
  clear h3 HD AY rX yg yK
  go_enter Tryz.func58,Tryz.ntmps58
  go_wp2_with (first|(go_at_call 134;refine(jv _ true _ h1).mono ?_;rintro e w1 ⟨rfl,rfl⟩)|(go_at_call 63;refine(pz _ _ _ true _ h2).mono ?_;rintro e w1 ⟨rfl,rfl⟩))
  go_ret
  exact⟨aD HP.symm,au w _⟩
 have hb3:(par == id)=false:=by simp[h3]
 by_cases h4:kids.length≤30
 case' neg=>
  have hb4:decide ((30:Int) < kids.length)=true:=decide_eq_true (by omega)
  have HP:=hide (HD (by simp[h4]))
  clear HD AY rX yg yK
  go_enter Tryz.func58,Tryz.ntmps58
  go_wp2_with (first|(go_at_call 134;refine(jv _ true _ h1).mono ?_;rintro e w1 ⟨rfl,rfl⟩)|(go_at_call 63;refine(pz _ _ _ true _ h2).mono ?_;rintro e w1 ⟨rfl,rfl⟩))
  go_ret
  exact⟨aD HP.symm,au w _⟩
 have hb4:decide ((30:Int) < kids.length)=false:=decide_eq_false (by omega);have ku:=hide (AY h1 (of_decide_eq_true h2) h3 h4);clear HD AY;go_enter Tryz.func58,Tryz.ntmps58
 go_wp2_with (first|(go_at_call 134;refine(jv _ true _ h1).mono ?_;rintro e w1 ⟨rfl,rfl⟩)|(go_at_call 63;refine(pz _ _ _ true _ h2).mono ?_;rintro e w1 ⟨rfl,rfl⟩))
 go_loopw [3] (fun i wr=>∃k:Nat,k≤kids.length∧i= .int .i64 k∧fT (iE id par) gJ (kids.take k)=true∧wr.heap[w.heap.size]?=some (.cells (fZ ⟨id,par,kids,next,pu,out,seen,old,reqs⟩ ⟨ak,ap,ao,as',ar,ck,cp,co,cs,cr⟩) 30 (0,0))∧Below w.heap.size w wr) (fun i _=>kids.length - (intOf i).toNat)
 case atStart=>exact⟨0,Nat.zero_le _,rfl,rfl,heap_alloc_new w _,au w _⟩
 case round=>
  open ahN in exact LH):P:=h
theorem af7.Ka77(h:P:=by
 dsimp only at hl hl2 HA HS Lf HD rX yg yK Js jy ⊢;go_enter Tryz.func60,Tryz.ntmps60
 go_upto_if 12 with fail;open agA in exact aaN):P:=h
theorem af8.Ka77(h:P:=by
 dsimp only at FX HPU HTO Js HOT FZ HD jy ⊢;have hlo:=hz.o;have hlr:=hz.r;dsimp only at hlo hlr;clear ha hz;go_enter Tryz.func19,Tryz.ntmps19
 go_upto_region 1 with fail;open agz in exact aaN):P:=h
theorem af9.Ka77(h:P:=by
 obtain⟨si,st,sx,sn⟩:=s;dsimp only at hl HA TR uG yL HP HR HO HB ⊢;obtain⟨c0,c1,c2,c3,c4,c5,c6,c7,c8⟩:=nine HP;obtain⟨d0,d1,d2,d3⟩:=eY HR;go_enter Tryz.func126,Tryz.ntmps126
 go_wp2_with fail;go_loopw [5,13] (fun lv i wr=>∃k:Nat,k≤out.length∧i= .int .i64 k∧lv= .int .i64 si∧(out.take k).find? (fun o=>decide (o.t=st))=none∧Below (((w.alloc (.cells (fZ ⟨id,par,kids,next,pu,out,seen,old,reqs⟩ ⟨ak,ap,ao,as',ar,ck,cp,co,cs,cr⟩) 30)).alloc (.cells #[.int .i64 si,.int .i64 st,.string sx,.int .i64 sn] 95)).alloc (.cells zm7 32)).heap.size (((w.alloc (.cells (fZ ⟨id,par,kids,next,pu,out,seen,old,reqs⟩ ⟨ak,ap,ao,as',ar,ck,cp,co,cs,cr⟩) 30)).alloc (.cells #[.int .i64 si,.int .i64 st,.string sx,.int .i64 sn] 95)).alloc (.cells zm7 32)) wr) (fun _ i _=>out.length - (intOf i).toNat)
 case atStart=>exact⟨0,Nat.zero_le _,rfl,rfl,rfl,Below.refl _ _⟩
 case round=>
  obtain⟨k,hk,rfl,rfl,hno,hbx⟩:=hrel;have HN:=hide hno;have uL:=hide (aj HP hbx);have HR1:=hide (aj HR hbx);have UG:=hide (aj HO hbx);have HB1:=hide (HB.trans (hbx.mono HB.size));have jy:=hide hbx;clear hno hbx c0 c1 c2 c3 c4 c5 c6 c7 c8 d0 d1 d2 d3;obtain⟨c0,c1,c2,c3,c4,c5,c6,c7,c8⟩:=nine uL;obtain⟨d0,d1,d2,d3⟩:=eY HR1;have hrz:=aA UG;have ar3:w.heap.size+1 < wr.heap.size:=by omega
  have ar2:w.heap.size < wr.heap.size:=by omega
  by_cases hlt:k < out.length
  ·obtain⟨g,off,e0,hgw,q0,q1,q2,q3⟩:=SentAt.four (GR.At.below HA HB1) k hlt;(try dsimp only at e0 q0 q1 q2 q3)
   subst e0;by_cases ht:(out[k]).t=st
   ·have HY:=hide (TR k hlt HN ht);have hb:((out[k]).t == st)=true:=by simp[ht]
    clear ht TR uG yL;generalize out[k]=sk at *;obtain⟨ui,ut,ux,un⟩:=sk;dsimp only at q0 q1 q2 q3 hb HY;have hyy:=ah HY;subst hyy;go_upto_region 8 with fail;refine wp_at (fun W3 hW3=>?_);have hbw:Below wr.heap.size wr W3:=by rw [hW3];exact au wr _
    open afC in exact ami
   ·have HS:=hide (uG k hlt HN ht);have hb:((out[k]).t == st)=false:=by simp[ht]
    clear ht TR uG yL;generalize out[k]=sk at *;obtain⟨ui,ut,ux,un⟩:=sk;dsimp only at q0 q1 q2 q3 hb;go_wp2_with fail;go_roundw
    case rel=>exact⟨k+1,by omega,by go_num,rfl,HS,jy.alloc jy.size _⟩
    case measure=>simp[intOf];omega
  ·open ahy in exact LD):P:=h
theorem aga.Ka77(h:P:=by
 dsimp only at hl HA TR uG yL c0 c1 c2 c3 c4 c5 c6 c7 c8 ⊢;go_enter Tryz.func127,Tryz.ntmps127
 go_wp2_with fail;go_loop [7] (fun i=>∃k:Nat,k≤out.length∧i= .int .i64 k∧(out.take k).find? (fun o=>decide (o.t=t))=none) (fun i=>out.length - (intOf i).toNat)
 case atStart=>exact⟨0,Nat.zero_le _,rfl,rfl⟩
 case round=>
  obtain⟨k,hk,rfl,hno⟩:=hrel;have HN:=hide hno;clear hno;by_cases hlt:k < out.length
  ·obtain⟨g,off,e0,hgw,q0,q1,q2,q3⟩:=SentAt.four HA k hlt;subst e0;by_cases ht:(out[k]).t=t
   ·have HY:=hide (TR k hlt HN ht);have hb:((out[k]).t == t)=true:=by simp[ht]
    clear ht TR uG yL;generalize out[k]=sk at *;obtain⟨si,st,sx,sn⟩:=sk;dsimp only at q0 q1 q2 q3 hb HY;go_wp2_with fail;go_ret;exact⟨Mv HY.symm,au w _⟩
   ·have HS:=hide (uG k hlt HN ht);have hb:((out[k]).t == t)=false:=by simp[ht]
    clear ht TR uG yL;generalize out[k]=sk at *;obtain⟨si,st,sx,sn⟩:=sk;dsimp only at q0 q1 q2 q3 hb;go_wp2_with fail;go_round
    case rel=>exact⟨k+1,by omega,by go_num,HS⟩
    case measure=>simp[intOf];omega
  ·open ahx in exact LD):P:=h
theorem agb.Ka77(h:P:=by
 obtain⟨si,st,sx,sn⟩:=s;dsimp only at hl HLW hP hR hO hB ⊢;have HP:=hide hP;have HR:=hide hR;have HO:=hide hO;have HB:=hide hB;clear ha hP hR hO hB Pe;go_enter Tryz.func51,Tryz.ntmps51
 go_upto_region 1 with fail;refine wp_at (fun W hW=>?_);rw [←hW] at HP HR HO HB;have aoh:=hide (HLW W HB);have hz2:w.heap.size+1+1 < W.heap.size:=aA HO;have hz1:w.heap.size+1 < W.heap.size:=by omega
 have hz0:w.heap.size < W.heap.size:=by omega
 have hne0:w.heap.size+1+1≠w.heap.size:=by omega
 have hne1:w.heap.size+1+1≠w.heap.size+1:=by omega
 clear hW HLW;obtain⟨c0,c1,c2,c3,c4,c5,c6,c7,c8⟩:=nine HP;obtain⟨d0,d1,d2,d3⟩:=eY HR
 go_region_held (fun w'=>(w'.cell? ⟨w.heap.size,0,none⟩=some (.int .i64 id)∧w'.cell? ⟨w.heap.size,1,none⟩=some (.int .i64 par)∧w'.cell? ⟨w.heap.size,2,none⟩=some (.slice ak kids.length ck)∧w'.cell? ⟨w.heap.size,3,none⟩=some (.int .i64 next)∧w'.cell? ⟨w.heap.size,4,none⟩=some (.slice ap pu.length cp)∧w'.cell? ⟨w.heap.size,5,none⟩=some (.slice ao out.length co)∧w'.cell? ⟨w.heap.size,6,none⟩=some (.slice as' seen.length cs)∧w'.cell? ⟨w.heap.size,7,none⟩=some (.int .i64 old)∧w'.cell? ⟨w.heap.size,8,none⟩=some (.slice ar reqs.length cr))∧w'.cell? ⟨w.heap.size+1,0,none⟩=some (.int .i64 si)∧w'.cell? ⟨w.heap.size+1,1,none⟩=some (.int .i64 st)∧w'.cell? ⟨w.heap.size+1,2,none⟩=some (.string sx)∧w'.cell? ⟨w.heap.size+1,3,none⟩=some (.int .i64 sn)) (first|go_keep|(refine⟨⟨?_,?_,?_,?_,?_,?_,?_,?_,?_⟩,?_,?_,?_,?_⟩<;>first|exact anC hne0 (by assumption)|exact anC hne1 (by assumption)))
  (first
   |(go_at_call 127;refine(aoh W.drew rfl).mono ?_;rintro e w5 ⟨rfl,hb5⟩;have hb6:Below W.heap.size W w5:=⟨hb5.os,hb5.tape,hb5.output,hb5.size,hb5.block⟩;clear hb5;have FB:=hide (aj HP hb6);have Lp:=hide (aj HR hb6);have CB:=hide (aj HO hb6);have jJ:=hide (HB.trans (hb6.mono HB.size));clear hb6;obtain⟨y0,y1,y2,y3,y4,y5,y6,y7,y8⟩:=nine FB;obtain⟨z0,z1,z2,z3⟩:=eY Lp;obtain⟨r0,r1,r2,r3,r4,r5,r6⟩:=iq CB;have f0:=ay CB 0;have f1:=ay CB 1;have f2:=ay CB 2;have f3:=ay CB 3;have f4:=ay CB 4;have f5:=ay CB 5;have f6:=ay CB 6))
 all_goals
  go_wp2_with fail
  refine aO (fun W' hW'=>?_)
  have hR:=uw (b0:= .int .i64 1) (b1:= .int .i64 id) (b2:= .int .i64 st) (b3:= .int .i64 si) (b4:= .int .i64 LO) (b5:= .string sx) (b6:= .int .i64 sn) CB
  have hK:=pV (w:=w5) (g:=w.heap.size+1+1) (b0:= .int .i64 1) (b1:= .int .i64 id) (b2:= .int .i64 st) (b3:= .int .i64 si) (b4:= .int .i64 LO) (b5:= .string sx) (b6:= .int .i64 sn)
  rw [←hW'] at hR hK
  obtain⟨x0,x1,x2,x3,x4,x5,x6⟩:=iq hR
  refine bodyPost_ret (v:= .agg #[.int .i64 1,.int .i64 id,.int .i64 st,.int .i64 si,.int .i64 LO,.string sx,.int .i64 sn]) (by simp[results,Tryz.results51,go_sem,x0,x1,x2,x3,x4,x5,x6]) rfl ⟨rfl,jJ.trans (hK.below (fun x hx=>by have:x=w.heap.size+1+1:=(by simpa using hx);omega) jJ.size)⟩):P:=h
theorem agc.Ka77(h:P:=by
 dsimp only at hlo HAO JC ku za FX ⊢;go_enter Tryz.func17,Tryz.ntmps17
 go_upto_region 1 with fail;refine wp_at (fun W0 hW0=>?_);rw [←hW0] at JC;have HB0:Hid (Below w.heap.size w W0):=by rw [hW0];exact au w _
 have Vy:w.heap.size < W0.heap.size:=aA JC;have arY:w.heap.size≠W0.heap.size:=by omega
 clear hW0;have acz:Hid ((W0.alloc (.cells #[] 32)).ownsRow W0.heap.size 32 7 (.slice (some ⟨W0.heap.size,0,none⟩) 0 0) 0 []):=World.ownsRow_lit (base:=W0.heap.size) (e:=32) (size:=7) W0 #[] 0 (Nat.le_refl _) (by decide) rfl;go_wp2_with fail;go_loopw [3,4] (fun ov i wr=>∃(k:Nat) (va:Option Addr) (vc:Nat),k≤out.length∧i= .int .i64 k∧ov= .slice va k vc∧wr.ownsRow W0.heap.size 32 7 (.slice va k vc) k (GR.flat gX ((out.take k).map PM))∧Below W0.heap.size W0 wr∧(0 < k→OK=true)) (fun _ i _=>out.length - (intOf i).toNat)
 case atStart=>exact⟨0,some ⟨W0.heap.size,0,none⟩,0,Nat.zero_le _,rfl,rfl,acz,au W0 _,fun h=>by omega⟩
 case round=>
  obtain⟨k,va,vc,hk,rfl,rfl,hown,hbel,hpos⟩:=hrel;have HO:=hide hown;have fD:=hide hbel;have HW:=hide (HB0.trans (hbel.mono HB0.size));have uL:=hide (aj JC hbel);clear hown hbel acz;obtain⟨c0,c1,c2,c3,c4,c5,c6,c7,c8⟩:=nine uL;by_cases hlt:k < out.length
  ·obtain⟨g,off,e0,hg,q0,q1,q2,q3⟩:=SentAt.four (GR.At.below HAO HB0) k hlt;subst e0;have acF:=hide (ku wr HW);go_wp2_with fail;refine acF.mono ?_;rintro e w4 ⟨rfl,hb4⟩;have O9:=hide (GR.own_below HO hb4);have yS:=hide (fD.trans (hb4.mono fD.size));clear hb4 acF c0 c1 c2 c3 c4 c5 c6 c7 c8 uL fD HW HO;have MZ:=hide (aj JC yS);have rT:=hide (HB0.trans (yS.mono HB0.size));cases Ue:OK
   ·have hk0:k=0:=by
     rcases Nat.eq_zero_or_pos k with h|h
     ·exact h
     ·exact absurd (hpos h) (by rw [Ue];simp)
    subst hk0;have HE:Hid (L=[]):=by rw [ah FX,Ue];rfl
    clear hpos Ue FX;go_wp2_with fail;go_ret;rw [ah HE];exact wJ.of_own rfl O9 (by omega) rT
   ·clear hpos;have aax:=hide (za out[k] w4 rT);have HT:=hide (show(out.take (k+1)).map PM=(out.take k).map PM++[PM out[k]] by rw [List.take_succ_eq_append_getElem hlt,List.map_append];rfl);generalize out[k]=sk at *;generalize PM sk=mk at *;obtain⟨si,st,sx,sn⟩:=sk;obtain⟨mK,mF,mT,mI,mL,mk,mN⟩:=mk;dsimp only at q0 q1 q2 q3;have HQ0:=hide q0;have HQ1:=hide q1;have HQ2:=hide q2;have HQ3:=hide q3;have x0:=(yS.cell (p:=⟨g,off+k*4,none⟩) hg).trans q0;have x1:=(yS.cell (p:=⟨g,off+k*4+1,none⟩) hg).trans q1;have x2:=(yS.cell (p:=⟨g,off+k*4+2,none⟩) hg).trans q2;have x3:=(yS.cell (p:=⟨g,off+k*4+3,none⟩) hg).trans q3;clear q0 q1 q2 q3;obtain⟨c0,c1,c2,c3,c4,c5,c6,c7,c8⟩:=nine MZ;go_wp2_with fail
    go_region_held_law (fun w'=>(w'.cell? ⟨w.heap.size,0,none⟩=some (.int .i64 id)∧w'.cell? ⟨w.heap.size,1,none⟩=some (.int .i64 par)∧w'.cell? ⟨w.heap.size,2,none⟩=some (.slice ak kids.length ck)∧w'.cell? ⟨w.heap.size,3,none⟩=some (.int .i64 next)∧w'.cell? ⟨w.heap.size,4,none⟩=some (.slice ap pu.length cp)∧w'.cell? ⟨w.heap.size,5,none⟩=some (.slice (some ⟨g,off,none⟩) out.length co)∧w'.cell? ⟨w.heap.size,6,none⟩=some (.slice as' seen.length cs)∧w'.cell? ⟨w.heap.size,7,none⟩=some (.int .i64 old)∧w'.cell? ⟨w.heap.size,8,none⟩=some (.slice ar reqs.length cr))∧w'.cell? ⟨g,off+k*4,none⟩=some (.int .i64 si)∧w'.cell? ⟨g,off+k*4+1,none⟩=some (.int .i64 st)∧w'.cell? ⟨g,off+k*4+2,none⟩=some (.string sx)∧w'.cell? ⟨g,off+k*4+3,none⟩=some (.int .i64 sn)) (go_keep)
     (first
      |((go_at_call 51);(refine(aax w4.drew rfl).mono ?_);(rintro e w5 ⟨rfl,hb5⟩);(have hb6:Below w4.heap.size w4 w5:=⟨hb5.os,hb5.tape,hb5.output,hb5.size,hb5.block⟩);(clear hb5);(have CB:=hide (GR.own_below O9 hb6));(have jX:=hide (yS.trans (hb6.mono yS.size)));(clear hb6);(have FB:=hide (aj JC jX));(obtain⟨y0,y1,y2,y3,y4,y5,y6,y7,y8⟩:=nine FB);(have u0:=(jX.cell (p:=⟨g,off+k*4,none⟩) hg).trans HQ0);(have u1:=(jX.cell (p:=⟨g,off+k*4+1,none⟩) hg).trans HQ1);(have u2:=(jX.cell (p:=⟨g,off+k*4+2,none⟩) hg).trans HQ2);(have u3:=(jX.cell (p:=⟨g,off+k*4+3,none⟩) hg).trans HQ3))
      |((refine oD _ rfl (.tmp 17) (.tmp 25) 37 rfl W0.heap.size 32 i0 (.agg #[.int .i64 0,.int .i64 0,.int .i64 0,.int .i64 0,.int .i64 0,.string ByteArray.empty,.int .i64 0]) 7 64 Tryz.underlying37 hi hz0 hz1 hz2 rfl (by decide) (.slice va k vc) k (GR.flat gX ((out.take k).map PM)) (by simp[Act.eval]) (CB.alloc _) ⟨w5.heap.size,0,none⟩ 1 1 (gX ⟨mK,mF,mT,mI,mL,mk,mN⟩) (by simp[Act.eval]) rfl (World.news_of_block (heap_alloc_new w5 _)) (zu _) (by unfold maxLen;omega) (by omega) (Nat.le_trans jX.size (by simp)) ?_);(intro v6 w6 hown6 lS zF);(have CZ:w6.ownsRow W0.heap.size 32 7 v6 (k+1) (GR.flat gX ((out.take (k+1)).map PM)):=by rw [ah HT,fV];exact hown6);(obtain⟨va6,vc6,hv6,_⟩:=GR.own_at (enc:=gX) (sz:=7) (l:=(out.take (k+1)).map PM) iR (by rw [List.length_map,List.length_take,Nat.min_eq_left (by omega)];exact CZ));(rw [List.length_map,List.length_take,Nat.min_eq_left (by omega)] at hv6);(subst hv6);(have HO6:=hide CZ);(have MF:=hide (show Below W0.heap.size W0 w6 from(jX.alloc jX.size _).trans (Ee lS (fun k e=>(CB.lt k e).1) (Nat.le_trans jX.size (by simp)))));(clear hown6 lS zF CZ);(have P7:=hide (aj JC MF));(obtain⟨z0,z1,z2,z3,z4,z5,z6,z7,z8⟩:=nine P7);(have t0:=(MF.cell (p:=⟨g,off+k*4,none⟩) hg).trans HQ0);(have t1:=(MF.cell (p:=⟨g,off+k*4+1,none⟩) hg).trans HQ1);(have t2:=(MF.cell (p:=⟨g,off+k*4+2,none⟩) hg).trans HQ2);(have t3:=(MF.cell (p:=⟨g,off+k*4+3,none⟩) hg).trans HQ3))
      |fail)
    all_goals
     go_wp2_with fail
     go_roundw
     case rel=>exact⟨k+1,va6,vc6,by omega,by go_num,rfl,HO6,MF,fun _=>Ue⟩
     case measure=>simp[intOf];omega
  ·open ahw in exact LD):P:=h
theorem agd.Ka77(h:P:=by
 dsimp only at hl HD HA rX iN uG Le jy ⊢;clear ha;go_enter Tryz.func52,Tryz.ntmps52
 go_upto_region 1 with fail;refine wp_at (fun W0 hW0=>?_);have hblk:W0.heap[w.heap.size]?=some (.cells (fZ ⟨id,par,kids,next,pu,out,seen,old,reqs⟩ ⟨ak,ap,ao,as',ar,ck,cp,co,cs,cr⟩) 30 (0,0)):=by rw [hW0];exact jy
 have FN:Hid (Below w.heap.size w W0):=by rw [hW0];exact au w _
 obtain⟨c0,c1,c2,c3,c4,c5,c6,c7,c8⟩:=nine hblk;clear hW0 jy hblk;obtain⟨bb,hbb⟩:∃bb,(!(nY id&&(decide (par= -1)||(nY par&&decide (par≠id)))))=bb:=⟨_,rfl⟩;have dY:=hide hbb;clear hbb;go_cut [27] (fun r wx=>r= .bool bb∧wx=W0)
 case first=>
  cases h1:nY id
  case' false=>
   have HV:=hide (show bb=true by rw [←ah dY];simp[h1])
   have H1:=hide (fun w1=>isNode id false w1 h1)
   clear dY h1
   go_wp2_with (go_at_call 128;refine(H1 _).mono ?_;rintro e w1 ⟨rfl,rfl⟩)
   go_meet
   case rel=>exact⟨by rw [ah HV],rfl⟩
  have H1:=hide (fun w1=>isNode id true w1 h1);by_cases h2:par= -1
  case' pos=>
   have HV:=hide (show bb=false by rw [←ah dY];simp[h1,h2])
   have hb2:(par != -1)=false:=by simp[h2]
   clear dY h1 h2
   go_wp2_with (go_at_call 128;refine(H1 _).mono ?_;rintro e w1 ⟨rfl,rfl⟩)
   go_meet
   case rel=>exact⟨by rw [ah HV],rfl⟩
  have hb2:(par != -1)=true:=by simp[h2]
  cases h3:nY par
  case' false=>
   have HV:=hide (show bb=true by rw [←ah dY];simp[h2,h3])
   have H3:=hide (fun w1=>isNode par false w1 h3)
   clear dY h1 h2 h3
   go_wp2_with (first|(go_at_call_of 128 id;refine(H1 _).mono ?_;rintro e w1 ⟨rfl,rfl⟩)|(go_at_call_of 128 par;refine(H3 _).mono ?_;rintro e w1 ⟨rfl,rfl⟩))
   go_meet
   case rel=>exact⟨by rw [ah HV],rfl⟩
  have H3:=hide (fun w1=>isNode par true w1 h3);by_cases h4:par=id
  case' pos=>
   have HV:=hide (show bb=true by rw [←ah dY,decide_eq_false h2,decide_eq_false (show¬(par≠id) from fun h=>h h4)];simp)
   have hb4:(par == id)=true:=by simp[h4]
   subst h4
   clear dY h1 h2 h3
   go_wp2_with (go_at_call 128;refine(H1 _).mono ?_;rintro e w1 ⟨rfl,rfl⟩)
   go_meet
   case rel=>exact⟨by rw [ah HV],rfl⟩
  have HV:=hide (show bb=false by rw [←ah dY];simp[h1,h3,h4]);have hb4:(par == id)=false:=by simp[h4]
  clear dY h1 h2 h3;go_wp2_with (first|(go_at_call_of 128 id;refine(H1 _).mono ?_;rintro e w1 ⟨rfl,rfl⟩)|(go_at_call_of 128 par;refine(H3 _).mono ?_;rintro e w1 ⟨rfl,rfl⟩))
  go_meet
  case rel=>exact⟨by rw [ah HV],rfl⟩
 case rest=>
  obtain⟨rfl,rfl⟩:=hcut;cases hbv:bb
  case' true=>
   have HP:Hid (TT=false):=by
    have h:=ah dY;rw [hbv] at h;rw [ah HD];generalize (nY id&&(decide (par= -1)||(nY par&&decide (par≠id))))=X at *;cases X
    ·rfl
    ·cases h
   clear dY HD
   subst hbv
   go_wp2_with fail
   go_ret
   exact⟨aD HP.symm,FN⟩
  have ku:Hid (TT=fT KB gJ kids):=by
   have h:=ah dY;rw [hbv] at h;rw [ah HD];generalize (nY id&&(decide (par= -1)||(nY par&&decide (par≠id))))=X at *;cases X
   ·cases h
   ·rfl
  clear dY HD;subst hbv;go_wp2_with fail;go_loop [3,31] (fun lv i=>∃(k:Nat) (y:Int),k≤kids.length∧i= .int .i64 k∧lv= .int .i64 y∧y=sK (fun x=>x) (-1) (kids.take k)∧fT KB gJ (kids.take k)=true) (fun _ i=>kids.length - (intOf i).toNat)
  case atStart=>exact⟨0,-1,Nat.zero_le _,rfl,rfl,rfl,rfl⟩
  case round=>
   obtain⟨k,y,hk,rfl,rfl,hy,hall⟩:=hrel;have kV:=hide hall;have HY:=hide hy;clear hall hy;by_cases hlt:k < kids.length
   case' neg=>
    have hke:k=kids.length:=by omega
    subst hke
    have hnlt:decide ((kids.length:Int) < (kids.length:Int))=false:=by simp
    have HF:Hid (TT=true):=by
     exact Nl
    go_wp2_with fail
    go_ret
    exact⟨aD HF.symm,FN⟩
   obtain⟨g,off,rfl,hgw,q0⟩:=dK.one (GR.At.below HA FN) k hlt;have HBAD:Hid (fT KB gJ (kids.take (k+1))=false→TT=false):=fun h=>ku.trans (rX _ h)
   have fF:Hid (fT KB gJ (kids.take (k+1))=(KB kids[k]&&decide (y < kids[k]))):=by
    exact anx
   have yL:=hide (uG k hlt);have yt:=hide (Le kids[k]);clear iN uG rX Le;generalize kids[k]=x at *;cases h1:nY x
   case' false=>
    have H1:=hide (fun w1=>isNode x false w1 h1)
    have HV:=hide (HBAD (by rw [ah fF,ah yt];simp[h1]))
    clear HBAD fF yt h1
    go_wp2_with (go_at_call 128;refine(H1 _).mono ?_;rintro e w1 ⟨rfl,rfl⟩)
    go_ret
    exact⟨aD HV.symm,FN⟩
   have H1:=hide (fun w1=>isNode x true w1 h1);by_cases h2:y < x
   case' neg=>
    have hb2:decide (x≤y)=true:=decide_eq_true (by omega)
    have HV:=hide (HBAD (by rw [ah fF,ah yt];simp[h2]))
    clear HBAD fF yt h1
    go_wp2_with (go_at_call 128;refine(H1 _).mono ?_;rintro e w1 ⟨rfl,rfl⟩)
    go_ret
    exact⟨aD HV.symm,FN⟩
   have hb2:decide (x≤y)=false:=decide_eq_false (by omega);by_cases h3:x=id
   case' pos=>
    have hb3:(x == id)=true:=by simp[h3]
    have HV:=hide (HBAD (by rw [ah fF,ah yt];simp[h3]))
    clear HBAD fF yt h1 h3
    go_wp2_with (go_at_call 128;refine(H1 _).mono ?_;rintro e w1 ⟨rfl,rfl⟩)
    go_ret
    exact⟨aD HV.symm,FN⟩
   have hb3:(x == id)=false:=by simp[h3]
   by_cases h4:x=par
   case' pos=>
    have hb4:(x == par)=true:=by simp[h4]
    have HV:=hide (HBAD (by rw [ah fF,ah yt];simp[h4]))
    clear HBAD fF yt h1 h4
    go_wp2_with (go_at_call 128;refine(H1 _).mono ?_;rintro e w1 ⟨rfl,rfl⟩)
    go_ret
    exact⟨aD HV.symm,FN⟩
   have hb4:(x == par)=false:=by simp[h4]
   have HV:=hide (show fT KB gJ (kids.take (k+1))=true by rw [ah fF,ah yt];simp[h1,h2,h3,h4]);clear HBAD fF yt h1;go_wp2_with (go_at_call 128;refine(H1 _).mono ?_;rintro e w1 ⟨rfl,rfl⟩)
   exact Zj):P:=h
theorem agf.Ka77(h:P:=by
 dsimp only at hlo HD rX iN uG TQ Le jy ⊢;generalize (fun s t:Rq=>gJ s.no t.no)=RR at *;cases h1:mW old
 case' false=>
  have HP:=hide (show TT=false by rw [ah HD,h1];rfl)
  have H1:=hide (fun w1=>iZ old false w1 h1)
  clear h1 HD
  go_enter Tryz.func57,Tryz.ntmps57
  go_wp2_with (go_at_call 133;refine(H1 _).mono ?_;rintro e w9 ⟨rfl,rfl⟩)
  go_ret
  exact⟨aD HP.symm,au w _⟩
 have H1:=hide (fun w1=>iZ old true w1 h1);have hold:0≤old∧old≤1000000000:=of_decide_eq_true h1;obtain⟨ho1,ho2⟩:=hold;by_cases h0:reqs.length≤30
 case' neg=>
  have HP:=hide (show TT=false by rw [ah HD,decide_eq_false h0];simp)
  have hb0:decide ((30:Int) < reqs.length)=true:=decide_eq_true (by omega)
  clear h1 HD
  go_enter Tryz.func57,Tryz.ntmps57
  go_wp2_with (go_at_call 133;refine(H1 _).mono ?_;rintro e w9 ⟨rfl,rfl⟩)
  go_ret
  exact⟨aD HP.symm,au w _⟩
 have hb0:decide ((30:Int) < reqs.length)=false:=decide_eq_false (by omega);have ku:Hid (TT=fT KB RR reqs):=by rw [ah HD,h1,decide_eq_true h0];rfl
 clear HD h1;go_enter Tryz.func57,Tryz.ntmps57
 go_wp2_with (go_at_call 133;refine(H1 _).mono ?_;rintro e w9 ⟨rfl,rfl⟩)
 go_loopw [3,21] (fun lv i wr=>∃(k:Nat) (y:Int),k≤reqs.length∧i= .int .i64 k∧lv= .int .i64 y∧y=sK (fun s=>s.no) old (reqs.take k)∧fT KB RR (reqs.take k)=true∧wr.heap[w.heap.size]?=some (.cells (fZ ⟨id,par,kids,next,pu,out,seen,old,reqs⟩ ⟨ak,ap,ao,as',ar,ck,cp,co,cs,cr⟩) 30 (0,0))∧Below w.heap.size w wr) (fun _ i _=>reqs.length - (intOf i).toNat)
 case atStart=>exact⟨0,old,Nat.zero_le _,rfl,rfl,rfl,rfl,jy,au w _⟩
 case round=>
  open aks in exact Ym):P:=h
theorem agh.Ka77(h:P:=by
 dsimp only at hlo HD rX iN uG TQ Le Js jy ⊢;generalize (fun s t:jm=>gJ s.i t.i)=RR at *;by_cases h0:out.length≤40
 case' neg=>
  have HP:=hide (show TT=false by rw [ah HD,decide_eq_false h0];rfl)
  have hb0:decide ((40:Int) < out.length)=true:=decide_eq_true (by omega)
  go_enter Tryz.func55,Tryz.ntmps55
  go_wp2_with fail
  go_ret
  exact⟨aD HP.symm,au w _⟩
 have hb0:decide ((40:Int) < out.length)=false:=decide_eq_false (by omega);have ku:Hid (TT=fT KB RR out):=by rw [ah HD,decide_eq_true h0];rfl
 clear HD;go_enter Tryz.func55,Tryz.ntmps55
 go_wp2_with fail;go_loopw [3,13] (fun lv i wr=>∃(k:Nat) (y:Int),k≤out.length∧i= .int .i64 k∧lv= .int .i64 y∧y=sK (fun s=>s.i) 0 (out.take k)∧fT KB RR (out.take k)=true∧wr.heap[w.heap.size]?=some (.cells (fZ ⟨id,par,kids,next,pu,out,seen,old,reqs⟩ ⟨ak,ap,ao,as',ar,ck,cp,co,cs,cr⟩) 30 (0,0))∧Below w.heap.size w wr) (fun _ i _=>out.length - (intOf i).toNat)
 case atStart=>exact⟨0,0,Nat.zero_le _,rfl,rfl,rfl,rfl,jy,au w _⟩
 case round=>
  open akr in exact Ym):P:=h
theorem agi.Ka77(h:P:=by
 dsimp only at hl HC jy MR ⊢;clear ha;go_enter Tryz.func46,Tryz.ntmps46
 go_wp2_with fail;refine HC.mono ?_;rintro e w1 ⟨v,rfl,hown,hb1⟩;have HB1:=hide ((au w _).trans (hb1.mono (by simp)));have UG:=hide (GR.own_lower (b':=w.heap.size) hown (by simp));obtain⟨c0,c1,_⟩:=nine (aj jy hb1);clear hown hb1 HC;go_upto_if 9 with fail;go_cut [3] (fun r wx=>wx.ownsRow w.heap.size 3 1 r NB.length (GR.flat aR NB)∧Below w.heap.size w wx)
 case first=>
  by_cases hp:par= -1
  ·have hb:(par != -1)=false:=by simp[hp]
   have HE:=hide (MR.1 hp);clear hp;go_wp2_with fail;go_meet
   case rel=>exact⟨by rw [ah HE];exact UG,HB1⟩
  ·have hb:(par != -1)=true:=by simp[hp]
   have HE:=hide (MR.2 hp);clear hp;have ho:=ah UG;go_wp2_with (at_builtin;refine wpList_append_own _ rfl _ _ 24 rfl w.heap.size 3 i0 (.int .i64 0) 1 8 Tryz.underlying24 hi hz0 hz1 hz2 rfl (by decide) _ _ _ rfl (ho.alloc _) ⟨w1.heap.size,0,none⟩ 1 1 [.int .i64 par] rfl rfl ?c1 ?c2 ?c3 ?c4 ?c5 ?_)
   case c1=>exact cell_one_new _ _ _
   case c2=>intro u hu;simp at hu;subst hu;rfl
   case c3=>unfold maxLen;omega
   case c4=>omega
   case c5=>have:=HB1.size;simp;omega
   intro v' w6 hown' hgrow _;have rW:=hide (GR.below_append HB1 HB1.size ho hgrow)
   have HO6:Hid (w6.ownsRow w.heap.size 3 1 v' NB.length (GR.flat aR NB)):=by
    rw [ah HE,GR.flat_append,List.length_append];exact hown'
   clear hgrow ho hown';go_wp2_with fail;go_meet
   case rel=>exact⟨HO6,rW⟩
 case rest=>
  obtain⟨ho,hb⟩:=hcut;have HS:=hide (Wh w.heap.size _ NB wc hln hb.size ho);have HB2:=hide hb;clear ho hb c0 c1;go_wp2_with fail;refine HS.mono ?_;rintro e w3 ⟨rfl,ho3,hb3⟩;have AQ:=hide ho3;have HB3:=hide (HB2.trans hb3);clear ho3 hb3;go_wp2_with fail;go_ret;exact⟨_,rfl,AQ,HB3⟩):P:=h
theorem agj.Ka77(h:P:=by
 dsimp only at FX HPU HOT HSE HRE HD jy ⊢;go_enter Tryz.func18,Tryz.ntmps18
 go_upto_region 1 with fail;open agy in exact aaN):P:=h
theorem agk.Ka77(h:P:=by
 dsimp only at hls HA HD HSK MR jy ⊢;go_enter Tryz.func56,Tryz.ntmps56
 go_wp2_with fail;refine MR.mono ?_;rintro e w1 ⟨v,rfl,hown,hb1⟩;have HB1:=hide ((au w _).trans (hb1.mono (by simp)));have wK:=hide (aj jy hb1);have Ud:=ah uG;subst Ud;obtain⟨fa,fc,rfl,hF⟩:=GR.own_at (enc:=aR) (sz:=1) aN hown;have HF:=hide hF;obtain⟨c0,c1,c2,c3,c4,c5,c6,c7,c8⟩:=nine wK;clear hown hb1 MR jy uG hF;by_cases hlen:seen.length=F.length
 case' neg=>
  have hbn:((seen.length:Int) != (F.length:Int))=true:=by simp;omega
  have HP:=hide (show TT=false by
   rw [ah HD,decide_eq_false (show¬seen.map (·.f)=F from fun h=>hlen (by rw [←h,List.length_map]))]
   rfl)
  clear HD
  go_wp2_with fail
  go_ret
  exact⟨aD HP.symm,HB1⟩
 have hbn:((seen.length:Int) != (F.length:Int))=false:=by simp;omega
 have yL:=hide hlen;clear hlen;go_wp2_with fail;go_loopw [17] (fun i wr=>∃k:Nat,k≤seen.length∧i= .int .i64 k∧(seen.take k).map (·.f)=F.take k∧(seen.take k).all qz=true∧Below w1.heap.size w1 wr) (fun i _=>seen.length - (intOf i).toNat)
 case atStart=>exact⟨0,Nat.zero_le _,rfl,rfl,rfl,Below.refl _ _⟩
 case round=>
  obtain⟨k,hk,rfl,hm,hall,hbx⟩:=hrel;have HM:=hide hm;have kV:=hide hall;have jy:=hide hbx;have DC:=hide (aj wK hbx);have fD:=hide (HB1.trans (hbx.mono HB1.size));clear hm hall hbx;by_cases hlt:k < seen.length
  case' neg=>
   have hke:k=seen.length:=by omega
   subst hke
   have hnlt:decide ((seen.length:Int) < (seen.length:Int))=false:=by simp
   have HP:=hide (show TT=true by
    have h1:=ah HM
    have h2:=ah kV
    rw [List.take_length] at h1 h2
    rw [ah yL,List.take_length] at h1
    rw [ah HD,decide_eq_true h1,h2]
    rfl)
   go_wp2_with fail
   go_ret
   exact⟨aD HP.symm,fD⟩
  have aqA:k < F.length:=by rw [←ah yL];exact hlt
  obtain⟨g,off,b,c,e0,hgw,q0,q1,q2,hI⟩:=jL.below (dQ.s HA) fD k hlt;obtain⟨g2,off2,e2,abq,p0⟩:=dK.one (GR.At.below HF jy) k aqA;(try dsimp only at e0 q0 q1 q2 hI)
  subst e0 e2;have Bh:=ah HSK _ (List.getElem_mem hlt);have HI:=hide hI;have HST:=hide (fun h3 h4=>OI hlt yL.symm HM kV h3 h4);have yA:=hide (fun h3=>OG (F:=F) hlt yL.symm h3);have Va:=hide (fun h4=>OH hlt h4);clear hI;generalize seen[k]=sk at *;generalize F[k]=y at *;obtain⟨fr,lo,ids⟩:=sk;dsimp only at q0 q1 q2 HI Bh HST yA Va;go_upto_region 7 with fail;open akm in exact Yj):P:=h
theorem amq(h:P:=by
 have HAT:=hide (fun W'' (ho:Out c w W' W'')=>(sW.kc (k:=9) ((KC.keeps eU (fun x hx=>by have:x=w.heap.size+1:=(by simpa using hx);rw [this];exact aT (by omega))).trans (KC.out H9 ho)) (by omega)).rm);have jW:Hid (Below B w W'):=(HB1.mono hB).trans (eU.below (fun x hx=>by have:x=w.heap.size+1:=(by simpa using hx);omega) (Nat.le_trans hB (HB1.mono hB).size));have oJ:=hide (Apart.keeps (c:=c) (Apart.of_below (HB1)) (HB1.mono hB).size eU (fun x hx=>by have:x=w.heap.size+1:=(by simpa using hx);omega));obtain⟨x0,x1,x2,x3,x4,x5,x6,x7,x8⟩:=nine e4;exact Ka78):P:=h
theorem agl.Ka78(h:P:=by
 clear hW' e4 eU;exact bodyPost_ret (v:= .tuple #[.agg #[.int .i64 n.id,.int .i64 n.par,.slice A.k n.kids.length A.ck,.int .i64 n.next,.slice A.p n.pu.length A.cp,.slice A.o n.out.length A.co,.slice A.s n.seen.length A.cs,.int .i64 n.old,.slice A.r n.reqs.length A.cr],.int .i64 1]) (by simp[results,Tryz.results40,go_sem,x0,x1,x2,x3,x4,x5,x6,x7,x8]) rfl ⟨A,rfl,HAT,jW,oJ⟩):P:=h
theorem agm.Ka78(h:P:=by
 exact Ka11):P:=h
theorem amr(h:P:=by
 go_enter Tryz.func225,Tryz.ntmps225
 go_wp2_with fail;refine TV.mono ?_;rintro e w1 ⟨mp,mb,v,rfl,wX,hb1⟩;obtain⟨hblk,hlt1,hbw⟩:=Fo.one_block hb1;have HB1:=hide hbw;have c0:w1.cell? ⟨w.heap.size,0,none⟩=some (.int .i64 dm):=by rw [cell_of_row w1 _ _ _ _ (0,0) hblk];rfl
 have c1:w1.cell? ⟨w.heap.size,1,none⟩=some (.int .i64 df):=by rw [cell_of_row w1 _ _ _ _ (0,0) hblk];rfl
 have c2:w1.cell? ⟨w.heap.size,2,none⟩=some (.int .i64 ds):=by rw [cell_of_row w1 _ _ _ _ (0,0) hblk];rfl
 exact Ka79):P:=h
theorem agn.Ka79(h:P:=by
 have HMX:=hide (Uu _ mp mb _ v w1 hb1.size (by unfold maxLen;omega) wX (HE.below hbw));clear hb1 wX TV hblk hbw Uu;go_wp2_with (first|(go_at_call 131;refine(HK _).mono ?_;rintro e w2 ⟨rfl,rfl⟩)|(go_at_call 54;refine(AP _).mono ?_;rintro e w2 ⟨rfl,rfl⟩))
 refine HMX.mono ?_;rintro e w3 ⟨hb3,hcase⟩;have HB3:=hide (HB1.trans (Below.mono hb3 (by simp)));clear hb3 HMX;rcases hcase with⟨hf,h20,rfl⟩|⟨hf,rfl,v',anH⟩
 ·have HAD:=hide (PG hf h20);clear hf h20 PG Qa;go_wp2_with fail;go_ret2
  exact⟨HB3,.inl ⟨HAD,_,by omega,rfl⟩⟩
 ·obtain⟨hadd,hlen⟩:=ah Qa hf;have Ui:=hide hadd;have uG:=hide (R7 _ mp mb _ v' PL G2 w3 hlen HPA FW anH);clear hf PG Qa hadd anH;go_wp2_with fail;refine uG.mono ?_;rintro e w4 ⟨rfl,ZV,hb4⟩;have nK:=hide (HB3.trans (hb4.mono HB3.size));have HK4:=hide ZV;clear hb4 ZV;go_wp2_with fail;go_ret2
  rw [ah Ui];exact⟨nK,.inr ⟨rfl,_,HB3.size,rfl,HK4⟩⟩):P:=h
theorem agp.Ka79(h:P:=by
 have HMX:=hide (Uu _ mp mb _ v w1 wX (HE.below hbw));clear hb1 wX TV hblk hbw Uu;go_wp2_with (first|(go_at_call 131;refine(HK _).mono ?_;rintro e w2 ⟨rfl,rfl⟩)|(go_at_call 54;refine(AP _).mono ?_;rintro e w2 ⟨rfl,rfl⟩)|(go_at_call 248;refine HMX.mono ?_;rintro e w3 ⟨i,hi,rfl,hb3⟩))
 go_ret2
 exact⟨HB1.trans (hb3.mono HB1.size),.inl ⟨HAD,i,hi,rfl⟩⟩):P:=h
theorem ams(h:P:=by
 open ajX in exact Yd):P:=h
theorem agq.Ka80(h:P:=by
 have r1:=cell_regrown q1;have r2:=cell_regrown q2;have r3:=cell_regrown q3;have e4:=cell_regrown d4;refine bn 23 (by kernel_rfl) ?_;show dS _ _ _ _ _ 25 (Array.replicate 25 false) _ _
 refine tk [0,1,2,3,4,5,6,7,8,9,10,11,12,13,14,15,16,17,18,19] ?_;iterate 20 (refine nQ (fun K hK=>?_);go_simp;refine hK _ ?_;clear hK K)
 refine jI ?_;clear r1 r2 r3 e4;refine cZ 20 rfl (by kernel_rfl) (by rfl) (fun x hx=>?_);go_simp;have HX:=hide (HZ1.step hx);refine(Xb x HX).mono ?_;rintro e y ⟨a,cp,g5,hg5,rfl,hp,hby⟩;refine⟨hby,?_⟩;have HST:=hide (fun u (hu:Ge y u)=>V7 (cp:=cp) HX (hby.trans (hu.mono hby.size)) hg5 (hp.below hu));clear hby hg5 hp Xb hx;refine tk [21,22] ?_;iterate 2 (refine nQ (fun K hK=>?_);go_simp;refine hK _ ?_;clear hK K)
 refine jI ?_;refine aV (by kernel_rfl) (fun u hu=>?_);refine aG 23 rfl (by kernel_rfl) (by rfl) ?_;go_simp;refine(HST u hu).mono ?_;rintro e z2 ⟨rfl,A',G',c',hZ2,hA2⟩;have HZ2:=hide hZ2;have HA2:=hide (hA2.trans hAr);clear hZ2 HST hu hA2 d0 d1 d2 d3 d4 d5 d6 d7 d8 d9 q0 q1 q2 q3 qf;obtain⟨rl,rb⟩:=r;dsimp only at HZ2 ⊢;refine aG 24 rfl (by kernel_rfl) (by rfl) ?_;go_simp;refine wpAny_done (by kernel_rfl) ?_;go_simp;cases rb
 ·rw [if_neg (by simp)] at HZ2;obtain⟨g6,hA6,_,hg6,⟨s0,s1,s2,s3⟩,sf⟩:=HZ2.reqRow i hil;rw [ah HA2] at hA6;cases hA6
  rw [hs] at s3;go_wp2_with fail;go_ret;exact⟨rfl,A',G',c',HZ2⟩
 ·rw [if_pos rfl] at HZ2;obtain⟨g6,hA6,_,hg6,⟨s0,s1,s2,s3⟩,sf⟩:=HZ2.reqRow i hil;rw [ah HA2] at hA6;cases hA6
  have yh:=hide (HZ2.reqSet i hil g HA2);clear HZ2 HZ1 HX HW;go_wp2_with fail;go_ret;exact⟨rfl,A',G',c',yh⟩):P:=h
theorem agr.Ka80(h:P:=by
 have r3:=cell_regrown q3;refine fK (by kernel_rfl) ?_;show iX _ _ _ _ 25 (Array.replicate 25 false) _ _
 refine tk [0,1,2,3,4,5,6,7,8,9,10,11,12,13,14,15,16,17,18,19,20,21,22,23,24] ?_;iterate 25 (refine Pq (fun K hK=>?_);go_simp;refine hK _ ?_;clear hK K)
 refine jI ?_;refine iC (by kernel_rfl) (fun x hx=>?_);have HX:=hide (HZ1.step hx);have x3:=(Gp hx).1 g (i*4+3) hgl;clear hx r3;go_simp;go_wp2_with fail;go_ret;exact⟨rfl,A,G,c,HX⟩):P:=h
theorem amu(h:P:=by
 rw [←hW] at e1 e2 e3;have HN:=hide e1;have HR:=hide e2;have HB0:=hide e3;have Fz:=hide (jY.kc (k:=9) (KC.of_below e3) (by omega));clear hW e1 e2 e3 jY hbw0;obtain⟨c0,c1,c2,c3,c4,c5,c6,c7,c8⟩:=nine HN;have hnl:=aA HN;go_wp2_with fail;refine(CP W0 Fz.at.p).mono ?_;open ald in exact YI):P:=h
theorem ags.Ka81(h:P:=by
 have HI:=hide (And.intro hi (And.intro hz0 (And.intro hz1 hz2)));clear hi hz0 hz1 hz2;obtain⟨c0,c1,c2,c3,c4,c5,c6,c7,c8⟩:=nine jg;have hnl:=aA jg;have hrl:=aA oH;go_wp2_with fail;rw [wU];go_upto_region 6 with fail;go_wp2_with fail;refine(HPT W1 sW.at.p).mono ?_;rintro e W2 ⟨v,rfl,hne,hrow,hb2⟩;obtain⟨av,cv,rfl,_⟩:=GR.own_at (enc:=eG) (sz:=4) aZ hrow;have iQ:=hide (aj jg hb2);have iI:=hide (aj oH hb2);have HB2:=hide (HB1.trans (hb2.mono HB1.size));have MQ:=hide (sW.kc (k:=9) (KC.of_below hb2) (by omega));have xK:=hide hrow;have hbs:w.heap.size+1 < W1.heap.size:=hrl;generalize W1.heap.size=bs at *;clear hb2 hne hrow c0 c1 c2 c3 c4 c5 c6 c7 c8 hnl hrl HPT jg oH HB1 sW;have f4n:=ay iQ 4;have c4n:=(nine iQ).2.2.2.2.1;have hn2:=aA iQ;go_upto_region 7 with fail;refine wp_at (fun Z6 hZ=>?_);have jK:Hid (Z6.heap[w.heap.size]?=some (.cells #[.int .i64 n.id,.int .i64 n.par,.slice a_k n.kids.length aI,.int .i64 n.next,.slice av RL.length cv,.slice dA n.out.length aM,.slice dJ n.seen.length aJ,.int .i64 n.old,.slice fq n.reqs.length aQ] 30 (0,0))):=by rw [hZ];exact lM iQ
 have iJ:Hid (Z6.heap[w.heap.size+1]?=some (.cells iO 30 (0,0))):=by rw [hZ];exact jd iI (by omega)
 have HN6:Hid (NQ Z6 B n (⟨a_k,(some ⟨gp,0,none⟩),dA,dJ,fq,aI,bf,aM,aJ,aQ⟩:bE) G (newC w.heap.size 9 c)):=by rw [hZ];exact MQ.kc (k:=9) (KC.set (aT (Nat.le_refl _))) (by omega)
 have P7:Hid (Z6.ownsRow bs 143 4 (.slice av RL.length cv) RL.length (GR.flat eG RL)):=by rw [hZ];exact cK xK (aC.set _) (fun y hy=>by have:y=w.heap.size:=(by simpa using hy);omega)
 have rW:Hid (Below B w Z6):=by rw [hZ];exact(HB2.mono hB).setCell (p:=⟨w.heap.size,4,none⟩) hB _
 have HK6:Hid (Apart c w Z6):=by rw [hZ];exact(Apart.of_below HB2).keeps HB2.size (aC.set _) (fun y hy=>by have:y=w.heap.size:=(by simpa using hy);omega)
 clear hZ iQ iI MQ xK HB2 f4n c4n hn2;have c3n:=(nine jK).2.2.2.1;exact Ka10):P:=h
theorem agt.Ka81(h:P:=by
 have qB:=hide (aj oH (au W1 (.cells #[] 32)));obtain⟨c0,c1,c2,c3,c4,c5,c6,c7,c8⟩:=nine jg;open adM in exact Ni):P:=h
theorem amv(h:P:=by
 go_simp;have wL:=hide (HG0.trans (hx1.mono HG0.size));have RV:qc.heap.size≤x1.heap.size:=wL.size;clear hx1;refine⟨(au x1 _).mono RV,?_⟩;exact Ka82):P:=h
theorem agu.Ka82(h:P:=by
 have uX:=au x1 (.cells #[.int .i64 mI] 3);have UN:=hide (heap_alloc_new x1 (.cells #[.int .i64 mI] 3));have uI:=hide (wL.trans (uX.mono wL.size));clear uX;generalize He:x1.alloc (.cells #[.int .i64 mI] 3)=y1 at *;clear He;refine gL 0 rfl (by kernel_rfl) (by rfl) (by decide) (fun x2 hx2=>?_);go_simp;have qC:=hide (uI.trans (hx2.mono uI.size));have qH:qc.heap.size≤x2.heap.size:=qC.size;have aaA:=hide (aj UN hx2);clear hx2;refine⟨(au x2 _).mono qH,?_⟩;have Bf:=au x2 (.cells #[] 3);have Ba:=hide (show(x2.alloc (.cells #[] 3)).ownsRow qc.heap.size 3 1 (.slice (some ⟨x2.heap.size,0,none⟩) 0 0) 0 (GR.flat aR []) from World.ownsRow_lit (base:=qc.heap.size) (e:=3) (size:=1) x2 #[] 0 qH (by unfold maxLen;omega) (by simp));open ai1 in exact XK):P:=h
theorem agv.Ka82(h:P:=by
 have uX:=au x1 (.cells #[] 3);have U9:=hide (show(x1.alloc (.cells #[] 3)).ownsRow qc.heap.size 3 1 (.slice (some ⟨x1.heap.size,0,none⟩) 0 0) 0 (GR.flat aR []) from World.ownsRow_lit (base:=qc.heap.size) (e:=3) (size:=1) x1 #[] 0 RV (by unfold maxLen;omega) (by simp));have uI:=hide (wL.trans (uX.mono wL.size));clear uX;generalize He:x1.alloc (.cells #[] 3)=y1 at *;clear He;refine jB 4 7 rfl rfl (by kernel_rfl) (by rfl) (by rfl) (by decide) (by decide) (fun x2 hx2=>?_) (fun x2 hx2=>?_)
 ·have qC:=hide (uI.trans (hx2.mono uI.size));have qH:qc.heap.size≤x2.heap.size:=qC.size;have AZ:=hide (GR.own_below U9 hx2);clear hx2;obtain⟨v2,y2,NJ,NI,NC,an4⟩:=dX aN (by omega) x2 qc.heap.size 24 24 3 i0 (.int .i64 0) 8 Tryz.underlying24 hi0 hz0 hz1' hz2 rfl (.slice (some ⟨x1.heap.size,0,none⟩) 0 0) 0 (GR.flat aR ([])) AZ (some ⟨gi,0,none⟩) ((aW s0 mL).take pos) Gu (GR.At.below AY qC) (nC _) (by unfold maxLen;omega) (by omega) qH;rw [hlt1] at NJ NI;refine Lib.wp_append_run x2 (.tmp 127) (.tmp 130) 24 24 rfl _ _ (by simp[Act.eval]) (by simp[Act.eval]) v2 y2 NJ ?_;refine⟨(Below.refl _ _).grown NC qH (fun b hb=>(AZ.lt b hb).1),?_⟩;go_simp;have DR:=hide (qC.grown NC qH (fun b hb=>(AZ.lt b hb).1));have Ba:Hid (y2.ownsRow qc.heap.size 3 1 v2 (pos) (GR.flat aR ((aW s0 mL).take pos))):=hide (by simpa [GR.flat_nil] using NI);obtain⟨avR,cvR,RI,_⟩:=GR.own_at (enc:=aR) (sz:=1) (l:=(aW s0 mL).take pos) aN (by rw [hlt1];exact Ba);open akZ in exact Yz
 ·go_simp;have qC:=hide (uI.trans (hx2.mono uI.size));have qH:qc.heap.size≤x2.heap.size:=qC.size;have AZ:=hide (GR.own_below U9 hx2);clear hx2;refine⟨(au x2 _).mono qH,?_⟩;have Bf:=au x2 (.cells #[.int .i64 mI] 3);have P9:=hide (heap_alloc_new x2 (.cells #[.int .i64 mI] 3));open agB in exact aaO):P:=h
theorem amw(h:P:=by
 have hTi:∀j,j < 3→∃u,wc.cell? ⟨G.s,i*3+j,none⟩=some u∧wc.frozen? ⟨G.s,i*3+j,none⟩=false:=fun j hj=>⟨_,(hcT j hj).1.trans (List.getElem?_eq_getElem (by rw [bC];exact hj)),(hcT j hj).2⟩
 obtain⟨v0,y0,x0⟩:=hTi 0 (by omega);obtain⟨v1,y1,x1⟩:=hTi 1 (by omega);obtain⟨v2,y2,x2⟩:=hTi 2 (by omega);rw [Nat.add_zero] at y0 x0;exact Ka83):P:=h
theorem agw.Ka83(h:P:=by
 clear hTi hcT hrT hT hlT T an0 Ef hown2 WL P5 WV Qf Wl Ld WJ Wn Wz UK;have arp:G.s < wc.heap.size:=by omega
 obtain⟨c0,c1,c2,c3,c4,c5,c6,c7,c8⟩:=nine Lh;obtain⟨s40,s41,s42⟩:=xI Qg;have hnl:=aA Lh;have an2:=aA Qg;have anE:Hid ((jG (aW s0 mL) mI).length=(aW s0 mL).length+1):=Rn;clear Rn;go_upto_region 27 with fail;refine wp_at (fun W12 abl=>?_)
 have acE:Hid (NQ W12 B (bY (bY n (n.seen.set i ⟨mF,dU s0 mL,aW s0 mL⟩)) ((n.seen.set i ⟨mF,dU s0 mL,aW s0 mL⟩).set i ⟨mF,dU s0 mL,jG (aW s0 mL) mI⟩)) (⟨a_k,(some ⟨gp,0,none⟩),dA,(some ⟨G.s,0,none⟩),fq,aI,bf,aM,aJ,aQ⟩:bE) ⟨G.k,G.p,G.o,G.s,G.r,ow (ow G.i i gi) i g2⟩ (qw g2 (jG (aW s0 mL) mI) (qw gi (aW s0 mL) (newC w.heap.size 9 c)))):=by
  rw [abl,←ah anE];exact HNP
 have J5:aC [G.s] wc W12:=by
  rw [abl];exact aL [.int .i64 mF,.int .i64 (dU s0 mL),.slice (some ⟨g2,0,none⟩) ((aW s0 mL).length+1) cq2] wc (i*3)
 have WQ:=hide (J5.obj Lh (fun hx=>by simp at hx;omega));have mZ:=hide (J5.obj WW (fun hx=>by simp at hx;omega));have ab9:=hide (J5.obj Wm (fun hx=>by simp at hx;omega));have acf:=hide (Wo.trans (J5.below (B:=B) (fun x hx=>by simp at hx;omega) (by omega)));have acw:=hide (Apart.keeps (c:=c) WB (by omega) J5 (fun x hx=>by have:x=G.s:=(by simpa using hx);rw [this];right;omega));have aol:=hide (acG.keeps J5 (fun x hx=>by simp at hx;omega));have aof:Hid (∀x,x < w.heap.size→6 < c x→qw g2 (jG (aW s0 mL) mI) (qw gi (aW s0 mL) (newC w.heap.size 9 c)) x=9):=fun x hx h=>by rw [qG (fun hm=>by have:=(gD hm).1;omega)];exact HCO x hx h
 have aco:Hid (∀x,w.heap.size≤x→x≠gi→x≠g2→qw g2 (jG (aW s0 mL) mI) (qw gi (aW s0 mL) (newC w.heap.size 9 c)) x=9):=fun x hx h h'=>by rw [qG (fun hm=>h' (gD hm).1)];exact yK x hx h
 clear abl J5 HNP y0 y1 y2 x0 x1 x2 s40 s41 s42 c0 c1 c2 c3 c4 c5 c6 c7 c8 hnl an2 Lh WW Wm Wo WB acG Qg P6 HW2;obtain⟨c0,c1,c2,c3,c4,c5,c6,c7,c8⟩:=nine WQ;obtain⟨d0,d1,d2,d3,d4,d5,d6,d7,d8⟩:=nine mZ;have f0:=ay mZ 0;have f1:=ay mZ 1;have f2:=ay mZ 2;have f3:=ay mZ 3;have f4:=ay mZ 4;have f5:=ay mZ 5;have f6:=ay mZ 6;have f7:=ay mZ 7;have f8:=ay mZ 8;have hnl:=aA WQ;have hrl:=aA mZ;go_wp2_with fail;refine aO (fun W' hW'=>?_)
 have e4:W'.heap[w.heap.size+2]?=some (.cells #[.int .i64 n.id,.int .i64 n.par,.slice a_k n.kids.length aI,.int .i64 n.next,.slice av RL.length cv,.slice dA n.out.length aM,.slice (some ⟨G.s,0,none⟩) n.seen.length aJ,.int .i64 n.old,.slice fq n.reqs.length aQ] 30 (0,0)):=by
  rw [hW'];exact GR.setW_blk [.int .i64 n.id,.int .i64 n.par,.slice a_k n.kids.length aI,.int .i64 n.next,.slice av RL.length cv,.slice dA n.out.length aM,.slice (some ⟨G.s,0,none⟩) n.seen.length aJ,.int .i64 n.old,.slice fq n.reqs.length aQ] (o:=0) (xs:=[.int .i64 0,.int .i64 0,.slice none 0 0,.int .i64 0,.slice none 0 0,.slice none 0 0,.slice none 0 0,.int .i64 0,.slice none 0 0]) mZ
 have eU:aC [w.heap.size+2] W12 W':=by
  rw [hW'];exact aL [.int .i64 n.id,.int .i64 n.par,.slice a_k n.kids.length aI,.int .i64 n.next,.slice av RL.length cv,.slice dA n.out.length aM,.slice (some ⟨G.s,0,none⟩) n.seen.length aJ,.int .i64 n.old,.slice fq n.reqs.length aQ] W12 0
 have RA:w.heap.size+2≠gi:=by omega
 have MV:=hide (acE.kc (k:=9) (KC.keeps eU (fun x hx=>by have:x=w.heap.size+2:=(by simpa using hx);rw [this];exact aco _ (by omega) RA (by omega))) (by omega))
 have HAT:Hid (∀W'',Out c w W' W''→RM W'' (⟨a_k,av,dA,(some ⟨G.s,0,none⟩),fq,aI,cv,aM,aJ,aQ⟩:bE) (bY (setPu n RL) (n.seen.set i ⟨mF,dU s0 mL,jG (aW s0 mL) mI⟩))):=fun W'' ho=>by
  obtain⟨F,hk,hF⟩:=ho
  have hold:=(MV.kc (k:=9) (KC.keeps hk (fun x hx=>aof x (hF x hx).1 (hF x hx).2)) (by omega))
  have ho:Out c w W' W'':=⟨F,hk,hF⟩
  have hc9:∀g,av.map (fun y=>y.block)=some g→0 < RL.length→qw g2 (jG (aW s0 mL) mI) (qw gi (aW s0 mL) (newC w.heap.size 9 c)) g=9:=fun g hg hp=>by
   have h1:=ah FX g hg hp
   exact aco g (by omega) (by omega) (by omega)
  refine NQ.put hold hold (bY (setPu n RL) (n.seen.set i ⟨mF,dU s0 mL,jG (aW s0 mL) mI⟩)) (⟨a_k,av,dA,(some ⟨G.s,0,none⟩),fq,aI,cv,aM,aJ,aQ⟩:bE) rfl (by simp only[bY,List.set_set]) rfl rfl ((aol.keeps eU (fun x hx=>by simp at hx;omega)).out (by omega) ho) (fun g hg hp=> .inr (by have h3:=hc9 g hg hp;omega)) hold.o (fun y hy=> .inl (hold.co y hy)) hold.r (fun y hy=> .inl (hold.cr y hy)) (fun g hg hp _=>⟨fun e=>?_,fun e=>?_⟩) (fun x hx h6=>by have:=hold.co x hx;omega)
  ·have h1:=hold.co g e;have h2:=hc9 g hg hp;omega
  ·have h1:=hold.cr g e;have h2:=hc9 g hg hp;omega
 have AP:Hid (∀W'',Out c w W' W''→GR.At gX 7 W'' (some ⟨ab,0,none⟩) [⟨2,n.id,mF,mI,0,ByteArray.empty,0⟩]):=fun W'' ho j hj=>JM (eU.obj ab9 (fun hm=>by simp at hm;omega)) ho (by omega) j hj
 have jW:Hid (Below B w W'):=acf.trans (eU.below (fun x hx=>by have:x=w.heap.size+2:=(by simpa using hx);omega) (by have h1:=aA mZ;omega));have oJ:=hide (Apart.keeps (c:=c) acw (by have h1:=aA mZ;omega) eU (fun x hx=>by have:x=w.heap.size+2:=(by simpa using hx);omega));obtain⟨x0,x1,x2,x3,x4,x5,x6,x7,x8⟩:=nine e4;clear hW' e4 eU
 first
  |exact bodyPost_ret (v:= .tuple #[.agg #[.int .i64 n.id,.int .i64 n.par,.slice a_k n.kids.length aI,.int .i64 n.next,.slice av RL.length cv,.slice dA n.out.length aM,.slice (some ⟨G.s,0,none⟩) n.seen.length aJ,.int .i64 n.old,.slice fq n.reqs.length aQ],.slice (some ⟨ab,0,none⟩) 1 1,.int .i64 0]) (by simp[results,Tryz.results119,go_sem,x0,x1,x2,x3,x4,x5,x6,x7,x8]) rfl ⟨(⟨a_k,av,dA,(some ⟨G.s,0,none⟩),fq,aI,cv,aM,aJ,aQ⟩:bE),(some ⟨ab,0,none⟩),⟨1,by simp[gu,fZ,bY,setPu]⟩,HAT,AP,jW,oJ⟩
  |exact bodyPost_ret (v:= .tuple #[.agg #[.int .i64 n.id,.int .i64 n.par,.slice a_k n.kids.length aI,.int .i64 n.next,.slice av RL.length cv,.slice dA n.out.length aM,.slice (some ⟨G.s,0,none⟩) n.seen.length aJ,.int .i64 n.old,.slice fq n.reqs.length aQ],.slice (some ⟨ab,0,none⟩) 1 1,.int .i64 0]) (by simp[results,Tryz.results119,go_sem,x0,x1,x2,x3,x4,x5,x6,x7,x8]) rfl ⟨(⟨a_k,av,dA,(some ⟨G.s,0,none⟩),fq,aI,cv,aM,aJ,aQ⟩:bE),(some ⟨ab,0,none⟩),1,by simp[gu,fZ,bY,setPu],HAT,AP,jW,oJ⟩):P:=h
theorem agx.Ka83(h:P:=by
 clear hTi hcT hrT hT hlT T uZ hb4 aat jC MO jD HB3 acD acP UU;have aro:G.s < wc.heap.size:=by omega
 obtain⟨c0,c1,c2,c3,c4,c5,c6,c7,c8⟩:=nine wN;obtain⟨s40,s41,s42⟩:=xI Qh;have sf:=ay Qh 2;have hnl:=aA wN;have hne1:sb≠G.s:=by omega
 have hne2:G.s≠sb:=by omega
 go_upto_region 15 with fail;refine wp_at (fun W6 Pp=>?_);exact Ka12):P:=h
theorem aaN(h:P:=by
 refine wp_at (fun W0 hW0=>?_);have HB0:Hid (W0.heap[w.heap.size]?=some (.cells (fZ ⟨id,par,kids,next,pu,out,seen,old,reqs⟩ ⟨ak,ap,ao,as',ar,ck,cp,co,cs,cr⟩) 30 (0,0))):=by rw [hW0];exact jy
 have FN:Hid (Below w.heap.size w W0):=by rw [hW0];exact au w _
 clear hW0 jy;exact Ka84):P:=h
theorem agy.Ka84(h:P:=by
 obtain⟨c0,c1,c2,c3,c4,c5,c6,c7,c8⟩:=nine HB0;open aku in exact Yn):P:=h
theorem agz.Ka84(h:P:=by
 obtain⟨bb,hbb⟩:∃bb,(!(PL&&PS&&TD&&eD next&&decide (out.length≤40)&&mW old&&decide (reqs.length≤30)))=bb:=⟨_,rfl⟩;have dY:=hide hbb;clear hbb;obtain⟨c0,c1,c2,c3,c4,c5,c6,c7,c8⟩:=nine HB0;go_cut [44] (fun r wx=>r= .bool bb∧wx.heap[w.heap.size]?=some (.cells (fZ ⟨id,par,kids,next,pu,out,seen,old,reqs⟩ ⟨ak,ap,ao,as',ar,ck,cp,co,cs,cr⟩) 30 (0,0))∧Below w.heap.size w wx)
 case first=>
  open akt in exact Yn
 case rest=>
  obtain⟨rfl,hblk,hbel⟩:=hcut;have HB1:=hide hblk;have PU:=hide hbel;clear hblk hbel c0 c1 c2 c3 c4 c5 c6 c7 c8 FX HPU HTO HB0 FN;cases hbv:bb
  case' true=>
   have HP:Hid (TT=false):=by
    have h:=ah dY;rw [hbv] at h;rw [ah HD];generalize (PL&&PS&&TD&&eD next&&decide (out.length≤40)&&mW old&&decide (reqs.length≤30))=X at *;cases X
    ·rfl
    ·cases h
   clear dY HD
   subst hbv
   go_wp2_with fail
   go_ret
   exact⟨aD HP.symm,PU⟩
  have HF:Hid (eD next=true∧mW old=true∧TT=(fT OT (fun s t=>gJ s.i t.i) out&&fT RQ (fun s t=>gJ s.no t.no) reqs)):=by
   have h:=ah dY;rw [hbv] at h;rw [ah HD];cases h4:eD next<;>cases h6:mW old<;>rw [h4,h6] at h
   all_goals first
    |(simp at h;done)
    |skip
   refine⟨rfl,rfl,?_⟩;generalize (PL&&PS&&TD&&true&&decide (out.length≤40)&&true&&decide (reqs.length≤30))=X at *;cases X
   ·cases h
   ·rfl
  clear dY HD;subst hbv;obtain⟨hn1,ho1,hTT⟩:=ah HF;have HTT:=hide hTT;have hn2:1≤next∧next≤1000000000:=of_decide_eq_true hn1;have ho2:0≤old∧old≤1000000000:=of_decide_eq_true ho1;obtain⟨hn3,hn4⟩:=hn2;obtain⟨ho3,ho4⟩:=ho2;clear hn1 ho1 hTT HF;have rX:=hide (fun k h=>lQ OT (fun s t=>gJ s.i t.i) out k h);have yg:=hide (nS OT (fun s t=>gJ s.i t.i) out);have yK:=hide (qE OT (fun s t=>gJ s.i t.i) out);have HDB:=hide (fun k h=>lQ RQ (fun s t=>gJ s.no t.no) reqs k h);have HDF:=hide (nS RQ (fun s t=>gJ s.no t.no) reqs);have HDN:=hide (qE RQ (fun s t=>gJ s.no t.no) reqs);generalize (fun s t:jm=>gJ s.i t.i)=RO at *;generalize (fun s t:Rq=>gJ s.no t.no)=RR at *;go_wp2_with fail;go_loopw [3] (fun i wr=>∃k:Nat,k≤out.length∧i= .int .i64 k∧fT OT RO (out.take k)=true∧wr.heap[w.heap.size]?=some (.cells (fZ ⟨id,par,kids,next,pu,out,seen,old,reqs⟩ ⟨ak,ap,ao,as',ar,ck,cp,co,cs,cr⟩) 30 (0,0))∧Below w.heap.size w wr) (fun i _=>out.length - (intOf i).toNat)
  case atStart=>exact⟨0,Nat.zero_le _,rfl,rfl,HB1,PU⟩
  case round=>
   open ahM in exact LH):P:=h
theorem agA.Ka84(h:P:=by
 obtain⟨al,hal⟩:∃al:Int,(kids.length:Int)+(if 0≤par then 1 else 0)=al:=⟨_,rfl⟩;rw [hal] at HD;go_cut [3] (fun r wx=>r= .int .i64 al∧wx=W0)
 case first=>
  by_cases hp:0≤par
  ·rw [if_pos hp] at hal;have HAL:=hide hal;clear hal;go_wp2_with fail;go_meet
   case rel=>exact⟨by rw [←ah HAL],rfl⟩
  ·rw [if_neg hp] at hal;have HAL:=hide hal;clear hal;go_wp2_with fail;go_meet
   case rel=>exact⟨by rw [←ah HAL,Int.add_zero],rfl⟩
 case rest=>
  obtain⟨rfl,rfl⟩:=hcut;clear hal;obtain⟨c0,c1,c2,c3,c4,c5,c6,_⟩:=nine HB0;by_cases hlen:(seen.length:Int)=al
  case' neg=>
   have hbn:((seen.length:Int) != al)=true:=by simpa using hlen
   have HP:Hid (TT=false):=by rw [ah HD,decide_eq_false hlen];rfl
   clear hlen HD rX yg yK Js HPP HRR
   go_wp2_with fail
   go_ret
   exact⟨aD HP.symm,FN⟩
  have hbn:((seen.length:Int) != al)=false:=by simpa using hlen
  have ku:Hid (TT=fT PP RR seen):=by rw [ah HD,decide_eq_true hlen];rfl
  clear hlen HD;go_wp2_with fail;go_loopw [4] (fun i wr=>∃k:Nat,k≤seen.length∧i= .int .i64 k∧fT PP RR (seen.take k)=true∧wr.heap[w.heap.size]?=some (.cells (fZ ⟨id,par,kids,next,pu,out,seen,old,reqs⟩ ⟨ak,ap,ao,as',ar,ck,cp,co,cs,cr⟩) 30 (0,0))∧Below w.heap.size w wr) (fun i _=>seen.length - (intOf i).toNat)
  case atStart=>exact⟨0,Nat.zero_le _,rfl,rfl,HB0,FN⟩
  case round=>
   open ahL in exact LH):P:=h
theorem aaO(h:P:=by
 have Ba:=hide (GR.own_below AZ Bf);have DK:=hide (show∀b,((.slice (some ⟨x1.heap.size,0,none⟩) 0 0:Value)).ownBlock=some b→b≠x2.heap.size from fun b hb=>by have:=(AZ.lt b hb).2;omega);have DR:=hide (qC.trans (Bf.mono qC.size));clear Bf;exact Ka85):P:=h
theorem agB.Ka85(h:P:=by
 generalize NY:x2.alloc (.cells #[.int .i64 mI] 3)=y2 at *;open ajf in exact XR):P:=h
theorem agC.Ka85(h:P:=by
 generalize NY:x2.alloc (.cells #[.int .i64 no,.string k,.int .i64 nn,.int .i64 0] 97)=y2 at *;open adF in exact alY):P:=h
theorem agD.Ka85(h:P:=by
 generalize NY:x2.alloc (.cells #[.int .i64 no,.string k,.int .i64 nn,.int .i64 1] 97)=y2 at *;open adG in exact alY):P:=h
theorem aaP(h:P:=by
 (refine tkB abA (fun K hK=>?_);go_simp;first|refine hK _ ?_|(apply Exists.intro;refine⟨fun _=>?_,hK _ ?_⟩;rfl);clear hK K)
 refine jI ?_;refine pX (by kernel_rfl) (fun z hz=>?_);have K9:=hide (MJ.trans (hz.mono MJ.size));have Xc:=hide (GR.own_below Ng hz);exact Ka86):P:=h
theorem agE.Ka86(h:P:=by
 have hsz:qc.heap.size≤z.heap.size:=K9.size;clear hz;have HSz:=hide (show z.heap[sb]?=some (.cells #[.int .i64 mF,.int .i64 (dU s0 mL),.slice (some ⟨gi,0,none⟩) (aW s0 mL).length Gu] 90 (0,0)) by rw [(ah K9).block _ an1];exact Qf);obtain⟨_,_,kc⟩:=xI HSz;have kf:=ay HSz 2;refine aG 14 rfl (by kernel_rfl) (by rfl) ?_;go_simp;refine wpAny_done (by kernel_rfl) ?_;go_simp;go_wp2_with fail;go_meet
 case rel=>
  rcases Xc.2 with⟨_,hn⟩|⟨g,cap,cur,hv,hbg,_⟩
  ·omega
  ·simp only[Value.slice.injEq] at hv;obtain⟨rfl,_,_⟩:=hv;have h2:=ah Xc;rw [show pos+1+((aW s0 mL).length - pos)=(aW s0 mL).length+1 by omega] at h2;refine⟨g,Uc,hbg,?_,?_,(aC.of_below K9).trans (aC.set _)⟩
   ·rw [ah PO];rw [List.append_assoc] at h2;refine SV h2 (aC.set _) (fun x hx hm=>?_);simp[Value.ownBlock] at hx;simp at hm;omega
   ·have h:=bg HSz 2 (.slice (some ⟨g,0,none⟩) (pos+1+((aW s0 mL).length - pos)) Uc);rw [show pos+1+((aW s0 mL).length - pos)=(aW s0 mL).length+1 by omega] at h ⊢;exact h):P:=h
theorem agF.Ka86(h:P:=by
 have hsz:wc.heap.size≤z.heap.size:=K9.size;clear hz;have HNz:Hid (z.heap[w.heap.size]?=some (.cells #[.int .i64 n.id,.int .i64 n.par,.slice a_k n.kids.length aI,.int .i64 n.next,.slice (some ⟨gp,0,none⟩) n.pu.length bf,.slice dA n.out.length aM,.slice dJ n.seen.length aJ,.int .i64 n.old,.slice (some ⟨gr,0,none⟩) n.reqs.length aQ] 30 (0,0))):=by unfold Hid;rw [(ah K9).block _ hnl];exact yu
 have HRz:Hid (z.heap[w.heap.size+2]?=some (.cells iO 30 (0,0))):=by unfold Hid;rw [(ah K9).block _ (aA (ah uM))];exact uM
 have HQz:Hid (z.heap[W1.heap.size]?=some (.cells #[.int .i64 no,.string k,.int .i64 nn,.int .i64 1] 97 (0,0))):=by unfold Hid;rw [(ah K9).block _ GQ];exact M4
 open alv in exact YN):P:=h
theorem agG.Ka86(h:P:=by
 have hsz:wc.heap.size≤z.heap.size:=K9.size;clear hz;have HNz:Hid (z.heap[w.heap.size]?=some (.cells #[.int .i64 n.id,.int .i64 n.par,.slice a_k n.kids.length aI,.int .i64 n.next,.slice av RL.length cv,.slice dA n.out.length aM,.slice dJ n.seen.length aJ,.int .i64 n.old,.slice (some ⟨gr,0,none⟩) n.reqs.length aQ] 30 (0,0))):=by unfold Hid;rw [(ah K9).block _ hnl];exact yu
 have HRz:Hid (z.heap[w.heap.size+2]?=some (.cells iO 30 (0,0))):=by unfold Hid;rw [(ah K9).block _ (aA (ah uM))];exact uM
 have HQz:Hid (z.heap[W1.heap.size]?=some (.cells #[.int .i64 no,.string k,.int .i64 nn,.int .i64 0] 97 (0,0))):=by unfold Hid;rw [(ah K9).block _ GQ];exact M4
 open alu in exact YN):P:=h
theorem aaQ(h:P:=by
 have HW1:=hide (h.step (au w (.cells #[.int .i64 mK,.int .i64 mF,.int .i64 mT,.int .i64 mI,.int .i64 mL,.string mk,.int .i64 mN] 32)));have uL:=hide (heap_alloc_new w (.cells #[.int .i64 mK,.int .i64 mF,.int .i64 mT,.int .i64 mI,.int .i64 mL,.string mk,.int .i64 mN] 32));exact Ka87):P:=h
theorem agH.Ka87(h:P:=by
 have hwl:=aA h.blk;have hne:wb≠w.heap.size:=by omega
 have Ph:=hide (fun p:Regrown=>HW1.no.at.below (below_regrown _ p.d p.os));clear h hp hz;obtain⟨c0,c1,c2,c3,c4,c5,c6,c7,c8,c9⟩:=gY HW1.blk;obtain⟨p0,p1,p2,p3,p4,p5,p6⟩:=iq uL;open ac6 in exact DY):P:=h
theorem agI.Ka87(h:P:=by
 clear h;obtain⟨c0,c1,c2,c3,c4,c5,c6,c7,c8,c9⟩:=gY HW1.blk;have hwl:=aA HW.blk;have hne:wb≠w.heap.size:=by omega
 go_enter Tryz.func170,Tryz.ntmps170
 go_wp2_with fail;refine(Uo w.heap.size _ HW1.no.at.s uL).mono ?_;rintro e w2 ⟨rfl,hb2⟩;have HW2:=hide (HW1.step hb2);have xK:=hide (aj uL hb2);have HJ2:Hid (∀j mm,eZ w j mm→eZ w2 j mm):=fun j mm hj=>aj (aj hj (au w _)) hb2
 clear hb2 HW1 uL Uo c0 c1 c2 c3 c4 c5 c6 c7 c8 c9;obtain⟨c0,c1,c2,c3,c4,c5,c6,c7,c8,c9⟩:=gY HW2.blk;obtain⟨g,off,b,cc,e0,hg,q0,q1,q2,Bh⟩:=HW2.no.at.s i hi;rw [ah HS0] at q0 q1 q2 Bh;have CQ:=hide (setOf s0.f s0.l b cc s0.ids w2 UR.2.2.1 (fun x hx=>by have:=UR.2.2.2.1 x hx;have:=UR.1;omega) Bh);have abB:=aA HW2.blk;have hiI:(i:Int) < (n.seen.length:Int):=by omega
 clear Bh;rw [e0] at c6;go_wp2_with fail;refine CQ.mono ?_;rintro e w3 ⟨sb,mb,rfl,hsb,hmb,hS3,Rm,hb3⟩;have HW3:Hid (mX w0 w3 wb sb mb s0.ids.length n A G (newC w2.heap.size 9 c) v L s0.l s0.ids):=⟨(HW2.recol (c':=newC w2.heap.size 9 c) (fun x hx=>dH hx)).step hb3,hS3,Rm,aT hsb,aT hmb⟩;have Pb:=hide (aj xK hb3);have HJ3:Hid (∀j mm,eZ w j mm→eZ w3 j mm):=fun j mm hj=>aj (HJ2 j mm hj) hb3
 have aqg:w.heap.size≠sb:=by have:=aA xK;omega
 have anD:w.heap.size≠mb:=by have:=aA xK;omega
 clear hS3 Rm hb3 hsb hmb q0 q1 q2 e0 CQ c0 c1 c2 c3 c4 c5 c6 c7 c8 c9;obtain⟨⟨p0,p1,p2,p3,p4,p5,p6⟩,_⟩:=gT Pb;have hpl:=aA Pb;go_wp2_with fail;refine(VN sb mb s0.ids.length s0.l mL (dU s0 mL) s0.ids w3 HMX HW3.bk HW3.si).mono ?_;rintro e w4 ⟨rfl,hS4,hI4,hk4⟩;have rT:=hide (HW3.lift hS4 hI4 hk4);have MZ:=hide (hk4.obj Pb (by simp[aqg,anD]))
 have HJ4:Hid (∀j mm,eZ w j mm→eZ w4 j mm):=fun j mm hj=>hk4.obj (HJ3 j mm hj) (by
  have h1:=Ku (HJ3 j mm hj) HW3.bk
  have h2:=HW3.si.far (HJ3 j mm hj)
  simp[h1,h2])
 clear hS4 hI4 hk4 p0 p1 p2 p3 p4 p5 p6 hpl HJ2 HJ3;obtain⟨⟨p0,p1,p2,p3,p4,p5,p6⟩,_⟩:=gT MZ;have hpl:=aA MZ;go_wp2_with fail;refine(abm sb mb s0.ids.length (dU s0 mL) mI (aW s0 mL) w4 hI0 hI1 rT.bk rT.si).mono ?_;rintro e w5 ⟨rfl,hb5⟩;have T9:=hide (rT.step hb5);have FB:=hide (aj MZ hb5);have HJ5:Hid (∀j mm,eZ w j mm→eZ w5 j mm):=fun j mm hj=>aj (HJ4 j mm hj) hb5
 have hhs:(decide (mI < dU s0 mL)||decide (mI∈aW s0 mL))=nU s0 mL mI:=by
  unfold nU;congr 1
  rw [Bool.eq_iff_iff,decide_eq_true_iff,uW]
 rw [hhs];clear hhs hb5 p0 p1 p2 p3 p4 p5 p6 hpl rT MZ HW3 Pb;cases hq:nU s0 mL mI
 case' true=>
  have HQ:=hide hq
  clear hq
  go_wp2_with fail
  obtain⟨n',A',G',c',kk,l2,CS,Jz,HLEN,HSL,Qi⟩:∃(n':Nd) (A':bE) (G':aU) (c':Nat→Nat) (kk:Nat) (l2:List Int),Hid (mX w0 w5 wb sb mb kk n' A' G' c' v L (dU s0 mL) l2)∧Hid (l2.Pairwise (· < ·))∧Hid (l2.length≤1000)∧Hid (n'.seen.length=n.seen.length)∧Hid (TT=(bY n' (n'.seen.set i ⟨mF,dU s0 mL,l2⟩),true)):=⟨n,A,G,_,_,_,T9,yj.2.2.2.2,Nat.le_trans yj.2.2.1 (by omega),rfl,HTH HQ⟩
  have dY:=hide FB
  have HJW:=hide HJ5
  clear HTH Ph HTN HGS HGF HQ T9 FB HW2 xK
  obtain⟨c0,c1,c2,c3,c4,c5,c6,c7,c8,c9⟩:=gY CS.wk.blk
  have e0:A'.s=some ⟨G'.s,0,none⟩:=by
   exact Vk
  rw [e0,ah HSL] at c6
  obtain⟨⟨p0,p1,p2,p3,p4,p5,p6⟩,_⟩:=gT dY
  have hwl:=aA CS.wk.blk
  have hBl:=aA dY
  go_upto_region 5 with fail
  have y6:=cell_regrown c6
  have z1:=cell_regrown p1
  clear c0 c1 c2 c3 c4 c5 c6 c7 c8 c9 p0 p1 p2 p3 p4 p5 p6
  refine bn 11 (by kernel_rfl) ?_
  show dS _ _ _ _ _ 12 (Array.replicate 12 false) _ _
  refine tk [0,1,2,3,4,5,6,7,8] ?_
  iterate 9 (refine nQ (fun K hK=>?_);go_simp;refine hK _ ?_;clear hK K)
  refine jI ?_
  clear y6 z1
  refine cZ 9 rfl (by kernel_rfl) (by rfl) (fun x hx=>?_)
  go_simp
  have HX:=hide (CS.step hx)
  have HJX:Hid (∀j mm,eZ w j mm→eZ x j mm):=fun j mm hj=>aj (HJW j mm hj) hx
  have CQ:=hide (rQ sb mb kk mF (dU s0 mL) l2 x HLEN Jz HX.bk HX.si)
  clear hx
  refine CQ.mono ?_
  rintro e y ⟨v2,rfl,hrow,hby⟩
  refine⟨hby,?_⟩
  obtain⟨b2,c2,g2,rfl,hW2,hg2,_⟩:=GR.W.of_own (enc:=aR) aN hrow
  have HY:Hid (WK w0 y wb n' A' G' (newC x.heap.size 5 c') v L):=(HX.wk.recol (c':=newC x.heap.size 5 c') (fun z hz=>dH hz)).step hby
  have HI2:=hide hW2
  have HJY:Hid (∀j mm,eZ w j mm→eZ y j mm):=fun j mm hj=>aj (HJX j mm hj) hby
  have JA:Hid (∀z∈fp g2 l2,newC x.heap.size 5 c' z=5∧z∉nM G'.i n'.seen):=fun z hz=>⟨aT (hg2 z hz).1,fun hm=>by
   have h1:=(nI HX.wk.no.s).2 z hm
   have h2:=(hg2 z hz).1
   omega⟩
  clear hrow hby hW2 hg2 CQ HX CS
  refine tk [10] ?_
  (refine nQ (fun K hK=>?_);go_simp;refine hK _ ?_;clear hK K)
  refine jI ?_
  refine aV (by kernel_rfl) (fun x3 hx3=>?_)
  have Pj:=hide (HY.step hx3)
  have HI3:=hide (HI2.below hx3)
  have HJ6:Hid (∀j mm,eZ w j mm→eZ x3 j mm):=fun j mm hj=>aj (HJY j mm hj) hx3
  obtain⟨b0,cc0,_,hg0,⟨q0,q1,q2⟩,⟨f0,f1⟩,_⟩:=eO.three Pj.no.s i (by rw [ah HSL];exact hi)
  have f2:x3.frozen? ⟨G'.s,i*3+2,none⟩=false:=by
   exact Vj
  have JF:=hide (Pj.seenPut i (by rw [ah HSL];exact hi) ⟨mF,dU s0 mL,l2⟩ b2 c2 g2 HI3 JA)
  have HJF:Hid (∀j mm,eZ w j mm→eZ (GR.setW x3 G'.s (i*3) [.int .i64 mF,.int .i64 (dU s0 mL),.slice b2 l2.length c2]) j mm):=fun j mm hj=>by
   have h3:=ah HJ6 j mm hj
   have hne:=nD h3 q2
   unfold eZ
   rw [GR.setW_other hne]
   exact h3
  clear hx3 HY HI2
  refine aG 11 rfl (by kernel_rfl) (by rfl) ?_
  go_simp
  refine wpAny_done (by kernel_rfl) ?_
  go_simp
  clear q0 q1 q2 f0 f1 f2
  go_wp2_with fail
  go_ret
  exact⟨by rw [ah Qi];first|done|rfl,⟨A',_,_,by rw [ah Qi];exact JF⟩,HJF⟩
 have HQ:=hide hq;clear hq;obtain⟨⟨p0,p1,p2,p3,p4,p5,p6⟩,_⟩:=gT FB;have hpl:=aA FB;have hnd:(aW s0 mL).Nodup:=yj.2.2.2.2.imp (fun h=>by omega);have HND:=hide hnd;clear hnd;by_cases hf:(aW s0 mL).length=40
 case' pos=>
  have HF:=hide hf
  clear hf
  go_wp2_with fail
  refine(HGF w5 sb mb _ A G _ _ _ HND HF T9).mono ?_
  rintro e w6 ⟨rfl,hb6⟩
  have dY:=hide (aj FB hb6)
  have HJW:Hid (∀j mm,eZ w j mm→eZ w6 j mm):=fun j mm hj=>aj (HJ5 j mm hj) hb6
  have je:Hid (jN n s0 ⟨mK,mF,mT,mI,mL,mk,mN⟩=false):=by
   show jN n s0 ⟨mK,mF,mT,mI,mL,mk,mN⟩=false
   unfold jN;rw [decide_eq_false (by have:=ah HF;dsimp only;omega),Bool.and_false]
  go_wp2_with fail
  obtain⟨n',A',G',c',kk,l2,CS,Jz,HLEN,HSL,Qi⟩:∃(n':Nd) (A':bE) (G':aU) (c':Nat→Nat) (kk:Nat) (l2:List Int),Hid (mX w0 w6 wb sb mb kk n' A' G' c' v L (dU s0 mL) l2)∧Hid (l2.Pairwise (· < ·))∧Hid (l2.length≤1000)∧Hid (n'.seen.length=n.seen.length)∧Hid (TT=(bY n' (n'.seen.set i ⟨mF,dU s0 mL,l2⟩),false)):=⟨n,A,G,_,_,_,T9.step hb6,yj.2.2.2.2,Nat.le_trans yj.2.2.1 (by omega),rfl,HTN HQ je⟩
  clear hb6 HTH Ph HTN HGS HGF HQ T9 FB HW2 xK je HF HND p0 p1 p2 p3 p4 p5 p6 hpl
  obtain⟨c0,c1,c2,c3,c4,c5,c6,c7,c8,c9⟩:=gY CS.wk.blk
  have e0:A'.s=some ⟨G'.s,0,none⟩:=by
   exact Vk
  rw [e0,ah HSL] at c6
  obtain⟨⟨p0,p1,p2,p3,p4,p5,p6⟩,_⟩:=gT dY
  have hwl:=aA CS.wk.blk
  have hBl:=aA dY
  go_upto_region 5 with fail
  have y6:=cell_regrown c6
  have z1:=cell_regrown p1
  clear c0 c1 c2 c3 c4 c5 c6 c7 c8 c9 p0 p1 p2 p3 p4 p5 p6
  refine bn 11 (by kernel_rfl) ?_
  show dS _ _ _ _ _ 12 (Array.replicate 12 false) _ _
  refine tk [0,1,2,3,4,5,6,7,8] ?_
  iterate 9 (refine nQ (fun K hK=>?_);go_simp;refine hK _ ?_;clear hK K)
  refine jI ?_
  clear y6 z1
  refine cZ 9 rfl (by kernel_rfl) (by rfl) (fun x hx=>?_)
  go_simp
  have HX:=hide (CS.step hx)
  have HJX:Hid (∀j mm,eZ w j mm→eZ x j mm):=fun j mm hj=>aj (HJW j mm hj) hx
  have CQ:=hide (rQ sb mb kk mF (dU s0 mL) l2 x HLEN Jz HX.bk HX.si)
  clear hx
  refine CQ.mono ?_
  rintro e y ⟨v2,rfl,hrow,hby⟩
  refine⟨hby,?_⟩
  obtain⟨b2,c2,g2,rfl,hW2,hg2,_⟩:=GR.W.of_own (enc:=aR) aN hrow
  have HY:Hid (WK w0 y wb n' A' G' (newC x.heap.size 5 c') v L):=(HX.wk.recol (c':=newC x.heap.size 5 c') (fun z hz=>dH hz)).step hby
  have HI2:=hide hW2
  have HJY:Hid (∀j mm,eZ w j mm→eZ y j mm):=fun j mm hj=>aj (HJX j mm hj) hby
  have JA:Hid (∀z∈fp g2 l2,newC x.heap.size 5 c' z=5∧z∉nM G'.i n'.seen):=fun z hz=>⟨aT (hg2 z hz).1,fun hm=>by
   have h1:=(nI HX.wk.no.s).2 z hm
   have h2:=(hg2 z hz).1
   omega⟩
  clear hrow hby hW2 hg2 CQ HX CS
  refine tk [10] ?_
  (refine nQ (fun K hK=>?_);go_simp;refine hK _ ?_;clear hK K)
  refine jI ?_
  refine aV (by kernel_rfl) (fun x3 hx3=>?_)
  have Pj:=hide (HY.step hx3)
  have HI3:=hide (HI2.below hx3)
  have HJ6:Hid (∀j mm,eZ w j mm→eZ x3 j mm):=fun j mm hj=>aj (HJY j mm hj) hx3
  obtain⟨b0,cc0,_,hg0,⟨q0,q1,q2⟩,⟨f0,f1⟩,_⟩:=eO.three Pj.no.s i (by rw [ah HSL];exact hi)
  have f2:x3.frozen? ⟨G'.s,i*3+2,none⟩=false:=by
   exact Vj
  have JF:=hide (Pj.seenPut i (by rw [ah HSL];exact hi) ⟨mF,dU s0 mL,l2⟩ b2 c2 g2 HI3 JA)
  have HJF:Hid (∀j mm,eZ w j mm→eZ (GR.setW x3 G'.s (i*3) [.int .i64 mF,.int .i64 (dU s0 mL),.slice b2 l2.length c2]) j mm):=fun j mm hj=>by
   have h3:=ah HJ6 j mm hj
   have hne:=nD h3 q2
   unfold eZ
   rw [GR.setW_other hne]
   exact h3
  clear hx3 HY HI2
  refine aG 11 rfl (by kernel_rfl) (by rfl) ?_
  go_simp
  refine wpAny_done (by kernel_rfl) ?_
  go_simp
  clear q0 q1 q2 f0 f1 f2
  go_wp2_with fail
  go_ret
  exact⟨by rw [ah Qi];first|done|rfl,⟨A',_,_,by rw [ah Qi];exact JF⟩,HJF⟩
 have HF:Hid ((aW s0 mL).length < 40):=by
  have:=yj.2.2.1;show(aW s0 mL).length < 40
  omega
 clear hf;go_wp2_with fail;refine(HGS w5 sb mb _ A G _ _ _ (by have:=UR.2.2.1;omega) HND HF T9).mono ?_;rintro e w6 ⟨rfl,⟨A1,G1,c1,Pp⟩,ND⟩;have dY:=hide (ND w.heap.size _ (by omega) anD FB);have HJW:Hid (∀j mm,eZ w j mm→eZ w6 j mm):=fun j mm hj=>ND j _ (Om (HJ5 j mm hj) T9.wk.blk) (T9.si.far (HJ5 j mm hj)) (HJ5 j mm hj)
 have LA:=hide Pp;clear Pp ND p0 p1 p2 p3 p4 p5 p6 hpl HGS HGF;cases hr:(bV n.pu mk 0 1 0 mN).2
 case' false=>
  have je:Hid (jN n s0 ⟨mK,mF,mT,mI,mL,mk,mN⟩=false):=by
   show jN n s0 ⟨mK,mF,mT,mI,mL,mk,mN⟩=false
   unfold jN;rw [hr,Bool.false_and]
  rw [hr] at LA
  clear hr
  go_wp2_with fail
  obtain⟨n',A',G',c',kk,l2,CS,Jz,HLEN,HSL,Qi⟩:∃(n':Nd) (A':bE) (G':aU) (c':Nat→Nat) (kk:Nat) (l2:List Int),Hid (mX w0 w6 wb sb mb kk n' A' G' c' v L (dU s0 mL) l2)∧Hid (l2.Pairwise (· < ·))∧Hid (l2.length≤1000)∧Hid (n'.seen.length=n.seen.length)∧Hid (TT=(bY n' (n'.seen.set i ⟨mF,dU s0 mL,l2⟩),false)):=⟨n,A1,G1,c1,_,_,LA,yj.2.2.2.2,Nat.le_trans yj.2.2.1 (by omega),rfl,HTN HQ je⟩
  clear HTH Ph HTN HQ T9 FB HW2 xK je HF HND LA
  obtain⟨c0,c1,c2,c3,c4,c5,c6,c7,c8,c9⟩:=gY CS.wk.blk
  have e0:A'.s=some ⟨G'.s,0,none⟩:=by
   exact Vk
  rw [e0,ah HSL] at c6
  obtain⟨⟨p0,p1,p2,p3,p4,p5,p6⟩,_⟩:=gT dY
  have hwl:=aA CS.wk.blk
  have hBl:=aA dY
  go_upto_region 5 with fail
  have y6:=cell_regrown c6
  have z1:=cell_regrown p1
  clear c0 c1 c2 c3 c4 c5 c6 c7 c8 c9 p0 p1 p2 p3 p4 p5 p6
  refine bn 11 (by kernel_rfl) ?_
  show dS _ _ _ _ _ 12 (Array.replicate 12 false) _ _
  refine tk [0,1,2,3,4,5,6,7,8] ?_
  iterate 9 (refine nQ (fun K hK=>?_);go_simp;refine hK _ ?_;clear hK K)
  refine jI ?_
  clear y6 z1
  refine cZ 9 rfl (by kernel_rfl) (by rfl) (fun x hx=>?_)
  go_simp
  have HX:=hide (CS.step hx)
  have HJX:Hid (∀j mm,eZ w j mm→eZ x j mm):=fun j mm hj=>aj (HJW j mm hj) hx
  have CQ:=hide (rQ sb mb kk mF (dU s0 mL) l2 x HLEN Jz HX.bk HX.si)
  clear hx
  refine CQ.mono ?_
  rintro e y ⟨v2,rfl,hrow,hby⟩
  refine⟨hby,?_⟩
  obtain⟨b2,c2,g2,rfl,hW2,hg2,_⟩:=GR.W.of_own (enc:=aR) aN hrow
  have HY:Hid (WK w0 y wb n' A' G' (newC x.heap.size 5 c') v L):=(HX.wk.recol (c':=newC x.heap.size 5 c') (fun z hz=>dH hz)).step hby
  have HI2:=hide hW2
  have HJY:Hid (∀j mm,eZ w j mm→eZ y j mm):=fun j mm hj=>aj (HJX j mm hj) hby
  have JA:Hid (∀z∈fp g2 l2,newC x.heap.size 5 c' z=5∧z∉nM G'.i n'.seen):=fun z hz=>⟨aT (hg2 z hz).1,fun hm=>by
   have h1:=(nI HX.wk.no.s).2 z hm
   have h2:=(hg2 z hz).1
   omega⟩
  clear hrow hby hW2 hg2 CQ HX CS
  refine tk [10] ?_
  (refine nQ (fun K hK=>?_);go_simp;refine hK _ ?_;clear hK K)
  refine jI ?_
  refine aV (by kernel_rfl) (fun x3 hx3=>?_)
  have Pj:=hide (HY.step hx3)
  have HI3:=hide (HI2.below hx3)
  have HJ6:Hid (∀j mm,eZ w j mm→eZ x3 j mm):=fun j mm hj=>aj (HJY j mm hj) hx3
  obtain⟨b0,cc0,_,hg0,⟨q0,q1,q2⟩,⟨f0,f1⟩,_⟩:=eO.three Pj.no.s i (by rw [ah HSL];exact hi)
  have f2:x3.frozen? ⟨G'.s,i*3+2,none⟩=false:=by
   exact Vj
  have JF:=hide (Pj.seenPut i (by rw [ah HSL];exact hi) ⟨mF,dU s0 mL,l2⟩ b2 c2 g2 HI3 JA)
  have HJF:Hid (∀j mm,eZ w j mm→eZ (GR.setW x3 G'.s (i*3) [.int .i64 mF,.int .i64 (dU s0 mL),.slice b2 l2.length c2]) j mm):=fun j mm hj=>by
   have h3:=ah HJ6 j mm hj
   have hne:=nD h3 q2
   unfold eZ
   rw [GR.setW_other hne]
   exact h3
  clear hx3 HY HI2
  refine aG 11 rfl (by kernel_rfl) (by rfl) ?_
  go_simp
  refine wpAny_done (by kernel_rfl) ?_
  go_simp
  clear q0 q1 q2 f0 f1 f2
  go_wp2_with fail
  go_ret
  exact⟨by rw [ah Qi];first|done|rfl,⟨A',_,_,by rw [ah Qi];exact JF⟩,HJF⟩
 have je:Hid (jN n s0 ⟨mK,mF,mT,mI,mL,mk,mN⟩=true):=by
  show jN n s0 ⟨mK,mF,mT,mI,mL,mk,mN⟩=true
  unfold jN;rw [hr,decide_eq_true (ah HF),Bool.true_and]
 rw [hr] at LA;clear hr;have HNI:=hide (Md HQ).2;go_wp2_with fail
 obtain⟨n',A',G',c',kk,l2,CS,Jz,HLEN,HSL,Qi⟩:∃(n':Nd) (A':bE) (G':aU) (c':Nat→Nat) (kk:Nat) (l2:List Int),Hid (mX w0 w6 wb sb mb kk n' A' G' c' v L (dU s0 mL) l2)∧Hid (l2.Pairwise (· < ·))∧Hid (l2.length≤1000)∧Hid (n'.seen.length=n.seen.length)∧Hid (TT=(bY n' (n'.seen.set i ⟨mF,dU s0 mL,l2⟩),true)):=⟨setPu n (bV n.pu mk 0 1 0 mN).1,A1,G1,c1,_,jG (aW s0 mL) mI,⟨LA.wk,LA.bk,LA.si.same (fun x=>by rw [Hy];exact List.mem_cons),LA.cs,LA.cm⟩,Hw yj.2.2.2.2 HNI,(by
  show(jG (aW s0 mL) mI).length≤1000
  rw [xR]
  have:=ah HF
  omega),rfl,Ph HQ je⟩
 clear HTH Ph HTN HQ T9 FB HW2 xK je HF HND LA HNI;obtain⟨c0,c1,c2,c3,c4,c5,c6,c7,c8,c9⟩:=gY CS.wk.blk
 have e0:A'.s=some ⟨G'.s,0,none⟩:=by
  exact Vk
 rw [e0,ah HSL] at c6;obtain⟨⟨p0,p1,p2,p3,p4,p5,p6⟩,_⟩:=gT dY;have hwl:=aA CS.wk.blk;have hBl:=aA dY;go_upto_region 5 with fail;have y6:=cell_regrown c6;have z1:=cell_regrown p1;clear c0 c1 c2 c3 c4 c5 c6 c7 c8 c9 p0 p1 p2 p3 p4 p5 p6;refine bn 11 (by kernel_rfl) ?_;show dS _ _ _ _ _ 12 (Array.replicate 12 false) _ _
 refine tk [0,1,2,3,4,5,6,7,8] ?_;iterate 9 (refine nQ (fun K hK=>?_);go_simp;refine hK _ ?_;clear hK K)
 refine jI ?_;clear y6 z1;refine cZ 9 rfl (by kernel_rfl) (by rfl) (fun x hx=>?_);go_simp;have HX:=hide (CS.step hx);have HJX:Hid (∀j mm,eZ w j mm→eZ x j mm):=fun j mm hj=>aj (HJW j mm hj) hx
 have CQ:=hide (rQ sb mb kk mF (dU s0 mL) l2 x HLEN Jz HX.bk HX.si);clear hx;refine CQ.mono ?_;rintro e y ⟨v2,rfl,hrow,hby⟩;refine⟨hby,?_⟩;obtain⟨b2,c2,g2,rfl,hW2,hg2,_⟩:=GR.W.of_own (enc:=aR) aN hrow;have HY:Hid (WK w0 y wb n' A' G' (newC x.heap.size 5 c') v L):=(HX.wk.recol (c':=newC x.heap.size 5 c') (fun z hz=>dH hz)).step hby;have HI2:=hide hW2;have HJY:Hid (∀j mm,eZ w j mm→eZ y j mm):=fun j mm hj=>aj (HJX j mm hj) hby
 have JA:Hid (∀z∈fp g2 l2,newC x.heap.size 5 c' z=5∧z∉nM G'.i n'.seen):=fun z hz=>⟨aT (hg2 z hz).1,fun hm=>by
  have h1:=(nI HX.wk.no.s).2 z hm
  have h2:=(hg2 z hz).1
  omega⟩
 clear hrow hby hW2 hg2 CQ HX CS;refine tk [10] ?_;(refine nQ (fun K hK=>?_);go_simp;refine hK _ ?_;clear hK K)
 refine jI ?_;refine aV (by kernel_rfl) (fun x3 hx3=>?_);have Pj:=hide (HY.step hx3);have HI3:=hide (HI2.below hx3);have HJ6:Hid (∀j mm,eZ w j mm→eZ x3 j mm):=fun j mm hj=>aj (HJY j mm hj) hx3
 obtain⟨b0,cc0,_,hg0,⟨q0,q1,q2⟩,⟨f0,f1⟩,_⟩:=eO.three Pj.no.s i (by rw [ah HSL];exact hi)
 have f2:x3.frozen? ⟨G'.s,i*3+2,none⟩=false:=by
  exact Vj
 have JF:=hide (Pj.seenPut i (by rw [ah HSL];exact hi) ⟨mF,dU s0 mL,l2⟩ b2 c2 g2 HI3 JA)
 have HJF:Hid (∀j mm,eZ w j mm→eZ (GR.setW x3 G'.s (i*3) [.int .i64 mF,.int .i64 (dU s0 mL),.slice b2 l2.length c2]) j mm):=fun j mm hj=>by
  have h3:=ah HJ6 j mm hj
  have hne:=nD h3 q2
  unfold eZ
  rw [GR.setW_other hne]
  exact h3
 clear hx3 HY HI2;refine aG 11 rfl (by kernel_rfl) (by rfl) ?_;go_simp;refine wpAny_done (by kernel_rfl) ?_;go_simp;clear q0 q1 q2 f0 f1 f2;go_wp2_with fail;go_ret;exact⟨by rw [ah Qi];first|done|rfl,⟨A',_,_,by rw [ah Qi];exact JF⟩,HJF⟩):P:=h
theorem agJ.Ka87(h:P:=by
 obtain⟨c0,c1,c2,c3,c4,c5,c6,c7,c8,c9⟩:=gY HW1.wk.blk;obtain⟨⟨p0,p1,p2,p3,p4,p5,p6⟩,_⟩:=gT uL;obtain⟨⟨d0,d1⟩,_⟩:=jT HW1.bk;have hlen:=ara HW1.si hnd;have hwl:=aA HW.wk.blk;have hsl:=aA HW.bk;have hne:wb≠w.heap.size:=by omega
 have hne2:sb≠w.heap.size:=by omega
 clear h;go_enter Tryz.func198,Tryz.ntmps198
 go_upto_region 1 with fail;have y4:=cell_regrown c4;have z3:=cell_regrown p3;have z5:=cell_regrown p5;have z6:=cell_regrown p6;have x1:=cell_regrown d1;clear c0 c1 c2 c3 c4 c5 c6 c7 c8 c9 p0 p1 p2 p3 p4 p5 p6 d0 d1;exact Ka53):P:=h
theorem aaR(h:P:=by
 rw [←hW] at e2 e3;have JC:=hide e2;have HW1:=hide (HW0.step e3);clear hW e2 e3;generalize w.heap.size+1=B at *;obtain⟨c0,c1,c2,c3,c4,c5,c6,c7,c8,c9⟩:=gY HW1.blk;obtain⟨⟨p0,p1,p2,p3,p4,p5,p6⟩,_⟩:=gT JC;have hBl:=aA JC;have aqZ:=aA HW1.blk;exact Ka88):P:=h
theorem agK.Ka88(h:P:=by
 go_upto_region 12 with fail;go_wp2_with fail;refine(HDL W B JC HW1.no.o).mono ?_;rintro e y ⟨a2,cp2,rfl,hrow,hgr,hx2⟩;have HY:=hide (HW1.setOut hgr hrow hx2);clear hrow hgr hx2 HDL c0 c1 c2 c3 c4 c5 c6 c7 c8 c9 p0 p1 p2 p3 p4 p5 p6;obtain⟨c0,c1,c2,c3,c4,c5,c6,c7,c8,c9⟩:=gY HY.1;have f5:=ay HY.1 5;have abB:=aA HY.1;go_wp2_with fail;go_ret;exact⟨rfl,_,G,c,v,by rw [List.append_nil];exact HY.2⟩):P:=h
theorem agL.Ka88(h:P:=by
 go_wp2_with fail;refine(Ls W HW1).mono ?_;rintro e y ⟨rfl,⟨A',G',c',hY⟩,hJ⟩;have HY:=hide hY;have za:=hide (hJ B ⟨1,mF,mT,mI,mL,mk,mN⟩ JC);clear hY hJ Ls p0 p1 p2 p3 p4 p5 p6 c0 c1 c2 c3 c4 c5 c6 c7 c8 c9;exact Ka39):P:=h
theorem agM.Ka88(h:P:=by
 have Ph:=hide (fun p:Regrown=>HW1.no.at.below (below_regrown _ p.d p.os));go_upto_region 4 with fail;open ac8 in exact DY):P:=h
theorem amx(h:P:=by
 clear h hc;obtain⟨⟨p0,p1,p2,p3,p4,p5,p6,p7,p8,p9,lT⟩,_⟩:=dP JD;have hpl:=aA JD;go_upto_region 3 with fail;have z1:=cell_regrown p1;have z2:=cell_regrown p2;have z3:=cell_regrown p3;clear p0 p1 p2 p3 p4 p5 p6 p7 p8 p9 lT;refine bn 9 (by kernel_rfl) ?_;show dS _ _ _ _ _ 10 (Array.replicate 10 false) _ _
 refine tk [0,1,2,3,5,6] ?_;iterate 6 (refine nQ (fun K hK=>?_);go_simp;refine hK _ ?_;clear hK K)
 refine jI ?_;clear z1 z2 z3;exact Ka89):P:=h
theorem agN.Ka89(h:P:=by
 refine uz 4 8 rfl rfl (by kernel_rfl) (by rfl) (by rfl) (fun x hx=>?c1) (fun x hx=>?c2)
 case' c1=>
  go_simp
  refine(clone k x (by omega)).mono ?_
  rintro e y ⟨rfl,hby⟩
  refine⟨hby,?_⟩
  have HY:=hide (Ge.trans hx hby)
  clear hx hby
  refine tk [7] ?_
  (refine nQ (fun K hK=>?_);go_simp;refine hK _ ?_;clear hK K)
  refine jI ?_
  refine cZ 8 rfl (by kernel_rfl) (by rfl) (fun x2 hx2=>?_)
  go_simp
  refine⟨au x2 _,?_⟩
  have hgl:z.heap.size≤x2.heap.size:=(Ge.trans HY hx2).size
  have FH:=hide (heap_alloc_new x2 (.cells #[.int .i64 0,.string ⟨#[]⟩,.int .i64 0,.int .i64 0] 97))
  have qA:=hide (Ge.trans (Ge.trans HY hx2) (au x2 (.cells #[.int .i64 0,.string ⟨#[]⟩,.int .i64 0,.int .i64 0] 97)))
  clear hx2 HY
  generalize x2.alloc (.cells #[.int .i64 0,.string ⟨#[]⟩,.int .i64 0,.int .i64 0] 97)=y2 at *
  generalize x2.heap.size=g at *
  refine aV (by kernel_rfl) (fun z2 hz2=>?_)
  have je:=hide (aj FH hz2)
  have dY:=hide (Ge.trans qA hz2)
  clear hz2 FH qA
  have yC:=aA je
  obtain⟨g0,g1,g2,g3⟩:=eY je
  have f0:=ay je 0
  have f1:=ay je 1
  have f2:=ay je 2
  have f3:=ay je 3
  refine aG 9 rfl (by kernel_rfl) (by rfl) ?_
  go_simp
  refine wpAny_done (by kernel_rfl) ?_
  go_simp
  go_upto_region 4 with fail
  refine wp_at (fun W hW=>?_)
  have K8:Hid (W.heap[g]?=some (.cells #[.int .i64 no,.string k,.int .i64 nn,.int .i64 0] 97 (0,0))):=by rw [hW];exact lY je
  have iD:Hid (Below z.heap.size z W):=by rw [hW];exact gN dY hgl
  clear hW je dY yC g0 g1 g2 g3 f0 f1 f2 f3
 case' c2=>
  go_simp
  refine⟨au x _,?_⟩
  have hgl:z.heap.size≤x.heap.size:=hx.size
  have FH:=hide (heap_alloc_new x (.cells #[.int .i64 0,.string ⟨#[]⟩,.int .i64 0,.int .i64 0] 97))
  have qA:=hide (Ge.trans hx (au x (.cells #[.int .i64 0,.string ⟨#[]⟩,.int .i64 0,.int .i64 0] 97)))
  clear hx
  generalize x.alloc (.cells #[.int .i64 0,.string ⟨#[]⟩,.int .i64 0,.int .i64 0] 97)=y2 at *
  generalize x.heap.size=g at *
  refine cZ 4 rfl (by kernel_rfl) (by rfl) (fun x2 hx2=>?_)
  go_simp
  refine(clone k x2 (by omega)).mono ?_
  rintro e y3 ⟨rfl,hby⟩
  refine⟨hby,?_⟩
  have Wx:=hide (aj FH (Ge.trans hx2 hby))
  have Wp:=hide (Ge.trans qA (Ge.trans hx2 hby))
  clear hx2 hby FH qA
  refine tk [7] ?_
  (refine nQ (fun K hK=>?_);go_simp;refine hK _ ?_;clear hK K)
  refine jI ?_
  refine aV (by kernel_rfl) (fun z2 hz2=>?_)
  have je:=hide (aj Wx hz2)
  have dY:=hide (Ge.trans Wp hz2)
  clear hz2 Wx Wp
  have yC:=aA je
  obtain⟨g0,g1,g2,g3⟩:=eY je
  have f0:=ay je 0
  have f1:=ay je 1
  have f2:=ay je 2
  have f3:=ay je 3
  refine aG 9 rfl (by kernel_rfl) (by rfl) ?_
  go_simp
  refine wpAny_done (by kernel_rfl) ?_
  go_simp
  go_upto_region 4 with fail
  refine wp_at (fun W hW=>?_)
  have K8:Hid (W.heap[g]?=some (.cells #[.int .i64 no,.string k,.int .i64 nn,.int .i64 0] 97 (0,0))):=by rw [hW];exact lY je
  have iD:Hid (Below z.heap.size z W):=by rw [hW];exact gN dY hgl
  clear hW je dY yC g0 g1 g2 g3 f0 f1 f2 f3
 all_goals
  have Qk:=hide (HZ.step iD)
  have AR:=hide (aj JD iD)
  clear HZ JD iD
  obtain⟨⟨p0,p1,p2,p3,p4,p5,p6,p7,p8,p9,lT⟩,_⟩:=dP AR
  have hpw:=aA AR
  go_wp2_with fail
  refine(qB W Qk).mono ?_
  rintro e w1 ⟨rfl,hb1⟩
  have HW2:=hide (Qk.step hb1)
  have HG2:=hide (aj K8 hb1)
  clear hb1 qB p0 p1 p2 p3 p4 p5 p6 p7 p8 p9 lT Qk AR K8
  go_upto_region 5 with fail
  refine wp_at (fun V hV=>?_)
  obtain rfl:=hV
  obtain⟨g6,hAr,arO,arJ,⟨q0,q1,q2,q3⟩,_⟩:=HW2.reqRow i hil
  obtain⟨d0,d1,d2,d3,d4,d5,d6,d7,d8,d9⟩:=gY HW2.blk
  rw [hAr] at d8
  obtain⟨s0,s1,s2,s3⟩:=eY HG2
  have hw2:=aA HW2.blk
  have hg2:=aA HG2
  have aqv:(i:Int) < (n.reqs.length:Int):=by omega
  generalize n.reqs[i]=lm at *
  obtain⟨ln,lk,lx,ls⟩:=lm
  dsimp only at q0 q1 q2 q3 Vx HSQ
  subst Vx
  have heq:=ap9 ln lk k lx nn ls 0
  have hB:=ah HSQ
  generalize (lk.toList == k.toList&&decide (lx=nn)&&decide (ls=0))=B at *
  subst hB
  have y8:=cell_regrown d8
  have x0:=cell_regrown q0
  have x1:=cell_regrown q1
  have x2:=cell_regrown q2
  have x3:=cell_regrown q3
  have v0:=cell_regrown s0
  have v1:=cell_regrown s1
  have v2:=cell_regrown s2
  have v3:=cell_regrown s3
  clear d0 d1 d2 d3 d4 d5 d6 d7 d8 d9 q0 q1 q2 q3 s0 s1 s2 s3
  refine fK (by kernel_rfl) ?_
  show iX _ _ _ _ 13 (Array.replicate 13 false) _ _
  refine tk [0,1,2,3,4,5,6,7,8,9,10,11,12] ?_
  iterate 13 (refine Pq (fun K hK=>?_);go_simp;refine hK _ ?_;clear hK K)
  refine jI ?_
  refine iC (by kernel_rfl) (fun V hV=>?_)
  have HW3:=hide (HW2.step hV)
  clear hV HW2 HG2 y8 x0 x1 x2 x3 v0 v1 v2 v3 heq
  go_simp
  cases SQ
  all_goals
   go_wp2_with fail
   go_ret
   rw [ah HAD]
   exact⟨rfl,A,G,c,HW3⟩):P:=h
theorem agO.Ka89(h:P:=by
 refine uz 4 8 rfl rfl (by kernel_rfl) (by rfl) (by rfl) (fun x hx=>?c1) (fun x hx=>?c2)
 case' c1=>
  go_simp
  refine(clone k x (by omega)).mono ?_
  rintro e y ⟨rfl,hby⟩
  refine⟨hby,?_⟩
  have HY:=hide (Ge.trans hx hby)
  clear hx hby
  refine tk [7] ?_
  (refine nQ (fun K hK=>?_);go_simp;refine hK _ ?_;clear hK K)
  refine jI ?_
  refine cZ 8 rfl (by kernel_rfl) (by rfl) (fun x2 hx2=>?_)
  go_simp
  refine⟨au x2 _,?_⟩
  have hgl:z.heap.size≤x2.heap.size:=(Ge.trans HY hx2).size
  have FH:=hide (heap_alloc_new x2 (.cells #[.int .i64 0,.string ⟨#[]⟩,.int .i64 0,.int .i64 0] 97))
  have qA:=hide (Ge.trans (Ge.trans HY hx2) (au x2 (.cells #[.int .i64 0,.string ⟨#[]⟩,.int .i64 0,.int .i64 0] 97)))
  clear hx2 HY
  generalize x2.alloc (.cells #[.int .i64 0,.string ⟨#[]⟩,.int .i64 0,.int .i64 0] 97)=y2 at *
  generalize x2.heap.size=g at *
  refine aV (by kernel_rfl) (fun z2 hz2=>?_)
  have je:=hide (aj FH hz2)
  have dY:=hide (Ge.trans qA hz2)
  clear hz2 FH qA
  have yC:=aA je
  obtain⟨g0,g1,g2,g3⟩:=eY je
  have f0:=ay je 0
  have f1:=ay je 1
  have f2:=ay je 2
  have f3:=ay je 3
  refine aG 9 rfl (by kernel_rfl) (by rfl) ?_
  go_simp
  refine wpAny_done (by kernel_rfl) ?_
  go_simp
  go_upto_region 4 with fail
  refine wp_at (fun W hW=>?_)
  have K8:Hid (W.heap[g]?=some (.cells #[.int .i64 no,.string k,.int .i64 nn,.int .i64 0] 97 (0,0))):=by rw [hW];exact lY je
  have iD:Hid (Below z.heap.size z W):=by rw [hW];exact gN dY hgl
  clear hW je dY yC g0 g1 g2 g3 f0 f1 f2 f3
 case' c2=>
  go_simp
  refine⟨au x _,?_⟩
  have hgl:z.heap.size≤x.heap.size:=hx.size
  have FH:=hide (heap_alloc_new x (.cells #[.int .i64 0,.string ⟨#[]⟩,.int .i64 0,.int .i64 0] 97))
  have qA:=hide (Ge.trans hx (au x (.cells #[.int .i64 0,.string ⟨#[]⟩,.int .i64 0,.int .i64 0] 97)))
  clear hx
  generalize x.alloc (.cells #[.int .i64 0,.string ⟨#[]⟩,.int .i64 0,.int .i64 0] 97)=y2 at *
  generalize x.heap.size=g at *
  refine cZ 4 rfl (by kernel_rfl) (by rfl) (fun x2 hx2=>?_)
  go_simp
  refine(clone k x2 (by omega)).mono ?_
  rintro e y3 ⟨rfl,hby⟩
  refine⟨hby,?_⟩
  have Wx:=hide (aj FH (Ge.trans hx2 hby))
  have Wp:=hide (Ge.trans qA (Ge.trans hx2 hby))
  clear hx2 hby FH qA
  refine tk [7] ?_
  (refine nQ (fun K hK=>?_);go_simp;refine hK _ ?_;clear hK K)
  refine jI ?_
  refine aV (by kernel_rfl) (fun z2 hz2=>?_)
  have je:=hide (aj Wx hz2)
  have dY:=hide (Ge.trans Wp hz2)
  clear hz2 Wx Wp
  have yC:=aA je
  obtain⟨g0,g1,g2,g3⟩:=eY je
  have f0:=ay je 0
  have f1:=ay je 1
  have f2:=ay je 2
  have f3:=ay je 3
  refine aG 9 rfl (by kernel_rfl) (by rfl) ?_
  go_simp
  refine wpAny_done (by kernel_rfl) ?_
  go_simp
  go_upto_region 4 with fail
  refine wp_at (fun W hW=>?_)
  have K8:Hid (W.heap[g]?=some (.cells #[.int .i64 no,.string k,.int .i64 nn,.int .i64 0] 97 (0,0))):=by rw [hW];exact lY je
  have iD:Hid (Below z.heap.size z W):=by rw [hW];exact gN dY hgl
  clear hW je dY yC g0 g1 g2 g3 f0 f1 f2 f3
 all_goals
  have Qk:=hide ((HZ.recol (c':=newC z.heap.size 9 c) (fun x hx=>dH hx)).step iD)
  have hcg:newC z.heap.size 9 c g=9:=aT hgl
  have AR:=hide (aj JD iD)
  have hgw:=aA K8
  have aqt:g≠wb:=by have:=aA HZ.blk;omega
  clear HZ JD iD
  obtain⟨⟨p0,p1,p2,p3,p4,p5,p6,p7,p8,p9,lT⟩,_⟩:=dP AR
  have hpw:=aA AR
  go_wp2_with fail
  refine(qB W _ Qk).mono ?_
  rintro e w1 ⟨rfl,hb1⟩
  have HW2:=hide (Qk.step hb1)
  have xK:=hide (aj AR hb1)
  have HG2:=hide (aj K8 hb1)
  clear hb1 qB p0 p1 p2 p3 p4 p5 p6 p7 p8 p9 lT Qk AR K8 hgw
  go_upto_region 5 with fail
  refine wp_at (fun V hV=>?_)
  obtain rfl:=hV
  refine fK (by kernel_rfl) ?_
  show iX _ _ _ _ 13 (Array.replicate 13 false) _ _
  refine tk [0,1,2,3,4,5,6,7,8,9,10,11,12] ?_
  iterate 13 (refine Pq (fun K hK=>?_);go_simp;refine hK _ ?_;clear hK K)
  refine jI ?_
  refine iC (by kernel_rfl) (fun V hV=>?_)
  have HW3:=hide (HW2.step hV)
  have Pb:=hide (aj xK hV)
  have Wv:=hide (aj HG2 hV)
  clear hV HW2 xK HG2
  obtain⟨c0,c1,c2,c3,c4,c5,c6,c7,c8,c9⟩:=gY HW3.blk
  obtain⟨⟨p0,p1,p2,p3,p4,p5,p6,p7,p8,p9,lT⟩,_⟩:=dP Pb
  have hw3:=aA HW3.blk
  have hp3:=aA Pb
  go_simp
  go_upto_region 10 with fail
  have y4:=cell_regrown c4
  have z2:=cell_regrown p2
  have z3:=cell_regrown p3
  clear c0 c1 c2 c3 c4 c5 c6 c7 c8 c9 p0 p1 p2 p3 p4 p5 p6 p7 p8 p9 lT
  refine bn 13 (by kernel_rfl) ?_
  show dS _ _ _ _ _ 15 (Array.replicate 15 false) _ _
  refine tk [0,1,2,3,4,5,6,7,8,9] ?_
  iterate 10 (refine nQ (fun K hK=>?_);go_simp;refine hK _ ?_;clear hK K)
  refine jI ?_
  clear y4 z2 z3
  refine cZ 10 rfl (by kernel_rfl) (by rfl) (fun x hx=>?_)
  go_simp
  have HX:=hide (HW3.step hx)
  refine(M8 x _ HX).mono ?_
  rintro e y ⟨a,cp,g5,hg5,rfl,hp,hby⟩
  refine⟨hby,?_⟩
  have hgx:g < x.heap.size:=Nat.lt_of_lt_of_le (aA Wv) hx.size
  have HGX:=hide (aj Wv (Ge.trans hx hby))
  have HST:=hide (fun u (hu:Ge y u)=>Mw (cp:=cp) HX (hby.trans (hu.mono hby.size)) hg5 (hp.below hu))
  clear hby hg5 hp M8 hx Wv Pb
  refine tk [11,12] ?_
  iterate 2 (refine nQ (fun K hK=>?_);go_simp;refine hK _ ?_;clear hK K)
  refine jI ?_
  refine aV (by kernel_rfl) (fun u hu=>?_)
  refine aG 13 rfl (by kernel_rfl) (by rfl) ?_
  go_simp
  refine(HST u hu).mono ?_
  rintro e z9 ⟨rfl,A',G',c',hZ9,Mf,Nz⟩
  have hc9:c' g=9:=(Nz g hgx).trans hcg
  have HZ9:=hide hZ9
  have Ww:=hide (Mf g _ aqt (aj HGX hu))
  clear hZ9 HST hu Mf HGX HX HW3 Nz hcg hgx
  obtain⟨rl,rb⟩:=r
  dsimp only at HZ9 HAD UQ ⊢
  refine aG 14 rfl (by kernel_rfl) (by rfl) ?_
  go_simp
  refine wpAny_done (by kernel_rfl) ?_
  go_simp
  have h9l:=aA Ww
  obtain⟨s0,s1,s2,s3⟩:=eY Ww
  have sf3:=ay Ww 3
  cases rb
  ·rw [if_neg (by simp)] at HZ9;have hrl:=ah UQ rfl;subst hrl;rw [if_neg (by simp)] at HAD;have acQ:=hide (HZ9.kc (k:=9) (KC.set (i:=3) (v:= .int .i64 1) hc9) (by omega));have acs:=hide (aob (u:= .int .i64 1) Ww);clear HZ9;go_upto_region 12 with fail;refine wp_at (fun Y hY=>?_);have aop:Hid (WK w0 Y wb n A' G' c' v L):=by rw [hY];exact acQ
   have acu:Hid (Y.heap[g]?=some (.cells #[.int .i64 no,.string k,.int .i64 nn,.int .i64 1] 97 (0,0))):=by rw [hY];exact acs
   clear hY acQ acs Ww s0 s1 s2 s3 sf3 h9l;have h9l:=aA acu;obtain⟨s0,s1,s2,s3⟩:=eY acu;have HKP:=hide (TK w0 Y wb n A' G' c' v L ⟨no,k,nn,1⟩ i hil hlen aop);rw [ah HKN] at HKP;exact ana
  ·rw [if_pos rfl] at HZ9;rw [if_pos rfl] at HAD;have HKP:=hide (TK w0 z9 wb (setPu n rl) A' G' c' v L ⟨no,k,nn,0⟩ i hil hlen HZ9);have hki:xU (setPu n rl) ⟨no,k,nn,0⟩ i=jO (setPu n rl) ⟨no,k,nn,0⟩:=ah HKI rl 0;rw [hki] at HKP;clear hki;exact ana):P:=h
theorem amy(h:P:=by
 have HF:=hide hf;have aaw:=hide (Mh mp mb n0 _ G ⟨pk,qm,qf,qs⟩ w6 hkey hn0 wX.blk wX.map);have P7:=hide wX;obtain⟨⟨p0,p1,p2,p3⟩,_⟩:=eX aby;clear hf wX aby;go_wp2_with fail;refine aaw.mono ?_;rintro e w7 ⟨rfl,hm7,hk7⟩;have WU:=hide (P7.turned hk7 hm7);have Cq:=hide (rW.trans (xV hk7 P7.lom (Nat.le_trans hB rW.size)));clear hm7 hk7 p0 p1 p2 p3;go_wp2_with fail;go_ret;exact Ka90):P:=h
theorem agP.Ka90(h:P:=by
 exact⟨Cq,.inr ⟨.inr h20,rfl,_,WU⟩⟩):P:=h
theorem agQ.Ka90(h:P:=by
 exact⟨Cq,.inr ⟨.inl HF,rfl,_,WU⟩⟩):P:=h
theorem QI(h:P:=by
 go_wp2_with fail;refine H.mono ?_;rintro e w1 ⟨v,rfl,hv,hown,hb⟩;have HV:=hide hv;have HO:=hide hown;have HB:=hide hb;clear hown hb hv;go_wp2_with fail;exact Ka91):P:=h
theorem agR.Ka91(h:P:=by
 exact bodyPost_ret (v:= .tuple #[v,.bool r.2]) (by simp[results,Tryz.results118,go_sem]) rfl ⟨v,rfl,HV,HO,HB⟩):P:=h
theorem agS.Ka91(h:P:=by
 exact bodyPost_ret (v:= .tuple #[v,.bool r.2]) (by simp[results,Tryz.results117,go_sem]) rfl ⟨v,rfl,HV,HO,HB⟩):P:=h
theorem agT.Ka91(h:P:=by
 exact bodyPost_ret (v:= .tuple #[v,.bool r.2]) (by simp[results,Tryz.results121,go_sem]) rfl ⟨v,rfl,HV,HO,HB⟩):P:=h
theorem agU.Ka91(h:P:=by
 exact bodyPost_ret (v:= .tuple #[v,.bool r.2]) (by simp[results,Tryz.results98,go_sem]) rfl ⟨v,rfl,HV,HO,HB⟩):P:=h
theorem agV.Ka91(h:P:=by
 exact bodyPost_ret (v:= .tuple #[v,.bool r.2]) (by simp[results,Tryz.results38,go_sem]) rfl ⟨v,rfl,HV,HO,HB⟩):P:=h
theorem Vh(h:P:=by
 have HW1:=hide (h.step (au w (.cells #[.int .i64 K,.int .i64 no,.string k,.int .i64 nn,.int .i64 mK,.int .i64 mF,.int .i64 mT,.int .i64 mI,.int .i64 mL,.string mk,.int .i64 mN] 34)));exact Ka92):P:=h
theorem agW.Ka92(h:P:=by
 have hq2:(n.par == -1)=true:=by simpa using hpar
 clear h hR TY hpar;obtain⟨c0,c1,c2,c3,c4,c5,c6,c7,c8,c9⟩:=gY HW1.blk;go_enter Tryz.func110,Tryz.ntmps110
 go_wp2_with fail;go_ret;exact⟨rfl,c,v,HW1⟩):P:=h
theorem agX.Ka92(h:P:=by
 have hwl:=aA h.blk;have hne:wb≠w.heap.size:=by omega
 have HBO:=hide (show Below w0.heap.size w0 (w.alloc (.cells #[.int .i64 K,.int .i64 no,.string k,.int .i64 nn,.int .i64 mK,.int .i64 mF,.int .i64 mT,.int .i64 mI,.int .i64 mL,.string mk,.int .i64 mN] 34)) from HW1.keep);have HSA:=hide (fun W c v L' (hW:WK w0 W wb n A G c v L')=>hW.no.at.o);clear h hz;generalize lG n=PM at *;obtain⟨ak,ap,ao,as',ar,ck,cp,co,cs,cr⟩:=A;obtain⟨c0,c1,c2,c3,c4,c5,c6,c7,c8,c9⟩:=gY HW1.blk;go_enter Tryz.func50,Tryz.ntmps50
 go_wp2_with fail;go_loopw [13] (fun i wr=>∃(k:Nat) (c':Nat→Nat) (v':Value),k≤n.out.length∧i= .int .i64 k∧WK w0 wr wb n ⟨ak,ap,ao,as',ar,ck,cp,co,cs,cr⟩ G c' v' (L++(n.out.take k).map PM)) (fun i _=>n.out.length - (intOf i).toNat)
 case atStart=>exact⟨0,c,v,Nat.zero_le _,rfl,by simpa using ah HW1⟩
 case round=>
  obtain⟨k,cc,vv,hk,rfl,hS⟩:=hrel;have TW:=hide hS;clear hS c0 c1 c2 c3 c4 c5 c6 c7 c8 c9;have hwr:=aA TW.blk;by_cases hlt:k < n.out.length
  ·obtain⟨g,off,e0,hg,q0,q1,q2,q3⟩:=SentAt.four (HSA wr cc vv _ TW) k hlt;have HKk:=hide (HKK n.out[k] (List.getElem_mem hlt));have HT:=hide (show L++(n.out.take (k+1)).map PM=L++(n.out.take k).map PM++[PM n.out[k]] by rw [List.take_succ_eq_append_getElem hlt,List.map_append,List.append_assoc];rfl);have aax:=hide (za n.out[k]);generalize n.out[k]=sk at *;generalize PM sk=mk' at *;obtain⟨si,st,sx,sn⟩:=sk;obtain⟨qK,qF,qT,qI,qL,qk,qN⟩:=mk';dsimp only at q0 q1 q2 q3 HKk e0;subst e0;go_upto_region 4 with fail;refine wp_at (fun W3 hW3=>?_);have HR3:Hid (W3.heap[wr.heap.size]?=some (.cells #[.int .i64 si,.int .i64 st,.string sx,.int .i64 sn] 95 (0,0))):=by rw [hW3];exact heap_alloc_new _ _
   have Xa:Hid (WK w0 W3 wb n ⟨ak,ap,some ⟨g,off,none⟩,as',ar,ck,cp,co,cs,cr⟩ G cc vv (L++(n.out.take k).map PM)):=by rw [hW3];exact TW.step (au wr _)
   clear hW3 q0 q1 q2 q3;have aoo:=hide (fun p:Regrown=>aax (Gr W3 p) (GR.At.below (HSA W3 cc vv _ Xa) (below_regrown W3 p.d p.os)));have hr3:=aA HR3;have hw3:=aA Xa.blk;have hnr:wb≠wr.heap.size:=by omega
   obtain⟨c0,c1,c2,c3,c4,c5,c6,c7,c8,c9⟩:=gY Xa.blk;obtain⟨d0,d1,d2,d3⟩:=eY HR3;open ac5 in exact DY
  ·have hke:k=n.out.length:=by omega
   subst hke;have hnlt:decide ((n.out.length:Int) < (n.out.length:Int))=false:=by simp
   go_wp2_with fail;go_ret;have hS:=ah TW;rw [List.take_length] at hS;exact⟨rfl,cc,vv,hS⟩):P:=h
theorem agY.Ka92(h:P:=by
 have hq2:(n.par == -1)=true:=by simpa using hpar
 clear h hR za hpar;obtain⟨c0,c1,c2,c3,c4,c5,c6,c7,c8,c9⟩:=gY HW1.blk;go_enter Tryz.func111,Tryz.ntmps111
 go_upto_region 1 with fail;have y1:=cell_regrown c1;clear c0 c1 c2 c3 c4 c5 c6 c7 c8 c9;refine fK (by kernel_rfl) ?_;show iX _ _ _ _ 20 (Array.replicate 20 false) _ _
 refine tk [0,1,2,3,4,5,6,7,8,9,10,11,12,13,14,15,16,17,18,19] ?_;iterate 20 (refine Pq (fun K hK=>?_);go_simp;refine hK _ ?_;clear hK K)
 refine jI ?_;refine iC (by kernel_rfl) (fun z hz=>?_);have HZ:=hide (HW1.step hz);clear hz y1;exact Zx):P:=h
theorem agZ.Ka92(h:P:=by
 have uL:=hide (heap_alloc_new w (.cells #[.int .i64 K,.int .i64 no,.string k,.int .i64 nn,.int .i64 mK,.int .i64 mF,.int .i64 mT,.int .i64 mI,.int .i64 mL,.string mk,.int .i64 mN] 34));exact Ka15):P:=h
theorem amz(h:P:=by
 obtain⟨i,hi,hcmp⟩:=Option.map_eq_some_iff.1 Is.comp;obtain⟨j,hj,hjs⟩:=Option.map_eq_some_iff.1 Is.size;have h8:= @run_callFunc_extern Tryz.prog 263 _ Extern.ReflectliteType.typeOf Tryz.func263 (by kernel_rfl) (by kernel_rfl) (by kernel_rfl) (by kernel_rfl);have h32:= @run_callFunc_extern Tryz.prog 309 _ Is.cmp Tryz.func309 (by kernel_rfl) (by kernel_rfl) (by kernel_rfl) (by kernel_rfl);have tT:=Is.typeOf;have cT:=Is.comparable;have mR:=Is.methodComparable;exact Ka93):P:=h
theorem ag0.Ka93(h:P:=by
 have nE:=Is.noIs;have uE:=Is.noUnwrap;have vE:=Is.noUnwraps;have heq:=run_eql_iface_ptr_other (P:=Tryz.prog) w Tryz.underlying248 Tryz.underlying338 hi hcmp hj (by rw [hjs];decide) hne ha hb;exact Ze):P:=h
theorem ag1.Ka93(h:P:=by
 have heq:=run_eql_iface_ptr_same (P:=Tryz.prog) w a Tryz.underlying248 Tryz.underlying338 hi hcmp hj;exact Ze):P:=h
theorem amA(h:P:=by
 clear hm hM;go_enter Tryz.func259,Tryz.ntmps259
 go_wp2_with fail;refine(HN _).mono ?_;rintro e w1 ⟨rfl,hb1⟩;rw [hno];obtain⟨hA,hz,hbel⟩:=Fo.one_block hb1;obtain⟨⟨p0,p1,p2,p3⟩,_⟩:=eX hA;have hm1:w1.heap[mp]?=some (.cells #[v,.map (some mb)] 306 (0,0)):=by rw [hbel.block _ hmp];exact HM
 obtain⟨⟨m0,m1⟩,_⟩:=jT hm1;have hI1:gH w1.drew mb n G:=HI.kept (by rw [←hbel.block _ hmb];rfl);exact Ka94):P:=h
end Go.Proofs.YtacgbldlonoaaaaGreatDoor
