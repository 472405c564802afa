/-
  Parts of proofs that stand more than once, each said once.
-/
import Derived.Test.YtacgbldlonoaaaaGreatDoorRaZ4
namespace Go.Proofs.YtacgbldlonoaaaaGreatDoor
set_option maxRecDepth 100000
variable{P:Prop}
theorem ajr.Ka151(h:P:=by
 have hb3:(i:Int)≤(l.length:Int):=by omega
 have hGi:¬(G=i):=by omega
 have hGim:¬(G=i+1):=by omega
 have hci:¬(cap=i):=by omega
 have hG63:G≤9223372036854775807:=by unfold maxLen at hGm;omega
 have hz3:(cap:Int) < (l.length:Int)+1:=by omega
 have hA2:=hA ((w.alloc (.cells R 97)).drew) rfl;have hB2:=hB ((((w.alloc (.cells R 97)).drew).setRow w.heap.size (vU R.toList i q).toArray).drew) rfl;clear hblk hv htake hcell hdl htl hRs hRl hRt hBb hi0 hz0 hz1 hz2 hA hB;go_enter Tryz.func189,Tryz.ntmps189
 go_upto_region 10 with(at_builtin;refine Lib.wpList_append_run _ rfl _ _ _ _ rfl _ _ rfl rfl _ _ (hrz _) ?_)
 go_wp2_with (first
  |(at_builtin;refine wpList_copy_runI _ rfl _ _ 28 28 rfl _ _ rfl rfl (hA2 _ _ _ (by omega)) ?_))
 go_region_law_o (refine step_copy_runI rfl _ _ 28 28 rfl _ _ (by simp[Act.eval,Act.put]) (by simp[Act.eval,Act.put]) (hB2 _ _ _ _ _ (by omega) (by omega)) ?_)
 go_wp2
 go_ret;obtain⟨f1,f2⟩:=ah yh ((((w.alloc (.cells R 97)).drew).setRow w.heap.size (vU R.toList i q).toArray).drew) rfl rfl rfl rfl;exact⟨G,_,rfl,hGn,hGm,f1,Qe,Ls,f2⟩):P:=h
theorem LX(h:P:=by
 obtain⟨c0,c1,c2,c3,c4,c5,c6,c7,c8,c9⟩:=gY HW1.blk;obtain⟨⟨p0,p1,p2,p3,p4,p5,p6,p7,p8,p9,lT⟩,_⟩:=dP uL;exact Ka152):P:=h
theorem ajs.Ka152(h:P:=by
 have hwl:=aA HW.blk;have hne:wb≠w.heap.size:=by omega
 exact Ka7):P:=h
theorem ajt.Ka152(h:P:=by
 go_enter Tryz.func111,Tryz.ntmps111
 go_upto_region 1 with fail;have y1:=cell_regrown c1;open alD in exact QE):P:=h
theorem aju.Ka152(h:P:=by
 go_enter Tryz.func110,Tryz.ntmps110
 go_upto_region 3 with fail;have y0:=cell_regrown c0;have y1:=cell_regrown c1;open alC in exact QE):P:=h
theorem ajv.Ka152(h:P:=by
 have hwl:=aA HW.blk;have hne:wb≠w.heap.size:=by omega
 go_enter Tryz.func107,Tryz.ntmps107
 go_upto_region 1 with fail;have y1:=cell_regrown c1;have y4:=cell_regrown c4;open alB in exact QE):P:=h
theorem X9(h:P:=by
 have ho:=h.own;rw [←h.len] at ho;obtain⟨a',c',g,e,hW,hg,hgo⟩:=GR.W.of_own (enc:=cu) bC ho;cases e
 rw [h.len] at hgo;have hfe:∀x,x∈fp g l→x∈fp g T2:=fun x hx=>by have:=gD hx;rw [this.1];exact dz (by rw [h.len];exact this.2)
 exact Ka153):P:=h
theorem ajw.Ka153(h:P:=by
 refine⟨g,⟨T2,hW,h.len,fun i hi=>?_⟩,fun x hx=>⟨(hg x (hfe x hx)).1,hgo x (hfe x hx)⟩,fun x hx=>?_,?_⟩
 ·obtain⟨b,c,e1,e2,_⟩:=h.dn i hi hi;exact⟨b,c,e1,e2⟩
 ·obtain⟨i,hi,rfl,hpos⟩:=uf hx;obtain⟨_,_,_,_,e3⟩:=h.dn i hi hi;exact e3 _ (dz hpos)
 ·rw [lZ];exact fun i j hi hj hij h1 h2=>h.nd i j hi hj hij hj h1 h2):P:=h
theorem ajx.Ka153(h:P:=by
 refine⟨g,⟨⟨T2,hW,h.len,fun i hi=>?_⟩,fun hp=>?_⟩,fun x hx=>(hg x (hfe x hx)).1,fun x hx=>?_,?_⟩
 ·obtain⟨b,c,e1,e2,_⟩:=h.dn i hi hi;exact⟨b,c,e1,e2⟩
 ·have hx:=hgo g (dz (by rw [h.len];exact hp));rcases h.own.2 with⟨_,hn⟩|⟨g',cap,cur,hv,_,hgg,_⟩
  ·omega
  ·rw [hv] at hx;have e3:g'=g:=by simpa [Value.ownBlock] using hx
   rw [e3] at hgg;exact⟨cur,hgg⟩
 ·obtain⟨i,hi,rfl,hpos⟩:=uf hx;obtain⟨_,_,_,_,e3⟩:=h.dn i hi hi;have q:=e3 _ (dz hpos);exact⟨q.1,q.2.1,fun hm=>q.2.2 (hgo _ (hfe _ hm))⟩
 ·rw [lZ];exact fun i j hi hj hij h1 h2=>h.nd i j hi hj hij hj h1 h2):P:=h
theorem Qt(h:P:=by
 go_enter Tryz.func262,Tryz.ntmps262
 go_wp2_with fail;refine HBS.mono ?_;rintro e w1 ⟨rfl,q,rfl⟩;rw [hf];exact Ka154):P:=h
theorem ajy.Ka154(h:P:=by
 go_wp2_with fail;go_ret;exact⟨⟨rfl,rfl,rfl,Nat.le_refl _,fun _ _=>rfl⟩,fun _ _ _ _=>rfl,.inl ⟨by first|trivial|rfl,rfl,HH.drewN⟩⟩):P:=h
theorem ajz.Ka154(h:P:=by
 clear HBS
 have PO:=hide (abF B (.slice a l.length cap) (l.map (·.k)) (place l key) key w.heap.size ((w.drewN q).alloc (.cells #[.string key] 9)) (by rw [List.length_map];exact jP l key) (by rw [List.length_map];exact hl) (by simp;omega)
  (World.ownsRow.alloc (w:=w.drewN q) HH.row _) (heap_alloc_new (w.drewN q) _) (fun e=>by have:=HR.lt _ e;omega))
 go_wp2_with fail;refine PO.mono ?_;rintro e w2 ⟨v',rfl,hown,hgr⟩;rw [List.length_map,Si,←xS l key] at hown;obtain⟨g',cap',rfl,_,_⟩:=hown.form (by rw [xS];omega)
 have hlt:∀k,k < w.heap.size→(Value.slice a l.length cap).ownBlock≠some k→w2.heap[k]?=w.heap[k]?:=fun k hk hne=>by
  rw [hgr.block k (by simp;omega) (Ne.symm hne)]
  exact Below.heap_alloc (w.drewN q) _ _ hk
 have hm2:w2.heap[mp]?=some (.cells #[.slice a l.length cap,.map (some mb)] 306 (0,0)):=by rw [hlt mp hmp (own_ne (ah HR) (ah HH).blk (by decide))];exact HH.blk
 have hb2:w2.heap[mb]?=w.heap[mb]?:=by
  obtain⟨es,clock,hbk⟩:=HH.map.blk;exact hlt mb hmb (uh HR hbk)
 have hbw:Below B w w2:=by
  refine⟨hgr.os,hgr.tape,hgr.output,Nat.le_trans (by simp) hgr.size,fun k hk=>hlt k (by omega) (fun e=>?_)⟩;have:=HR.lt _ e;omega
 have HO:=hide hown;have HM2:=hide hm2;have HB2:=hide hb2;have iD:=hide hbw;have HLT:=hide hlt;obtain⟨⟨n0,n1⟩,g0,g1⟩:=jT hm2;clear hown hgr hlt hm2 hb2 hbw PO n1 g1;go_wp2_with fail;go_ret;refine⟨iD.setCell (p:=⟨mp,0,none⟩) HH.lop _,fun k hk hne1 hne2=>Fo.one_other (HLT k hk hne2) hne1,.inr (.inr ⟨by first|trivial|rfl,by omega,rfl,.slice (some ⟨g',0,none⟩) (Hz l key).length cap',?_,?_,?_,HH.lop,HH.lom⟩)⟩
 ·exact Fo.blk_set HM2 0 _
 ·refine HO.kept (w':=w2.setCell ⟨mp,0,none⟩ _) (row:=some mp) ⟨rfl,rfl,rfl,by rw [Fo.setCell_size];exact Nat.le_refl _,fun k _ hne=>Fo.one_other rfl (fun e=>hne (by rw [e]))⟩ (.inr (own_ne HO HM2 (by decide)))
 ·refine HH.map.kept ?_;rw [Fo.one_other (ah HB2) (Ne.symm (ah HH).mpmb)]):P:=h
theorem ajA.Ka154(h:P:=by
 go_wp2_with fail;go_ret;exact⟨⟨rfl,rfl,rfl,Nat.le_refl _,fun _ _=>rfl⟩,fun _ _ _ _=>rfl,.inr (.inl ⟨by first|trivial|rfl,H20,rfl⟩)⟩):P:=h
theorem Qu(h:P:=by
 rw [←hW] at e1 e2 e3 e4;have HN:=hide e1;have HO:=hide e2;have HR:=hide e3;have HB0:=hide e4;have Fz:=hide (jY.kc (k:=9) (KC.of_below e4) (by omega));exact Ka155):P:=h
theorem ajB.Ka155(h:P:=by
 clear hW e1 e2 e3 e4 jY;obtain⟨⟨p0,p1,p2,p3,p4,p5,p6,p7,p8,p9,lT⟩,_⟩:=dP HO;have hol:=aA HO;obtain⟨c0,c1,c2,c3,c4,c5,c6,c7,c8⟩:=nine HN;obtain⟨d0,d1,d2,d3,d4,d5,d6,d7,d8⟩:=nine HR;have f0:=ay HR 0;have f1:=ay HR 1;have f2:=ay HR 2;have f3:=ay HR 3;have f4:=ay HR 4;have f5:=ay HR 5;have f6:=ay HR 6;have f7:=ay HR 7;have f8:=ay HR 8;have hnl:=aA HN;have hrl:=aA HR;go_wp2_with fail;refine aO (fun W' hW'=>?_)
 have e4:W'.heap[w.heap.size+2]?=some (.cells #[.int .i64 n.id,.int .i64 n.par,.slice A.k n.kids.length A.ck,.int .i64 n.next,.slice A.p n.pu.length A.cp,.slice A.o n.out.length A.co,.slice A.s n.seen.length A.cs,.int .i64 n.old,.slice A.r n.reqs.length A.cr] 30 (0,0)):=by
  rw [hW'];exact GR.setW_blk [.int .i64 n.id,.int .i64 n.par,.slice A.k n.kids.length A.ck,.int .i64 n.next,.slice A.p n.pu.length A.cp,.slice A.o n.out.length A.co,.slice A.s n.seen.length A.cs,.int .i64 n.old,.slice A.r n.reqs.length A.cr] (o:=0) (xs:=[.int .i64 0,.int .i64 0,.slice none 0 0,.int .i64 0,.slice none 0 0,.slice none 0 0,.slice none 0 0,.int .i64 0,.slice none 0 0]) HR
 have eU:aC [w.heap.size+2] W0 W':=by
  exact am4
 have HAT:=hide (fun W'' (ho:Out c w W' W'')=>(Fz.kc (k:=9) ((KC.keeps eU (fun x hx=>by have:x=w.heap.size+2:=(by simpa using hx);rw [this];exact aT (by omega))).trans (KC.out H9 ho)) (by omega)).rm);have jW:Hid (Below B w W'):=(HB0.mono hB).trans (eU.below (fun x hx=>by have:x=w.heap.size+2:=(by simpa using hx);omega) (Nat.le_trans hB (HB0.mono hB).size));have oJ:=hide (Apart.keeps (c:=c) (Apart.of_below (HB0)) (HB0.mono hB).size eU (fun x hx=>by have:x=w.heap.size+2:=(by simpa using hx);omega));obtain⟨x0,x1,x2,x3,x4,x5,x6,x7,x8⟩:=nine e4;clear hW' e4 eU;exact bodyPost_ret (v:= .tuple #[.agg #[.int .i64 n.id,.int .i64 n.par,.slice A.k n.kids.length A.ck,.int .i64 n.next,.slice A.p n.pu.length A.cp,.slice A.o n.out.length A.co,.slice A.s n.seen.length A.cs,.int .i64 n.old,.slice A.r n.reqs.length A.cr],.int .i64 2]) (by simp[results,Tryz.results39,go_sem,x0,x1,x2,x3,x4,x5,x6,x7,x8]) rfl ⟨A,rfl,HAT,jW,oJ⟩):P:=h
theorem ajC.Ka155(h:P:=by
 clear hW e1 e2 e3 e4;open ahO in exact Xl):P:=h
theorem ajD.Ka155(h:P:=by
 clear hW e1 e2 e3 e4 jY;open ahP in exact Xl):P:=h
theorem LY(h:P:=by
 refine wp_at (fun W hW=>?_);have iD:Hid (Below w.heap.size w W):=by rw [hW];first|exact iG w _ _|exact(iG w _ _).drew
 exact Ka156):P:=h
theorem ajE.Ka156(h:P:=by
 have hX:W.heap[w.heap.size+1]?=some (.cells #[.int .i64 2,.int .i64 no,.string ⟨#[]⟩,.int .i64 0,.int .i64 0,.int .i64 0,.int .i64 0,.int .i64 0,.int .i64 0,.string ⟨#[]⟩,.int .i64 0] 34 (0,0)):=by rw [hW];exact(jr w _ _).2
 have hY:W.heap[w.heap.size]?=some (.cells #[.int .i64 2,.int .i64 no,.string k,.int .i64 n,.int .i64 mK,.int .i64 mF,.int .i64 mT,.int .i64 mI,.int .i64 mL,.string mk,.int .i64 mN] 34 (0,0)):=by rw [hW];exact(jr w _ _).1
 open akM in exact QC):P:=h
theorem ajF.Ka156(h:P:=by
 have hX:W.heap[w.heap.size+1]?=some (.cells #[.int .i64 5,.int .i64 0,.string ⟨#[]⟩,.int .i64 0,.int .i64 0,.int .i64 0,.int .i64 0,.int .i64 0,.int .i64 0,.string ⟨#[]⟩,.int .i64 0] 34 (0,0)):=by rw [hW];exact(jr w _ _).2
 have hY:W.heap[w.heap.size]?=some (.cells #[.int .i64 5,.int .i64 no,.string k,.int .i64 n,.int .i64 mK,.int .i64 mF,.int .i64 mT,.int .i64 mI,.int .i64 mL,.string mk,.int .i64 mN] 34 (0,0)):=by rw [hW];exact(jr w _ _).1
 open aiR in exact XF):P:=h
theorem ajG.Ka156(h:P:=by
 have hX:W.heap[w.heap.size+1]?=some (.cells #[.int .i64 1,.int .i64 no,.string k,.int .i64 n,.int .i64 0,.int .i64 0,.int .i64 0,.int .i64 0,.int .i64 0,.string ⟨#[]⟩,.int .i64 0] 34 (0,0)):=by rw [hW];exact(jr w _ _).2
 have hY:W.heap[w.heap.size]?=some (.cells #[.int .i64 1,.int .i64 no,.string k,.int .i64 n,.int .i64 mK,.int .i64 mF,.int .i64 mT,.int .i64 mI,.int .i64 mL,.string mk,.int .i64 mN] 34 (0,0)):=by rw [hW];exact(jr w _ _).1
 open akL in exact QC):P:=h
theorem ajH.Ka156(h:P:=by
 exact Ka35):P:=h
theorem Ya(h:P:=by
 refine gL 8 rfl (by kernel_rfl) (by rfl) (by decide) (fun x4 hx4=>?_);have PI:=hide (MI.trans (hx4.mono MI.size));have GX:wc.heap.size≤x4.heap.size:=PI.size;have Gb:=hide (GR.own_below Nf hx4);have ze:=hide (aj AX hx4);clear hx4;exact Ka157):P:=h
theorem ajI.Ka157(h:P:=by
 obtain⟨v4,y4,NK,J8,zC,RY⟩:=fu x4 wc.heap.size 28 28 97 i0 (.agg #[.int .i64 0,.string ByteArray.empty,.int .i64 0,.int .i64 0]) 4 40 Tryz.underlying28 hi hz0 hz1 hz2 rfl (by decide) (.slice avR (pos) cvR) (pos) (GR.flat aK (n.reqs.take pos)) Gb ⟨rb,0,none⟩ 1 1 (aK ⟨no,k,nn,1⟩) rfl (World.news_of_block ze) (lX _) (by unfold maxLen;omega) (by omega) GX;open ajm in exact XW):P:=h
theorem ajJ.Ka157(h:P:=by
 obtain⟨v4,y4,NK,J8,zC,RY⟩:=fu x4 wc.heap.size 28 28 97 i0 (.agg #[.int .i64 0,.string ByteArray.empty,.int .i64 0,.int .i64 0]) 4 40 Tryz.underlying28 hi hz0 hz1 hz2 rfl (by decide) (.slice avR (pos) cvR) (pos) (GR.flat aK (n.reqs.take pos)) Gb ⟨rb,0,none⟩ 1 1 (aK ⟨no,k,nn,0⟩) rfl (World.news_of_block ze) (lX _) (by unfold maxLen;omega) (by omega) GX;open ajn in exact XW):P:=h
theorem Qv(h:P:=by
 have qC:=hide (uI.trans (hx2.mono uI.size));have qH:wc.heap.size≤x2.heap.size:=qC.size;have AZ:=hide (GR.own_below U9 hx2);clear hx2;exact Ka158):P:=h
theorem ajK.Ka158(h:P:=by
 refine⟨(au x2 _).mono qH,?_⟩;have Bf:=au x2 (.cells #[.int .i64 no,.string k,.int .i64 nn,.int .i64 0] 97);have P9:=hide (heap_alloc_new x2 (.cells #[.int .i64 no,.string k,.int .i64 nn,.int .i64 0] 97));open agC in exact aaO):P:=h
theorem ajL.Ka158(h:P:=by
 refine⟨(au x2 _).mono qH,?_⟩;have Bf:=au x2 (.cells #[.int .i64 no,.string k,.int .i64 nn,.int .i64 1] 97);have P9:=hide (heap_alloc_new x2 (.cells #[.int .i64 no,.string k,.int .i64 nn,.int .i64 1] 97));open agD in exact aaO):P:=h
theorem ajM.Ka158(h:P:=by
 obtain⟨v2,y2,NJ,NI,NC,an4⟩:=dX aY (by omega) x2 wc.heap.size 28 28 97 i0 (.agg #[.int .i64 0,.string ByteArray.empty,.int .i64 0,.int .i64 0]) 40 Tryz.underlying28 hi hz0 hz1 hz2 rfl (.slice (some ⟨x1.heap.size,0,none⟩) 0 0) 0 (GR.flat aK ([])) AZ (some ⟨gr,0,none⟩) (n.reqs.take pos) aQ (GR.At.below AY qC) (gI _) (by unfold maxLen;omega) (by omega) qH;rw [hlt1] at NJ NI;refine Lib.wp_append_run x2 (.tmp 93) (.tmp 97) 28 28 rfl _ _ (by simp[Act.eval]) (by simp[Act.eval]) v2 y2 NJ ?_;refine⟨(Below.refl _ _).grown NC qH (fun b hb=>(AZ.lt b hb).1),?_⟩;go_simp;have DR:=hide (qC.grown NC qH (fun b hb=>(AZ.lt b hb).1));have Ba:Hid (y2.ownsRow wc.heap.size 97 4 v2 (pos) (GR.flat aK (n.reqs.take pos))):=hide (by simpa [GR.flat_nil] using NI);obtain⟨avR,cvR,RI,_⟩:=GR.own_at (enc:=aK) (sz:=4) (l:=n.reqs.take pos) aY (by rw [hlt1];exact Ba);open akY in exact Yz):P:=h
theorem Yb(h:P:=by
 have y0:=(hcell 0 (by omega)).1;rw [Nat.mul_one,Nat.add_zero] at y0;simp only[List.getElem?_cons_zero] at y0;clear hcell;exact Ka159):P:=h
theorem ajN.Ka159(h:P:=by
 have HUP:=hide (fun(h:¬(aW s0 mL)[x] < mI)=>TB (l:=aW s0 mL) (x:=mI) hx PW (fun _=>h))
 have PZ:=hide (fun(h:(aW s0 mL)[x] < mI)=>show∀y (hy:y < (aW s0 mL).length),y < x+1→(aW s0 mL)[y] < mI from fun y hy h2=>by
  by_cases e:y=x
  ·subst e;exact h
  ·exact PW y hy (by omega))
 generalize (aW s0 mL)[x]=rn at *;by_cases hcmp:rn < mI
 ·go_wp2_with fail;go_quiet (fail);go_wp2_with fail;go_roundw
  case rel=>exact⟨x+1,_,by omega,by go_num,PZ hcmp,rfl⟩
  case measure=>simp[intOf];omega
 ·have Rs:decide (rn < mI)=false:=decide_eq_false hcmp;have HJ:=hide (HUP hcmp);exact anb):P:=h
theorem ajO.Ka159(h:P:=by
 subst eb;have hlen:=N8 s0 mL k;by_cases hge:dU s0 mL≤s0.ids[k]
 ·have HY:=hide (N9 s0 mL k hlt hge);generalize s0.ids[k]=x at *;have hd:decide (dU s0 mL≤x)=true:=decide_eq_true hge;go_wp2_with fail;go_quiet (fail);go_wp2_with (at_builtin;refine wpList_append_own _ rfl _ _ 24 rfl W3.heap.size 3 i0 (.int .i64 0) 1 8 Tryz.underlying24 hi0 hz0 hz1' hz2 rfl (by decide) _ _ _ rfl (yG hown) ⟨wr.heap.size,0,none⟩ 1 1 [.int .i64 x] rfl rfl ?c1 ?c2 ?c3 ?c4 ?c5 ?_)
  case c1=>exact cell_one_new _ _ _
  case c2=>intro u hu;simp at hu;subst hu;rfl
  case c3=>unfold maxLen;omega
  case c4=>omega
  case c5=>have:=fD.size;simp;omega
  intro v' w2 hown' hgrow _;have aoe:=hide (GR.below_append (wr:=wr.drewN nq) (fD.trans ⟨rfl,rfl,rfl,Nat.le_refl _,fun _ _=>rfl⟩) fD.size hown hgrow)
  obtain⟨g',cp',rfl⟩:∃g' cp',v'= .slice (some ⟨g',0,none⟩) ((lK s0 mL k).length+1) cp':=by
   rcases hown'.2 with⟨_,hn⟩|⟨g',cap',cur,hv,_⟩
   ·omega
   ·exact⟨g',cap',hv⟩
  have UH:=hide hown';clear hown' hgrow;go_wp2_with fail;go_roundw
  case rel=>exact⟨k+1,g',cp',by omega,by go_num,by rw [ah HY,List.length_append];rfl,by rw [ah HY,List.length_append,GR.flat_append,GR.flat_one];exact UH,fun e=>by rw [ah HY] at e;simp at e,aoe⟩
  case measure=>simp[intOf];omega
 ·have HY:=hide (R5 s0 mL k hlt hge);generalize s0.ids[k]=x at *;have hd:decide (dU s0 mL≤x)=false:=decide_eq_false hge;go_wp2_with fail;go_quiet (fail);go_wp2_with fail;go_roundw
  case rel=>exact⟨k+1,g,cp,by omega,by go_num,by rw [ah HY],by rw [ah HY];exact hown,by rw [ah HY];exact aap,fD.trans ⟨rfl,rfl,rfl,Nat.le_refl _,fun _ _=>rfl⟩⟩
  case measure=>simp[intOf];omega):P:=h
theorem Yc(h:P:=by
 obtain⟨R,hR⟩:∃R,bX ⟨6,no,k,n,m⟩=R:=⟨_,rfl⟩;rw [hR];have HP:=hide (show R=(decide (k.toList=[])&&decide (n=0)&&decide (no=0)&&bJ m) by rw [←hR];simp[bX]);clear hR;generalize bJ m=OK at *;obtain⟨mK,mF,mT,mI,mL,mk,mN⟩:=m;exact Ka160):P:=h
theorem ajP.Ka160(h:P:=by
 have HX:=hide (heap_alloc_new (w.alloc (.cells #[.int .i64 6,.int .i64 no,.string k,.int .i64 n,.int .i64 mK,.int .i64 mF,.int .i64 mT,.int .i64 mI,.int .i64 mL,.string mk,.int .i64 mN] 34)) (.cells #[.int .i64 6,.int .i64 0,.string ⟨#[]⟩,.int .i64 0,.int .i64 0,.int .i64 0,.int .i64 0,.int .i64 0,.int .i64 0,.string ⟨#[]⟩,.int .i64 0] 34));have HY:=hide (fG (heap_alloc_new w (.cells #[.int .i64 6,.int .i64 no,.string k,.int .i64 n,.int .i64 mK,.int .i64 mF,.int .i64 mT,.int .i64 mI,.int .i64 mL,.string mk,.int .i64 mN] 34)) (au _ (.cells #[.int .i64 6,.int .i64 0,.string ⟨#[]⟩,.int .i64 0,.int .i64 0,.int .i64 0,.int .i64 0,.int .i64 0,.int .i64 0,.string ⟨#[]⟩,.int .i64 0] 34)));rw [show(w.alloc (.cells #[.int .i64 6,.int .i64 no,.string k,.int .i64 n,.int .i64 mK,.int .i64 mF,.int .i64 mT,.int .i64 mI,.int .i64 mL,.string mk,.int .i64 mN] 34)).heap.size=w.heap.size+1 by simp] at HX;go_enter Tryz.func105,Tryz.ntmps105
 go_wp2_with fail;refine(HM _).mono ?_;rintro e w1 ⟨rfl,hb1⟩;have yA:=hide (fG HX hb1);have HY1:=hide (fG HY hb1);have HB1:=hide ((iG w _ _).trans (hb1.mono (by simp;omega)));clear hb1 HX HY;obtain⟨x0,x1,x2,x3,x4,x5,x6,x7,x8,x9,x10⟩:=yN yA;obtain⟨y0,y1,y2,y3,y4,y5,y6,y7,y8,y9,y10⟩:=yN HY1;have f4:=pR yA 4;have f5:=pR yA 5;have f6:=pR yA 6;have f7:=pR yA 7;have f8:=pR yA 8;have f9:=pR yA 9;have f10:=pR yA 10;cases Ue:OK
 ·go_wp2_with fail
  all_goals
   go_ret
   refine⟨aD ?_,?_⟩
   ·rw [ah HP];simp[Ue]
   ·exact Q5
 have HKK:=hide Ue;clear Ue;by_cases hno:no=0
 case' neg=>
  have hno':¬(0:Int)=no:=fun e=>hno e.symm
  go_wp2_with fail
  all_goals
   go_ret
   refine⟨aD ?_,?_⟩
   ·rw [ah HP];simp[hno]
   ·exact Q5
 subst hno;by_cases hk:k.toList=[]
 case' neg=>
  go_wp2_with fail
  all_goals
   go_ret
   refine⟨aD ?_,?_⟩
   ·rw [ah HP];simp[hk]
   ·exact Q5
 by_cases hn:n=0
 case' neg=>
  have hn':¬(0:Int)=n:=fun e=>hn e.symm
  go_wp2_with fail
  all_goals
   go_ret
   refine⟨aD ?_,?_⟩
   ·rw [ah HP];simp[hn,hk]
   ·exact Q5
 subst hn;go_wp2_with fail
 all_goals
  go_ret
  refine⟨aD ?_,?_⟩
  ·rw [ah HP];simp[hk,ah HKK]
  ·exact Q5):P:=h
theorem ajQ.Ka160(h:P:=by
 go_enter Tryz.func36,Tryz.ntmps36
 go_wp2_with (go_at_call 113;refine(HM _).mono ?_;rintro e w1 ⟨rfl,hb1⟩;have HB1:=hide hb1;clear hb1)
 all_goals
  go_ret
  refine⟨aD ?_,by first|exact au w _|exact(au w _).trans (HB1.mono (by simp))⟩
  rw [ah HP]
  simp[*]):P:=h
theorem Qw(h:P:=by
 have MH:=hide (show∀b,(v3).ownBlock=some b→b≠x1.heap.size from fun b hb=>(J9 b hb).elim (fun h=>DK b h) (fun h=>by have:=aA tq;omega));exact Ka161):P:=h
theorem ajR.Ka161(h:P:=by
 open alA in exact YR):P:=h
theorem ajS.Ka161(h:P:=by
 open aht in exact LC):P:=h
theorem ajT.Ka161(h:P:=by
 open ahu in exact LC):P:=h
theorem Qx(h:P:=by
 have MH:=hide (show∀b,(v3).ownBlock=some b→b≠x2.heap.size from fun b hb=>(J9 b hb).elim (fun h=>DK b h) (fun h=>by have:=aA tq;omega));exact Ka162):P:=h
theorem ajU.Ka162(h:P:=by
 open alz in exact YR):P:=h
theorem ajV.Ka162(h:P:=by
 open ahr in exact LC):P:=h
theorem ajW.Ka162(h:P:=by
 open ahs in exact LC):P:=h
theorem Yd(h:P:=by
 obtain⟨⟨p0,p1,p2,p3,p4,p5,p6,p7,p8,p9,lT⟩,_⟩:=dP JD;have hpl:=aA JD;go_wp2_with fail;refine(qB z HZ).mono ?_;rintro e w1 ⟨rfl,hb1⟩;have HZ1:=hide (HZ.step hb1);clear hb1 qB p0 p1 p2 p3 p4 p5 p6 p7 p8 p9 lT HZ JD;exact Ka163):P:=h
theorem ajX.Ka163(h:P:=by
 obtain⟨g,hAr,hgw,hgl,⟨q0,q1,q2,q3⟩,qf⟩:=HZ1.reqRow i hil;obtain⟨d0,d1,d2,d3,d4,d5,d6,d7,d8,d9⟩:=gY HZ1.blk;rw [hAr] at d8;have aqZ:=aA HZ1.blk;have aqv:(i:Int) < (n.reqs.length:Int):=by omega
 rw [hs] at q3;go_upto_region 7 with fail;refine wp_at (fun W hW=>?_);obtain rfl:=hW;exact Ka80):P:=h
theorem ajY.Ka163(h:P:=by
 go_wp2_with fail;go_ret;exact⟨rfl,A,G,c,HZ1⟩):P:=h
theorem Ye(h:P:=by
 refine bn 20 (by kernel_rfl) ?_;show dS _ _ _ _ _ 23 (Array.replicate 23 false) _ _
 refine tk [0,1,2,3,4,5,6,7,8,9,10,11,12,13,14,15,16] ?_;iterate 17 (refine nQ (fun K hK=>?_);go_simp;refine hK _ ?_;clear hK K)
 refine jI ?_;exact Ka164):P:=h
theorem ajZ.Ka164(h:P:=by
 clear y1 y4 z2 z3;refine cZ 17 rfl (by kernel_rfl) (by rfl) (fun x hx=>?_);go_simp;have jy:=hide ((au w (.cells #[.int .i64 K,.int .i64 no,.string k,.int .i64 nn,.int .i64 mK,.int .i64 mF,.int .i64 mT,.int .i64 mI,.int .i64 mL,.string mk,.int .i64 mN] 34)).trans (hx.mono (by simp)));clear hx;refine(HMI x jy).mono ?_;rintro e y ⟨a,cp,g,hg,rfl,hp,hby⟩;refine⟨hby,?_⟩;have Fv:=hide (jy.trans (hby.mono jy.size));have HST:=hide (fun z (hz:Ge y z)=>Mx (cp:=cp) HW (Fv.trans (hz.mono Fv.size)) (Nat.le_trans jy.size hg) (hp.below hz));clear hby hg hp HMI;refine tk [18,19] ?_;iterate 2 (refine nQ (fun K hK=>?_);go_simp;refine hK _ ?_;clear hK K)
 refine jI ?_;refine aV (by kernel_rfl) (fun z hz=>?_);refine aG 20 rfl (by kernel_rfl) (by rfl) ?_;go_simp;refine(HST z hz).mono ?_;rintro e z2 ⟨rfl,A',G',c',hZ⟩;have HZ:=hide hZ;clear hZ HST hz;open akR in exact Yv):P:=h
theorem aj0.Ka164(h:P:=by
 clear y4 z3 z5 z6 x1;refine cZ 17 rfl (by kernel_rfl) (by rfl) (fun x hx=>?_);go_simp;have jy:=hide ((au w (.cells #[.int .i64 mK,.int .i64 mF,.int .i64 mT,.int .i64 mI,.int .i64 mL,.string mk,.int .i64 mN] 32)).trans (hx.mono (by simp)));have HXP:=hide (aj uL hx);clear hx;refine(Wy x jy).mono ?_;rintro e y ⟨a,cp,g,hg,rfl,hp,hby⟩;refine⟨hby,?_⟩;have Fv:=hide (jy.trans (hby.mono jy.size));have HYP:=hide (aj HXP hby);have HST:=hide (fun z (hz:Ge y z)=>Mw (cp:=cp) HW.wk (Fv.trans (hz.mono Fv.size)) (Nat.le_trans jy.size hg) (hp.below hz));clear hby hg hp Wy;refine tk [18,19] ?_;iterate 2 (refine nQ (fun K hK=>?_);go_simp;refine hK _ ?_;clear hK K)
 refine jI ?_;refine aV (by kernel_rfl) (fun z hz=>?_);have rR:=hide (Fv.trans (hz.mono Fv.size));have HZP:=hide (aj HYP hz);refine aG 20 rfl (by kernel_rfl) (by rfl) ?_;go_simp;refine(HST z hz).mono ?_;rintro e z2 ⟨rfl,A',G',c',hZ,hko,hcc⟩;have HZ:=hide (HW.settled rR hZ hko hcc);have xK:=hide (hko w.heap.size _ (by omega) HZP);have HKO:Hid (∀j o,j≠wb→w.heap[j]?=some o→z2.heap[j]?=some o):=fun j o h1 h2=>hko j o h1 (aj h2 rR)
 clear hZ hko hcc HST hz rR HZP HYP Fv HXP jy;open akQ in exact Yv):P:=h
theorem Yf(h:P:=by
 unfold dZ;have H9:=hide h9;clear h9;have jY:=hide (h.nine hB);have HGS:=hide (h.s);have hc4:c G.s=4:=h.c4 G.s (dz (by omega));clear h;go_enter Tryz.func119,Tryz.ntmps119
 go_upto_region 1 with fail;refine wp_at (fun W0 hW=>?_);exact Ka165):P:=h
theorem aj1.Ka165(h:P:=by
 obtain⟨e1,e2,e3,e4⟩:=eT w (.cells (fZ n (⟨a_k,iy,dA,dJ,fq,aI,bf,aM,aJ,aQ⟩:bE)) 30) (.cells #[.int .i64 mK,.int .i64 mF,.int .i64 mT,.int .i64 mI,.int .i64 mL,.string mk,.int .i64 mN] 32) (.cells iO 30);open afL in exact aml):P:=h
theorem aj2.Ka165(h:P:=by
 obtain⟨e1,e2,e3,e4⟩:=eT w (.cells (fZ n (⟨a_k,(some ⟨gp,0,none⟩),dA,dJ,fq,aI,bf,aM,aJ,aQ⟩:bE)) 30) (.cells #[.int .i64 mK,.int .i64 mF,.int .i64 mT,.int .i64 mI,.int .i64 mL,.string mk,.int .i64 mN] 32) (.cells iO 30);open afM in exact aml):P:=h
theorem Qy(h:P:=by
 rcases ho.2 with⟨_,hy⟩|⟨g,cp,cur,hx,hbg,hgg,hnc,hcm,hcs,htk⟩
 ·omega
 simp only[Value.slice.injEq] at hx;obtain⟨rfl,_,rfl⟩:=hx;exact Ka166):P:=h
theorem aj3.Ka166(h:P:=by
 by_cases hroom:l.length+1≤cap
 ·refine(Ew g cap i l q vb w cur hl hi2 hroom hcm (hne g rfl) hgg hcs htk hv).mono ?_;rintro e w' ⟨rfl,hb,hgr⟩;have hcl:(l.length+1)*4≤cur.toList.length:=by rw [show cur.toList.length=cur.size from Array.length_toList,hcs];omega
  refine⟨some ⟨g,0,none⟩,cap,by rw [hlen],?_,hgr,fun x hx=> .inl hx⟩;rw [hlen];refine⟨hfl,.inr ⟨g,cap,_,rfl,hbg,hb,hroom,hcm,?_,?_⟩⟩
  ·rw [List.size_toArray,Ti _ _ _ _ hi2 hcl,show cur.toList.length=cur.size from Array.length_toList,hcs]
  ·exact OA cur.toList l i q hi2 hcl htk
 ·refine(H7 g cap i l q vb w cur hl hi2 hnc (by omega) hgg htk hv).mono ?_;rintro e w' ⟨G,cur',rfl,hG,hGm,hb,hs,ht,hgr⟩;refine⟨some ⟨w.heap.size,0,none⟩,G,by rw [hlen],?_,⟨hgr.os,hgr.tape,hgr.output,hgr.size,fun k hk _=>hgr.block k hk (by simp)⟩,fun x hx=> .inr ?_⟩
  ·rw [hlen];exact⟨hfl,.inr ⟨w.heap.size,G,cur',rfl,hB,hb,hG,hGm,hs,ht⟩⟩
  ·have:w.heap.size=x:=by simpa [Value.ownBlock] using hx
   omega):P:=h
theorem aj4.Ka166(h:P:=by
 refine(Nq g cap l w cur h2 hl hnc hcm hgg hcs htk).mono ?_;rintro e w' ⟨rfl,hb,hgr⟩;have hcl:l.length*4≤cur.toList.length:=by rw [show cur.toList.length=cur.size from Array.length_toList,hcs];omega
 refine⟨some ⟨g,0,none⟩,cap,by rw [hlen],?_,hgr,fun x hx=> .inl hx⟩;rw [hlen];refine⟨by rw [fU,hlen],.inr ⟨g,cap,_,rfl,hbg,hb,by omega,hcm,?_,?_⟩⟩
 ·rw [List.size_toArray,Tk _ _ h2 hcl,show cur.toList.length=cur.size from Array.length_toList,hcs]
 ·exact OD cur.toList l h2 hcl):P:=h
theorem aj5.Ka166(h:P:=by
 have hce:cur=(GR.flat aS l++cur.toList.drop (l.length*4)).toArray:=by
  rw [←htk,List.take_append_drop,Array.toArray_toList]
 have hlr:l.length*4+(cur.toList.drop (l.length*4)).length=cap*4:=by
  rw [List.length_drop,show cur.toList.length=cur.size from Array.length_toList,hcs];omega
 rw [hce] at hgg;have hlen:(l.eraseIdx (mE l m)).length=l.length - 1:=List.length_eraseIdx_of_lt h;refine(JV g cap l _ B (mE l m) m w hl h hno hnc hcm hlr hB hgg hix).mono ?_;rintro e w' ⟨rfl,⟨r2,hS2,hr2⟩,hgr⟩;refine⟨some ⟨g,0,none⟩,cap,by rw [hlen],?_,hgr,fun x hx=>hx⟩;rw [hlen];refine⟨by rw [kE,hlen],.inr ⟨g,cap,_,rfl,hbg,hS2,by omega,hcm,?_,?_⟩⟩
 ·rw [List.size_toArray,List.length_append,kE,hlen];exact hr2
 ·exact List.take_left' (by rw [kE,hlen])):P:=h
theorem Gg(h:P:=by
 have y0:=cell_regrown p0;have y1:=cell_regrown p1;have y2:=cell_regrown p2;have y3:=cell_regrown p3;exact Ka167):P:=h
theorem aj6.Ka167(h:P:=by
 have y4:=cell_regrown c4;clear HO p0 p1 p2 p3 c4;open adB in exact JK):P:=h
theorem aj7.Ka167(h:P:=by
 have y4:=cell_regrown p4;have y5:=cell_regrown p5;have y6:=cell_regrown p6;exact Ka66):P:=h
theorem aj8.Ka167(h:P:=by
 clear HO p0 p1 p2 p3;open adz in exact JK):P:=h
theorem aj9.Ka167(h:P:=by
 clear HO p0 p1 p2 p3;open adA in exact JK):P:=h
theorem akb.Ka167(h:P:=by
 have y4:=cell_regrown c4;clear HO p0 p1 p2 p3 c4;open adC in exact JK):P:=h
theorem Yg(h:P:=by
 rw [←hW] at e1 e2 e3;have HN:=hide e1;have HR:=hide e2;have HB0:=hide e3;have Fz:=hide (jY.kc (k:=9) (KC.of_below e3) (by omega));clear hW e1 e2 e3 jY hbw0 hlo;obtain⟨c0,c1,c2,c3,c4,c5,c6,c7,c8⟩:=nine HN;have hnl:=aA HN;exact Ka168):P:=h
theorem akc.Ka168(h:P:=by
 have oH:=hide HR;open aeI in exact QG):P:=h
theorem akd.Ka168(h:P:=by
 go_wp2_with fail;refine(FZ W0 Fz.at.r).mono ?_;open alc in exact YI):P:=h
theorem Qz(h:P:=by
 have qB:=hide (fun w1 (hw:WK w0 w1 wb n A G c v L)=>Fq w0 w1 wb n A G c v L o.no hok h0 h1 hw);rw [hf] at qB;have hlen:=(gQ hok).2.1;exact Ka169):P:=h
theorem ake.Ka169(h:P:=by
 clear hR h0 h1 hok hf hgd Vx;generalize dx n.reqs o.no=i at *;open ao1 in exact Ya7):P:=h
theorem akf.Ka169(h:P:=by
 generalize dx n.reqs o.no=i at *;generalize Ah n.reqs[i] o.k o.n=SQ at *;clear hR h0 h1 hok hf hgd;open aoY in exact Ya7):P:=h
theorem akg.Ka169(h:P:=by
 clear hR h0 h1 hok hf hgd Vx;generalize dx n.reqs o.no=i at *;have Xb:=hide (fun w1 (hw:WK w0 w1 wb n A G c v L)=>Hr A.p A.cp n.pu n.reqs[i].k n.reqs[i].n E w1 hz.p hz.pk (hz.rk _ (List.getElem_mem hil)) hw.no.p.at (he.below hw.keep));unfold iP at Xb;generalize bV n.pu n.reqs[i].k 0 1 (-1) n.reqs[i].n=r at *;open aoV in exact Ya7):P:=h
theorem Yh(h:P:=by
 have k8:=(nine nL).2.2.2.2.2.2.2.2;have kf8:=ay nL 8;clear hrun Bd GN;go_upto_region 20 with(at_builtin;refine fA rfl (.tmp 118) (.tmp 121) 28 rfl _ _ rfl rfl _ _ (M7 _) ?_)
 refine wp_at (fun W9 J4=>?_);exact Ka170):P:=h
theorem akh.Ka170(h:P:=by
 have sZ:Hid (W9.heap[w.heap.size]?=some (.cells #[.int .i64 n.id,.int .i64 n.par,.slice a_k n.kids.length aI,.int .i64 n.next,.slice av RL.length cv,.slice dA n.out.length aM,.slice dJ n.seen.length aJ,.int .i64 IH.no,.slice (some ⟨g8,0,none⟩) n.reqs.length zn] 30 (0,0))):=by rw [J4];exact bg nL 8 _
 have jA:Hid (W9.heap[w.heap.size+2]?=some (.cells iO 30 (0,0))):=by rw [J4];exact fI _ (by omega) uN
 have DV:Hid (W9.heap[W1.heap.size]?=some (.cells #[.int .i64 no,.string k,.int .i64 nn,.int .i64 0] 97 (0,0))):=by rw [J4];exact fI _ (by omega) UL
 open ai8 in exact XM):P:=h
theorem aki.Ka170(h:P:=by
 have sZ:Hid (W9.heap[w.heap.size]?=some (.cells #[.int .i64 n.id,.int .i64 n.par,.slice a_k n.kids.length aI,.int .i64 n.next,.slice (some ⟨gp,0,none⟩) n.pu.length bf,.slice dA n.out.length aM,.slice dJ n.seen.length aJ,.int .i64 IH.no,.slice (some ⟨g8,0,none⟩) n.reqs.length zn] 30 (0,0))):=by rw [J4];exact bg nL 8 _
 have jA:Hid (W9.heap[w.heap.size+2]?=some (.cells iO 30 (0,0))):=by rw [J4];exact fI _ (by omega) uN
 have DV:Hid (W9.heap[W1.heap.size]?=some (.cells #[.int .i64 no,.string k,.int .i64 nn,.int .i64 1] 97 (0,0))):=by rw [J4];exact fI _ (by omega) UL
 open ai9 in exact XM):P:=h
theorem Yi(h:P:=by
 obtain⟨rfl,hge⟩:=hcut;have yu:=hide (aj wN hge);have uM:=hide (aj F6 hge);have M4:=hide (aj aaz hge);have jJ:=hide (nK.trans (hge.mono nK.size));have HA5:=hide (GR.At.below HA4 hge);exact Ka171):P:=h
theorem akj.Ka171(h:P:=by
 skip
 open aiV in exact XH):P:=h
theorem akk.Ka171(h:P:=by
 have FB:=hide (MZ.below hge);clear MZ;open aiW in exact XH):P:=h
theorem Yj(h:P:=by
 refine wp_at (fun W1 hW1=>?_);have HW1:Hid (W1.heap[wr.heap.size]?=some (.cells #[.int .i64 fr,.int .i64 lo,.slice b ids.length c] 90 (0,0))):=by rw [hW1];exact heap_alloc_new _ _
 exact Ka172):P:=h
theorem akl.Ka172(h:P:=by
 open ad3 in exact Vd):P:=h
theorem akm.Ka172(h:P:=by
 have hbw:Below wr.heap.size wr W1:=by rw [hW1];exact au wr _
 have aci:=hide (jy.trans (hbw.mono jy.size));have HI1:=hide (GR.At.below HI hbw);have p1:=(hbw.cell (p:=⟨g2,off2+k,none⟩) abq).trans p0;have qp:=hide (fD.trans (hbw.mono fD.size));clear hW1 hbw q0 q1 q2 p0 HI;obtain⟨d0,d1,d2⟩:=three HW1;have m0:=cell_grown' d0;have m1:=cell_grown' d1;have m2:=cell_grown' d2;have m3:=cell_grown' p1;by_cases h1:fr=y
 case' neg=>
  have hb1:(fr != y)=true:=by simp[h1]
  have HP:=hide (show TT=false by rw [ah HD,decide_eq_false (ah yA h1)];rfl)
  clear h1 HST yA Va
  refine wp_region_quiet_below (by kernel_rfl) (by kernel_rfl) ?_
  repeat (first|go_big_quiet_step (fail)|quiet_step (fail))
  refine wpQuiet_nil ?_
  intro _ hw'
  obtain⟨⟨dq,osq⟩,hw''⟩:=hw'
  subst hw''
  go_wp2_with fail
  go_ret
  exact⟨aD HP.symm,qp.trans ((below_regrown _ dq osq).mono qp.size)⟩
 have hb1:(fr != y)=false:=by simp[h1]
 cases h2:qz ⟨fr,lo,ids⟩
 case' false=>
  have HP:=hide (show TT=false by rw [ah HD,ah Va h2];simp)
  have cS:=aah ⟨fr,lo,ids⟩ b c false W1 Bh HI1 h2
  clear h1 HST yA Va
  refine wp_region_quiet_below (by kernel_rfl) (by kernel_rfl) ?_
  repeat (first|go_big_quiet_step ((first|(go_at_call 132;exact cS _ _)))|quiet_step ((first|(go_at_call 132;exact cS _ _))))
  refine wpQuiet_nil ?_
  intro _ hw'
  obtain⟨⟨dq,osq⟩,hw''⟩:=hw'
  subst hw''
  go_wp2_with fail
  go_ret
  exact⟨aD HP.symm,qp.trans ((below_regrown _ dq osq).mono qp.size)⟩
 have HG:=hide (HST h1 h2);have cS:=aah ⟨fr,lo,ids⟩ b c true W1 Bh HI1 h2;clear h1 HST yA Va;refine wp_region_quiet_below (by kernel_rfl) (by kernel_rfl) ?_;repeat (first|go_big_quiet_step ((first|(go_at_call 132;exact cS _ _)))|quiet_step ((first|(go_at_call 132;exact cS _ _))))
 refine wpQuiet_nil ?_;intro _ hw';obtain⟨⟨dq,osq⟩,hw''⟩:=hw';subst hw'';go_wp2_with fail;go_roundw
 case rel=>exact⟨k+1,by omega,by go_num,HG.1,HG.2,aci.trans ((below_regrown _ dq osq).mono aci.size)⟩
 case measure=>simp[intOf];omega):P:=h
theorem Yk(h:P:=by
 obtain⟨rfl,e4,eU⟩:=hcut;rename_i wz _ _ _
 have rR:=hide (rW.trans (eU.below (B:=w.heap.size) (fun x hx=>by simp at hx;omega) rW.size));have HLZ:=hide (HL6.keeps eU (fun x hx=>by simp at hx;omega));exact Ka173):P:=h
theorem akn.Ka173(h:P:=by
 skip
 obtain⟨x0,x1,x2,x3,x4,x5,x6,x7,x8⟩:=nine e4;clear e4 eU;go_wp2_with fail;refine bodyPost_ret (v:= .tuple #[.agg #[.int .i64 n.id,.int .i64 n.par,.slice a_k n.kids.length aI,.int .i64 n.next,.slice (some ⟨gp,0,none⟩) n.pu.length bf,.slice dA n.out.length aM,.slice dJ n.seen.length aJ,.int .i64 n.old,.slice (some ⟨gv,0,none⟩) (n.reqs.length+1) vc],.int .i64 1]) (by simp[results,Tryz.results39,go_sem,x0,x1,x2,x3,x4,x5,x6,x7,x8]) rfl ?_;rw [ah HK];refine⟨⟨a_k,(some ⟨gp,0,none⟩),dA,dJ,(some ⟨gv,0,none⟩),aI,bf,aM,aJ,vc⟩,?_,fun W'' ho=>?_,rR.mono hB,Apart.of_below rR⟩
 ·simp[gu,fZ,dD,ah Nu]
 ·exact amW):P:=h
theorem ako.Ka173(h:P:=by
 have JD:=hide (P7.keeps eU (fun x hx=>by simp at hx;omega));obtain⟨x0,x1,x2,x3,x4,x5,x6,x7,x8⟩:=nine e4;clear e4 eU;go_wp2_with fail;refine bodyPost_ret (v:= .tuple #[.agg #[.int .i64 n.id,.int .i64 n.par,.slice a_k n.kids.length aI,.int .i64 n.next,.slice av RL.length cv,.slice dA n.out.length aM,.slice dJ n.seen.length aJ,.int .i64 n.old,.slice (some ⟨gv,0,none⟩) (n.reqs.length+1) vc],.int .i64 0]) (by simp[results,Tryz.results39,go_sem,x0,x1,x2,x3,x4,x5,x6,x7,x8]) rfl ?_;rw [ah HK];refine⟨⟨a_k,av,dA,dJ,(some ⟨gv,0,none⟩),aI,cv,aM,aJ,vc⟩,?_,fun W'' ho=>?_,rR.mono hB,Apart.of_below rR⟩
 ·simp[gu,fZ,dD,setPu,ah Nu]
 ·exact amS):P:=h
theorem Yl(h:P:=by
 obtain⟨rfl,e4,eU⟩:=hcut;rename_i wz _ _ _
 have rR:=hide (Uj.trans (eU.below (B:=w.heap.size) (fun x hx=>by simp at hx;omega) Uj.size));have HLZ:=hide (HL9.keeps eU (fun x hx=>by simp at hx;omega));exact Ka174):P:=h
theorem akp.Ka174(h:P:=by
 skip
 obtain⟨x0,x1,x2,x3,x4,x5,x6,x7,x8⟩:=nine e4;clear e4 eU;go_wp2_with fail;refine bodyPost_ret (v:= .tuple #[.agg #[.int .i64 n.id,.int .i64 n.par,.slice a_k n.kids.length aI,.int .i64 n.next,.slice (some ⟨gp,0,none⟩) n.pu.length bf,.slice dA n.out.length aM,.slice dJ n.seen.length aJ,.int .i64 IH.no,.slice (some ⟨g8,0,none⟩) n.reqs.length zn],.int .i64 1]) (by simp[results,Tryz.results39,go_sem,x0,x1,x2,x3,x4,x5,x6,x7,x8]) rfl ?_;rw [ah HK];refine⟨⟨a_k,(some ⟨gp,0,none⟩),dA,dJ,(some ⟨g8,0,none⟩),aI,bf,aM,aJ,zn⟩,?_,fun W'' ho=>?_,rR.mono hB,Apart.of_below rR⟩
 ·simp[gu,fZ,dD,jR,Nu]
 ·exact amW):P:=h
theorem akq.Ka174(h:P:=by
 have JD:=hide (HP9.keeps eU (fun x hx=>by simp at hx;omega));obtain⟨x0,x1,x2,x3,x4,x5,x6,x7,x8⟩:=nine e4;clear e4 eU;go_wp2_with fail;refine bodyPost_ret (v:= .tuple #[.agg #[.int .i64 n.id,.int .i64 n.par,.slice a_k n.kids.length aI,.int .i64 n.next,.slice av RL.length cv,.slice dA n.out.length aM,.slice dJ n.seen.length aJ,.int .i64 IH.no,.slice (some ⟨g8,0,none⟩) n.reqs.length zn],.int .i64 0]) (by simp[results,Tryz.results39,go_sem,x0,x1,x2,x3,x4,x5,x6,x7,x8]) rfl ?_;rw [ah HK];refine⟨⟨a_k,av,dA,dJ,(some ⟨g8,0,none⟩),aI,cv,aM,aJ,zn⟩,?_,fun W'' ho=>?_,rR.mono hB,Apart.of_below rR⟩
 ·simp[gu,fZ,dD,jR,setPu,Nu]
 ·exact amS):P:=h
theorem Ym(h:P:=by
 obtain⟨k,y,hk,rfl,rfl,hy,hall,hblk,hbel⟩:=hrel;have kV:=hide hall;have HY:=hide hy;have fD:=hide hbel;have DC:=hide hblk;exact Ka175):P:=h
theorem akr.Ka175(h:P:=by
 have hy0:0≤y:=by rw [hy];exact TQ k hall
 clear hall hy hblk hbel;by_cases hlt:k < out.length
 case' neg=>
  have hke:k=out.length:=by omega
  subst hke
  have hnlt:decide ((out.length:Int) < (out.length:Int))=false:=by simp
  have HF:Hid (TT=true):=by
   exact Nl
  go_wp2_with fail
  go_ret
  exact⟨aD HF.symm,fD⟩
 obtain⟨g,off,e0,hgw,q0,q1,q2,q3⟩:=SentAt.four (HA.below fD).o k hlt;(try dsimp only at e0 q0 q1 q2 q3)
 subst e0;have HBAD:Hid (fT KB RR (out.take (k+1))=false→TT=false):=fun h=>ku.trans (rX _ h)
 have fF:Hid (fT KB RR (out.take (k+1))=(KB out[k]&&decide (y < (out[k]).i))):=by
  exact Zq
 have yL:=hide (uG k hlt);have yt:=hide (Le out[k]);clear iN uG rX Le TQ;generalize out[k]=sk at *;generalize KB sk=OB at *;obtain⟨si,st,sx,sn⟩:=sk;dsimp only at q0 q1 q2 q3 fF yL yt;obtain⟨bb,hbb⟩:∃bb,(!(decide (y < si)&&decide (si < next)&&NN st&&keyOk sx.data.toList&&eD sn))=bb:=⟨_,rfl⟩;have dY:=hide hbb
 have wG:Hid (fT KB RR (out.take (k+1))= !bb):=by
  rw [ah fF,←ah dY,ah yt,Bool.not_not]
  have e1:(decide (1≤si∧si≤next - 1)&&decide (y < si))=(decide (y < si)&&decide (si < next)):=by
   rw [Bool.eq_iff_iff];exact QU
  rw [←e1];generalize decide (1≤si∧si≤next - 1)=z1;generalize decide (y < si)=z2;generalize NN st=z3;generalize keyOk sx.data.toList=z4;generalize eD sn=z5;cases z1<;>cases z2<;>cases z3<;>cases z4<;>cases z5<;>exact hide rfl
 clear hbb fF yt;go_upto_region 7 with fail;refine wp_at (fun W1 hW1=>?_);have HW1:Hid (W1.heap[wr.heap.size]?=some (.cells #[.int .i64 si,.int .i64 st,.string sx,.int .i64 sn] 95 (0,0))):=by rw [hW1];exact heap_alloc_new _ _
 open ad6 in exact Vd):P:=h
theorem aks.Ka175(h:P:=by
 have hy0:old≤y:=by rw [hy];exact TQ k hall
 clear hall hy hblk hbel;by_cases hlt:k < reqs.length
 case' neg=>
  have hke:k=reqs.length:=by omega
  subst hke
  have hnlt:decide ((reqs.length:Int) < (reqs.length:Int))=false:=by simp
  have HF:Hid (TT=true):=by
   exact Nl
  go_wp2_with fail
  go_ret
  exact⟨aD HF.symm,fD⟩
 obtain⟨g,off,e0,hgw,q0,q1,q2,q3⟩:=iA.four (HA.below fD).r k hlt;(try dsimp only at e0 q0 q1 q2 q3)
 subst e0;have HBAD:Hid (fT KB RR (reqs.take (k+1))=false→TT=false):=fun h=>ku.trans (rX _ h)
 have fF:Hid (fT KB RR (reqs.take (k+1))=(KB reqs[k]&&decide (y < (reqs[k]).no))):=by
  exact Zq
 have yL:=hide (uG k hlt);have yt:=hide (Le reqs[k]);clear iN uG rX Le TQ;generalize reqs[k]=sk at *;generalize KB sk=OB at *;obtain⟨si,sx,sn,st⟩:=sk;dsimp only at q0 q1 q2 q3 fF yL yt;obtain⟨bb,hbb⟩:∃bb,(!(decide (y < si)&&mW si&&keyOk sx.data.toList&&eD sn&&decide (0≤st)&&decide (st≤2)))=bb:=⟨_,rfl⟩;have dY:=hide hbb
 have wG:Hid (fT KB RR (reqs.take (k+1))= !bb):=by
  rw [ah fF,←ah dY,ah yt,Bool.not_not]
  have e1:(decide (old+1≤si∧si≤1000000000)&&decide (y < si))=(decide (y < si)&&mW si):=by
   rw [Bool.eq_iff_iff];unfold mW;exact QU
  have e2:decide (0≤st∧st≤2)=(decide (0≤st)&&decide (st≤2)):=by
   rw [Bool.eq_iff_iff];simp only[Bool.and_eq_true,decide_eq_true_eq]
  rw [←e1,e2];generalize decide (old+1≤si∧si≤1000000000)=z1;generalize decide (y < si)=z2;generalize decide (0≤st)=z3;generalize decide (st≤2)=z6;generalize keyOk sx.data.toList=z4;generalize eD sn=z5;cases z1<;>cases z2<;>cases z3<;>cases z4<;>cases z5<;>cases z6<;>exact hide rfl
 clear hbb fF yt;go_upto_region 7 with fail;refine wp_at (fun W1 hW1=>?_);have HW1:Hid (W1.heap[wr.heap.size]?=some (.cells #[.int .i64 si,.string sx,.int .i64 sn,.int .i64 st] 97 (0,0))):=by rw [hW1];exact heap_alloc_new _ _
 open ad5 in exact Vd):P:=h
theorem Yn(h:P:=by
 go_wp2_with fail;refine(FX _ FN).mono ?_;rintro e w1 ⟨rfl,hb1⟩;have HB1:=hide (aj HB0 hb1);have PU:=hide (FN.trans (hb1.mono FN.size));exact Ka176):P:=h
theorem akt.Ka176(h:P:=by
 clear hb1 c0 c1 c2 c3 c4 c5 c6 c7 c8 FX;obtain⟨c0,c1,c2,c3,c4,c5,c6,c7,c8⟩:=nine HB1;cases h1:PL
 case' false=>
  have HV:=hide (show bb=true by rw [←ah dY];simp[h1])
  clear dY h1
  go_wp2_with fail
  go_meet
  case rel=>exact⟨by rw [ah HV],HB1,PU⟩
 go_wp2_with fail;refine(HPU _ PU).mono ?_;rintro e w2 ⟨rfl,hb1⟩;have HB2:=hide (aj HB1 hb1);have HL2:=hide (PU.trans (hb1.mono PU.size));clear hb1 c0 c1 c2 c3 c4 c5 c6 c7 c8 HPU;obtain⟨c0,c1,c2,c3,c4,c5,c6,c7,c8⟩:=nine HB2;cases h2:PS
 case' false=>
  have HV:=hide (show bb=true by rw [←ah dY];simp[h2])
  clear dY h2
  go_wp2_with fail
  go_meet
  case rel=>exact⟨by rw [ah HV],HB2,HL2⟩
 go_wp2_with fail;refine(HTO _ HL2).mono ?_;rintro e w3 ⟨rfl,hb1⟩;have HB3:=hide (aj HB2 hb1);have Lf:=hide (HL2.trans (hb1.mono HL2.size));clear hb1 c0 c1 c2 c3 c4 c5 c6 c7 c8 HTO;obtain⟨c0,c1,c2,c3,c4,c5,c6,c7,c8⟩:=nine HB3;cases h3:TD
 case' false=>
  have HV:=hide (show bb=true by rw [←ah dY];simp[h3])
  clear dY h3
  go_wp2_with fail
  go_meet
  case rel=>exact⟨by rw [ah HV],HB3,Lf⟩
 cases h4:eD next
 case' false=>
  have HV:=hide (show bb=true by rw [←ah dY];simp[h4])
  clear dY h1 h2 h3
  go_wp2_with (go_at_call 61;refine(dM _ _ _ h4).mono ?_;rintro e w9 ⟨rfl,rfl⟩)
  go_meet
  case rel=>exact⟨by rw [ah HV],HB3,Lf⟩
 by_cases h5:out.length≤40
 case' neg=>
  have hq:decide ((40:Int) < out.length)=true:=decide_eq_true (by omega)
  have HV:=hide (show bb=true by rw [←ah dY];simp[h5])
  clear dY h1 h2 h3
  go_wp2_with (go_at_call 61;refine(dM _ _ _ h4).mono ?_;rintro e w9 ⟨rfl,rfl⟩)
  go_meet
  case rel=>exact⟨by rw [ah HV],HB3,Lf⟩
 have hq:decide ((40:Int) < out.length)=false:=decide_eq_false (by omega);cases h6:mW old
 case' false=>
  have AP:=hide (fun w1=>Sv old false w1 h6)
  have HV:=hide (show bb=true by rw [←ah dY];simp[h6])
  clear dY h1 h2 h3
  go_wp2_with (first|(go_at_call 61;refine(dM _ _ _ h4).mono ?_;rintro e w9 ⟨rfl,rfl⟩)|(go_at_call 62;refine(AP _).mono ?_;rintro e w9 ⟨rfl,rfl⟩))
  go_meet
  case rel=>exact⟨by rw [ah HV],HB3,Lf⟩
 have AP:=hide (fun w1=>Sv old true w1 h6);by_cases h7:reqs.length≤30
 case' neg=>
  have hq2:decide ((30:Int) < reqs.length)=true:=decide_eq_true (by omega)
  have HV:=hide (show bb=true by rw [←ah dY];simp[h7])
  clear dY h1 h2 h3
  go_wp2_with (first|(go_at_call 61;refine(dM _ _ _ h4).mono ?_;rintro e w9 ⟨rfl,rfl⟩)|(go_at_call 62;refine(AP _).mono ?_;rintro e w9 ⟨rfl,rfl⟩))
  go_meet
  case rel=>exact⟨by rw [ah HV],HB3,Lf⟩
 have hq2:decide ((30:Int) < reqs.length)=false:=decide_eq_false (by omega);have HV:=hide (show bb=false by rw [←ah dY];simp[h1,h2,h3,h4,h5,h6,h7]);clear dY h1 h2 h3;go_wp2_with (first|(go_at_call 61;refine(dM _ _ _ h4).mono ?_;rintro e w9 ⟨rfl,rfl⟩)|(go_at_call 62;refine(AP _).mono ?_;rintro e w9 ⟨rfl,rfl⟩))
 go_meet
 case rel=>exact⟨by rw [ah HV],HB3,Lf⟩):P:=h
theorem aku.Ka176(h:P:=by
 clear hb1 c0 c1 c2 c3 c4 c5 c6 c7 c8;obtain⟨c0,c1,c2,c3,c4,c5,c6,c7,c8⟩:=nine HB1;cases h1:PL
 case' false=>
  have HP:=hide (show TT=false by rw [ah HD];simp[h1])
  clear h1 HD
  go_wp2_with fail
  go_ret
  exact⟨aD HP.symm,PU⟩
 go_wp2_with fail;refine(HPU _ PU).mono ?_;rintro e w2 ⟨rfl,hb1⟩;have HB2:=hide (aj HB1 hb1);have HL2:=hide (PU.trans (hb1.mono PU.size));clear hb1 c0 c1 c2 c3 c4 c5 c6 c7 c8;obtain⟨c0,c1,c2,c3,c4,c5,c6,c7,c8⟩:=nine HB2;cases h2:PS
 case' false=>
  have HP:=hide (show TT=false by rw [ah HD];simp[h2])
  clear h2 HD
  go_wp2_with fail
  go_ret
  exact⟨aD HP.symm,HL2⟩
 cases h3:eD next
 case' false=>
  have HP:=hide (show TT=false by rw [ah HD];simp[h3])
  have H3:=hide (fun w1=>aP next false w1 h3)
  clear h3 HD
  go_wp2_with (go_at_call 54;refine(H3 _).mono ?_;rintro e w9 ⟨rfl,rfl⟩)
  go_ret
  exact⟨aD HP.symm,HL2⟩
 have H3:=hide (fun w1=>aP next true w1 h3);go_wp2_with (go_at_call 54;refine(H3 _).mono ?_;rintro e w9 ⟨rfl,rfl⟩)
 refine(HOT _ HL2 h1).mono ?_;rintro e w3 ⟨rfl,hb1⟩;have HB3:=hide (aj HB2 hb1);have Lf:=hide (HL2.trans (hb1.mono HL2.size));clear hb1 c0 c1 c2 c3 c4 c5 c6 c7 c8;obtain⟨c0,c1,c2,c3,c4,c5,c6,c7,c8⟩:=nine HB3;cases h4:OT
 case' false=>
  have HP:=hide (show TT=false by rw [ah HD];simp[h4])
  clear h4 HD
  go_wp2_with fail
  go_ret
  exact⟨aD HP.symm,Lf⟩
 go_wp2_with fail;refine(HSE _ Lf h1).mono ?_;rintro e w4 ⟨rfl,hb1⟩;have nK:=hide (aj HB3 hb1);have HL4:=hide (Lf.trans (hb1.mono Lf.size));clear hb1 c0 c1 c2 c3 c4 c5 c6 c7 c8;obtain⟨c0,c1,c2,c3,c4,c5,c6,c7,c8⟩:=nine nK;cases h5:TD
 case' false=>
  have HP:=hide (show TT=false by rw [ah HD];simp[h5])
  clear h5 HD
  go_wp2_with fail
  go_ret
  exact⟨aD HP.symm,HL4⟩
 go_wp2_with fail;refine(HRE _ HL4).mono ?_;rintro e w5 ⟨rfl,hb1⟩;have jJ:=hide (aj nK hb1);have HL5:=hide (HL4.trans (hb1.mono HL4.size));clear hb1 c0 c1 c2 c3 c4 c5 c6 c7 c8;obtain⟨c0,c1,c2,c3,c4,c5,c6,c7,c8⟩:=nine jJ;have HP:=hide (show TT=RQ by rw [ah HD];simp[h1,h2,h3,h4,h5]);clear h1 h2 h3 h4 h5 HD;go_wp2_with fail;go_ret;exact⟨aD HP.symm,HL5⟩):P:=h
theorem Yo(h:P:=by
 have HID:Hid ((takeN n o.m).1.id=n.id):=by
  exact amK
 have TY:=hide (fun W A G c n' (hW:WK w0 W wb n' A G c v L)=>ME w0 W wb n' A G c v L ⟨2,n'.id,o.m.F,o.m.I,0,ByteArray.empty,0⟩ (by simp) (by omega) hW);rw [ah HR];exact Ka177):P:=h
theorem akv.Ka177(h:P:=by
 unfold Np;rw [←ah HID];open adZ in exact al2):P:=h
theorem akw.Ka177(h:P:=by
 open ad1 in exact al2):P:=h
theorem QA(h:P:=by
 have Ul:=hide (show∀b,(v4).ownBlock=some b→b≠rb from fun b hb=>(RY b hb).elim (fun h=>MH b h) (fun h=>by have:=aA ze;omega));exact Ka178):P:=h
theorem akx.Ka178(h:P:=by
 obtain⟨avO,cvO,Da,_⟩:=GR.own_at (enc:=aK) (sz:=4) (l:=n.reqs.take pos++[(⟨no,k,nn,0⟩:Rq)]) aY (by rw [hL1];exact JI);open aiC in exact XB):P:=h
theorem aky.Ka178(h:P:=by
 obtain⟨avO,cvO,Da,_⟩:=GR.own_at (enc:=aK) (sz:=4) (l:=n.reqs.take pos++[(⟨no,k,nn,1⟩:Rq)]) aY (by rw [hL1];exact JI);open aiB in exact XB):P:=h
theorem akz.Ka178(h:P:=by
 obtain⟨avO,cvO,Da,_⟩:=GR.own_at (enc:=aR) (sz:=1) (l:=(aW s0 mL).take pos++[mI]) aN (by rw [hL1];exact JI);rw [hL1] at Da;subst Da;clear NK J8 zC RY;refine gL 12 rfl (by kernel_rfl) (by rfl) (by decide) (fun x5 hx5=>?_);have FJ:=hide (PK.trans (hx5.mono PK.size));have GY:qc.heap.size≤x5.heap.size:=FJ.size;have Gc:=hide (GR.own_below JI hx5);have FY:=hide (aj UO hx5);clear hx5;obtain⟨v5,y5,El,Bj,yB,NW⟩:=dX aN (by omega) x5 qc.heap.size 24 24 3 i0 (.int .i64 0) 8 Tryz.underlying24 hi0 hz0 hz1' hz2 rfl (.slice avO (pos+1) cvO) (pos+1) (GR.flat aR ((aW s0 mL).take pos++[mI])) Gc AD ((aW s0 mL).drop pos) (Gu - pos) (GR.At.below HDR FJ) (nC _) (by unfold maxLen;omega) (by omega) GY;rw [NH] at El Bj;refine Lib.wp_append_run x5 (.tmp 135) (.tmp 138) 24 24 rfl _ _ (by simp[Act.eval]) (by simp[Act.eval]) v5 y5 El ?_;refine⟨(Below.refl _ _).grown yB GY (fun b hb=>(Gc.lt b hb).1),?_⟩;go_simp;have MJ:=hide (FJ.grown yB GY (fun b hb=>(Gc.lt b hb).1));have Ng:Hid (y5.ownsRow qc.heap.size 3 1 v5 (pos+1+((aW s0 mL).length - pos)) (GR.flat aR ((aW s0 mL).take pos++[mI]++(aW s0 mL).drop pos))):=hide (by rw [GR.flat_append];exact Bj);have acH:=hide (show y5.heap[rb]?=some (.cells #[.int .i64 mI] 3 (0,0)) from by rw [yB.block _ (aA (ah FY)) (fun hm=>ah Ul _ hm.symm rfl)];exact FY);open akC in exact QB):P:=h
theorem Yp(h:P:=by
 refine lD 0 rfl (by kernel_rfl) (by kernel_rfl) (by kernel_rfl) (fun _ _ _ _ h=>h) (fun K hK=>?_);go_simp
 first
  |(refine hK _ ?_;clear hK K)
  |(apply Exists.intro
    refine⟨fun _=>rfl,hK _ ?_⟩
    clear hK K)
 exact Ka179):P:=h
theorem akA.Ka179(h:P:=by
 refine qZ 9 ?_;refine tk [1,2,3,4,5,6,7] ?_;iterate 7 (refine nQ (fun K hK=>?_);go_simp;refine hK _ ?_;clear hK K)
 refine jI ?_;clear y8 z0 z1 z2 z3;refine cZ 8 rfl (by kernel_rfl) (by rfl) (fun x hx=>?_);go_simp;refine⟨au x _,?_⟩;have HX:=hide ((HW1.step hx).step (au x (.cells #[.int .i64 q.no,.string q.k,.int .i64 q.n,.int .i64 q.s] 97)));have HN:=hide (heap_alloc_new x (.cells #[.int .i64 q.no,.string q.k,.int .i64 q.n,.int .i64 q.s] 97));have UQ:=hide (show∀y,(Value.slice A.r n.reqs.length A.cr).ownBlock=some y→x.heap.size≠y from fun y hy=>by have:=((HW1.step hx).no.r.lt y hy).2;omega);clear hx HW HW1 uL;generalize x.alloc (.cells #[.int .i64 q.no,.string q.k,.int .i64 q.n,.int .i64 q.s] 97)=x1 at *;refine aV (by kernel_rfl) (fun u hu=>?_);have HU:=hide (HX.step hu);have HNU:=hide (aj HN hu);clear hu HX HN;refine aG 9 rfl (by kernel_rfl) (by rfl) ?_;go_simp;refine(abE w0.heap.size A.r A.cr i n.reqs q x.heap.size u (by omega) hi HU.keep.size HU.no.r HNU UQ).mono ?_;rintro e w6 ⟨a6,c6,rfl,hown6,lS,GZ⟩;obtain⟨hb6,Pp⟩:=HU.reqPut hown6 lS GZ;have LA:=hide Pp;obtain⟨k0,k1,k2,k3,k4,k5,k6,k7,k8,k9⟩:=gY hb6;have kf:=ay hb6 8;have hw6:=aA hb6;clear hown6 lS GZ hb6 Pp HU HNU UQ;rw [hlen] at LA ⊢;refine aG 10 rfl (by kernel_rfl) (by rfl) ?_;go_simp;refine aG 11 rfl (by kernel_rfl) (by rfl) ?_;go_simp;refine aG 12 rfl (by kernel_rfl) (by rfl) ?_;go_simp;refine aG 13 rfl (by kernel_rfl) (by rfl) ?_;go_simp;refine wpAny_done (by kernel_rfl) ?_;go_simp;go_upto_region 2 with fail;refine wp_at (fun V hV=>?_);have HV:Hid (WK w0 V wb (dD n (mG n.reqs i q)) ⟨A.k,A.p,A.o,A.s,a6,A.ck,A.cp,A.co,A.cs,c6⟩ G (newC u.heap.size 6 c) v L):=by rw [hV];exact LA
 clear hV LA k0 k1 k2 k3 k4 k5 k6 k7 k8 k9 kf hw6;have hl2:(dD n (mG n.reqs i q)).reqs.length=n.reqs.length+1:=hlen;obtain⟨d0,d1,d2,d3,d4,d5,d6,d7,d8,d9⟩:=gY HV.blk;rw [hl2] at d8;have hVl:=aA HV.blk;by_cases ZW:30 < n.reqs.length+1
 case' neg=>
  have hm2:¬((30:Int) < (n.reqs.length:Int)+1):=by omega
  have HK:=hide (show xU n q i=dD n (mG n.reqs i q) by unfold xU;rw [hlen,if_neg ZW])
  go_wp2_with fail
  exact bodyPost_end (v:= .tuple #[]) (by simp[results,Tryz.results166,go_sem]) rfl ⟨rfl,_,_,_,by rw [ah HK];exact HV⟩
 have hm2:(30:Int) < (n.reqs.length:Int)+1:=by omega
 obtain⟨g,hAr,hgw,hgl,⟨q0,_,_,_⟩,_⟩:=HV.reqRow 0 (by omega);dsimp only at hAr;subst hAr;have hz8:(0:Int) < (n.reqs.length:Int)+1:=by omega
 have HK:=hide (show xU n q i=dD (jR n (dD n (mG n.reqs i q)).reqs[0].no) ((mG n.reqs i q).drop 1) by
  unfold xU
  rw [hlen,if_pos ZW]
  congr 2
  show((mG n.reqs i q).headD default).no=(mG n.reqs i q)[0].no
  rw [List.headD_eq_head?_getD,List.head?_eq_getElem?,List.getElem?_eq_getElem (by omega)]
  rfl)
 generalize (dD n (mG n.reqs i q)).reqs[0].no=old at *;rw [Nat.zero_mul] at q0;have vf7:=ay HV.blk 7;have vf8:=ay HV.blk 8;have HO:=hide (HV.oldPut old);go_upto_region 4 with fail;refine wp_at (fun V2 hV2=>?_);have HV2:Hid (WK w0 V2 wb (jR (dD n (mG n.reqs i q)) old) ⟨A.k,A.p,A.o,A.s,some ⟨g,0,none⟩,A.ck,A.cp,A.co,A.cs,c6⟩ G (newC u.heap.size 6 c) v L):=by rw [hV2];exact HO
 clear hV2 HO HV d0 d1 d2 d3 d4 d5 d6 d7 d8 d9 q0 vf7 vf8 hVl;have hl3:(jR (dD n (mG n.reqs i q)) old).reqs.length=n.reqs.length+1:=hlen;obtain⟨d0,d1,d2,d3,d4,d5,d6,d7,d8,d9⟩:=gY HV2.blk;rw [hl3] at d8;have hVl:=aA HV2.blk;have HD:=hide (abf w0.heap.size (some ⟨g,0,none⟩) c6 (mG n.reqs i q) V2 (by omega) (by omega) HV2.no.r);rw [hlen] at HD;go_wp2_with fail;refine HD.mono ?_;rintro e w7 ⟨a7,c7,rfl,CZ,anO,an3⟩;obtain⟨tJ,FD⟩:=HV2.reqPut CZ (by rw [hl3];exact anO) (by rw [hl3];exact an3);have hl7:((mG n.reqs i q).drop 1).length=n.reqs.length:=by rw [List.length_drop,hlen];omega
 rw [hl7] at FD;have HW7:=hide FD;obtain⟨k0,k1,k2,k3,k4,k5,k6,k7,k8,k9⟩:=gY tJ;have kf:=ay tJ 8;have hw7:=aA tJ;clear CZ anO an3 tJ FD HV2 HD d0 d1 d2 d3 d4 d5 d6 d7 d8 d9;go_wp2_with fail;exact bodyPost_end (v:= .tuple #[]) (by simp[results,Tryz.results166,go_sem]) rfl ⟨rfl,_,_,_,by rw [ah HK];exact HW7⟩):P:=h
theorem akB.Ka179(h:P:=by
 refine qZ 7 ?_;refine tk [1,2,3,4,5] ?_;iterate 5 (refine nQ (fun K hK=>?_);go_simp;refine hK _ ?_;clear hK K)
 refine jI ?_;clear y9 z0 z1 z2 z3 z4 z5 z6;refine cZ 6 rfl (by kernel_rfl) (by rfl) (fun x hx=>?_);go_simp;refine⟨au x _,?_⟩;have CR:=hide ((Pg.step hx).step (au x (.cells #[.int .i64 mK,.int .i64 mF,.int .i64 mT,.int .i64 mI,.int .i64 mL,.string mk,.int .i64 mN] 32)));have fF:=hide (heap_alloc_new x (.cells #[.int .i64 mK,.int .i64 mF,.int .i64 mT,.int .i64 mI,.int .i64 mL,.string mk,.int .i64 mN] 32));have hbs:w0.heap.size≤x.heap.size:=(Pg.step hx).keep.size;clear hx Pg HXW iD HS;generalize x.alloc (.cells #[.int .i64 mK,.int .i64 mF,.int .i64 mT,.int .i64 mI,.int .i64 mL,.string mk,.int .i64 mN] 32)=y at *;refine aV (by kernel_rfl) (fun z hz=>?_);have Qe:=hide (CR.step hz);have AU:=hide (aj fF hz);clear hz CR fF;refine aG 7 rfl (by kernel_rfl) (by rfl) ?_;refine ql z (.tmp 12) (.tmp 14) 37 rfl w0.heap.size 32 i0 (.agg #[.int .i64 0,.int .i64 0,.int .i64 0,.int .i64 0,.int .i64 0,.string ByteArray.empty,.int .i64 0]) 7 64 Tryz.underlying37 hi hz0 hz1 hz2 rfl (by decide) (.slice va L.length vc) L.length (GR.flat gX L) (by simp[Act.eval]) Qe.m ⟨x.heap.size,0,none⟩ 1 1 (gX ⟨mK,mF,mT,mI,mL,mk,mN⟩) (by simp[Act.eval]) rfl (World.news_of_block AU) (zu _) (by unfold maxLen;omega) (by omega) Qe.keep.size ?_;intro v6 w6 hown6 lS GZ;obtain⟨va6,vc6,hv6,_⟩:=GR.own_at (enc:=gX) (sz:=7) (l:=L++[⟨mK,mF,mT,mI,mL,mk,mN⟩]) iR (by rw [List.length_append,fV];exact hown6);rw [List.length_append] at hv6;have hv7:v6= .slice va6 (L.length+1) vc6:=hv6;subst hv7;clear hv6;obtain⟨hb6,ZT⟩:=Qe.app ⟨mK,mF,mT,mI,mL,mk,mN⟩ hown6 lS GZ;have HS6:=hide ZT;obtain⟨k0,k1,k2,k3,k4,k5,k6,k7,k8,k9⟩:=gY hb6;have kf:=ay hb6 9;clear hown6 lS GZ hb6 ZT Qe AU;refine aG 8 rfl (by kernel_rfl) (by rfl) ?_;go_simp;refine aG 9 rfl (by kernel_rfl) (by rfl) ?_;go_simp;refine aG 10 rfl (by kernel_rfl) (by rfl) ?_;go_simp;refine wpAny_done (by kernel_rfl) ?_;go_simp;go_wp2_with fail;exact bodyPost_end (v:= .tuple #[]) (by simp[results,Tryz.results125,go_sem]) rfl ⟨rfl,_,_,HS6⟩):P:=h
theorem QB(h:P:=by
 have arv:=hide (show∀b,(v5).ownBlock=some b→b≠rb from fun b hb=>(NW b hb).elim (fun h=>Ul b h) (fun h=>by have:=aA FY;omega));exact Ka180):P:=h
theorem akC.Ka180(h:P:=by
 obtain⟨avT,Uc,xP,_⟩:=GR.own_at (enc:=aR) (sz:=1) (l:=(aW s0 mL).take pos++[mI]++(aW s0 mL).drop pos) aN (by rw [hL2];exact Ng);rw [hL2] at xP;subst xP;clear El Bj yB NW;have abA:qc.heap.size≤y5.heap.size:=MJ.size;refine tk [13] ?_;open agE in exact aaP):P:=h
theorem akD.Ka180(h:P:=by
 obtain⟨avT,Uc,xP,_⟩:=GR.own_at (enc:=aK) (sz:=4) (l:=n.reqs.take pos++[(⟨no,k,nn,1⟩:Rq)]++n.reqs.drop pos) aY (by rw [hL2];exact Ng);rw [hL2] at xP;subst xP;clear El Bj yB NW;have abA:wc.heap.size≤y5.heap.size:=MJ.size;refine tk [14] ?_;open agF in exact aaP):P:=h
theorem akE.Ka180(h:P:=by
 obtain⟨avT,Uc,xP,_⟩:=GR.own_at (enc:=aK) (sz:=4) (l:=n.reqs.take pos++[(⟨no,k,nn,0⟩:Rq)]++n.reqs.drop pos) aY (by rw [hL2];exact Ng);rw [hL2] at xP;subst xP;clear El Bj yB NW;have abA:wc.heap.size≤y5.heap.size:=MJ.size;refine tk [14] ?_;open agG in exact aaP):P:=h
theorem Yq(h:P:=by
 have hlit:(w.alloc (.cells #[] e)).ownsRow w.heap.size e sz (.slice (some ⟨w.heap.size,0,none⟩) 0 0) 0 []:=World.ownsRow_lit (base:=w.heap.size) (e:=e) (size:=sz) w #[] 0 (Nat.le_refl _) (by unfold maxLen;omega) (by simp);exact Ka181):P:=h
theorem akF.Ka181(h:P:=by
 exact⟨some ⟨w.heap.size,0,none⟩,0,w.alloc (.cells #[] e),fun ty=>lH (w.alloc (.cells #[] e)) w.heap.size t ty e i sz ht hi _ 0 [] hlit a c,hlit,au w _,fun _=>rfl⟩):P:=h
theorem akG.Ka181(h:P:=by
 by_cases hl0:l.length=0
 ·have hn:l=[]:=List.eq_nil_of_length_eq_zero hl0;subst hn;refine⟨some ⟨w.heap.size,0,none⟩,0,w.alloc (.cells #[] e),fun ty=>lH (w.alloc (.cells #[] e)) w.heap.size t ty e i sz ht hi _ 0 [] hlit a c,hlit,au w _,⟨_,rfl⟩,Nat.le_refl _⟩
 ·obtain⟨v',w',hr,ho,hg,_⟩:=dX (P:=P) hs hz (w.alloc (.cells #[] e)) w.heap.size t 0 e i z bytes ht hi hz0 hsize hby hzs _ 0 [] hlit a l c (GR.At.below ha (au w _)) h1 (by omega) (by rw [Nat.zero_add];exact hbytes) (by simp);rw [Nat.zero_add,List.nil_append] at ho;obtain⟨a',c',rfl,_⟩:=GR.own_at (enc:=enc) (sz:=sz) hs ho;refine⟨a',c',w',fun ty=>hr,ho,(au w _).grown hg (by simp) (fun k hk=>by cases hk;exact Nat.le_refl _),?_⟩;rcases ho.2 with⟨_,hn⟩|⟨g,cap,cur,hv,_,_,hnc,_⟩
  ·omega
  ·simp only[Value.slice.injEq] at hv;exact⟨⟨g,hv.1⟩,by rw [hv.2.2];exact hnc⟩):P:=h
theorem Yr(h:P:=by
 have HAT:=hide (fun W'' (ho:Dx w W' W'')=>((wM.kc (k:=9) (KC.keeps eU (fun x hx=>by have:x=w.heap.size+2:=(by simpa using hx);rw [this];exact uF)) (by omega)).kc (k:=9) (ho.kc (fun x hx=>PE x (by omega))) (by omega)).rm);exact Ka182):P:=h
theorem akH.Ka182(h:P:=by
 have TU:=hide (fun W'' (ho:Dx w W' W'')=>JM (c:=c) (w:=w) HMZ (ho.out0 PE) hmb);have jW:Hid (Below w.heap.size w W'):=jy.trans (eU.below (fun x hx=>by have:x=w.heap.size+2:=(by simpa using hx);omega) jy.size);obtain⟨x0,x1,x2,x3,x4,x5,x6,x7,x8⟩:=nine F5;clear eU;exact Ka54):P:=h
theorem akI.Ka182(h:P:=by
 have jW:Hid (Below w.heap.size w W'):=jy.trans (eU.below (fun x hx=>by have:x=w.heap.size+2:=(by simpa using hx);omega) jy.size);obtain⟨x0,x1,x2,x3,x4,x5,x6,x7,x8⟩:=nine e4;clear hW' e4 eU;exact bodyPost_ret (v:= .tuple #[.agg #[.int .i64 n.id,.int .i64 n.par,.slice A1.k n.kids.length A1.ck,.int .i64 n.next,.slice A1.p n.pu.length A1.cp,.slice A1.o n.out.length A1.co,.slice A1.s n.seen.length A1.cs,.int .i64 n.old,.slice A1.r n.reqs.length A1.cr],.slice (some ⟨W0.heap.size,0,none⟩) 0 0,.int .i64 1]) (by simp[results,Tryz.results9,go_sem,x0,x1,x2,x3,x4,x5,x6,x7,x8]) rfl ⟨A1,some ⟨W0.heap.size,0,none⟩,0,rfl,HAT,fun W'' _ i hi=>by simp at hi,jW⟩):P:=h
theorem Yt(h:P:=by
 obtain⟨e1,e2,e3,e4⟩:=eT w (.cells (fZ n A) 30) (.cells #[.int .i64 K,.int .i64 no,.string k,.int .i64 nn,.int .i64 mK,.int .i64 mF,.int .i64 mT,.int .i64 mI,.int .i64 mL,.string mk,.int .i64 mN] 34) (.cells iO 30);exact Ka183):P:=h
theorem akJ.Ka183(h:P:=by
 open ajB in exact Qu):P:=h
theorem akK.Ka183(h:P:=by
 have hsz:(((w.alloc (.cells (fZ n A) 30)).alloc (.cells #[.int .i64 K,.int .i64 no,.string k,.int .i64 nn,.int .i64 mK,.int .i64 mF,.int .i64 mT,.int .i64 mI,.int .i64 mL,.string mk,.int .i64 mN] 34)).alloc (.cells iO 30)).heap.size=w.heap.size+3:=by simp
 generalize hW0:((w.alloc (.cells (fZ n A) 30)).alloc (.cells #[.int .i64 K,.int .i64 no,.string k,.int .i64 nn,.int .i64 mK,.int .i64 mF,.int .i64 mT,.int .i64 mI,.int .i64 mL,.string mk,.int .i64 mN] 34)).alloc (.cells iO 30)=W0 at *;exact Ka59):P:=h
theorem QC(h:P:=by
 clear hW;obtain⟨x0,x1,x2,x3,x4,x5,x6,x7,x8,x9,x10⟩:=yN hX;obtain⟨y0,y1,y2,y3,y4,y5,y6,y7,y8,y9,y10⟩:=yN hY;clear hX hY;exact Ka184):P:=h
theorem akL.Ka184(h:P:=by
 exact amH):P:=h
theorem akM.Ka184(h:P:=by
 exact amP):P:=h
theorem akN.Ka184(h:P:=by
 by_cases hno:no=0
 case' neg=>
  have hno':¬(0:Int)=no:=fun e=>hno e.symm
  go_wp2_with fail
  go_ret
  exact⟨aD (by rw [ah HP];simp[jV,hno]),iD⟩
 subst hno;exact Ka134):P:=h
theorem Yu(h:P:=by
 clear HR;clear hk hn;go_enter Tryz.func105,Tryz.ntmps105
 go_wp2_with (first|(go_at_call_of 131 k;refine(HK _).mono ?_;rintro e w1 ⟨rfl,rfl⟩)|(go_at_call_of 54 n;refine(HN _).mono ?_;rintro e w1 ⟨rfl,rfl⟩))
 exact Ka185):P:=h
theorem akO.Ka185(h:P:=by
 go_region
 go_upto_region 23 with fail;open ajH in exact LY):P:=h
theorem akP.Ka185(h:P:=by
 go_ret;exact⟨aD (by rw [ah HP];simp),by first|exact iG w _ _|exact Below.setNew (iG w _ _) (by omega)⟩):P:=h
theorem Yv(h:P:=by
 obtain⟨rl,rb⟩:=r;dsimp only at HZ ⊢;refine aG 21 rfl (by kernel_rfl) (by rfl) ?_;go_simp;refine aG 22 rfl (by kernel_rfl) (by rfl) ?_;go_simp;refine wpAny_done (by kernel_rfl) ?_;go_simp;exact Ka186):P:=h
theorem akQ.Ka186(h:P:=by
 cases rb
 ·go_wp2_with fail;go_ret;exact⟨rfl,⟨A',G',c',HZ.wk,HZ.bk,HZ.si.mono (Nat.le_succ k),HZ.cs,HZ.cm⟩,fun j o h1 _ h3=>HKO j o h1 h3⟩
 ·obtain⟨⟨p0,p1,p2,p3,p4,p5,p6⟩,_⟩:=gT xK;obtain⟨⟨d0,d1⟩,_⟩:=jT HZ.bk;have hsl2:=aA HZ.bk;have abz:=aA xK;have hI1:eu z2.drew mb k l:=HZ.si.kept rfl;obtain⟨z3,hrun,Rm,hK3⟩:=hI1.store mI hi0 hi1 (by unfold maxLen;omega);have HR:=hide (HZ.put Rm (Keeps.trans (b:=z2.drew) (Keeps.of_below (Below.refl _ _).drew) hK3))
  have HK4:Hid (∀j o,j≠wb→j≠mb→w.heap[j]?=some o→z3.heap[j]?=some o):=fun j o h1 h2 h3=>by
   have h4:=ah HKO j o h1 h3
   rw [hK3.block j (aA h4) h2]
   exact h4
  clear hI1 Rm hK3 xK;go_wp2_with fail;go_region
  all_goals
   go_wp2_with fail
   go_ret
   exact⟨rfl,⟨A',G',c',HR⟩,HK4⟩):P:=h
theorem akR.Ka186(h:P:=by
 cases rb
 all_goals
  go_wp2_with fail
  go_ret
  exact⟨rfl,A',G',c',HZ⟩):P:=h
theorem Yw(h:P:=by
 have cO:∀d os,Calls Tryz.prog 129 #[wI ⟨pk,pm,pf,ps⟩] (Sort.grow (redrawn V d) os) fun e w''=>e= .returned (.bool false)∧∃p:Regrown,w''=Sort.grow (redrawn V p.d) p.os:=fun d os=>Calls.regrown_of (HO _)
 exact Ka187):P:=h
theorem akS.Ka187(h:P:=by
 open aj8 in exact Gg):P:=h
theorem akT.Ka187(h:P:=by
 exact amT):P:=h
theorem Yx(h:P:=by
 have cO:∀d os,Calls Tryz.prog 129 #[wI ⟨pk,pm,pf,ps⟩] (Sort.grow (redrawn V d) os) fun e w''=>e= .returned (.bool true)∧∃p:Regrown,w''=Sort.grow (redrawn V p.d) p.os:=fun d os=>Calls.regrown_of (HO _)
 exact Ka188):P:=h
theorem akU.Ka188(h:P:=by
 exact Ka106):P:=h
theorem akV.Ka188(h:P:=by
 open aj9 in exact Gg):P:=h
theorem Yy(h:P:=by
 have hlit:(w.alloc (.cells #[] 143)).ownsRow w.heap.size 143 4 (.slice (some ⟨w.heap.size,0,none⟩) 0 0) 0 []:=World.ownsRow_lit (base:=w.heap.size) (e:=143) (size:=4) w #[] 0 (Nat.le_refl _) (by decide) rfl;exact Ka189):P:=h
theorem akW.Ka189(h:P:=by
 cases a with
 |none=>
  have hl0:l=[]:=GR.none_nil ha
  subst hl0
  clear ha hlit
  go_enter Tryz.func159,Tryz.ntmps159
  go_wp2_with fail
  go_ret
  exact⟨_,rfl,World.ownsRow_nil _ _ _ _,Below.refl _ _⟩
 |some x=>
  have HN:=hide (aH.news (GR.At.below ha (bZ w (.cells #[] 143))))
  clear ha
  go_enter Tryz.func159,Tryz.ntmps159
  go_wp2_with (at_builtin;refine wpList_append_own _ rfl _ _ 25 rfl w.heap.size 143 i0 (.agg #[.string ByteArray.empty,.int .i64 0,.int .i64 0,.int .i64 0]) 4 40 Tryz.underlying25 hi hz0 hz1 hz2 rfl (by decide) _ 0 [] rfl hlit x l.length cap (GR.flat eG l) rfl ?c0 ?c1 ?c2 ?c3 ?c4 ?c5 ?_)
  case c0=>exact GR.flat_length eG 4 aZ l
  case c1=>exact HN
  case c2=>exact uV l
  case c3=>unfold maxLen;omega
  case c4=>omega
  case c5=>simp
  intro v' w1 hown' hgrow _
  have HO:=hide (show w1.ownsRow w.heap.size 143 4 v' l.length (GR.flat eG l) by simpa using hown')
  have hb:Below w.heap.size w w1:=(bZ w _).grown hgrow (by simp) (fun k hk=>by cases hk;exact Nat.le_refl _)
  clear hown' hgrow hlit
  go_wp2
  go_ret
  exact⟨_,rfl,HO,hb⟩):P:=h
theorem akX.Ka189(h:P:=by
 cases a with
 |none=>
  obtain⟨h1,h2⟩:=hn rfl
  have hl0:l=[]:=List.eq_nil_of_length_eq_zero h1
  subst hl0 h2
  go_enter Tryz.func114,Tryz.ntmps114
  go_wp2_with (at_builtin;refine wpList_append_own_none rfl _ _ 25 rfl w.heap.size 143 i0 4 Tryz.underlying25 hi _ 0 [] rfl hlit rfl ?_)
  go_ret
  exact⟨_,rfl,(by intro h;cases h),hlit,bZ w _⟩
 |some x=>
  have HN:=hide (aH.news (GR.At.below ha (bZ w (.cells #[] 143))))
  clear ha
  go_enter Tryz.func114,Tryz.ntmps114
  go_wp2_with (at_builtin;refine wpList_append_own _ rfl _ _ 25 rfl w.heap.size 143 i0 (.agg #[.string ByteArray.empty,.int .i64 0,.int .i64 0,.int .i64 0]) 4 40 Tryz.underlying25 hi hz0 hz1 hz2 rfl (by decide) _ 0 [] rfl hlit x l.length cap (GR.flat eG l) rfl ?c0 ?c1 ?c2 ?c3 ?c4 ?c5 ?_)
  case c0=>exact GR.flat_length eG 4 aZ l
  case c1=>exact HN
  case c2=>exact uV l
  case c3=>unfold maxLen;omega
  case c4=>omega
  case c5=>simp
  intro v' w1 hown' hgrow hnil
  have HNN:=hide (show v'≠ .slice none 0 0 from hnil)
  have HO:=hide (show w1.ownsRow w.heap.size 143 4 v' l.length (GR.flat eG l) by simpa using hown')
  have hb:Below w.heap.size w w1:=(bZ w _).grown hgrow (by simp) (fun k hk=>by cases hk;exact Nat.le_refl _)
  clear hown' hgrow hlit hnil
  go_wp2
  go_ret
  exact⟨_,rfl,HNN,HO,hb⟩):P:=h
theorem Yz(h:P:=by
 rw [hlt1] at RI;subst RI;clear NJ NI NC an4;refine gL 7 rfl (by kernel_rfl) (by rfl) (by decide) (fun x3 hx3=>?_);go_simp;have uH:=hide (DR.trans (hx3.mono DR.size));exact Ka190):P:=h
theorem akY.Ka190(h:P:=by
 have wY:wc.heap.size≤x3.heap.size:=uH.size;have wP:=hide (GR.own_below Ba hx3);clear hx3;refine⟨(au x3 _).mono wY,?_⟩;exact Ka29):P:=h
theorem akZ.Ka190(h:P:=by
 have wY:qc.heap.size≤x3.heap.size:=uH.size;have wP:=hide (GR.own_below Ba hx3);clear hx3;refine⟨(au x3 _).mono wY,?_⟩;have Rp:=au x3 (.cells #[.int .i64 mI] 3);have AX:=hide (heap_alloc_new x3 (.cells #[.int .i64 mI] 3));open ahi in exact aaS):P:=h
theorem YA(h:P:=by
 have e2:b=g1:=by injection e1 with e1;injection e1 with e1 e2
 have e3:off=o1:=by injection e1 with e1;injection e1 with e1 e2
 subst e2 e3;exact Ka191):P:=h
theorem ak0.Ka191(h:P:=by
 have HT:=hide (List.take_succ_eq_append_getElem hlt);have FX:=hide (fun h2=>(place_at l pk k (by omega) kV h2).1);clear s1 s2 s3 e1;cases hbl:Op.bytesLess l[k].k.toList pk.toList with
 |true=>
  clear FX
  generalize l[k]=pu at *
  obtain⟨qk,qm,qf,qs⟩:=pu
  dsimp only at s0 hbl
  go_wp2_with fail
  go_quiet (fail)
  go_wp2
  go_roundw
  case rel=>
   refine⟨k+1,_,by omega,by go_num,?_,rfl⟩;intro x hx;rw [ah HT] at hx;rcases List.mem_append.1 hx with hx|hx
   ·exact kV x hx
   ·rw [List.mem_singleton] at hx;subst hx;exact hbl
  case measure=>simp[intOf];omega
 |false=>
  have FW:=hide (FX (fun _=>hbl))
  clear FX HT
  generalize l[k]=pu at *
  obtain⟨qk,qm,qf,qs⟩:=pu
  dsimp only at s0 hbl
  go_wp2_with fail
  go_quiet (fail)
  go_wp2_with fail
  go_meet
  case rel=>exact⟨by rw [ah FW],_,rF w1 _ _⟩):P:=h
theorem ak1.Ka191(h:P:=by
 have hae:=hAe hlt;subst hae;have HF:=hide hf;have hpos:decide (0 < l.length - place l pk)=true:=decide_eq_true (by omega);have aqT:0 < l.length - place l pk:=by omega
 clear s1 s2 s3 e1 hf hAe hAd;generalize l[place l pk]=pu at *;obtain⟨qk,qm,qf,qs⟩:=pu;dsimp only at s0 HF;cases heq:qk.toList == pk.toList
 all_goals
  go_quiet (fail)
  go_wp2_with fail
  go_meet
  case rel=>exact⟨by rw [ah HF,heq],_,rF w1 _ _⟩):P:=h
theorem YC(h:P:=by
 have hblk:V.heap[w.heap.size]?=some (.cells #[.int .i64 2,.int .i64 F,.int .i64 T,.int .i64 I,.int .i64 L,.string k,.int .i64 N] 32 (0,0)):=by rw [hV,Below.heap_alloc _ _ _ (by simp)];exact heap_alloc_new w _
 exact Ka192):P:=h
theorem ak2.Ka192(h:P:=by
 open ae5 in exact Nj):P:=h
theorem ak3.Ka192(h:P:=by
 open aoU in exact Ya6):P:=h
theorem YD(h:P:=by
 have hblk:V.heap[w.heap.size]?=some (.cells #[.int .i64 1,.int .i64 F,.int .i64 T,.int .i64 I,.int .i64 L,.string k,.int .i64 N] 32 (0,0)):=by rw [hV,Below.heap_alloc _ _ _ (by simp)];exact heap_alloc_new w _
 exact Ka193):P:=h
theorem ak4.Ka193(h:P:=by
 open ae7 in exact Nj):P:=h
theorem ak5.Ka193(h:P:=by
 open ae6 in exact Nj):P:=h
theorem YE(h:P:=by
 have hblk:V.heap[w.heap.size]?=some (.cells #[.int .i64 0,.int .i64 F,.int .i64 T,.int .i64 I,.int .i64 L,.string k,.int .i64 N] 32 (0,0)):=by rw [hV,Below.heap_alloc _ _ _ (by simp)];exact heap_alloc_new w _
 exact Ka194):P:=h
theorem ak6.Ka194(h:P:=by
 open ae8 in exact Nj):P:=h
theorem ak7.Ka194(h:P:=by
 open apB in exact aaF):P:=h
theorem YF(h:P:=by
 rw [Mth.take_all s k hlt] at HA;have HF:Hid (Mth.keyOk s.data.toList=decide (1≤s.data.toList.length∧s.data.toList.length≤10)):=Mth.keyOk_all _ HA;rw [gU s] at HF;exact Ka195):P:=h
theorem ak8.Ka195(h:P:=by
 by_cases hin:(1:Int)≤(s.size:Int)∧(s.size:Int)≤10
 ·obtain⟨hi1,hi2⟩:=hin;exact am1
 ·exact am1):P:=h
theorem ak9.Ka195(h:P:=by
 go_wp2
 go_ret;exact⟨aD (by rw [ah HF];simp;omega),rfl⟩):P:=h
theorem YH(h:P:=by
 generalize l[k]=pu at *;have ku:=hide (fun w1=>zK pu w1 hkk);clear hkk;obtain⟨pk,pm,pf,ps⟩:=pu;exact Ka196):P:=h
theorem ala.Ka196(h:P:=by
 dsimp only at c0 c1 c2 c3 hf;go_wp2_with fail;refine(ku _).mono ?_;rintro e w1 ⟨rfl,hb1⟩;have hb2:=fD.trans ((Below.mono (Fo.one_block hb1).2.2 fD.size));have hB:w1.heap[w.heap.size]?=some (.cells #[.string ⟨#[]⟩,.int .i64 0,.int .i64 0,.int .i64 0] 143 (0,0)):=by rw [(Fo.one_block hb1).2.2.block _ Vy];exact DC
 have HB:=hide hB;have HB2:=hide hb2;obtain⟨⟨r0,r1,r2,r3⟩,s0,s1,s2,s3⟩:=eX hB;clear hB hb1 hb2;go_wp2_with fail;clear r0 r1 r2 r3;refine Fo.bodyPost_at (fun W' hW'=>?_);obtain⟨⟨r0,r1,r2,r3⟩,_⟩:=eX (show W'.heap[w.heap.size]?=some (.cells #[.string pk,.int .i64 pm,.int .i64 pf,.int .i64 ps] 143 (0,0)) by rw [hW'];exact Fo.four_set HB);have hbb:Below w.heap.size w W':=by rw [hW'];exact Fo.four_below HB2 (Nat.le_refl _)
 refine bodyPost_ret (v:= .agg #[.string pk,.int .i64 pm,.int .i64 pf,.int .i64 ps]) (by simp[results,Tryz.results136,go_sem,r0,r1,r2,r3]) rfl ⟨by rw [ah HX],hbb⟩):P:=h
theorem alb.Ka196(h:P:=by
 dsimp only at q0 q1 q2 q3;go_wp2_with fail;refine(ku _).mono ?_;rintro e w5 ⟨rfl,hb5⟩;obtain⟨_,_,hb6⟩:=Fo.one_block hb5;have jJ:=hide (rU.below HB hb6);have jX:=hide (fD.trans (hb6.mono fD.size));clear hb5 hb6 q0 q1 q2 q3;obtain⟨_,arN,⟨s0,s1,s2,s3⟩,f0,f1,f2,f3⟩:=rU.four jJ k hlt;go_wp2_with fail;go_roundw
 case rel=>
  have h:=rU.set jJ k ⟨pk,pm,pf,ps⟩ hlt;rw [ah HSE] at h;exact⟨k+1,by omega,by go_num,h,GR.setW_below (o:=k*4) hg (eG ⟨pk,pm,pf,ps⟩) jX⟩
 case measure=>simp[intOf];omega):P:=h
theorem YI(h:P:=by
 rintro e W1 ⟨rfl,hb1⟩;have jg:=hide (aj HN hb1);have oH:=hide (aj HR hb1);have HB1:=hide (HB0.trans (hb1.mono HB0.size));have sW:=hide (Fz.kc (k:=9) (KC.of_below hb1) (by omega));exact Ka197):P:=h
theorem alc.Ka197(h:P:=by
 clear hb1 c0 c1 c2 c3 c4 c5 c6 c7 c8 hnl FZ HN HR Fz HB0;exact Ka42):P:=h
theorem ald.Ka197(h:P:=by
 clear hb1 c0 c1 c2 c3 c4 c5 c6 c7 c8 hnl CP HN HR Fz HB0;exact Ka81):P:=h
theorem YJ(h:P:=by
 have jW:Hid (Below w.heap.size w W'):=rW.trans (eU.below (fun x hx=>by have:x=w.heap.size+2:=(by simpa using hx);omega) rW.size);obtain⟨x0,x1,x2,x3,x4,x5,x6,x7,x8⟩:=nine e4;clear hW' e4 eU;exact Ka198):P:=h
theorem ale.Ka198(h:P:=by
 exact bodyPost_ret (v:= .tuple #[.agg #[.int .i64 N1.id,.int .i64 N1.par,.slice A2.k N1.kids.length A2.ck,.int .i64 N1.next,.slice A2.p N1.pu.length A2.cp,.slice A2.o N1.out.length A2.co,.slice A2.s N1.seen.length A2.cs,.int .i64 N1.old,.slice A2.r N1.reqs.length A2.cr],.slice ma L1.length mc,.int .i64 xL]) (by simp[results,Tryz.results9,go_sem,x0,x1,x2,x3,x4,x5,x6,x7,x8]) rfl ⟨A2,ma,mc,rfl,HAT,TU,jW⟩):P:=h
theorem alf.Ka198(h:P:=by
 exact bodyPost_ret (v:= .tuple #[.agg #[.int .i64 n.id,.int .i64 n.par,.slice A1.k n.kids.length A1.ck,.int .i64 n.next,.slice A1.p n.pu.length A1.cp,.slice A1.o n.out.length A1.co,.slice A1.s n.seen.length A1.cs,.int .i64 n.old,.slice A1.r n.reqs.length A1.cr],.slice (some ⟨W0.heap.size,0,none⟩) 0 0,.int .i64 1]) (by simp[results,Tryz.results9,go_sem,x0,x1,x2,x3,x4,x5,x6,x7,x8]) rfl ⟨A1,some ⟨W0.heap.size,0,none⟩,0,rfl,HAT,fun W'' _ i hi=>by simp at hi,jW⟩):P:=h
theorem QD(h:P:=by
 generalize l[k]=pu at *;obtain⟨pk,pm,pf,ps⟩:=pu;dsimp only at c0 c1 c2 c3 hf;go_wp2_with fail;exact Ka199):P:=h
theorem alg.Ka199(h:P:=by
 refine bodyPost_ret (v:= .agg #[.string pk,.int .i64 pm,.int .i64 pf,.int .i64 ps]) (by simp[results,Tryz.results120,go_sem]) rfl ⟨by rw [ah HX],?_⟩;exact(Below.refl _ _).alloc (Nat.le_refl _) _):P:=h
theorem alh.Ka199(h:P:=by
 go_roundw
 case rel=>exact⟨k+1,by omega,by go_num,HX,by first|rfl|trivial⟩
 case measure=>simp[intOf];omega):P:=h
theorem ali.Ka199(h:P:=by
 go_roundw
 case rel=>exact⟨k+1,by omega,by go_num,HX,by first|exact fD.alloc fD.size _|exact fD,by first|(rw [Below.heap_alloc _ _ _ Vy];exact DC)|exact DC⟩
 case measure=>simp[intOf];omega):P:=h
theorem Gh(h:P:=by
 have q0:(mT != n.id)=false:=by simp[h1]
 have q0':(mT == n.id)=true:=by simp[h1]
 clear h1;exact Ka200):P:=h
theorem alj.Ka200(h:P:=by
 subst h3;have q4:(mF == n.par)=false:=by simpa using h4
 clear h4;open aly in exact YQ):P:=h
theorem alk.Ka200(h:P:=by
 subst h3;have q4:(mF == n.par)=true:=by simp[h4]
 clear h4;unfold dZ;have H9:=hide h9;clear h9;have PY:=hide (fun W=>kN ⟨0,mF,mT,mI,mL,mk,mN⟩ W (by unfold maxLen;dsimp only;omega));open aeO in exact QH):P:=h
theorem alm.Ka200(h:P:=by
 unfold dZ;have H9:=hide h9;clear h9;have PY:=hide (fun W=>kN ⟨mK,mF,mT,mI,mL,mk,mN⟩ W (by unfold maxLen;dsimp only;omega));open aeP in exact QH):P:=h
theorem aln.Ka200(h:P:=by
 subst h3;obtain⟨FL,Ud⟩:∃FL:Nat→List jm,∀k,FL k=(n.out.take k).filter (fun s=> !gP ⟨2,mF,mT,mI,mL,mk,mN⟩ s):=⟨_,fun _=>rfl⟩;have HFE:Hid (n.out.filter (fun s=> !gP ⟨2,mF,mT,mI,mL,mk,mN⟩ s)=FL n.out.length):=by unfold Hid;rw [Ud,List.take_length]
 rw [ah HFE];have HF0:Hid (FL 0=[]):=by unfold Hid;rw [Ud];rfl
 have HFS:Hid (∀k (hk:k < n.out.length),FL (k+1)=if n.out[k].i=mI∧n.out[k].t=mF then FL k else FL k++[n.out[k]]):=fun k hk=>by
  rw [Ud,Ud,List.take_succ_eq_append_getElem hk,List.filter_append]
  by_cases e:n.out[k].i=mI∧n.out[k].t=mF
  ·rw [if_pos e];have e2:(!gP ⟨2,mF,mT,mI,mL,mk,mN⟩ n.out[k])=false:=by unfold gP;rw [decide_eq_true e];rfl
   rw [List.filter_cons,e2];simp
  ·rw [if_neg e];have e2:(!gP ⟨2,mF,mT,mI,mL,mk,mN⟩ n.out[k])=true:=by unfold gP;rw [decide_eq_false e];rfl
   rw [List.filter_cons,e2];simp
 have HFN:Hid (∀k,(FL k).length≤n.out.length):=fun k=>by
  rw [Ud]
  exact Nat.le_trans (List.length_filter_le _ _) (by rw [List.length_take];omega)
 clear Ud HFE;obtain⟨i0,hi,hz0,hz1,hz2⟩:=info_parts Eu;have HI:=hide (And.intro hi (And.intro hz0 (And.intro hz1 hz2)));clear hi hz0 hz1 hz2;unfold dZ;have H9:=hide h9;clear h9;have PY:=hide (fun W=>kN ⟨2,mF,mT,mI,mL,mk,mN⟩ W (by unfold maxLen;dsimp only;omega));open aeQ in exact QH):P:=h
theorem alo.Ka200(h:P:=by
 subst h3;open alx in exact YQ):P:=h
theorem YK(h:P:=by
 have Fw:=hide (fun W (h:Below w.heap.size w W)=>EP n A W hz (ha.below h));clear hz ha hok;go_enter Tryz.func9,Tryz.ntmps9
 go_upto_region 2 with fail;refine wp_at (fun W1 hW=>?_);exact Ka201):P:=h
theorem alp.Ka201(h:P:=by
 open afh in exact amb):P:=h
theorem alq.Ka201(h:P:=by
 exact Ka27):P:=h
theorem YL(h:P:=by
 have Cq:Hid (Below w.heap.size w W7):=by rw [FD];exact rW.setCell (p:=⟨w.heap.size,7,none⟩) (Nat.le_refl _) _
 have aaC:Hid (iA W7 (some ⟨gv,1*4,none⟩) IT):=by
  exact ap5
 exact Ka202):P:=h
theorem alr.Ka202(h:P:=by
 skip
 clear FD HTA y0 cf c0 c1 c2 c3 c4 c5 c6 c7 c8 hnl jK iJ yx rW HL6;open afd in exact al9):P:=h
theorem als.Ka202(h:P:=by
 have WU:Hid (LO 143 eG 4 (w.heap.size+3) W7 av cv RL):=by rw [FD];exact P7.keeps (aC.set _) (fun x hx=>by simp at hx;omega)
 clear FD HTA y0 cf c0 c1 c2 c3 c4 c5 c6 c7 c8 hnl jK iJ yx rW HL6 P7;open afe in exact al9):P:=h
theorem YN(h:P:=by
 have kc:=(nine HNz).2.2.2.2.2.2.2.2;have kf:=ay HNz 8;refine aG 15 rfl (by kernel_rfl) (by rfl) ?_;go_simp;refine wpAny_done (by kernel_rfl) ?_;go_simp;go_wp2_with fail;exact Ka203):P:=h
theorem alu.Ka203(h:P:=by
 go_meet
 case rel=>
  refine⟨rfl,avT,Uc,?_,?_,?_,?_,?_,?_,?_,?_⟩
  ·rcases Xc.2 with⟨_,hn⟩|⟨g,cap,cur,hv,_⟩
   ·omega
   ·simp only[Value.slice.injEq] at hv;exact⟨g,hv.1⟩
  ·rcases Xc.2 with⟨_,hn⟩|⟨g,cap,cur,hv,_,_,hnc,_⟩
   ·omega
   ·simp only[Value.slice.injEq] at hv;omega
  ·have h:=bg HNz 8 (.slice avT (pos+1+(n.reqs.length - pos)) Uc);rw [show pos+1+(n.reqs.length - pos)=n.reqs.length+1 by omega] at h ⊢;exact h
  ·exact fI _ (by omega) HRz
  ·exact fI _ (by omega) HQz
  ·have h:=LO.own (en:=aK) (cp:=Uc) (l:=n.reqs.take pos++[(⟨no,k,nn,0⟩:Rq)]++n.reqs.drop pos) (by rw [hL2];exact Xc);rw [ah HIQ];rw [List.append_assoc] at h;exact(h.keeps (aC.set _) (fun x hx=>by simp at hx;omega)).lower (by omega)
  ·exact(FB.below K9).keeps (aC.set _) (fun x hx=>by simp at hx;omega)
  ·exact(jJ.trans (K9.mono jJ.size)).setCell (p:=⟨w.heap.size,8,none⟩) (Nat.le_refl _) _):P:=h
theorem alv.Ka203(h:P:=by
 go_meet
 case rel=>
  refine⟨rfl,avT,Uc,?_,?_,?_,?_,?_,?_,?_⟩
  ·rcases Xc.2 with⟨_,hn⟩|⟨g,cap,cur,hv,_⟩
   ·omega
   ·simp only[Value.slice.injEq] at hv;exact⟨g,hv.1⟩
  ·rcases Xc.2 with⟨_,hn⟩|⟨g,cap,cur,hv,_,_,hnc,_⟩
   ·omega
   ·simp only[Value.slice.injEq] at hv;omega
  ·have h:=bg HNz 8 (.slice avT (pos+1+(n.reqs.length - pos)) Uc);rw [show pos+1+(n.reqs.length - pos)=n.reqs.length+1 by omega] at h ⊢;exact h
  ·exact fI _ (by omega) HRz
  ·exact fI _ (by omega) HQz
  ·have h:=LO.own (en:=aK) (cp:=Uc) (l:=n.reqs.take pos++[(⟨no,k,nn,1⟩:Rq)]++n.reqs.drop pos) (by rw [hL2];exact Xc);rw [ah HIQ];rw [List.append_assoc] at h;exact(h.keeps (aC.set _) (fun x hx=>by simp at hx;omega)).lower (by omega)
  ·exact(jJ.trans (K9.mono jJ.size)).setCell (p:=⟨w.heap.size,8,none⟩) (Nat.le_refl _) _):P:=h
theorem YQ(h:P:=by
 have h9n:∀x,6 < newC w.heap.size 9 c x→newC w.heap.size 9 c x=9:=fun x hx=>by
  by_cases hlt:x < w.heap.size
  ·rw [dH hlt] at hx ⊢;exact h9 x hx
  ·exact aT (by omega)
 exact Ka204):P:=h
theorem alx.Ka204(h:P:=by
 have Ls:=hide (fun W (hBW:B≤W.heap.size) (hN:NQ W B n A G (newC w.heap.size 9 c))=>Tw n A G (newC w.heap.size 9 c) 1 mF mT mI mL mk mN W B hBW h9n hz hmk hP qd hok h2 hN);clear h9n hz hP qd hok;unfold dZ at Ls;dsimp only at Ls ⊢;generalize (takeN n ⟨1,mF,mT,mI,mL,mk,mN⟩).1=N1 at *;generalize (if (takeN n ⟨1,mF,mT,mI,mL,mk,mN⟩).2=true then[Np n ⟨1,mF,mT,mI,mL,mk,mN⟩] else[])=L1 at *;generalize (if (takeN n ⟨1,mF,mT,mI,mL,mk,mN⟩).2=true then(0:Int) else 1)=xL at *;unfold dZ;have H9:=hide h9;clear h9;have PY:=hide (fun W=>kN ⟨1,mF,mT,mI,mL,mk,mN⟩ W (by unfold maxLen;dsimp only;omega));open aeR in exact QH):P:=h
theorem aly.Ka204(h:P:=by
 have HGV:=hide (fun W (hBW:B≤W.heap.size) (hN:NQ W B n A G (newC w.heap.size 9 c))=>IZ n A G (newC w.heap.size 9 c) mF mk mN W B hBW h9n hz hmk hP qd h0 hN);clear h9n hz hP qd;unfold dZ at HGV;generalize dV n mF mk mN=GV at *;obtain⟨N1,L1,b1⟩:=GV;dsimp only at HGV ⊢;generalize (if b1=true then(0:Int) else 1)=xL at *;unfold dZ;have H9:=hide h9;clear h9;have PY:=hide (fun W=>kN ⟨0,mF,mT,mI,mL,mk,mN⟩ W (by unfold maxLen;dsimp only;omega));open aeN in exact QH):P:=h
theorem YR(h:P:=by
 obtain⟨avR,cvR,GU,_⟩:=GR.own_at (enc:=aR) (sz:=1) (l:=(aW s0 mL).take pos) aN (by rw [hlt1];exact Nf);rw [hlt1] at GU;subst GU;clear Ej Ei tK J9;exact Ka205):P:=h
theorem alz.Ka205(h:P:=by
 generalize x2.heap.size=rb at *;exact Za3):P:=h
theorem alA.Ka205(h:P:=by
 generalize x1.heap.size=rb at *;exact Za3):P:=h
theorem QE(h:P:=by
 have z2:=cell_regrown p2;have z3:=cell_regrown p3;clear c0 c1 c2 c3 c4 c5 c6 c7 c8 c9 p0 p1 p2 p3 p4 p5 p6 p7 p8 p9 lT;exact Ka206):P:=h
theorem alB.Ka206(h:P:=by
 open ajZ in exact Ye):P:=h
theorem alC.Ka206(h:P:=by
 refine bn 16 (by kernel_rfl) ?_;show dS _ _ _ _ _ 17 (Array.replicate 17 false) _ _
 refine tk [0,1,2,3,4,5,6,7,8,9,10,11,12,13,14,15] ?_;iterate 16 (refine nQ (fun K hK=>?_);go_simp;refine hK _ ?_;clear hK K)
 refine jI ?_;clear y0 y1 z2 z3;refine aV (by kernel_rfl) (fun x hx=>?_);have CR:=hide (TY x c v (HW1.step hx));clear hx;refine aG 16 rfl (by kernel_rfl) (by rfl) ?_;go_simp;refine CR.mono ?_;rintro e y ⟨rfl,c',v',hY⟩;have HY:=hide hY;clear hY CR;refine wpAny_done (by kernel_rfl) ?_;go_simp;go_wp2_with fail;go_ret;exact⟨rfl,c',v',HY⟩):P:=h
theorem alD.Ka206(h:P:=by
 refine bn 17 (by kernel_rfl) ?_;show dS _ _ _ _ _ 20 (Array.replicate 20 false) _ _
 refine tk [0,1,2,3,4,5,6,7,8,9,10,11,12,13,14,15,16] ?_;iterate 17 (refine nQ (fun K hK=>?_);go_simp;refine hK _ ?_;clear hK K)
 refine jI ?_;clear y1 z2 z3;refine aV (by kernel_rfl) (fun x hx=>?_);have CR:=hide (za x c v (HW1.step hx));clear hx;refine aG 17 rfl (by kernel_rfl) (by rfl) ?_;go_simp;refine CR.mono ?_;rintro e y ⟨rfl,A',G',c',v',hY⟩;have HY:=hide hY;clear hY CR;refine aG 18 rfl (by kernel_rfl) (by rfl) ?_;go_simp;refine aG 19 rfl (by kernel_rfl) (by rfl) ?_;go_simp;refine wpAny_done (by kernel_rfl) ?_;go_simp;cases gb
 all_goals
  go_wp2_with fail
  go_ret
  exact⟨rfl,A',G',c',v',HY⟩):P:=h
theorem YT(h:P:=by
 have WI:=hide (show IQ.length=n.reqs.length+1 by rw [ah HIQ];simp;omega);have jK:=hide hN6;have iJ:=hide hR6;have yx:=hide hQ6;have HL6:=hide hL6;exact Ka207):P:=h
theorem alE.Ka207(h:P:=by
 have P7:=hide hP6;have rW:=hide hB6;clear hN6 hR6 hQ6 hL6 hP6 hB6;rename_i wo _ _ _
 by_cases h30:30 < n.reqs.length+1
 ·have HK:=hide (show jO (setPu n RL) ⟨no,k,nn,0⟩=dD (jR (setPu n RL) (IQ.headD default).no) IQ.tail by unfold jO;rw [show((setPu n RL)).reqs=n.reqs from rfl,ah PO,ah WI,if_pos h30]);open aes in exact al4
 ·have HK:=hide (show jO (setPu n RL) ⟨no,k,nn,0⟩=dD (setPu n RL) IQ by unfold jO;rw [show((setPu n RL)).reqs=n.reqs from rfl,ah PO,ah WI,if_neg h30]);open ahn in exact amD):P:=h
theorem alF.Ka207(h:P:=by
 have rW:=hide hB6;clear hN6 hR6 hQ6 hL6 hB6;rename_i wo _ _ _
 by_cases h30:30 < n.reqs.length+1
 ·have HK:=hide (show jO n ⟨no,k,nn,1⟩=dD (jR n (IQ.headD default).no) IQ.tail by unfold jO;rw [show(n).reqs=n.reqs from rfl,ah PO,ah WI,if_pos h30]);open aeu in exact al4
 ·have HK:=hide (show jO n ⟨no,k,nn,1⟩=dD n IQ by unfold jO;rw [show(n).reqs=n.reqs from rfl,ah PO,ah WI,if_neg h30]);open aho in exact amD):P:=h
theorem YV(h:P:=by
 have c4:V.cell? ⟨g,off+j*4,none⟩=some (.string q):=by rw [hV,World.cell?_alloc_lt _ _ _ hgw];exact d0
 have hgq:g < V.heap.size:=by rw [hV];simp;omega
 clear hblk hV c0 c1 c2 c3 d0;exact Ka208):P:=h
theorem alG.Ka208(h:P:=by
 open akU in exact Yx):P:=h
theorem alH.Ka208(h:P:=by
 open akT in exact Yw):P:=h
theorem YW(h:P:=by
 go_wp2_with fail;refine(HCM _).mono ?_;rintro e w1 ⟨rfl,hb1⟩;have HB1:=hide (HB.trans (hb1.mono HB.size));exact Ka209):P:=h
theorem alI.Ka209(h:P:=by
 have HE:Hid (RF=(ln - no == 0)):=by
  show RF=_
  rw [ah HFP,Bool.eq_iff_iff,decide_eq_true_iff,beq_iff_eq];omega
 clear hb1 q0 q1 q2 q3 HFP;go_wp2_with fail;go_ret2
 exact⟨by rw [ah HE];rfl,HB1⟩):P:=h
theorem alJ.Ka209(h:P:=by
 clear hb1 q0 q1 q2 q3;by_cases hc:ln - no < 0
 ·go_wp2_with fail;go_roundw
  case rel=>exact⟨m+1,q,by
   rcases Nat.lt_or_ge R (m+1) with h9|h9
   ·have:=ah HHM (by omega);omega
   ·exact h9,h3,h4,by go_num,rfl,HB1⟩
  case measure=>simp[intOf];omega
 ·go_wp2_with fail;go_roundw
  case rel=>exact⟨p,m,h2,by
   rcases Nat.lt_or_ge m R with h9|h9
   ·have:=ah HLM h9;omega
   ·exact h9,by omega,rfl,rfl,HB1⟩
  case measure=>simp[intOf];omega):P:=h
theorem YX(h:P:=by
 go_enter Tryz.func261,Tryz.ntmps261
 go_wp2_with fail;refine(HO _).mono ?_;rintro e w1 ⟨rfl,hb1⟩;obtain⟨hA,hC,hbel⟩:=wu hb1;have HC:=hide hC;have fD:=hide hbel;exact Ka210):P:=h
theorem alK.Ka210(h:P:=by
 obtain⟨⟨p0,p1,p2,p3⟩,_⟩:=eX hA;obtain⟨⟨r0,r1,r2,r3⟩,s0,s1,s2,s3⟩:=eX hC;clear hb1 hA hC hbel;go_wp2_with fail;clear r0 r1 r2 r3;refine Fo.bodyPost_at (fun W' hW'=>?_);obtain⟨⟨r0,r1,r2,r3⟩,_⟩:=eX (show W'.heap[w.heap.size+1+1]?=some (.cells #[.string pk,.int .i64 (pm+dm*n),.int .i64 (pf+df*n),.int .i64 (ps+ds*n)] 143 (0,0)) by rw [hW'];exact Fo.four_set HC);have hbb:Below w.heap.size w W':=by rw [hW'];exact Fo.four_below fD (by omega)
 exact bodyPost_ret (v:= .tuple #[.agg #[.string pk,.int .i64 (pm+dm*n),.int .i64 (pf+df*n),.int .i64 (ps+ds*n)],.nilIface]) (by simp[results,Tryz.results261,go_sem,r0,r1,r2,r3]) rfl ⟨rfl,hbb⟩):P:=h
theorem alL.Ka210(h:P:=by
 have ve:=(HE.below hbel).var 4 (by omega);have hsz:=(show w.heap.size+1+1 < w1.heap.size from Fo.lt_of_blk hC);have hve:4 < w.heap.size:=World.block_lt_of_cell? _ _ (HE.var 4 (by omega));obtain⟨⟨r0,r1,r2,r3⟩,s0,s1,s2,s3⟩:=eX hC;clear hb1 hA hC hbel;go_wp2_with fail;go_region
 all_goals
  go_wp2_with fail
  refine Fo.bodyPost_at (fun W' hW'=>?_)
  obtain⟨⟨t0,t1,t2,t3⟩,_⟩:=eX (show W'.heap[w.heap.size+1+1]?=some (.cells #[.string ⟨#[]⟩,.int .i64 0,.int .i64 0,.int .i64 0] 143 (0,0)) by rw [hW'];exact Fo.four_set (w:=w1.drew) HC)
  have hbb:Below w.heap.size w W':=by rw [hW'];exact Fo.four_below (w:=w1.drew) (fD.trans ⟨rfl,rfl,rfl,Nat.le_refl _,fun _ _=>rfl⟩) (by omega)
  exact bodyPost_ret (v:= .tuple #[.agg #[.string ⟨#[]⟩,.int .i64 0,.int .i64 0,.int .i64 0],qx (E 4)]) (by simp[results,Tryz.results261,go_sem,t0,t1,t2,t3]) rfl ⟨rfl,hbb⟩):P:=h
end Go.Proofs.YtacgbldlonoaaaaGreatDoor
