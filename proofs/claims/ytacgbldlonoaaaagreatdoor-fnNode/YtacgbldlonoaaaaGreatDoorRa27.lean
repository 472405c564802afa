/- Parts. -/
import Derived.Test.YtacgbldlonoaaaaGreatDoorRa26
namespace Go.Proofs.YtacgbldlonoaaaaGreatDoor
set_option maxHeartbeats 8000000
set_option maxRecDepth 100000
open Go.RowKit
open Mth
theorem Dw {P:Program} {ops:Array Oper} {Q:Exit→Act→World→Prop} {md:Region.Mode} (i j:Nat) {oi oj:Oper} {fuel:Nat} {listed:Array Bool} {a:Act} {w:World} (hi:ops[i]?=some oi) (hj:ops[j]?=some oj) (hr:Region.ready md ops listed=[i,j]) (hwi:Region.wanted oi (yielded ops a.tmps)=true) (hwj:Region.wanted oj (yielded ops a.tmps)=true)
 (h1:oi.wp P a w (wpAny P md ops Q fuel (listed.setIfInBounds i true)) Q) (h2:oj.wp P a w (wpAny P md ops Q fuel (listed.setIfInBounds j true)) Q):wpAny P md ops Q (fuel+1) listed a w:=by
 refine⟨fun h=>(by rw [hr] at h;cases h),fun k hk=>?_⟩;rw [hr] at hk;have hk':k=i∨k=j:=by simpa using hk
 rcases hk' with rfl|rfl
 ·unfold wpOp;simp only[hi];rw [if_pos hwi];exact .inl h1
 ·unfold wpOp;simp only[hj];rw [if_pos hwj];exact .inl h2
def yR (w:World) (R:Nd×List Mg×Int) (e:Ending) (w':World):Prop:=∃A' G' c' v',e= .returned (.tuple #[gu R.1 A',v',.int .i64 R.2.2])∧NO w' w.heap.size R.1 A' G' c'∧w'.ownsRow w.heap.size 32 7 v' R.2.1.length (GR.flat gX R.2.1)∧(∀x,v'.ownBlock=some x→c' x=7)∧Below w.heap.size w w'
theorem WK.start {w0 y W:World} {wb:Nat} {n:Nd} {A:bE} {G:aU} {c:Nat→Nat} (hb:Below w0.heap.size w0 y) (hN:NO y w0.heap.size n A G c) (hs:y.heap.size≤wb) (hY:Below y.heap.size y W) (hblk:W.heap[wb]?=some (.cells (FE n A (.slice none 0 0)) 74 (0,0))):WK w0 W wb n A G (newC y.heap.size 8 c) (.slice none 0 0) []:=by
 have h1:=(hN.recol (c':=newC y.heap.size 8 c) hb.size (fun x hx=>dH hx)).kc (k:=9) (KC.of_below hY) (by omega);exact⟨hb.trans (hY.mono hb.size),hblk,h1,World.ownsRow_nil _ _ _ _,(fun x hx=>by cases hx),aT hs⟩
theorem zI (n:Nd) (A:bE) (o:jE) (w:World) (hz:eH n 1048576) (hok:dG n=false) (ha:dQ w A n):
 Calls Tryz.prog 8 #[gu n A,jH o] w (yR w (Pn n o)):=by
 rw [Ed hok];unfold yR;have Fw:=hide (fun W (h:Below w.heap.size w W)=>vw n A W hz (ha.below h));have ku:=hide (fun W (h:Below w.heap.size w W)=>tL n A W (hz.mono (by omega)) (ha.below h));rw [hok] at ku;clear hz hok ha;obtain⟨K,no,k,nn,⟨mK,mF,mT,mI,mL,mk,mN⟩⟩:=o;first|dsimp only at * |skip
 go_enter Tryz.func8,Tryz.ntmps8
 go_upto_region 1 with fail;refine wp_at (fun W0 hW=>?_);obtain⟨e1,e2,e3,e4⟩:=eT w (.cells (fZ n A) 30) (.cells #[.int .i64 K,.int .i64 no,.string k,.int .i64 nn,.int .i64 mK,.int .i64 mF,.int .i64 mT,.int .i64 mI,.int .i64 mL,.string mk,.int .i64 mN] 34) (.cells iO 30);rw [←hW] at e1 e2 e3 e4;have HN:=hide e1;have HO:=hide e2;have HR:=hide e3;have HB:=hide e4;clear hW e1 e2 e3 e4;obtain⟨c0,c1,c2,c3,c4,c5,c6,c7,c8⟩:=nine HN;have hl0:=aA HR;go_wp2_with fail;refine(Fw W0 HB).mono ?_;rintro e y ⟨A1,G1,cc1,rfl,J3,hby⟩;have jY:=hide J3;have Fv:=hide hby;clear J3 hby c0 c1 c2 c3 c4 c5 c6 c7 c8 Fw;go_upto_region 2 with fail;refine wp_at (fun W hW=>?_);have e5:W.heap[y.heap.size]?=some (.cells (FE n A1 (.slice none 0 0)) 74 (0,0)):=by rw [hW];exact heap_alloc_new _ _
 have e6:Below y.heap.size y W:=by rw [hW];exact au _ _
 have HW:=hide (WK.start Fv jY (Nat.le_refl y.heap.size) e6 e5);have Lg:=hide (aj HN (Fv.trans (e6.mono Fv.size)));clear hW e5 e6 jY HN;generalize newC y.heap.size 8 cc1=Gt at *;have hyl:=aA HW.blk;generalize y.heap.size=wb at *;obtain⟨c0,c1,c2,c3,c4,c5,c6,c7,c8⟩:=nine Lg;have hnl:=aA Lg;go_wp2_with fail;refine(ku W (HB.trans (HW.keep.mono HB.size))).mono ?_;rintro e W2 ⟨rfl,hb2⟩;have HW2:=hide (HW.step hb2);clear hb2 c0 c1 c2 c3 c4 c5 c6 c7 c8 ku Lg hyl hnl HW;have HR2:=hide (aj HR HW2.keep);obtain⟨c0,c1,c2,c3,c4,c5,c6,c7,c8,c9⟩:=gY HW2.blk;obtain⟨d0,d1,d2,d3,d4,d5,d6,d7,d8⟩:=nine HR2;have f0:=ay HR2 0;have f1:=ay HR2 1;have f2:=ay HR2 2;have f3:=ay HR2 3;have f4:=ay HR2 4;have f5:=ay HR2 5;have f6:=ay HR2 6;have f7:=ay HR2 7;have f8:=ay HR2 8;have hwl:=aA HW2.blk;have hrl:=aA HR2;go_wp2_with fail;refine aO (fun W' hW'=>?_)
 have e4:W'.heap[w.heap.size+2]?=some (.cells #[.int .i64 n.id,.int .i64 n.par,.slice A1.k n.kids.length A1.ck,.int .i64 n.next,.slice A1.p n.pu.length A1.cp,.slice A1.o n.out.length A1.co,.slice A1.s n.seen.length A1.cs,.int .i64 n.old,.slice A1.r n.reqs.length A1.cr] 30 (0,0)):=by
  rw [hW'];exact GR.setW_blk [.int .i64 n.id,.int .i64 n.par,.slice A1.k n.kids.length A1.ck,.int .i64 n.next,.slice A1.p n.pu.length A1.cp,.slice A1.o n.out.length A1.co,.slice A1.s n.seen.length A1.cs,.int .i64 n.old,.slice A1.r n.reqs.length A1.cr] (o:=0) (xs:=[.int .i64 0,.int .i64 0,.slice none 0 0,.int .i64 0,.slice none 0 0,.slice none 0 0,.slice none 0 0,.int .i64 0,.slice none 0 0]) HR2
 have hkc:KC Gt 0 W2 W':=by
  rw [hW'];exact KC.setW (o:=0) [.int .i64 n.id,.int .i64 n.par,.slice A1.k n.kids.length A1.ck,.int .i64 n.next,.slice A1.p n.pu.length A1.cp,.slice A1.o n.out.length A1.co,.slice A1.s n.seen.length A1.cs,.int .i64 n.old,.slice A1.r n.reqs.length A1.cr] (HW2.no.lo _ (by omega))
 have MV:=hide ((HW2.no.kc0 hkc).base HB.size);have HMF:=hide (iF (hkc.own HW2.m HW2.cm (by omega)) HB.size);have yg:=hide HW2.cm
 have jW:Hid (Below w.heap.size w W'):=by
  rw [hW'];exact GR.setW_below (by omega) [.int .i64 n.id,.int .i64 n.par,.slice A1.k n.kids.length A1.ck,.int .i64 n.next,.slice A1.p n.pu.length A1.cp,.slice A1.o n.out.length A1.co,.slice A1.s n.seen.length A1.cs,.int .i64 n.old,.slice A1.r n.reqs.length A1.cr] (o:=0) (HB.trans (HW2.keep.mono HB.size))
 obtain⟨d0,d1,d2,d3,d4,d5,d6,d7,d8⟩:=nine e4;clear hW' e4 hkc;exact bodyPost_ret (v:= .tuple #[.agg #[.int .i64 n.id,.int .i64 n.par,.slice A1.k n.kids.length A1.ck,.int .i64 n.next,.slice A1.p n.pu.length A1.cp,.slice A1.o n.out.length A1.co,.slice A1.s n.seen.length A1.cs,.int .i64 n.old,.slice A1.r n.reqs.length A1.cr],(.slice none 0 0),.int .i64 3]) (by simp[results,Tryz.results8,go_sem,d0,d1,d2,d3,d4,d5,d6,d7,d8]) rfl ⟨A1,G1,Gt,(.slice none 0 0),rfl,MV,HMF,yg,jW⟩
theorem Bp (n:Nd) (A:bE) (o:jE) (E:Nat→Addr) (w:World) (hz:eH n 1048576) (hk:o.k.size≤1048576) (hmk:o.m.k.size≤1048576) (hok:dG n=true) (ha:dQ w A n) (he:gW w E):
 Calls Tryz.prog 8 #[gu n A,jH o] w (yR w (Pn n o)):=by
 rw [JW hok];unfold yR;have Fw:=hide (fun W (h:Below w.heap.size w W)=>vw n A W hz (ha.below h));have ku:=hide (fun W (h:Below w.heap.size w W)=>tL n A W (hz.mono (by omega)) (ha.below h));rw [hok] at ku;have HE:=hide he;have HDO:=hide (fun W w0 wb A G c v (hW:WK w0 W wb n A G c v []) (he:gW w0 E)=>ard w0 W wb n A G c v [] o E hz hok hk hmk (by simp) hW he);clear hz hok ha hk hmk he;generalize kR n o=RR at *;obtain⟨K,no,k,nn,⟨mK,mF,mT,mI,mL,mk,mN⟩⟩:=o;first|dsimp only at * |skip
 go_enter Tryz.func8,Tryz.ntmps8
 go_upto_region 1 with fail;refine wp_at (fun W0 hW=>?_);obtain⟨e1,e2,e3,e4⟩:=eT w (.cells (fZ n A) 30) (.cells #[.int .i64 K,.int .i64 no,.string k,.int .i64 nn,.int .i64 mK,.int .i64 mF,.int .i64 mT,.int .i64 mI,.int .i64 mL,.string mk,.int .i64 mN] 34) (.cells iO 30);rw [←hW] at e1 e2 e3 e4;have HN:=hide e1;have HO:=hide e2;have HR:=hide e3;have HB:=hide e4;clear hW e1 e2 e3 e4;obtain⟨c0,c1,c2,c3,c4,c5,c6,c7,c8⟩:=nine HN;have hl0:=aA HR;go_wp2_with fail;refine(Fw W0 HB).mono ?_;rintro e y ⟨A1,G1,cc1,rfl,J3,hby⟩;have jY:=hide J3;have Fv:=hide hby;clear J3 hby c0 c1 c2 c3 c4 c5 c6 c7 c8 Fw;go_upto_region 2 with fail;refine wp_at (fun W hW=>?_);have e5:W.heap[y.heap.size]?=some (.cells (FE n A1 (.slice none 0 0)) 74 (0,0)):=by rw [hW];exact heap_alloc_new _ _
 have e6:Below y.heap.size y W:=by rw [hW];exact au _ _
 have HW:=hide (WK.start Fv jY (Nat.le_refl y.heap.size) e6 e5);have Lg:=hide (aj HN (Fv.trans (e6.mono Fv.size)));clear hW e5 e6 jY HN;generalize newC y.heap.size 8 cc1=Gt at *;have hyl:=aA HW.blk;generalize y.heap.size=wb at *;obtain⟨c0,c1,c2,c3,c4,c5,c6,c7,c8⟩:=nine Lg;have hnl:=aA Lg;go_wp2_with fail;refine(ku W (HB.trans (HW.keep.mono HB.size))).mono ?_;rintro e W2 ⟨rfl,hb2⟩;have HW2:=hide (HW.step hb2);clear hb2 c0 c1 c2 c3 c4 c5 c6 c7 c8 ku Lg hyl hnl HW;have acr:=hide (HDO W2 W0 wb A1 G1 Gt _ HW2 (HE.below HB));have UH:=hide (aj HO HW2.keep);obtain⟨⟨p0,p1,p2,p3,p4,p5,p6,p7,p8,p9,lT⟩,_⟩:=dP UH;have hol:=aA UH;go_wp2_with fail;refine acr.mono ?_;rintro e W3 ⟨rfl,A2,G2,cc3,v3,hW3⟩;have HW3:=hide hW3;clear hW3 HDO acr p0 p1 p2 p3 p4 p5 p6 p7 p8 p9 lT hol HW2 UH
 obtain⟨a3,cp3,hv3⟩:∃a cp,v3= .slice a RR.2.1.length cp:=by
  obtain⟨a,cp,he,_⟩:=GR.own_at (enc:=gX) (sz:=7) iR HW3.m;exact⟨a,cp,he⟩
 subst hv3;rw [List.nil_append] at HW3;obtain⟨n3,L3,Rb⟩:=RR;first|dsimp only at * |skip
 obtain⟨c0,c1,c2,c3,c4,c5,c6,c7,c8,c9⟩:=gY HW3.blk;have hwl:=aA HW3.blk;clear c0 c1 c2 c3 c4 c5 c6 c7 c8 c9;go_upto_region 5 with fail;refine jU (by kernel_rfl) ?_;show qY _ _ _ _ 8 (Array.replicate 8 false) _ _
 refine lD 0 rfl (by kernel_rfl) (by kernel_rfl) (by kernel_rfl) (fun _ _ _ _ h=>h) (fun K hK=>?_);go_simp
 first
  |(refine hK _ ?_;clear hK K)
  |(apply Exists.intro
    refine⟨fun _=>rfl,hK _ ?_⟩
    clear hK K)
 refine lD 2 rfl (by kernel_rfl) (by kernel_rfl) (by kernel_rfl) (fun _ _ _ _ h=>h) (fun K hK=>?_);go_simp
 first
  |(refine hK _ ?_;clear hK K)
  |(apply Exists.intro
    refine⟨fun _=>rfl,hK _ ?_⟩
    clear hK K)
 refine lD 4 rfl (by kernel_rfl) (by kernel_rfl) (by kernel_rfl) (fun _ _ _ _ h=>h) (fun K hK=>?_);go_simp
 first
  |(refine hK _ ?_;clear hK K)
  |(apply Exists.intro
    refine⟨fun _=>rfl,hK _ ?_⟩
    clear hK K)
 refine fun x hx=>?_
 have rT:=hide (HW3.step hx);have HR2:=hide (aj HR rT.keep);have hwr:w.heap.size+2≠wb:=by have:=rT.lo;omega
 clear hx HW3;obtain⟨c0,c1,c2,c3,c4,c5,c6,c7,c8,c9⟩:=gY rT.blk;obtain⟨d0,d1,d2,d3,d4,d5,d6,d7,d8⟩:=nine HR2;have f0:=ay HR2 0;have f1:=ay HR2 1;have f2:=ay HR2 2;have f3:=ay HR2 3;have f4:=ay HR2 4;have f5:=ay HR2 5;have f6:=ay HR2 6;have f7:=ay HR2 7;have f8:=ay HR2 8;have hrl:=aA HR2;have asf:=aA rT.blk;refine Dw 1 3 rfl rfl (by kernel_rfl) (by rfl) (by rfl) ?pA ?pB
 case' pB=>
  go_simp
  refine aG 1 rfl (by kernel_rfl) (by rfl) ?_
  go_simp
  refine aG 5 rfl (by kernel_rfl) (by rfl) ?_
  go_simp
  refine aG 6 rfl (by kernel_rfl) (by rfl) ?_
  go_simp
  refine aG 7 rfl (by kernel_rfl) (by rfl) ?_
  go_simp
  refine wpAny_done (by kernel_rfl) ?_
  go_simp
  clear c0 c1 c2 c3 c4 c5 c6 c7 c8 c9 d0 d1 d2 d3 d4 d5 d6 d7 d8 f0 f1 f2 f3 f4 f5 f6 f7 f8
  go_wp2_with fail
  refine aO (fun W' hW'=>?_)
  have e4:W'.heap[w.heap.size+2]?=some (.cells #[.int .i64 n3.id,.int .i64 n3.par,.slice A2.k n3.kids.length A2.ck,.int .i64 n3.next,.slice A2.p n3.pu.length A2.cp,.slice A2.o n3.out.length A2.co,.slice A2.s n3.seen.length A2.cs,.int .i64 n3.old,.slice A2.r n3.reqs.length A2.cr] 30 (0,0)):=by
   rw [hW'];exact GR.setW_blk [.int .i64 n3.id,.int .i64 n3.par,.slice A2.k n3.kids.length A2.ck,.int .i64 n3.next,.slice A2.p n3.pu.length A2.cp,.slice A2.o n3.out.length A2.co,.slice A2.s n3.seen.length A2.cs,.int .i64 n3.old,.slice A2.r n3.reqs.length A2.cr] (o:=0) (xs:=[.int .i64 0,.int .i64 0,.slice none 0 0,.int .i64 0,.slice none 0 0,.slice none 0 0,.slice none 0 0,.int .i64 0,.slice none 0 0]) HR2
  have hkc:KC cc3 0 x W':=by
   rw [hW'];exact KC.setW (o:=0) [.int .i64 n3.id,.int .i64 n3.par,.slice A2.k n3.kids.length A2.ck,.int .i64 n3.next,.slice A2.p n3.pu.length A2.cp,.slice A2.o n3.out.length A2.co,.slice A2.s n3.seen.length A2.cs,.int .i64 n3.old,.slice A2.r n3.reqs.length A2.cr] (rT.no.lo _ (by omega))
  have MV:=hide ((rT.no.kc0 hkc).base HB.size)
  have HMF:=hide (iF (hkc.own rT.m rT.cm (by omega)) HB.size)
  have yg:=hide rT.cm
  have jW:Hid (Below w.heap.size w W'):=by
   rw [hW'];exact GR.setW_below (by omega) [.int .i64 n3.id,.int .i64 n3.par,.slice A2.k n3.kids.length A2.ck,.int .i64 n3.next,.slice A2.p n3.pu.length A2.cp,.slice A2.o n3.out.length A2.co,.slice A2.s n3.seen.length A2.cs,.int .i64 n3.old,.slice A2.r n3.reqs.length A2.cr] (o:=0) (HB.trans (rT.keep.mono HB.size))
  obtain⟨d0,d1,d2,d3,d4,d5,d6,d7,d8⟩:=nine e4
  clear hW' e4 hkc
  exact bodyPost_ret (v:= .tuple #[.agg #[.int .i64 n3.id,.int .i64 n3.par,.slice A2.k n3.kids.length A2.ck,.int .i64 n3.next,.slice A2.p n3.pu.length A2.cp,.slice A2.o n3.out.length A2.co,.slice A2.s n3.seen.length A2.cs,.int .i64 n3.old,.slice A2.r n3.reqs.length A2.cr],(.slice a3 L3.length cp3),.int .i64 Rb]) (by simp[results,Tryz.results8,go_sem,d0,d1,d2,d3,d4,d5,d6,d7,d8]) rfl ⟨A2,G2,cc3,(.slice a3 L3.length cp3),rfl,MV,HMF,yg,jW⟩
 case' pA=>
  go_simp
  refine Dw 3 5 rfl rfl (by kernel_rfl) (by rfl) (by rfl) ?pA1 ?pA2
 case' pA1=>
  go_simp
  refine aG 5 rfl (by kernel_rfl) (by rfl) ?_
  go_simp
  refine aG 6 rfl (by kernel_rfl) (by rfl) ?_
  go_simp
  refine aG 7 rfl (by kernel_rfl) (by rfl) ?_
  go_simp
  refine wpAny_done (by kernel_rfl) ?_
  go_simp
  clear c0 c1 c2 c3 c4 c5 c6 c7 c8 c9 d0 d1 d2 d3 d4 d5 d6 d7 d8 f0 f1 f2 f3 f4 f5 f6 f7 f8
  go_wp2_with fail
  refine aO (fun W' hW'=>?_)
  have e4:W'.heap[w.heap.size+2]?=some (.cells #[.int .i64 n3.id,.int .i64 n3.par,.slice A2.k n3.kids.length A2.ck,.int .i64 n3.next,.slice A2.p n3.pu.length A2.cp,.slice A2.o n3.out.length A2.co,.slice A2.s n3.seen.length A2.cs,.int .i64 n3.old,.slice A2.r n3.reqs.length A2.cr] 30 (0,0)):=by
   rw [hW'];exact GR.setW_blk [.int .i64 n3.id,.int .i64 n3.par,.slice A2.k n3.kids.length A2.ck,.int .i64 n3.next,.slice A2.p n3.pu.length A2.cp,.slice A2.o n3.out.length A2.co,.slice A2.s n3.seen.length A2.cs,.int .i64 n3.old,.slice A2.r n3.reqs.length A2.cr] (o:=0) (xs:=[.int .i64 0,.int .i64 0,.slice none 0 0,.int .i64 0,.slice none 0 0,.slice none 0 0,.slice none 0 0,.int .i64 0,.slice none 0 0]) HR2
  have hkc:KC cc3 0 x W':=by
   rw [hW'];exact KC.setW (o:=0) [.int .i64 n3.id,.int .i64 n3.par,.slice A2.k n3.kids.length A2.ck,.int .i64 n3.next,.slice A2.p n3.pu.length A2.cp,.slice A2.o n3.out.length A2.co,.slice A2.s n3.seen.length A2.cs,.int .i64 n3.old,.slice A2.r n3.reqs.length A2.cr] (rT.no.lo _ (by omega))
  have MV:=hide ((rT.no.kc0 hkc).base HB.size)
  have HMF:=hide (iF (hkc.own rT.m rT.cm (by omega)) HB.size)
  have yg:=hide rT.cm
  have jW:Hid (Below w.heap.size w W'):=by
   rw [hW'];exact GR.setW_below (by omega) [.int .i64 n3.id,.int .i64 n3.par,.slice A2.k n3.kids.length A2.ck,.int .i64 n3.next,.slice A2.p n3.pu.length A2.cp,.slice A2.o n3.out.length A2.co,.slice A2.s n3.seen.length A2.cs,.int .i64 n3.old,.slice A2.r n3.reqs.length A2.cr] (o:=0) (HB.trans (rT.keep.mono HB.size))
  obtain⟨d0,d1,d2,d3,d4,d5,d6,d7,d8⟩:=nine e4
  clear hW' e4 hkc
  exact bodyPost_ret (v:= .tuple #[.agg #[.int .i64 n3.id,.int .i64 n3.par,.slice A2.k n3.kids.length A2.ck,.int .i64 n3.next,.slice A2.p n3.pu.length A2.cp,.slice A2.o n3.out.length A2.co,.slice A2.s n3.seen.length A2.cs,.int .i64 n3.old,.slice A2.r n3.reqs.length A2.cr],(.slice a3 L3.length cp3),.int .i64 Rb]) (by simp[results,Tryz.results8,go_sem,d0,d1,d2,d3,d4,d5,d6,d7,d8]) rfl ⟨A2,G2,cc3,(.slice a3 L3.length cp3),rfl,MV,HMF,yg,jW⟩
 have c9f:=Rf (b0:= .int .i64 n3.id) (b1:= .int .i64 n3.par) (b2:= .slice A2.k n3.kids.length A2.ck) (b3:= .int .i64 n3.next) (b4:= .slice A2.p n3.pu.length A2.cp) (b5:= .slice A2.o n3.out.length A2.co) (b6:= .slice A2.s n3.seen.length A2.cs) (b7:= .int .i64 n3.old) (b8:= .slice A2.r n3.reqs.length A2.cr) hwr c9;go_simp;refine aG 3 rfl (by kernel_rfl) (by rfl) ?_;go_simp;refine aG 6 rfl (by kernel_rfl) (by rfl) ?_;go_simp;refine aG 7 rfl (by kernel_rfl) (by rfl) ?_;go_simp;refine wpAny_done (by kernel_rfl) ?_;go_simp;clear c0 c1 c2 c3 c4 c5 c6 c7 c8 c9 d0 d1 d2 d3 d4 d5 d6 d7 d8 f0 f1 f2 f3 f4 f5 f6 f7 f8 c9f;go_wp2_with fail;refine aO (fun W' hW'=>?_)
 have e4:W'.heap[w.heap.size+2]?=some (.cells #[.int .i64 n3.id,.int .i64 n3.par,.slice A2.k n3.kids.length A2.ck,.int .i64 n3.next,.slice A2.p n3.pu.length A2.cp,.slice A2.o n3.out.length A2.co,.slice A2.s n3.seen.length A2.cs,.int .i64 n3.old,.slice A2.r n3.reqs.length A2.cr] 30 (0,0)):=by
  rw [hW'];exact GR.setW_blk [.int .i64 n3.id,.int .i64 n3.par,.slice A2.k n3.kids.length A2.ck,.int .i64 n3.next,.slice A2.p n3.pu.length A2.cp,.slice A2.o n3.out.length A2.co,.slice A2.s n3.seen.length A2.cs,.int .i64 n3.old,.slice A2.r n3.reqs.length A2.cr] (o:=0) (xs:=[.int .i64 0,.int .i64 0,.slice none 0 0,.int .i64 0,.slice none 0 0,.slice none 0 0,.slice none 0 0,.int .i64 0,.slice none 0 0]) HR2
 have hkc:KC cc3 0 x W':=by
  rw [hW'];exact KC.setW (o:=0) [.int .i64 n3.id,.int .i64 n3.par,.slice A2.k n3.kids.length A2.ck,.int .i64 n3.next,.slice A2.p n3.pu.length A2.cp,.slice A2.o n3.out.length A2.co,.slice A2.s n3.seen.length A2.cs,.int .i64 n3.old,.slice A2.r n3.reqs.length A2.cr] (rT.no.lo _ (by omega))
 have MV:=hide ((rT.no.kc0 hkc).base HB.size);have HMF:=hide (iF (hkc.own rT.m rT.cm (by omega)) HB.size);have yg:=hide rT.cm
 have jW:Hid (Below w.heap.size w W'):=by
  rw [hW'];exact GR.setW_below (by omega) [.int .i64 n3.id,.int .i64 n3.par,.slice A2.k n3.kids.length A2.ck,.int .i64 n3.next,.slice A2.p n3.pu.length A2.cp,.slice A2.o n3.out.length A2.co,.slice A2.s n3.seen.length A2.cs,.int .i64 n3.old,.slice A2.r n3.reqs.length A2.cr] (o:=0) (HB.trans (rT.keep.mono HB.size))
 obtain⟨d0,d1,d2,d3,d4,d5,d6,d7,d8⟩:=nine e4;clear hW' e4 hkc;exact bodyPost_ret (v:= .tuple #[.agg #[.int .i64 n3.id,.int .i64 n3.par,.slice A2.k n3.kids.length A2.ck,.int .i64 n3.next,.slice A2.p n3.pu.length A2.cp,.slice A2.o n3.out.length A2.co,.slice A2.s n3.seen.length A2.cs,.int .i64 n3.old,.slice A2.r n3.reqs.length A2.cr],(.slice a3 L3.length cp3),.int .i64 Rb]) (by simp[results,Tryz.results8,go_sem,d0,d1,d2,d3,d4,d5,d6,d7,d8]) rfl ⟨A2,G2,cc3,(.slice a3 L3.length cp3),rfl,MV,HMF,yg,jW⟩
theorem abD (n:Nd) (A:bE) (o:jE) (E:Nat→Addr) (w:World) (hz:eH n 1048576) (hk:o.k.size≤1048576) (hmk:o.m.k.size≤1048576) (ha:dQ w A n) (he:gW w E):
 Calls Tryz.prog 8 #[gu n A,jH o] w (yR w (Pn n o)):=by
 cases hok:dG n with
 |false=>exact zI n A o w hz hok ha
 |true=>exact Bp n A o E w hz hk hmk hok ha he
end Go.Proofs.YtacgbldlonoaaaaGreatDoor
