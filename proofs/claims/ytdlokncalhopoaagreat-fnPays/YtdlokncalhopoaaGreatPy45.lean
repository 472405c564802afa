/- Parts. -/
import Derived.Test.YtdlokncalhopoaaGreatPy38
import Derived.Test.YtdlokncalhopoaaGreatPy34
import Derived.Test.YtdlokncalhopoaaGreatPy39
import Derived.Test.YtdlokncalhopoaaGreatPy40
import Derived.Test.YtdlokncalhopoaaGreatPy42
import Derived.Test.YtdlokncalhopoaaGreatPy43
import Derived.Test.YtdlokncalhopoaaGreatPy44
import Derived.Test.YtdlokncalhopoaaGreatPy15
import Derived.Test.YtdlokncalhopoaaGreatPy22
namespace Go.Proofs.YtdlokncalhopoaaGreat
set_option maxHeartbeats 8000000
set_option maxRecDepth 100000
open Go.RowKit
open Mth
theorem specDo_want (n:Nd) (A:Ads) (K no:Int) (k:ByteArray) (nn mK mF mT mI mL:Int) (mk:ByteArray) (mN:Int) (w:World) (hz:NdSz n 1048576) (hk:k.size≤1048576) (hmk:mk.size≤1048576) (hok:ndOk n=true) (hop:opOk ⟨K,no,k,nn,⟨mK,mF,mT,mI,mL,mk,mN⟩⟩=true) (hK:K=3) (hpar:n.par≠ -1) (ha:NodeAt w A n):Calls Tryz.prog 29 #[ndv n A,.agg #[.int .i64 K,.int .i64 no,.string k,.int .i64 nn,.int .i64 mK,.int .i64 mF,.int .i64 mT,.int .i64 mI,.int .i64 mL,.string mk,.int .i64 mN]] w (GivesE w (n,[⟨0,n.id,n.par,0,0,k,nn⟩],0)):=by
 subst hK
 unfold GivesE
 have HOK:=hide (fun W (h:Below w.heap.size w W)=>specNodeOk n A W (hz.mono (by omega)) (ha.below h))
 rw [hok] at HOK
 have hpz:(decide (n.par < 0))=false:=by
  have h:=(ndOk_parts hok).1
  unfold placeB at h
  simp only[Bool.and_eq_true,decide_eq_true_eq] at h
  exact decide_eq_false (by omega)
 have HOP:=hide (fun W=>specOpOk ⟨3,no,k,nn,⟨mK,mF,mT,mI,mL,mk,mN⟩⟩ W (by unfold maxLen;dsimp only;omega) (by unfold maxLen;dsimp only;omega))
 rw [hop] at HOP
 unfold opw at HOP
 clear hop
 have HCP:=hide (fun W (h:Below w.heap.size w W)=>specCopyNode n A W hz (ha.below h))
 clear hz ha hok
 go_enter Tryz.func29,Tryz.ntmps29
 go_upto_region 2 with fail
 refine wp_at (fun W1 hW=>?_)
 obtain⟨e1,e2,e3,e4⟩:=allocs3E w (.cells (ndc n A) 30) (.cells #[.int .i64 3,.int .i64 no,.string k,.int .i64 nn,.int .i64 mK,.int .i64 mF,.int .i64 mT,.int .i64 mI,.int .i64 mL,.string mk,.int .i64 mN] 48) (.cells zc9 30)
 have hsz:(((w.alloc (.cells (ndc n A) 30)).alloc (.cells #[.int .i64 3,.int .i64 no,.string k,.int .i64 nn,.int .i64 mK,.int .i64 mF,.int .i64 mT,.int .i64 mI,.int .i64 mL,.string mk,.int .i64 mN] 48)).alloc (.cells zc9 30)).heap.size=w.heap.size+3:=by simp
 generalize hW0:((w.alloc (.cells (ndc n A) 30)).alloc (.cells #[.int .i64 3,.int .i64 no,.string k,.int .i64 nn,.int .i64 mK,.int .i64 mF,.int .i64 mT,.int .i64 mI,.int .i64 mL,.string mk,.int .i64 mN] 48)).alloc (.cells zc9 30)=W0 at *
 have hb:=below_one W0 (.cells #[] 37)
 have hW1:W1=W0.alloc (.cells #[] 37):=by rw [hW,←hW0]
 rw [←hW1] at hb
 have HN:=hide (obj_step e1 hb)
 have HO:=hide (obj_step e2 hb)
 have HR:=hide (obj_step e3 hb)
 have HB1:=hide (e4.trans (hb.mono e4.size))
 clear hW hW0 hW1 e1 e2 e3 e4 hb
 obtain⟨c0,c1,c2,c3,c4,c5,c6,c7,c8⟩:=nine (unhide HN)
 obtain⟨⟨p0,p1,p2,p3,p4,p5,p6,p7,p8,p9,p10⟩,_⟩:=eleven_at (unhide HO)
 have hnl:=obj_lt (unhide HN)
 have hol:=obj_lt (unhide HO)
 go_wp2_with fail
 refine(unhide HOK W1 (unhide HB1)).mono ?_
 rintro e W2 ⟨rfl,hb2⟩
 have HN_2:=hide (obj_step (unhide HN) hb2)
 have HO_2:=hide (obj_step (unhide HO) hb2)
 have HR_2:=hide (obj_step (unhide HR) hb2)
 have HB2:=hide ((unhide HB1).trans (hb2.mono (unhide HB1).size))
 clear hb2 c0 c1 c2 c3 c4 c5 c6 c7 c8 p0 p1 p2 p3 p4 p5 p6 p7 p8 p9 p10 hnl hol HOK HN HO HR HB1
 obtain⟨⟨p0,p1,p2,p3,p4,p5,p6,p7,p8,p9,p10⟩,_⟩:=eleven_at (unhide HO_2)
 have hol:=obj_lt (unhide HO_2)
 go_wp2_with fail
 refine(unhide HOP W2).mono ?_
 rintro e W4 ⟨rfl,hb4⟩
 have HN_5:=hide (obj_step (unhide HN_2) hb4)
 have HO_5:=hide (obj_step (unhide HO_2) hb4)
 have HR_5:=hide (obj_step (unhide HR_2) hb4)
 have HB5:=hide ((unhide HB2).trans (hb4.mono (unhide HB2).size))
 clear hb4 p0 p1 p2 p3 p4 p5 p6 p7 p8 p9 p10 hol HOP HN_2 HO_2 HR_2 HB2
 obtain⟨c0,c1,c2,c3,c4,c5,c6,c7,c8⟩:=nine (unhide HN_5)
 have hnl:=obj_lt (unhide HN_5)
 go_wp2_with fail
 refine(unhide HCP W4 (unhide HB5)).mono ?_
 rintro e W3 ⟨A1,G1,cc,rfl,hNO,hb3,hP1,hP2,hR1,hR2⟩
 have HR_3:=hide (obj_step (unhide HR_5) hb3)
 have HN_3:=hide (obj_step (unhide HN_5) hb3)
 have HO_3:=hide (obj_step (unhide HO_5) hb3)
 have HB3:=hide ((unhide HB5).trans (hb3.mono (unhide HB5).size))
 have HPR:=hide (And.intro (And.intro hP1 hP2) (And.intro hR1 hR2))
 have HNO:=hide (hNO.flat (b:=0) (Nat.zero_le _))
 have HC9:=hide (fun x (hx:x < w.heap.size+3)=>flatC_own (b:=0) (Nat.zero_le _) (hNO.lo x (by have:=obj_lt (unhide HR_5);omega)))
 have hrs:=obj_lt (unhide HR_5)
 have H9:=hide (flatC_h9 0 cc)
 generalize flatC 0 cc=c at *
 have HC2:=hide (unhide HC9 (w.heap.size+2) (by omega))
 have HC0:=hide (unhide HC9 w.heap.size (by omega))
 clear hb3 hNO hP1 hP2 hR1 hR2 c0 c1 c2 c3 c4 c5 c6 c7 c8 hnl HCP HN_5 HO_5 HR_5
 obtain⟨d0,d1,d2,d3,d4,d5,d6,d7,d8⟩:=nine (unhide HN_3)
 have f0:=obj_free (unhide HN_3) 0
 have f1:=obj_free (unhide HN_3) 1
 have f2:=obj_free (unhide HN_3) 2
 have f3:=obj_free (unhide HN_3) 3
 have f4:=obj_free (unhide HN_3) 4
 have f5:=obj_free (unhide HN_3) 5
 have f6:=obj_free (unhide HN_3) 6
 have f7:=obj_free (unhide HN_3) 7
 have f8:=obj_free (unhide HN_3) 8
 obtain⟨⟨p0,p1,p2,p3,p4,p5,p6,p7,p8,p9,p10⟩,_⟩:=eleven_at (unhide HO_3)
 have hnl:=obj_lt (unhide HN_3)
 have hol:=obj_lt (unhide HO_3)
 go_upto_region 5 with fail
 refine wp_at (fun X hX=>?_)
 have e5:X.heap[w.heap.size]?=some (.cells #[.int .i64 n.id,.int .i64 n.par,.slice A1.k n.kids.length A1.ck,.int .i64 n.next,.slice A1.p n.pu.length A1.cp,.slice A1.o n.out.length A1.co,.slice A1.s n.seen.length A1.cs,.int .i64 n.old,.slice A1.r n.reqs.length A1.cr] 30 (0,0)):=by
  rw [hX]
  exact GR.setW_blk [.int .i64 n.id,.int .i64 n.par,.slice A1.k n.kids.length A1.ck,.int .i64 n.next,.slice A1.p n.pu.length A1.cp,.slice A1.o n.out.length A1.co,.slice A1.s n.seen.length A1.cs,.int .i64 n.old,.slice A1.r n.reqs.length A1.cr] (o:=0) (xs:=[.int .i64 n.id,.int .i64 n.par,.slice A.k n.kids.length A.ck,.int .i64 n.next,.slice A.p n.pu.length A.cp,.slice A.o n.out.length A.co,.slice A.s n.seen.length A.cs,.int .i64 n.old,.slice A.r n.reqs.length A.cr]) (unhide HN_3)
 have hkx:KeepsL [w.heap.size] W3 X:=by
  rw [hX]
  exact setW_keeps [.int .i64 n.id,.int .i64 n.par,.slice A1.k n.kids.length A1.ck,.int .i64 n.next,.slice A1.p n.pu.length A1.cp,.slice A1.o n.out.length A1.co,.slice A1.s n.seen.length A1.cs,.int .i64 n.old,.slice A1.r n.reqs.length A1.cr] W3 0
 have HNX:=hide e5
 have HOX:=hide ((hkx.block _ (obj_lt (unhide HO_3)) (by simp)).trans (unhide HO_3))
 have HRX:=hide ((hkx.block _ (obj_lt (unhide HR_3)) (by simp)).trans (unhide HR_3))
 have HBX:=hide ((unhide HB3).trans (hkx.below (B:=w.heap.size) (fun x hx=>by have:x=w.heap.size:=(by simpa using hx);omega) (unhide HB3).size))
 have HNO5:=hide ((unhide HNO).kc (k:=9) (KC.keeps hkx (fun x hx=>by have:x=w.heap.size:=(by simpa using hx);rw [this];exact unhide HC0)) (by omega))
 clear e5 hkx hX d0 d1 d2 d3 d4 d5 d6 d7 d8 f0 f1 f2 f3 f4 f5 f6 f7 f8 p0 p1 p2 p3 p4 p5 p6 p7 p8 p9 p10 hnl hol HN_3 HO_3 HR_3 HB3 HNO HB5
 obtain⟨c0,c1,c2,c3,c4,c5,c6,c7,c8⟩:=nine (unhide HNX)
 obtain⟨⟨p0,p1,p2,p3,p4,p5,p6,p7,p8,p9,p10⟩,_⟩:=eleven_at (unhide HOX)
 have hnl:=obj_lt (unhide HNX)
 have hol:=obj_lt (unhide HOX)
 go_upto_region 26 with fail
 have hrx:=obj_lt (unhide HRX)
 have y0:=cell_und (b:=w.heap.size+2) (by omega) c0
 have y1:=cell_und (b:=w.heap.size+2) (by omega) c1
 have y2:=cell_und (b:=w.heap.size+2) (by omega) c2
 have y3:=cell_und (b:=w.heap.size+2) (by omega) c3
 have y4:=cell_und (b:=w.heap.size+2) (by omega) c4
 have y5:=cell_und (b:=w.heap.size+2) (by omega) c5
 have y6:=cell_und (b:=w.heap.size+2) (by omega) c6
 have y7:=cell_und (b:=w.heap.size+2) (by omega) c7
 have y8:=cell_und (b:=w.heap.size+2) (by omega) c8
 have z2:=cell_und (b:=w.heap.size+2) (by omega) p2
 have z3:=cell_und (b:=w.heap.size+2) (by omega) p3
 have hwb:w.heap.size+2≤X.heap.size:=by omega
 clear c0 c1 c2 c3 c4 c5 c6 c7 c8 p0 p1 p2 p3 p4 p5 p6 p7 p8 p9 p10
 refine wp_region_mixB 12 (w.heap.size+2) (by kernel_rfl) ?_
 show wpMixB _ _ _ _ _ _ 14 (Array.replicate 14 false) _ _
 refine wpMixB_take 0 20 hwb rfl (by kernel_rfl) (by kernel_rfl) (by kernel_rfl) (by kernel_rfl) (by kernel_rfl) (fun _ _ _ _ h=>h) (fun K hK=>?_)
 go_simp
 first
  |(refine hK _ ?_;clear hK K)
  |(apply Exists.intro
    refine⟨fun _=>?_,hK _ ?_⟩
    (first|rfl|(trace_state;fail))
    clear hK K)
 refine wpMixB_take 1 20 hwb rfl (by kernel_rfl) (by kernel_rfl) (by kernel_rfl) (by kernel_rfl) (by kernel_rfl) (fun _ _ _ _ h=>h) (fun K hK=>?_)
 go_simp
 first
  |(refine hK _ ?_;clear hK K)
  |(apply Exists.intro
    refine⟨fun _=>?_,hK _ ?_⟩
    (first|rfl|(trace_state;fail))
    clear hK K)
 refine wpMixB_take 2 20 hwb rfl (by kernel_rfl) (by kernel_rfl) (by kernel_rfl) (by kernel_rfl) (by kernel_rfl) (fun _ _ _ _ h=>h) (fun K hK=>?_)
 go_simp
 first
  |(refine hK _ ?_;clear hK K)
  |(apply Exists.intro
    refine⟨fun _=>?_,hK _ ?_⟩
    (first|rfl|(trace_state;fail))
    clear hK K)
 refine wpMixB_take 3 20 hwb rfl (by kernel_rfl) (by kernel_rfl) (by kernel_rfl) (by kernel_rfl) (by kernel_rfl) (fun _ _ _ _ h=>h) (fun K hK=>?_)
 go_simp
 first
  |(refine hK _ ?_;clear hK K)
  |(apply Exists.intro
    refine⟨fun _=>?_,hK _ ?_⟩
    (first|rfl|(trace_state;fail))
    clear hK K)
 refine wpMixB_take 4 20 hwb rfl (by kernel_rfl) (by kernel_rfl) (by kernel_rfl) (by kernel_rfl) (by kernel_rfl) (fun _ _ _ _ h=>h) (fun K hK=>?_)
 go_simp
 first
  |(refine hK _ ?_;clear hK K)
  |(apply Exists.intro
    refine⟨fun _=>?_,hK _ ?_⟩
    (first|rfl|(trace_state;fail))
    clear hK K)
 refine wpMixB_take 5 20 hwb rfl (by kernel_rfl) (by kernel_rfl) (by kernel_rfl) (by kernel_rfl) (by kernel_rfl) (fun _ _ _ _ h=>h) (fun K hK=>?_)
 go_simp
 first
  |(refine hK _ ?_;clear hK K)
  |(apply Exists.intro
    refine⟨fun _=>?_,hK _ ?_⟩
    (first|rfl|(trace_state;fail))
    clear hK K)
 refine wpMixB_take 6 20 hwb rfl (by kernel_rfl) (by kernel_rfl) (by kernel_rfl) (by kernel_rfl) (by kernel_rfl) (fun _ _ _ _ h=>h) (fun K hK=>?_)
 go_simp
 first
  |(refine hK _ ?_;clear hK K)
  |(apply Exists.intro
    refine⟨fun _=>?_,hK _ ?_⟩
    (first|rfl|(trace_state;fail))
    clear hK K)
 refine wpMixB_take 7 20 hwb rfl (by kernel_rfl) (by kernel_rfl) (by kernel_rfl) (by kernel_rfl) (by kernel_rfl) (fun _ _ _ _ h=>h) (fun K hK=>?_)
 go_simp
 first
  |(refine hK _ ?_;clear hK K)
  |(apply Exists.intro
    refine⟨fun _=>?_,hK _ ?_⟩
    (first|rfl|(trace_state;fail))
    clear hK K)
 refine wpMixB_take 8 20 hwb rfl (by kernel_rfl) (by kernel_rfl) (by kernel_rfl) (by kernel_rfl) (by kernel_rfl) (fun _ _ _ _ h=>h) (fun K hK=>?_)
 go_simp
 first
  |(refine hK _ ?_;clear hK K)
  |(apply Exists.intro
    refine⟨fun _=>?_,hK _ ?_⟩
    (first|rfl|(trace_state;fail))
    clear hK K)
 refine wpMixB_take 9 20 hwb rfl (by kernel_rfl) (by kernel_rfl) (by kernel_rfl) (by kernel_rfl) (by kernel_rfl) (fun _ _ _ _ h=>h) (fun K hK=>?_)
 go_simp
 first
  |(refine hK _ ?_;clear hK K)
  |(apply Exists.intro
    refine⟨fun _=>?_,hK _ ?_⟩
    (first|rfl|(trace_state;fail))
    clear hK K)
 clear y0 y1 y2 y3 y4 y5 y6 y7 y8 z2 z3 hwb hnl hol HNX HOX
 refine wpMixB_two 10 11 rfl rfl (by kernel_rfl) (by rfl) (by rfl) (by decide) (by decide) (fun x hx=>?_) (fun x hx=>?_)
 ·go_simp
  refine⟨(below_one x _).mono (by have:=hx.size;omega),?_⟩
  have HX1:=hide (Ge.trans hx (below_one x (.cells #[.int .i64 0,.int .i64 n.id,.int .i64 n.par,.int .i64 0,.int .i64 0,.string k,.int .i64 nn] 37)))
  have HM1:=hide (heap_alloc_new x (.cells #[.int .i64 0,.int .i64 n.id,.int .i64 n.par,.int .i64 0,.int .i64 0,.string k,.int .i64 nn] 37))
  have hxs:=hx.size
  clear hx
  refine wpMixB_one 11 rfl (by kernel_rfl) (by rfl) (by decide) (fun y hy=>?_)
  have HY:=hide (Ge.trans (unhide HX1) hy)
  have HMY:=hide (obj_step (unhide HM1) hy)
  have HRY:=hide (obj_step (unhide HRX) (unhide HY))
  clear hy HM1 HX1
  obtain⟨d0,d1,d2,d3,d4,d5,d6,d7,d8⟩:=nine (unhide HRY)
  have f0:=obj_free (unhide HRY) 0
  have f1:=obj_free (unhide HRY) 1
  have f2:=obj_free (unhide HRY) 2
  have f3:=obj_free (unhide HRY) 3
  have f4:=obj_free (unhide HRY) 4
  have f5:=obj_free (unhide HRY) 5
  have f6:=obj_free (unhide HRY) 6
  have f7:=obj_free (unhide HRY) 7
  have f8:=obj_free (unhide HRY) 8
  have hrl:=obj_lt (unhide HRY)
  go_simp
  have hkf:KeepsL [w.heap.size+2] y (GR.setW y (w.heap.size+2) 0 [.int .i64 n.id,.int .i64 n.par,.slice A1.k n.kids.length A1.ck,.int .i64 n.next,.slice A1.p n.pu.length A1.cp,.slice A1.o n.out.length A1.co,.slice A1.s n.seen.length A1.cs,.int .i64 n.old,.slice A1.r n.reqs.length A1.cr]):=setW_keeps [.int .i64 n.id,.int .i64 n.par,.slice A1.k n.kids.length A1.ck,.int .i64 n.next,.slice A1.p n.pu.length A1.cp,.slice A1.o n.out.length A1.co,.slice A1.s n.seen.length A1.cs,.int .i64 n.old,.slice A1.r n.reqs.length A1.cr] y 0
  refine⟨hkf.below (fun x hx=>by have:x=w.heap.size+2:=(by simpa using hx);omega) (by have:=obj_lt (unhide HRY);omega),?_⟩
  clear hkf d0 d1 d2 d3 d4 d5 d6 d7 d8 f0 f1 f2 f3 f4 f5 f6 f7 f8 hrl
  refine wpMixB_leave (by kernel_rfl) (fun z hz=>?_)
  have HRZ:=hide (obj_step (GR.setW_blk [.int .i64 n.id,.int .i64 n.par,.slice A1.k n.kids.length A1.ck,.int .i64 n.next,.slice A1.p n.pu.length A1.cp,.slice A1.o n.out.length A1.co,.slice A1.s n.seen.length A1.cs,.int .i64 n.old,.slice A1.r n.reqs.length A1.cr] (o:=0) (xs:=[.int .i64 0,.int .i64 0,.slice none 0 0,.int .i64 0,.slice none 0 0,.slice none 0 0,.slice none 0 0,.int .i64 0,.slice none 0 0]) (unhide HRY)) hz)
  have hkf:KeepsL [w.heap.size+2] X z:=(KeepsL.of_below (unhide HY)).trans ((setW_keeps [.int .i64 n.id,.int .i64 n.par,.slice A1.k n.kids.length A1.ck,.int .i64 n.next,.slice A1.p n.pu.length A1.cp,.slice A1.o n.out.length A1.co,.slice A1.s n.seen.length A1.cs,.int .i64 n.old,.slice A1.r n.reqs.length A1.cr] y 0).trans (KeepsL.of_below hz))
  have HMZ:=hide (obj_step ((setW_keeps [.int .i64 n.id,.int .i64 n.par,.slice A1.k n.kids.length A1.ck,.int .i64 n.next,.slice A1.p n.pu.length A1.cp,.slice A1.o n.out.length A1.co,.slice A1.s n.seen.length A1.cs,.int .i64 n.old,.slice A1.r n.reqs.length A1.cr] y 0).obj (unhide HMY) (fun hm=>by have:x.heap.size=w.heap.size+2:=(by simpa using hm);omega)) hz)
  clear hz HY HRY HMY
  have hmb:w.heap.size≤x.heap.size:=by omega
  have HKF:=hide hkf
  clear hkf
  refine wpAny_one 12 rfl (by kernel_rfl) (by rfl) ?_
  go_simp
  refine wpAny_one 13 rfl (by kernel_rfl) (by rfl) ?_
  go_simp
  refine wpAny_done (by kernel_rfl) ?_
  go_simp
  go_wp2_with fail
  refine bodyPost_atN (fun W' hW'=>?_)
  subst hW'
  have hkf:=unhide HKF
  have HAT:=hide (fun W'' (ho:Aft w W' W'')=>(((unhide HNO5).kc (k:=9) (KC.keeps hkf (fun x hx=>by have:x=w.heap.size+2:=(by simpa using hx);rw [this];exact unhide HC2)) (by omega)).kc (k:=9) (ho.kc (fun x hx=>unhide HC9 x (by omega))) (by omega)).rm)
  have HMT:=hide (fun W'' (ho:Aft w W' W'')=>ack_at (c:=c) (w:=w) (unhide HMZ) (ho.out0 (unhide HC9)) hmb)
  have HBF:Hid (Below w.heap.size w W'):=(unhide HBX).trans (hkf.below (fun x hx=>by have:x=w.heap.size+2:=(by simpa using hx);omega) (unhide HBX).size)
  obtain⟨x0,x1,x2,x3,x4,x5,x6,x7,x8⟩:=nine (unhide HRZ)
  clear hkf
  exact bodyPost_ret (v:= .tuple #[.agg #[.int .i64 n.id,.int .i64 n.par,.slice A1.k n.kids.length A1.ck,.int .i64 n.next,.slice A1.p n.pu.length A1.cp,.slice A1.o n.out.length A1.co,.slice A1.s n.seen.length A1.cs,.int .i64 n.old,.slice A1.r n.reqs.length A1.cr],.slice (some ⟨x.heap.size,0,none⟩) 1 1,.int .i64 0]) (by simp[results,Tryz.results29,go_sem,x0,x1,x2,x3,x4,x5,x6,x7,x8]) rfl ⟨A1,some ⟨x.heap.size,0,none⟩,1,rfl,unhide HAT,unhide HMT,unhide HBF⟩
 ·have HRY:=hide (obj_step (unhide HRX) hx)
  have hxs:=hx.size
  obtain⟨d0,d1,d2,d3,d4,d5,d6,d7,d8⟩:=nine (unhide HRY)
  have f0:=obj_free (unhide HRY) 0
  have f1:=obj_free (unhide HRY) 1
  have f2:=obj_free (unhide HRY) 2
  have f3:=obj_free (unhide HRY) 3
  have f4:=obj_free (unhide HRY) 4
  have f5:=obj_free (unhide HRY) 5
  have f6:=obj_free (unhide HRY) 6
  have f7:=obj_free (unhide HRY) 7
  have f8:=obj_free (unhide HRY) 8
  have hrl:=obj_lt (unhide HRY)
  go_simp
  have hkx:KeepsL [w.heap.size+2] x (GR.setW x (w.heap.size+2) 0 [.int .i64 n.id,.int .i64 n.par,.slice A1.k n.kids.length A1.ck,.int .i64 n.next,.slice A1.p n.pu.length A1.cp,.slice A1.o n.out.length A1.co,.slice A1.s n.seen.length A1.cs,.int .i64 n.old,.slice A1.r n.reqs.length A1.cr]):=setW_keeps [.int .i64 n.id,.int .i64 n.par,.slice A1.k n.kids.length A1.ck,.int .i64 n.next,.slice A1.p n.pu.length A1.cp,.slice A1.o n.out.length A1.co,.slice A1.s n.seen.length A1.cs,.int .i64 n.old,.slice A1.r n.reqs.length A1.cr] x 0
  refine⟨hkx.below (fun x hx=>by have:x=w.heap.size+2:=(by simpa using hx);omega) (by have:=obj_lt (unhide HRY);omega),?_⟩
  have HK1:=hide ((KeepsL.of_below hx).trans hkx)
  have HR1:=hide (GR.setW_blk [.int .i64 n.id,.int .i64 n.par,.slice A1.k n.kids.length A1.ck,.int .i64 n.next,.slice A1.p n.pu.length A1.cp,.slice A1.o n.out.length A1.co,.slice A1.s n.seen.length A1.cs,.int .i64 n.old,.slice A1.r n.reqs.length A1.cr] (o:=0) (xs:=[.int .i64 0,.int .i64 0,.slice none 0 0,.int .i64 0,.slice none 0 0,.slice none 0 0,.slice none 0 0,.int .i64 0,.slice none 0 0]) (unhide HRY))
  clear hx hkx d0 d1 d2 d3 d4 d5 d6 d7 d8 f0 f1 f2 f3 f4 f5 f6 f7 f8 hrl HRY
  refine wpMixB_one 10 rfl (by kernel_rfl) (by rfl) (by decide) (fun y hy=>?_)
  go_simp
  have HK2:=hide ((unhide HK1).trans (KeepsL.of_below hy))
  have HR2:=hide (obj_step (unhide HR1) hy)
  clear hy HK1 HR1
  refine⟨(below_one y _).mono (by have:=obj_lt (unhide HR2);omega),?_⟩
  refine wpMixB_leave (by kernel_rfl) (fun z hz=>?_)
  have HRZ:=hide (obj_step (obj_step (unhide HR2) (below_one y (.cells #[.int .i64 0,.int .i64 n.id,.int .i64 n.par,.int .i64 0,.int .i64 0,.string k,.int .i64 nn] 37))) hz)
  have hkf:KeepsL [w.heap.size+2] X z:=(unhide HK2).trans ((KeepsL.of_below (below_one y (.cells #[.int .i64 0,.int .i64 n.id,.int .i64 n.par,.int .i64 0,.int .i64 0,.string k,.int .i64 nn] 37))).trans (KeepsL.of_below hz))
  have HMZ:=hide (obj_step (heap_alloc_new y (.cells #[.int .i64 0,.int .i64 n.id,.int .i64 n.par,.int .i64 0,.int .i64 0,.string k,.int .i64 nn] 37)) hz)
  have hmb:w.heap.size≤y.heap.size:=by have:=obj_lt (unhide HR2);omega
  clear hz HK2 HR2
  have HKF:=hide hkf
  clear hkf
  refine wpAny_one 12 rfl (by kernel_rfl) (by rfl) ?_
  go_simp
  refine wpAny_one 13 rfl (by kernel_rfl) (by rfl) ?_
  go_simp
  refine wpAny_done (by kernel_rfl) ?_
  go_simp
  go_wp2_with fail
  refine bodyPost_atN (fun W' hW'=>?_)
  subst hW'
  have hkf:=unhide HKF
  have HAT:=hide (fun W'' (ho:Aft w W' W'')=>(((unhide HNO5).kc (k:=9) (KC.keeps hkf (fun x hx=>by have:x=w.heap.size+2:=(by simpa using hx);rw [this];exact unhide HC2)) (by omega)).kc (k:=9) (ho.kc (fun x hx=>unhide HC9 x (by omega))) (by omega)).rm)
  have HMT:=hide (fun W'' (ho:Aft w W' W'')=>ack_at (c:=c) (w:=w) (unhide HMZ) (ho.out0 (unhide HC9)) hmb)
  have HBF:Hid (Below w.heap.size w W'):=(unhide HBX).trans (hkf.below (fun x hx=>by have:x=w.heap.size+2:=(by simpa using hx);omega) (unhide HBX).size)
  obtain⟨x0,x1,x2,x3,x4,x5,x6,x7,x8⟩:=nine (unhide HRZ)
  clear hkf
  exact bodyPost_ret (v:= .tuple #[.agg #[.int .i64 n.id,.int .i64 n.par,.slice A1.k n.kids.length A1.ck,.int .i64 n.next,.slice A1.p n.pu.length A1.cp,.slice A1.o n.out.length A1.co,.slice A1.s n.seen.length A1.cs,.int .i64 n.old,.slice A1.r n.reqs.length A1.cr],.slice (some ⟨y.heap.size,0,none⟩) 1 1,.int .i64 0]) (by simp[results,Tryz.results29,go_sem,x0,x1,x2,x3,x4,x5,x6,x7,x8]) rfl ⟨A1,some ⟨y.heap.size,0,none⟩,1,rfl,unhide HAT,unhide HMT,unhide HBF⟩
theorem opOk_K {o:Op5} (h:opOk o=true):o.K=0∨o.K=1∨o.K=2∨o.K=3∨o.K=4∨o.K=5∨o.K=6:=by
 unfold opOk at h
 by_cases h0:o.K=0∨o.K=3∨o.K=4
 ·omega
 rw [if_neg h0] at h
 by_cases h1:o.K=1
 ·omega
 rw [if_neg h1] at h
 by_cases h2:o.K=2
 ·omega
 rw [if_neg h2] at h
 by_cases h5:o.K=5
 ·omega
 rw [if_neg h5] at h
 by_cases h6:o.K=6
 ·omega
 rw [if_neg h6] at h
 exact absurd h (by simp)
theorem specNodeDo (n:Nd) (A:Ads) (K no:Int) (k:ByteArray) (nn mK mF mT mI mL:Int) (mk:ByteArray) (mN:Int) (w:World) (hz:NdSz n 1048576) (hk:k.size≤1048576) (hmk:mk.size≤1048576) (ha:NodeAt w A n):
 Calls Tryz.prog 29 #[ndv n A,.agg #[.int .i64 K,.int .i64 no,.string k,.int .i64 nn,.int .i64 mK,.int .i64 mF,.int .i64 mT,.int .i64 mI,.int .i64 mL,.string mk,.int .i64 mN]] w (GivesE w (doN n ⟨K,no,k,nn,⟨mK,mF,mT,mI,mL,mk,mN⟩⟩)):=by
 cases hok:ndOk n
 ·rw [doN_bad hok]
  exact specDo_badn n A K no k nn mK mF mT mI mL mk mN w hz hok ha
 rw [doN_ok hok]
 cases hop:opOk ⟨K,no,k,nn,⟨mK,mF,mT,mI,mL,mk,mN⟩⟩
 ·rw [show wdoN n ⟨K,no,k,nn,⟨mK,mF,mT,mI,mL,mk,mN⟩⟩=(n,[],3) from if_neg (by rw [hop];simp)]
  exact specDo_bado n A K no k nn mK mF mT mI mL mk mN w hz hk hmk hok hop ha
 by_cases h6:K=6
 ·have e:wdoN n ⟨K,no,k,nn,⟨mK,mF,mT,mI,mL,mk,mN⟩⟩=hearG n ⟨mK,mF,mT,mI,mL,mk,mN⟩:=by
   unfold wdoN hearG addrB actN
   rw [hop,h6]
   dsimp only
   by_cases hc:mT=n.id∧nearB n mF=true
   ·rw [if_pos hc,if_pos (by rw [hc.2,decide_eq_true hc.1];rfl),if_neg (by omega),if_neg (by omega),if_neg (by omega),if_neg (by omega),if_neg (by omega),if_neg (by omega)]
   ·rw [if_neg hc,if_neg (by simp only[decide_true,Bool.not_true,Bool.false_or,Bool.true_and,Bool.and_eq_true,decide_eq_true_eq];exact hc)]
  rw [e]
  exact specDo_hear n A K no k nn mK mF mT mI mL mk mN w hz hk hmk hok hop h6 ha
 rw [show wdoN n ⟨K,no,k,nn,⟨mK,mF,mT,mI,mL,mk,mN⟩⟩=actN n ⟨K,no,k,nn,⟨mK,mF,mT,mI,mL,mk,mN⟩⟩ from if_pos (by rw [hop];unfold addrB;rw [decide_eq_false h6];rfl)]
 have hK:=opOk_K hop
 dsimp only at hK
 by_cases h0:K=0
 ·rw [show actN n ⟨K,no,k,nn,⟨mK,mF,mT,mI,mL,mk,mN⟩⟩=_ from if_pos h0]
  dsimp only
  cases hu:addP n.pu k 1 1 0 nn with
  |mk RL ok=>
   by_cases hp:n.par= -1
   ·cases ok
    ·rw [if_neg (fun h=>absurd h.2 (by simp))]
     exact specDo_mintno n A K no k nn mK mF mT mI mL mk mN w hz hk hmk hok hop h0 RL hu hp ha
    ·rw [if_pos ⟨hp,rfl⟩]
     exact specDo_mintyes n A K no k nn mK mF mT mI mL mk mN w hz hk hmk hok hop h0 RL hu hp ha
   ·rw [if_neg (fun h=>hp h.1)]
    exact specDo_mintup n A K no k nn mK mF mT mI mL mk mN w hz hk hmk hok hop h0 RL ok hu hp ha
 by_cases h1:K=1
 ·rw [show actN n ⟨K,no,k,nn,⟨mK,mF,mT,mI,mL,mk,mN⟩⟩=_ from(if_neg h0).trans (if_pos h1)]
  exact specDo_admit n A K no k nn mK mF mT mI mL mk mN w hz hk hmk hok hop h1 ha
 by_cases h2:K=2
 ·rw [show actN n ⟨K,no,k,nn,⟨mK,mF,mT,mI,mL,mk,mN⟩⟩=_ from(if_neg h0).trans ((if_neg h1).trans (if_pos h2))]
  exact specDo_rel n A K no k nn mK mF mT mI mL mk mN w hz hk hmk hok hop h2 ha
 by_cases h3:K=3
 ·rw [show actN n ⟨K,no,k,nn,⟨mK,mF,mT,mI,mL,mk,mN⟩⟩=_ from(if_neg h0).trans ((if_neg h1).trans ((if_neg h2).trans (if_pos h3)))]
  by_cases hp:n.par= -1
  ·rw [if_pos hp]
   exact specDo_ref3 n A K no k nn mK mF mT mI mL mk mN w hz hk hmk hok hop h3 hp ha
  ·rw [if_neg hp]
   exact specDo_want n A K no k nn mK mF mT mI mL mk mN w hz hk hmk hok hop h3 hp ha
 by_cases h4:K=4
 ·rw [show actN n ⟨K,no,k,nn,⟨mK,mF,mT,mI,mL,mk,mN⟩⟩=_ from(if_neg h0).trans ((if_neg h1).trans ((if_neg h2).trans ((if_neg h3).trans (if_pos h4))))]
  by_cases hp:n.par= -1
  ·rw [if_pos hp]
   exact specDo_ref4 n A K no k nn mK mF mT mI mL mk mN w hz hk hmk hok hop h4 hp ha
  ·rw [if_neg hp]
   exact specDo_back n A K no k nn mK mF mT mI mL mk mN w hz hk hmk hok hop h4 hp ha
 have h5:K=5:=by omega
 rw [show actN n ⟨K,no,k,nn,⟨mK,mF,mT,mI,mL,mk,mN⟩⟩=_ from(if_neg h0).trans ((if_neg h1).trans ((if_neg h2).trans ((if_neg h3).trans ((if_neg h4).trans (if_pos h5)))))]
 exact specDo_tick n A K no k nn mK mF mT mI mL mk mN w hz hk hmk hok hop h5 ha
theorem keyOk_sz {s:ByteArray} (hs:keyOk s.data.toList=true):s.size≤1048576:=by
 rcases Classical.em (1≤s.data.toList.length∧s.data.toList.length≤10) with h|h
 ·have e:s.size=s.data.toList.length:=by rw [Array.length_toList];rfl
  omega
 ·rw [keyOk_len _ h] at hs
  cases hs
theorem ndOk_sz {n:Nd} (hok:ndOk n=true):NdSz n 1048576:=by
 obtain⟨h1,h2,h3,h4,h5,h6⟩:=ndOk_parts hok
 have hq:=reqs_asc h6
 have ho:=outs_asc h5
 have hn:=nbrs_length h1
 have hpl:=h1
 unfold placeB at hpl
 simp only[Bool.and_eq_true,decide_eq_true_eq] at hpl
 have htl:=h3
 unfold toldB at htl
 rw [Bool.and_eq_true,decide_eq_true_eq] at htl
 have hps:=(psOk_iff n.pu).1 h2
 refine⟨by omega,by omega,by omega,by split at htl<;>omega,by omega,fun x hx=>?_,fun x hx=>?_,fun x hx=>?_,fun x hx=>?_⟩
 ·have:=hps.1 x hx
  unfold puOk at this
  simp only[Bool.and_eq_true] at this
  exact keyOk_sz (by first|exact this.1|exact this.1.1|exact this.1.1.1|exact this.1.1.1.1)
 ·have:=ho.2.2 x hx
  unfold outB at this
  simp only[Bool.and_eq_true] at this
  exact keyOk_sz this.1.2
 ·have:=seen_mem hok x hx
  unfold snB at this
  simp only[Bool.and_eq_true,decide_eq_true_eq] at this
  omega
 ·exact keyOk_sz (reqB_parts (hq.2.2.1 x hx)).2.2.1
theorem do_sz {n:Nd} {o:Op5} (hz:NdSz n 1048576):NdSz (doN n o).1 1048576:=by
 cases hok:ndOk n
 ·rw [doN_bad hok];exact hz
 ·exact ndOk_sz (ndOk_do hok)
end Go.Proofs.YtdlokncalhopoaaGreat
