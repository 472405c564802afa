/- Parts. -/
import Derived.Test.YtdlokncalhopoaaGreatPy38
import Derived.Test.YtdlokncalhopoaaGreatPy8
namespace Go.Proofs.YtdlokncalhopoaaGreat
set_option maxHeartbeats 8000000
set_option maxRecDepth 100000
open Go.RowKit
open Mth
theorem specDo_tick (n:Nd) (A:Ads) (K no:Int) (k:ByteArray) (nn mK mF mT mI mL:Int) (mk:ByteArray) (mN:Int) (w:World) (hz:NdSz n 1048576) (hk:k.size≤1048576) (hmk:mk.size≤1048576) (hok:ndOk n=true) (hop:opOk ⟨K,no,k,nn,⟨mK,mF,mT,mI,mL,mk,mN⟩⟩=true) (hK:K=5) (ha:NodeAt w A n):Calls Tryz.prog 29 #[ndv n A,.agg #[.int .i64 K,.int .i64 no,.string k,.int .i64 nn,.int .i64 mK,.int .i64 mF,.int .i64 mT,.int .i64 mI,.int .i64 mL,.string mk,.int .i64 mN]] w (GivesE w (n,n.out.map (payM n),0)):=by
 subst hK
 unfold GivesE
 have HOK:=hide (fun W (h:Below w.heap.size w W)=>specNodeOk n A W (hz.mono (by omega)) (ha.below h))
 rw [hok] at HOK
 have HCL:=hide (fun W A1 (hN:NodeAt W A1 n)=>specPays n A1 W (hz.mono (by omega)) hN)
 rw [show paysL n=n.out.map (payM n) from if_pos hok] at HCL
 unfold GivesM at HCL
 dsimp only at HCL ⊢
 generalize n.out.map (payM n)=L1 at *
 have HOP:=hide (fun W=>specOpOk ⟨5,no,k,nn,⟨mK,mF,mT,mI,mL,mk,mN⟩⟩ W (by unfold maxLen;dsimp only;omega) (by unfold maxLen;dsimp only;omega))
 rw [hop] at HOP
 unfold opw at HOP
 clear hop
 have HCP:=hide (fun W (h:Below w.heap.size w W)=>specCopyNode n A W hz (ha.below h))
 clear hz ha hok
 go_enter Tryz.func29,Tryz.ntmps29
 go_upto_region 2 with fail
 refine wp_at (fun W1 hW=>?_)
 obtain⟨e1,e2,e3,e4⟩:=allocs3E w (.cells (ndc n A) 30) (.cells #[.int .i64 5,.int .i64 no,.string k,.int .i64 nn,.int .i64 mK,.int .i64 mF,.int .i64 mT,.int .i64 mI,.int .i64 mL,.string mk,.int .i64 mN] 48) (.cells zc9 30)
 have hsz:(((w.alloc (.cells (ndc n A) 30)).alloc (.cells #[.int .i64 5,.int .i64 no,.string k,.int .i64 nn,.int .i64 mK,.int .i64 mF,.int .i64 mT,.int .i64 mI,.int .i64 mL,.string mk,.int .i64 mN] 48)).alloc (.cells zc9 30)).heap.size=w.heap.size+3:=by simp
 generalize hW0:((w.alloc (.cells (ndc n A) 30)).alloc (.cells #[.int .i64 5,.int .i64 no,.string k,.int .i64 nn,.int .i64 mK,.int .i64 mF,.int .i64 mT,.int .i64 mI,.int .i64 mL,.string mk,.int .i64 mN] 48)).alloc (.cells zc9 30)=W0 at *
 have hb:=below_one W0 (.cells #[] 37)
 have hW1:W1=W0.alloc (.cells #[] 37):=by rw [hW,←hW0]
 rw [←hW1] at hb
 have HN:=hide (obj_step e1 hb)
 have HO:=hide (obj_step e2 hb)
 have HR:=hide (obj_step e3 hb)
 have HB1:=hide (e4.trans (hb.mono e4.size))
 clear hW hW0 hW1 e1 e2 e3 e4 hb
 obtain⟨c0,c1,c2,c3,c4,c5,c6,c7,c8⟩:=nine (unhide HN)
 obtain⟨⟨p0,p1,p2,p3,p4,p5,p6,p7,p8,p9,p10⟩,_⟩:=eleven_at (unhide HO)
 have hnl:=obj_lt (unhide HN)
 have hol:=obj_lt (unhide HO)
 go_wp2_with fail
 refine(unhide HOK W1 (unhide HB1)).mono ?_
 rintro e W2 ⟨rfl,hb2⟩
 have HN_2:=hide (obj_step (unhide HN) hb2)
 have HO_2:=hide (obj_step (unhide HO) hb2)
 have HR_2:=hide (obj_step (unhide HR) hb2)
 have HB2:=hide ((unhide HB1).trans (hb2.mono (unhide HB1).size))
 clear hb2 c0 c1 c2 c3 c4 c5 c6 c7 c8 p0 p1 p2 p3 p4 p5 p6 p7 p8 p9 p10 hnl hol HOK HN HO HR HB1
 obtain⟨⟨p0,p1,p2,p3,p4,p5,p6,p7,p8,p9,p10⟩,_⟩:=eleven_at (unhide HO_2)
 have hol:=obj_lt (unhide HO_2)
 go_wp2_with fail
 refine(unhide HOP W2).mono ?_
 rintro e W4 ⟨rfl,hb4⟩
 have HN_5:=hide (obj_step (unhide HN_2) hb4)
 have HO_5:=hide (obj_step (unhide HO_2) hb4)
 have HR_5:=hide (obj_step (unhide HR_2) hb4)
 have HB5:=hide ((unhide HB2).trans (hb4.mono (unhide HB2).size))
 clear hb4 p0 p1 p2 p3 p4 p5 p6 p7 p8 p9 p10 hol HOP HN_2 HO_2 HR_2 HB2
 obtain⟨c0,c1,c2,c3,c4,c5,c6,c7,c8⟩:=nine (unhide HN_5)
 have hnl:=obj_lt (unhide HN_5)
 go_wp2_with fail
 refine(unhide HCP W4 (unhide HB5)).mono ?_
 rintro e W3 ⟨A1,G1,cc,rfl,hNO,hb3,hP1,hP2,hR1,hR2⟩
 have HR_3:=hide (obj_step (unhide HR_5) hb3)
 have HN_3:=hide (obj_step (unhide HN_5) hb3)
 have HO_3:=hide (obj_step (unhide HO_5) hb3)
 have HB3:=hide ((unhide HB5).trans (hb3.mono (unhide HB5).size))
 have HPR:=hide (And.intro (And.intro hP1 hP2) (And.intro hR1 hR2))
 have HNO:=hide (hNO.flat (b:=0) (Nat.zero_le _))
 have HC9:=hide (fun x (hx:x < w.heap.size+3)=>flatC_own (b:=0) (Nat.zero_le _) (hNO.lo x (by have:=obj_lt (unhide HR_5);omega)))
 have hrs:=obj_lt (unhide HR_5)
 have H9:=hide (flatC_h9 0 cc)
 generalize flatC 0 cc=c at *
 have HC2:=hide (unhide HC9 (w.heap.size+2) (by omega))
 have HC0:=hide (unhide HC9 w.heap.size (by omega))
 clear hb3 hNO hP1 hP2 hR1 hR2 c0 c1 c2 c3 c4 c5 c6 c7 c8 hnl HCP HN_5 HO_5 HR_5
 obtain⟨d0,d1,d2,d3,d4,d5,d6,d7,d8⟩:=nine (unhide HN_3)
 have f0:=obj_free (unhide HN_3) 0
 have f1:=obj_free (unhide HN_3) 1
 have f2:=obj_free (unhide HN_3) 2
 have f3:=obj_free (unhide HN_3) 3
 have f4:=obj_free (unhide HN_3) 4
 have f5:=obj_free (unhide HN_3) 5
 have f6:=obj_free (unhide HN_3) 6
 have f7:=obj_free (unhide HN_3) 7
 have f8:=obj_free (unhide HN_3) 8
 obtain⟨⟨p0,p1,p2,p3,p4,p5,p6,p7,p8,p9,p10⟩,_⟩:=eleven_at (unhide HO_3)
 have hnl:=obj_lt (unhide HN_3)
 have hol:=obj_lt (unhide HO_3)
 go_upto_region 5 with fail
 refine wp_at (fun X hX=>?_)
 have e5:X.heap[w.heap.size]?=some (.cells #[.int .i64 n.id,.int .i64 n.par,.slice A1.k n.kids.length A1.ck,.int .i64 n.next,.slice A1.p n.pu.length A1.cp,.slice A1.o n.out.length A1.co,.slice A1.s n.seen.length A1.cs,.int .i64 n.old,.slice A1.r n.reqs.length A1.cr] 30 (0,0)):=by
  rw [hX]
  exact GR.setW_blk [.int .i64 n.id,.int .i64 n.par,.slice A1.k n.kids.length A1.ck,.int .i64 n.next,.slice A1.p n.pu.length A1.cp,.slice A1.o n.out.length A1.co,.slice A1.s n.seen.length A1.cs,.int .i64 n.old,.slice A1.r n.reqs.length A1.cr] (o:=0) (xs:=[.int .i64 n.id,.int .i64 n.par,.slice A.k n.kids.length A.ck,.int .i64 n.next,.slice A.p n.pu.length A.cp,.slice A.o n.out.length A.co,.slice A.s n.seen.length A.cs,.int .i64 n.old,.slice A.r n.reqs.length A.cr]) (unhide HN_3)
 have hkx:KeepsL [w.heap.size] W3 X:=by
  rw [hX]
  exact setW_keeps [.int .i64 n.id,.int .i64 n.par,.slice A1.k n.kids.length A1.ck,.int .i64 n.next,.slice A1.p n.pu.length A1.cp,.slice A1.o n.out.length A1.co,.slice A1.s n.seen.length A1.cs,.int .i64 n.old,.slice A1.r n.reqs.length A1.cr] W3 0
 have HNX:=hide e5
 have HOX:=hide ((hkx.block _ (obj_lt (unhide HO_3)) (by simp)).trans (unhide HO_3))
 have HRX:=hide ((hkx.block _ (obj_lt (unhide HR_3)) (by simp)).trans (unhide HR_3))
 have HBX:=hide ((unhide HB3).trans (hkx.below (B:=w.heap.size) (fun x hx=>by have:x=w.heap.size:=(by simpa using hx);omega) (unhide HB3).size))
 have HNO5:=hide ((unhide HNO).kc (k:=9) (KC.keeps hkx (fun x hx=>by have:x=w.heap.size:=(by simpa using hx);rw [this];exact unhide HC0)) (by omega))
 clear e5 hkx hX d0 d1 d2 d3 d4 d5 d6 d7 d8 f0 f1 f2 f3 f4 f5 f6 f7 f8 p0 p1 p2 p3 p4 p5 p6 p7 p8 p9 p10 hnl hol HN_3 HO_3 HR_3 HB3 HNO HB5
 obtain⟨c0,c1,c2,c3,c4,c5,c6,c7,c8⟩:=nine (unhide HNX)
 obtain⟨⟨p0,p1,p2,p3,p4,p5,p6,p7,p8,p9,p10⟩,_⟩:=eleven_at (unhide HOX)
 have hnl:=obj_lt (unhide HNX)
 have hol:=obj_lt (unhide HOX)
 go_upto_region 19 with fail
 have y0:=cell_regrown c0
 have y1:=cell_regrown c1
 have y2:=cell_regrown c2
 have y3:=cell_regrown c3
 have y4:=cell_regrown c4
 have y5:=cell_regrown c5
 have y6:=cell_regrown c6
 have y7:=cell_regrown c7
 have y8:=cell_regrown c8
 clear c0 c1 c2 c3 c4 c5 c6 c7 c8
 refine wp_region_mixE 3 (by kernel_rfl) ?_
 show wpMixE _ _ _ _ _ 6 (Array.replicate 6 false) _ _
 refine wpMixE_take 0 20 rfl (by kernel_rfl) (by kernel_rfl) (by kernel_rfl) (by kernel_rfl) (by kernel_rfl) (fun _ _ _ _ h=>h) (fun K hK=>?_)
 go_simp
 first
  |(refine hK _ ?_;clear hK K)
  |(apply Exists.intro
    refine⟨fun _=>?_,hK _ ?_⟩
    (fail)
    clear hK K)
 refine wpMixE_take 1 20 rfl (by kernel_rfl) (by kernel_rfl) (by kernel_rfl) (by kernel_rfl) (by kernel_rfl) (fun _ _ _ _ h=>h) (fun K hK=>?_)
 go_simp
 first
  |(refine hK _ ?_;clear hK K)
  |(apply Exists.intro
    refine⟨fun _=>?_,hK _ ?_⟩
    (fail)
    clear hK K)
 clear y0 y1 y2 y3 y4 y5 y6 y7 y8
 refine wpMixE_one 2 rfl (by kernel_rfl) (by rfl) (fun x hx=>?_)
 go_simp
 refine(unhide HCL x A1 ((unhide HNO5).at.below hx)).mono ?_
 rintro e y ⟨ma,mc,rfl,g,hmw,hml,hby⟩
 refine⟨hby,?_⟩
 have HY:=hide (Ge.trans hx hby)
 have hxs:=hx.size
 clear hx hby HCL HNX HOX p0 p1 p2 p3 p4 p5 p6 p7 p8 p9 p10 hnl hol
 refine wpMixE_leave (by kernel_rfl) (fun z hz=>?_)
 have HZ:=hide (Ge.trans (unhide HY) hz)
 have HRZ:=hide (obj_step (unhide HRX) (unhide HZ))
 have HBZ:=hide ((unhide HBX).trans ((unhide HZ).mono (unhide HBX).size))
 have HNZ:=hide ((unhide HNO5).kc (k:=9) (KC.of_below (unhide HZ)) (by omega))
 have hcol:∀x'∈fp g L1,(fun q=>if q≤w.heap.size+2 then 9 else 0) x'=0:=fun x' hx'=>if_neg (by have:=(hml x' hx').1;have:=obj_lt (unhide HRX);omega)
 have HMW:=hide ((KC.of_below (c:=fun q=>if q≤w.heap.size+2 then 9 else 0) (k:=9) hz).w hmw hcol (by omega))
 have HCOL:=hide hcol
 clear hz hcol hmw hml HY HZ HNO5 HBX HRX
 obtain⟨d0,d1,d2,d3,d4,d5,d6,d7,d8⟩:=nine (unhide HRZ)
 have f0:=obj_free (unhide HRZ) 0
 have f1:=obj_free (unhide HRZ) 1
 have f2:=obj_free (unhide HRZ) 2
 have f3:=obj_free (unhide HRZ) 3
 have f4:=obj_free (unhide HRZ) 4
 have f5:=obj_free (unhide HRZ) 5
 have f6:=obj_free (unhide HRZ) 6
 have f7:=obj_free (unhide HRZ) 7
 have f8:=obj_free (unhide HRZ) 8
 have hrl:=obj_lt (unhide HRZ)
 refine wpAny_one 3 rfl (by kernel_rfl) (by rfl) ?_
 go_simp
 refine wpAny_one 4 rfl (by kernel_rfl) (by rfl) ?_
 go_simp
 refine wpAny_one 5 rfl (by kernel_rfl) (by rfl) ?_
 go_simp
 refine wpAny_done (by kernel_rfl) ?_
 go_simp
 clear d0 d1 d2 d3 d4 d5 d6 d7 d8 f0 f1 f2 f3 f4 f5 f6 f7 f8 hrl
 go_wp2_with fail
 refine bodyPost_atN (fun W' hW'=>?_)
 have e4:W'.heap[w.heap.size+2]?=some (.cells #[.int .i64 n.id,.int .i64 n.par,.slice A1.k n.kids.length A1.ck,.int .i64 n.next,.slice A1.p n.pu.length A1.cp,.slice A1.o n.out.length A1.co,.slice A1.s n.seen.length A1.cs,.int .i64 n.old,.slice A1.r n.reqs.length A1.cr] 30 (0,0)):=by
  rw [hW']
  exact GR.setW_blk [.int .i64 n.id,.int .i64 n.par,.slice A1.k n.kids.length A1.ck,.int .i64 n.next,.slice A1.p n.pu.length A1.cp,.slice A1.o n.out.length A1.co,.slice A1.s n.seen.length A1.cs,.int .i64 n.old,.slice A1.r n.reqs.length A1.cr] (o:=0) (xs:=[.int .i64 0,.int .i64 0,.slice none 0 0,.int .i64 0,.slice none 0 0,.slice none 0 0,.slice none 0 0,.int .i64 0,.slice none 0 0]) (unhide HRZ)
 have hkf:KeepsL [w.heap.size+2] z W':=by
  rw [hW']
  exact setW_keeps [.int .i64 n.id,.int .i64 n.par,.slice A1.k n.kids.length A1.ck,.int .i64 n.next,.slice A1.p n.pu.length A1.cp,.slice A1.o n.out.length A1.co,.slice A1.s n.seen.length A1.cs,.int .i64 n.old,.slice A1.r n.reqs.length A1.cr] z 0
 have HMT:=hide ((KC.keeps (c:=fun q=>if q≤w.heap.size+2 then 9 else 0) (k:=9) hkf (fun x hx=>if_pos (by have:x=w.heap.size+2:=(by simpa using hx);omega))).w (unhide HMW) (unhide HCOL) (by omega))
 have HAT:=hide (fun W'' (ho:Aft w W' W'')=>(((unhide HNZ).kc (k:=9) (KC.keeps hkf (fun x hx=>by have:x=w.heap.size+2:=(by simpa using hx);rw [this];exact unhide HC2)) (by omega)).kc (k:=9) (ho.kc (fun x hx=>unhide HC9 x (by omega))) (by omega)).rm)
 have HBF:Hid (Below w.heap.size w W'):=(unhide HBZ).trans (hkf.below (fun x hx=>by have:x=w.heap.size+2:=(by simpa using hx);omega) (unhide HBZ).size)
 obtain⟨x0,x1,x2,x3,x4,x5,x6,x7,x8⟩:=nine e4
 clear hW' e4 hkf
 exact bodyPost_ret (v:= .tuple #[.agg #[.int .i64 n.id,.int .i64 n.par,.slice A1.k n.kids.length A1.ck,.int .i64 n.next,.slice A1.p n.pu.length A1.cp,.slice A1.o n.out.length A1.co,.slice A1.s n.seen.length A1.cs,.int .i64 n.old,.slice A1.r n.reqs.length A1.cr],.slice ma L1.length mc,.int .i64 0]) (by simp[results,Tryz.results29,go_sem,x0,x1,x2,x3,x4,x5,x6,x7,x8]) rfl ⟨A1,ma,⟨mc,rfl⟩,unhide HAT,fun W'' ho=>((ho.kc (c:=fun q=>if q≤w.heap.size+2 then 9 else 0) (k:=9) (fun x hx=>if_pos (by omega))).w (unhide HMT) (unhide HCOL) (by omega)).at,unhide HBF⟩
end Go.Proofs.YtdlokncalhopoaaGreat
