/- Parts. -/
import Derived.Test.YtdlokncalhopoaaGreatPy38
import Derived.Test.YtdlokncalhopoaaGreatPy33
namespace Go.Proofs.YtdlokncalhopoaaGreat
set_option maxHeartbeats 8000000
set_option maxRecDepth 100000
open Go.RowKit
open Mth
theorem specDo_admit (n:Nd) (A:Ads) (K no:Int) (k:ByteArray) (nn mK mF mT mI mL:Int) (mk:ByteArray) (mN:Int) (w:World) (hz:NdSz n 1048576) (hk:k.size≤1048576) (hmk:mk.size≤1048576) (hok:ndOk n=true) (hop:opOk ⟨K,no,k,nn,⟨mK,mF,mT,mI,mL,mk,mN⟩⟩=true) (hK:K=1) (ha:NodeAt w A n):Calls Tryz.prog 29 #[ndv n A,.agg #[.int .i64 K,.int .i64 no,.string k,.int .i64 nn,.int .i64 mK,.int .i64 mF,.int .i64 mT,.int .i64 mI,.int .i64 mL,.string mk,.int .i64 mN]] w (GivesE w ((admitN n no k nn).1,[],(admitN n no k nn).2)):=by
 subst hK
 unfold GivesE
 have HOK:=hide (fun W (h:Below w.heap.size w W)=>specNodeOk n A W (hz.mono (by omega)) (ha.below h))
 rw [hok] at HOK
 have HCL:=hide (fun W A1 G1 c (hB:0≤W.heap.size) (h9:∀x,6 < c x→c x=9) (hp:((∃g,A1.p=some ⟨g,0,none⟩)∧n.pu.length≤A1.cp)∧(∃g,A1.r=some ⟨g,0,none⟩)∧n.reqs.length≤A1.cr) (hN:NQ W 0 n A1 G1 c)=>specAdmit n A1 G1 c 1 no k nn mK mF mT mI mL mk mN W 0 hB h9 hz hk hp.1.1 hp.1.2 hp.2.1 hp.2.2 (ndOk_parts hok).2.2.2.2.2 hN)
 unfold GivesR at HCL
 generalize admitN n no k nn=GV at *
 obtain⟨N1,code1⟩:=GV
 dsimp only at HCL ⊢
 have HOP:=hide (fun W=>specOpOk ⟨1,no,k,nn,⟨mK,mF,mT,mI,mL,mk,mN⟩⟩ W (by unfold maxLen;dsimp only;omega) (by unfold maxLen;dsimp only;omega))
 rw [hop] at HOP
 unfold opw at HOP
 clear hop
 have HCP:=hide (fun W (h:Below w.heap.size w W)=>specCopyNode n A W hz (ha.below h))
 clear hz ha hok
 go_enter Tryz.func29,Tryz.ntmps29
 go_upto_region 2 with fail
 refine wp_at (fun W1 hW=>?_)
 obtain⟨e1,e2,e3,e4⟩:=allocs3E w (.cells (ndc n A) 30) (.cells #[.int .i64 1,.int .i64 no,.string k,.int .i64 nn,.int .i64 mK,.int .i64 mF,.int .i64 mT,.int .i64 mI,.int .i64 mL,.string mk,.int .i64 mN] 48) (.cells zc9 30)
 have hsz:(((w.alloc (.cells (ndc n A) 30)).alloc (.cells #[.int .i64 1,.int .i64 no,.string k,.int .i64 nn,.int .i64 mK,.int .i64 mF,.int .i64 mT,.int .i64 mI,.int .i64 mL,.string mk,.int .i64 mN] 48)).alloc (.cells zc9 30)).heap.size=w.heap.size+3:=by simp
 generalize hW0:((w.alloc (.cells (ndc n A) 30)).alloc (.cells #[.int .i64 1,.int .i64 no,.string k,.int .i64 nn,.int .i64 mK,.int .i64 mF,.int .i64 mT,.int .i64 mI,.int .i64 mL,.string mk,.int .i64 mN] 48)).alloc (.cells zc9 30)=W0 at *
 have hb:=below_one W0 (.cells #[] 37)
 have hW1:W1=W0.alloc (.cells #[] 37):=by rw [hW,←hW0]
 rw [←hW1] at hb
 have HN:=hide (obj_step e1 hb)
 have HO:=hide (obj_step e2 hb)
 have HR:=hide (obj_step e3 hb)
 have HB1:=hide (e4.trans (hb.mono e4.size))
 clear hW hW0 hW1 e1 e2 e3 e4 hb
 obtain⟨c0,c1,c2,c3,c4,c5,c6,c7,c8⟩:=nine (unhide HN)
 obtain⟨⟨p0,p1,p2,p3,p4,p5,p6,p7,p8,p9,p10⟩,_⟩:=eleven_at (unhide HO)
 have hnl:=obj_lt (unhide HN)
 have hol:=obj_lt (unhide HO)
 go_wp2_with fail
 refine(unhide HOK W1 (unhide HB1)).mono ?_
 rintro e W2 ⟨rfl,hb2⟩
 have HN_2:=hide (obj_step (unhide HN) hb2)
 have HO_2:=hide (obj_step (unhide HO) hb2)
 have HR_2:=hide (obj_step (unhide HR) hb2)
 have HB2:=hide ((unhide HB1).trans (hb2.mono (unhide HB1).size))
 clear hb2 c0 c1 c2 c3 c4 c5 c6 c7 c8 p0 p1 p2 p3 p4 p5 p6 p7 p8 p9 p10 hnl hol HOK HN HO HR HB1
 obtain⟨⟨p0,p1,p2,p3,p4,p5,p6,p7,p8,p9,p10⟩,_⟩:=eleven_at (unhide HO_2)
 have hol:=obj_lt (unhide HO_2)
 go_wp2_with fail
 refine(unhide HOP W2).mono ?_
 rintro e W4 ⟨rfl,hb4⟩
 have HN_5:=hide (obj_step (unhide HN_2) hb4)
 have HO_5:=hide (obj_step (unhide HO_2) hb4)
 have HR_5:=hide (obj_step (unhide HR_2) hb4)
 have HB5:=hide ((unhide HB2).trans (hb4.mono (unhide HB2).size))
 clear hb4 p0 p1 p2 p3 p4 p5 p6 p7 p8 p9 p10 hol HOP HN_2 HO_2 HR_2 HB2
 obtain⟨c0,c1,c2,c3,c4,c5,c6,c7,c8⟩:=nine (unhide HN_5)
 have hnl:=obj_lt (unhide HN_5)
 go_wp2_with fail
 refine(unhide HCP W4 (unhide HB5)).mono ?_
 rintro e W3 ⟨A1,G1,cc,rfl,hNO,hb3,hP1,hP2,hR1,hR2⟩
 have HR_3:=hide (obj_step (unhide HR_5) hb3)
 have HN_3:=hide (obj_step (unhide HN_5) hb3)
 have HO_3:=hide (obj_step (unhide HO_5) hb3)
 have HB3:=hide ((unhide HB5).trans (hb3.mono (unhide HB5).size))
 have HPR:=hide (And.intro (And.intro hP1 hP2) (And.intro hR1 hR2))
 have HNO:=hide (hNO.flat (b:=0) (Nat.zero_le _))
 have HC9:=hide (fun x (hx:x < w.heap.size+3)=>flatC_own (b:=0) (Nat.zero_le _) (hNO.lo x (by have:=obj_lt (unhide HR_5);omega)))
 have hrs:=obj_lt (unhide HR_5)
 have H9:=hide (flatC_h9 0 cc)
 generalize flatC 0 cc=c at *
 have HC2:=hide (unhide HC9 (w.heap.size+2) (by omega))
 have HC0:=hide (unhide HC9 w.heap.size (by omega))
 clear hb3 hNO hP1 hP2 hR1 hR2 c0 c1 c2 c3 c4 c5 c6 c7 c8 hnl HCP HN_5 HO_5 HR_5
 obtain⟨d0,d1,d2,d3,d4,d5,d6,d7,d8⟩:=nine (unhide HN_3)
 have f0:=obj_free (unhide HN_3) 0
 have f1:=obj_free (unhide HN_3) 1
 have f2:=obj_free (unhide HN_3) 2
 have f3:=obj_free (unhide HN_3) 3
 have f4:=obj_free (unhide HN_3) 4
 have f5:=obj_free (unhide HN_3) 5
 have f6:=obj_free (unhide HN_3) 6
 have f7:=obj_free (unhide HN_3) 7
 have f8:=obj_free (unhide HN_3) 8
 obtain⟨⟨p0,p1,p2,p3,p4,p5,p6,p7,p8,p9,p10⟩,_⟩:=eleven_at (unhide HO_3)
 have hnl:=obj_lt (unhide HN_3)
 have hol:=obj_lt (unhide HO_3)
 go_upto_region 5 with fail
 refine wp_at (fun X hX=>?_)
 have e5:X.heap[w.heap.size]?=some (.cells #[.int .i64 n.id,.int .i64 n.par,.slice A1.k n.kids.length A1.ck,.int .i64 n.next,.slice A1.p n.pu.length A1.cp,.slice A1.o n.out.length A1.co,.slice A1.s n.seen.length A1.cs,.int .i64 n.old,.slice A1.r n.reqs.length A1.cr] 30 (0,0)):=by
  rw [hX]
  exact GR.setW_blk [.int .i64 n.id,.int .i64 n.par,.slice A1.k n.kids.length A1.ck,.int .i64 n.next,.slice A1.p n.pu.length A1.cp,.slice A1.o n.out.length A1.co,.slice A1.s n.seen.length A1.cs,.int .i64 n.old,.slice A1.r n.reqs.length A1.cr] (o:=0) (xs:=[.int .i64 n.id,.int .i64 n.par,.slice A.k n.kids.length A.ck,.int .i64 n.next,.slice A.p n.pu.length A.cp,.slice A.o n.out.length A.co,.slice A.s n.seen.length A.cs,.int .i64 n.old,.slice A.r n.reqs.length A.cr]) (unhide HN_3)
 have hkx:KeepsL [w.heap.size] W3 X:=by
  rw [hX]
  exact setW_keeps [.int .i64 n.id,.int .i64 n.par,.slice A1.k n.kids.length A1.ck,.int .i64 n.next,.slice A1.p n.pu.length A1.cp,.slice A1.o n.out.length A1.co,.slice A1.s n.seen.length A1.cs,.int .i64 n.old,.slice A1.r n.reqs.length A1.cr] W3 0
 have HNX:=hide e5
 have HOX:=hide ((hkx.block _ (obj_lt (unhide HO_3)) (by simp)).trans (unhide HO_3))
 have HRX:=hide ((hkx.block _ (obj_lt (unhide HR_3)) (by simp)).trans (unhide HR_3))
 have HBX:=hide ((unhide HB3).trans (hkx.below (B:=w.heap.size) (fun x hx=>by have:x=w.heap.size:=(by simpa using hx);omega) (unhide HB3).size))
 have HNO5:=hide ((unhide HNO).kc (k:=9) (KC.keeps hkx (fun x hx=>by have:x=w.heap.size:=(by simpa using hx);rw [this];exact unhide HC0)) (by omega))
 clear e5 hkx hX d0 d1 d2 d3 d4 d5 d6 d7 d8 f0 f1 f2 f3 f4 f5 f6 f7 f8 p0 p1 p2 p3 p4 p5 p6 p7 p8 p9 p10 hnl hol HN_3 HO_3 HR_3 HB3 HNO HB5
 obtain⟨c0,c1,c2,c3,c4,c5,c6,c7,c8⟩:=nine (unhide HNX)
 obtain⟨⟨p0,p1,p2,p3,p4,p5,p6,p7,p8,p9,p10⟩,_⟩:=eleven_at (unhide HOX)
 have hnl:=obj_lt (unhide HNX)
 have hol:=obj_lt (unhide HOX)
 go_wp2_with fail
 refine(unhide HCL X A1 G1 c (Nat.zero_le _) (unhide H9) (unhide HPR) (unhide HNO5)).mono ?_
 rintro e W5 ⟨A2,rfl,hat,hb5,hap⟩
 have HR_6:=hide ((hap _ (obj_lt (unhide HRX)) (by rw [unhide HC2];omega)).trans (unhide HRX))
 have HAT1:=hide hat
 have HB6:=hide (below_apart (unhide HBX) hb5 hap (unhide HC9))
 have hrx:=obj_lt (unhide HRX)
 clear hat hb5 hap c0 c1 c2 c3 c4 c5 c6 c7 c8 p0 p1 p2 p3 p4 p5 p6 p7 p8 p9 p10 hnl hol HCL HNX HOX HRX HNO5 HPR
 have HNA:=hide (heap_alloc_new W5 (.cells #[.int .i64 N1.id,.int .i64 N1.par,.slice A2.k N1.kids.length A2.ck,.int .i64 N1.next,.slice A2.p N1.pu.length A2.cp,.slice A2.o N1.out.length A2.co,.slice A2.s N1.seen.length A2.cs,.int .i64 N1.old,.slice A2.r N1.reqs.length A2.cr] 30))
 have HRA:=hide (obj_step (unhide HR_6) (below_one W5 (.cells #[.int .i64 N1.id,.int .i64 N1.par,.slice A2.k N1.kids.length A2.ck,.int .i64 N1.next,.slice A2.p N1.pu.length A2.cp,.slice A2.o N1.out.length A2.co,.slice A2.s N1.seen.length A2.cs,.int .i64 N1.old,.slice A2.r N1.reqs.length A2.cr] 30)))
 have HBA:=hide ((unhide HB6).trans ((below_one W5 (.cells #[.int .i64 N1.id,.int .i64 N1.par,.slice A2.k N1.kids.length A2.ck,.int .i64 N1.next,.slice A2.p N1.pu.length A2.cp,.slice A2.o N1.out.length A2.co,.slice A2.s N1.seen.length A2.cs,.int .i64 N1.old,.slice A2.r N1.reqs.length A2.cr] 30)).mono (unhide HB6).size))
 obtain⟨c0,c1,c2,c3,c4,c5,c6,c7,c8⟩:=nine (unhide HNA)
 have hnl:=obj_lt (unhide HNA)
 obtain⟨d0,d1,d2,d3,d4,d5,d6,d7,d8⟩:=nine (unhide HRA)
 have f0:=obj_free (unhide HRA) 0
 have f1:=obj_free (unhide HRA) 1
 have f2:=obj_free (unhide HRA) 2
 have f3:=obj_free (unhide HRA) 3
 have f4:=obj_free (unhide HRA) 4
 have f5:=obj_free (unhide HRA) 5
 have f6:=obj_free (unhide HRA) 6
 have f7:=obj_free (unhide HRA) 7
 have f8:=obj_free (unhide HRA) 8
 have hrl:=obj_lt (unhide HRA)
 go_wp2_with fail
 refine bodyPost_atN (fun W' hW'=>?_)
 have e4:W'.heap[w.heap.size+2]?=some (.cells #[.int .i64 N1.id,.int .i64 N1.par,.slice A2.k N1.kids.length A2.ck,.int .i64 N1.next,.slice A2.p N1.pu.length A2.cp,.slice A2.o N1.out.length A2.co,.slice A2.s N1.seen.length A2.cs,.int .i64 N1.old,.slice A2.r N1.reqs.length A2.cr] 30 (0,0)):=by
  rw [hW']
  exact GR.setW_blk [.int .i64 N1.id,.int .i64 N1.par,.slice A2.k N1.kids.length A2.ck,.int .i64 N1.next,.slice A2.p N1.pu.length A2.cp,.slice A2.o N1.out.length A2.co,.slice A2.s N1.seen.length A2.cs,.int .i64 N1.old,.slice A2.r N1.reqs.length A2.cr] (o:=0) (xs:=[.int .i64 0,.int .i64 0,.slice none 0 0,.int .i64 0,.slice none 0 0,.slice none 0 0,.slice none 0 0,.int .i64 0,.slice none 0 0]) (unhide HRA)
 have hkf:KeepsL [w.heap.size+2] (W5.alloc (.cells #[.int .i64 N1.id,.int .i64 N1.par,.slice A2.k N1.kids.length A2.ck,.int .i64 N1.next,.slice A2.p N1.pu.length A2.cp,.slice A2.o N1.out.length A2.co,.slice A2.s N1.seen.length A2.cs,.int .i64 N1.old,.slice A2.r N1.reqs.length A2.cr] 30)) W':=by
  rw [hW']
  exact setW_keeps [.int .i64 N1.id,.int .i64 N1.par,.slice A2.k N1.kids.length A2.ck,.int .i64 N1.next,.slice A2.p N1.pu.length A2.cp,.slice A2.o N1.out.length A2.co,.slice A2.s N1.seen.length A2.cs,.int .i64 N1.old,.slice A2.r N1.reqs.length A2.cr] (W5.alloc (.cells #[.int .i64 N1.id,.int .i64 N1.par,.slice A2.k N1.kids.length A2.ck,.int .i64 N1.next,.slice A2.p N1.pu.length A2.cp,.slice A2.o N1.out.length A2.co,.slice A2.s N1.seen.length A2.cs,.int .i64 N1.old,.slice A2.r N1.reqs.length A2.cr] 30)) 0
 have HAT:=hide (fun W'' (ho:Aft w W' W'')=>unhide HAT1 W'' (ho.out (c:=c) ((KeepsL.of_below (below_one W5 (.cells #[.int .i64 N1.id,.int .i64 N1.par,.slice A2.k N1.kids.length A2.ck,.int .i64 N1.next,.slice A2.p N1.pu.length A2.cp,.slice A2.o N1.out.length A2.co,.slice A2.s N1.seen.length A2.cs,.int .i64 N1.old,.slice A2.r N1.reqs.length A2.cr] 30))).trans hkf) hrx (unhide HC9)))
 have HBF:Hid (Below w.heap.size w W'):=(unhide HBA).trans (hkf.below (fun x hx=>by have:x=w.heap.size+2:=(by simpa using hx);omega) (unhide HBA).size)
 obtain⟨x0,x1,x2,x3,x4,x5,x6,x7,x8⟩:=nine e4
 clear hW' e4 hkf
 exact bodyPost_ret (v:= .tuple #[.agg #[.int .i64 N1.id,.int .i64 N1.par,.slice A2.k N1.kids.length A2.ck,.int .i64 N1.next,.slice A2.p N1.pu.length A2.cp,.slice A2.o N1.out.length A2.co,.slice A2.s N1.seen.length A2.cs,.int .i64 N1.old,.slice A2.r N1.reqs.length A2.cr],.slice (some ⟨W0.heap.size,0,none⟩) 0 0,.int .i64 code1]) (by simp[results,Tryz.results29,go_sem,x0,x1,x2,x3,x4,x5,x6,x7,x8]) rfl ⟨A2,some ⟨W0.heap.size,0,none⟩,0,rfl,unhide HAT,fun W'' _ i hi=>by simp at hi,unhide HBF⟩
theorem specDo_rel (n:Nd) (A:Ads) (K no:Int) (k:ByteArray) (nn mK mF mT mI mL:Int) (mk:ByteArray) (mN:Int) (w:World) (hz:NdSz n 1048576) (hk:k.size≤1048576) (hmk:mk.size≤1048576) (hok:ndOk n=true) (hop:opOk ⟨K,no,k,nn,⟨mK,mF,mT,mI,mL,mk,mN⟩⟩=true) (hK:K=2) (ha:NodeAt w A n):Calls Tryz.prog 29 #[ndv n A,.agg #[.int .i64 K,.int .i64 no,.string k,.int .i64 nn,.int .i64 mK,.int .i64 mF,.int .i64 mT,.int .i64 mI,.int .i64 mL,.string mk,.int .i64 mN]] w (GivesE w ((releaseN n no).1,[],(releaseN n no).2)):=by
 subst hK
 unfold GivesE
 have HOK:=hide (fun W (h:Below w.heap.size w W)=>specNodeOk n A W (hz.mono (by omega)) (ha.below h))
 rw [hok] at HOK
 have HCL:=hide (fun W A1 G1 c (hB:0≤W.heap.size) (h9:∀x,6 < c x→c x=9) (hp:((∃g,A1.p=some ⟨g,0,none⟩)∧n.pu.length≤A1.cp)∧(∃g,A1.r=some ⟨g,0,none⟩)∧n.reqs.length≤A1.cr) (hN:NQ W 0 n A1 G1 c)=>specRelease n A1 G1 c no W 0 hB h9 hz hp.1.1 hp.1.2 (ndOk_parts hok).2.2.2.2.2 hN)
 unfold GivesR at HCL
 generalize releaseN n no=GV at *
 obtain⟨N1,code1⟩:=GV
 dsimp only at HCL ⊢
 have HOP:=hide (fun W=>specOpOk ⟨2,no,k,nn,⟨mK,mF,mT,mI,mL,mk,mN⟩⟩ W (by unfold maxLen;dsimp only;omega) (by unfold maxLen;dsimp only;omega))
 rw [hop] at HOP
 unfold opw at HOP
 clear hop
 have HCP:=hide (fun W (h:Below w.heap.size w W)=>specCopyNode n A W hz (ha.below h))
 clear hz ha hok
 go_enter Tryz.func29,Tryz.ntmps29
 go_upto_region 2 with fail
 refine wp_at (fun W1 hW=>?_)
 obtain⟨e1,e2,e3,e4⟩:=allocs3E w (.cells (ndc n A) 30) (.cells #[.int .i64 2,.int .i64 no,.string k,.int .i64 nn,.int .i64 mK,.int .i64 mF,.int .i64 mT,.int .i64 mI,.int .i64 mL,.string mk,.int .i64 mN] 48) (.cells zc9 30)
 have hsz:(((w.alloc (.cells (ndc n A) 30)).alloc (.cells #[.int .i64 2,.int .i64 no,.string k,.int .i64 nn,.int .i64 mK,.int .i64 mF,.int .i64 mT,.int .i64 mI,.int .i64 mL,.string mk,.int .i64 mN] 48)).alloc (.cells zc9 30)).heap.size=w.heap.size+3:=by simp
 generalize hW0:((w.alloc (.cells (ndc n A) 30)).alloc (.cells #[.int .i64 2,.int .i64 no,.string k,.int .i64 nn,.int .i64 mK,.int .i64 mF,.int .i64 mT,.int .i64 mI,.int .i64 mL,.string mk,.int .i64 mN] 48)).alloc (.cells zc9 30)=W0 at *
 have hb:=below_one W0 (.cells #[] 37)
 have hW1:W1=W0.alloc (.cells #[] 37):=by rw [hW,←hW0]
 rw [←hW1] at hb
 have HN:=hide (obj_step e1 hb)
 have HO:=hide (obj_step e2 hb)
 have HR:=hide (obj_step e3 hb)
 have HB1:=hide (e4.trans (hb.mono e4.size))
 clear hW hW0 hW1 e1 e2 e3 e4 hb
 obtain⟨c0,c1,c2,c3,c4,c5,c6,c7,c8⟩:=nine (unhide HN)
 obtain⟨⟨p0,p1,p2,p3,p4,p5,p6,p7,p8,p9,p10⟩,_⟩:=eleven_at (unhide HO)
 have hnl:=obj_lt (unhide HN)
 have hol:=obj_lt (unhide HO)
 go_wp2_with fail
 refine(unhide HOK W1 (unhide HB1)).mono ?_
 rintro e W2 ⟨rfl,hb2⟩
 have HN_2:=hide (obj_step (unhide HN) hb2)
 have HO_2:=hide (obj_step (unhide HO) hb2)
 have HR_2:=hide (obj_step (unhide HR) hb2)
 have HB2:=hide ((unhide HB1).trans (hb2.mono (unhide HB1).size))
 clear hb2 c0 c1 c2 c3 c4 c5 c6 c7 c8 p0 p1 p2 p3 p4 p5 p6 p7 p8 p9 p10 hnl hol HOK HN HO HR HB1
 obtain⟨⟨p0,p1,p2,p3,p4,p5,p6,p7,p8,p9,p10⟩,_⟩:=eleven_at (unhide HO_2)
 have hol:=obj_lt (unhide HO_2)
 go_wp2_with fail
 refine(unhide HOP W2).mono ?_
 rintro e W4 ⟨rfl,hb4⟩
 have HN_5:=hide (obj_step (unhide HN_2) hb4)
 have HO_5:=hide (obj_step (unhide HO_2) hb4)
 have HR_5:=hide (obj_step (unhide HR_2) hb4)
 have HB5:=hide ((unhide HB2).trans (hb4.mono (unhide HB2).size))
 clear hb4 p0 p1 p2 p3 p4 p5 p6 p7 p8 p9 p10 hol HOP HN_2 HO_2 HR_2 HB2
 obtain⟨c0,c1,c2,c3,c4,c5,c6,c7,c8⟩:=nine (unhide HN_5)
 have hnl:=obj_lt (unhide HN_5)
 go_wp2_with fail
 refine(unhide HCP W4 (unhide HB5)).mono ?_
 rintro e W3 ⟨A1,G1,cc,rfl,hNO,hb3,hP1,hP2,hR1,hR2⟩
 have HR_3:=hide (obj_step (unhide HR_5) hb3)
 have HN_3:=hide (obj_step (unhide HN_5) hb3)
 have HO_3:=hide (obj_step (unhide HO_5) hb3)
 have HB3:=hide ((unhide HB5).trans (hb3.mono (unhide HB5).size))
 have HPR:=hide (And.intro (And.intro hP1 hP2) (And.intro hR1 hR2))
 have HNO:=hide (hNO.flat (b:=0) (Nat.zero_le _))
 have HC9:=hide (fun x (hx:x < w.heap.size+3)=>flatC_own (b:=0) (Nat.zero_le _) (hNO.lo x (by have:=obj_lt (unhide HR_5);omega)))
 have hrs:=obj_lt (unhide HR_5)
 have H9:=hide (flatC_h9 0 cc)
 generalize flatC 0 cc=c at *
 have HC2:=hide (unhide HC9 (w.heap.size+2) (by omega))
 have HC0:=hide (unhide HC9 w.heap.size (by omega))
 clear hb3 hNO hP1 hP2 hR1 hR2 c0 c1 c2 c3 c4 c5 c6 c7 c8 hnl HCP HN_5 HO_5 HR_5
 obtain⟨d0,d1,d2,d3,d4,d5,d6,d7,d8⟩:=nine (unhide HN_3)
 have f0:=obj_free (unhide HN_3) 0
 have f1:=obj_free (unhide HN_3) 1
 have f2:=obj_free (unhide HN_3) 2
 have f3:=obj_free (unhide HN_3) 3
 have f4:=obj_free (unhide HN_3) 4
 have f5:=obj_free (unhide HN_3) 5
 have f6:=obj_free (unhide HN_3) 6
 have f7:=obj_free (unhide HN_3) 7
 have f8:=obj_free (unhide HN_3) 8
 obtain⟨⟨p0,p1,p2,p3,p4,p5,p6,p7,p8,p9,p10⟩,_⟩:=eleven_at (unhide HO_3)
 have hnl:=obj_lt (unhide HN_3)
 have hol:=obj_lt (unhide HO_3)
 go_upto_region 5 with fail
 refine wp_at (fun X hX=>?_)
 have e5:X.heap[w.heap.size]?=some (.cells #[.int .i64 n.id,.int .i64 n.par,.slice A1.k n.kids.length A1.ck,.int .i64 n.next,.slice A1.p n.pu.length A1.cp,.slice A1.o n.out.length A1.co,.slice A1.s n.seen.length A1.cs,.int .i64 n.old,.slice A1.r n.reqs.length A1.cr] 30 (0,0)):=by
  rw [hX]
  exact GR.setW_blk [.int .i64 n.id,.int .i64 n.par,.slice A1.k n.kids.length A1.ck,.int .i64 n.next,.slice A1.p n.pu.length A1.cp,.slice A1.o n.out.length A1.co,.slice A1.s n.seen.length A1.cs,.int .i64 n.old,.slice A1.r n.reqs.length A1.cr] (o:=0) (xs:=[.int .i64 n.id,.int .i64 n.par,.slice A.k n.kids.length A.ck,.int .i64 n.next,.slice A.p n.pu.length A.cp,.slice A.o n.out.length A.co,.slice A.s n.seen.length A.cs,.int .i64 n.old,.slice A.r n.reqs.length A.cr]) (unhide HN_3)
 have hkx:KeepsL [w.heap.size] W3 X:=by
  rw [hX]
  exact setW_keeps [.int .i64 n.id,.int .i64 n.par,.slice A1.k n.kids.length A1.ck,.int .i64 n.next,.slice A1.p n.pu.length A1.cp,.slice A1.o n.out.length A1.co,.slice A1.s n.seen.length A1.cs,.int .i64 n.old,.slice A1.r n.reqs.length A1.cr] W3 0
 have HNX:=hide e5
 have HOX:=hide ((hkx.block _ (obj_lt (unhide HO_3)) (by simp)).trans (unhide HO_3))
 have HRX:=hide ((hkx.block _ (obj_lt (unhide HR_3)) (by simp)).trans (unhide HR_3))
 have HBX:=hide ((unhide HB3).trans (hkx.below (B:=w.heap.size) (fun x hx=>by have:x=w.heap.size:=(by simpa using hx);omega) (unhide HB3).size))
 have HNO5:=hide ((unhide HNO).kc (k:=9) (KC.keeps hkx (fun x hx=>by have:x=w.heap.size:=(by simpa using hx);rw [this];exact unhide HC0)) (by omega))
 clear e5 hkx hX d0 d1 d2 d3 d4 d5 d6 d7 d8 f0 f1 f2 f3 f4 f5 f6 f7 f8 p0 p1 p2 p3 p4 p5 p6 p7 p8 p9 p10 hnl hol HN_3 HO_3 HR_3 HB3 HNO HB5
 obtain⟨c0,c1,c2,c3,c4,c5,c6,c7,c8⟩:=nine (unhide HNX)
 obtain⟨⟨p0,p1,p2,p3,p4,p5,p6,p7,p8,p9,p10⟩,_⟩:=eleven_at (unhide HOX)
 have hnl:=obj_lt (unhide HNX)
 have hol:=obj_lt (unhide HOX)
 go_wp2_with fail
 refine(unhide HCL X A1 G1 c (Nat.zero_le _) (unhide H9) (unhide HPR) (unhide HNO5)).mono ?_
 rintro e W5 ⟨A2,rfl,hat,hb5,hap⟩
 have HR_6:=hide ((hap _ (obj_lt (unhide HRX)) (by rw [unhide HC2];omega)).trans (unhide HRX))
 have HAT1:=hide hat
 have HB6:=hide (below_apart (unhide HBX) hb5 hap (unhide HC9))
 have hrx:=obj_lt (unhide HRX)
 clear hat hb5 hap c0 c1 c2 c3 c4 c5 c6 c7 c8 p0 p1 p2 p3 p4 p5 p6 p7 p8 p9 p10 hnl hol HCL HNX HOX HRX HNO5 HPR
 have HNA:=hide (heap_alloc_new W5 (.cells #[.int .i64 N1.id,.int .i64 N1.par,.slice A2.k N1.kids.length A2.ck,.int .i64 N1.next,.slice A2.p N1.pu.length A2.cp,.slice A2.o N1.out.length A2.co,.slice A2.s N1.seen.length A2.cs,.int .i64 N1.old,.slice A2.r N1.reqs.length A2.cr] 30))
 have HRA:=hide (obj_step (unhide HR_6) (below_one W5 (.cells #[.int .i64 N1.id,.int .i64 N1.par,.slice A2.k N1.kids.length A2.ck,.int .i64 N1.next,.slice A2.p N1.pu.length A2.cp,.slice A2.o N1.out.length A2.co,.slice A2.s N1.seen.length A2.cs,.int .i64 N1.old,.slice A2.r N1.reqs.length A2.cr] 30)))
 have HBA:=hide ((unhide HB6).trans ((below_one W5 (.cells #[.int .i64 N1.id,.int .i64 N1.par,.slice A2.k N1.kids.length A2.ck,.int .i64 N1.next,.slice A2.p N1.pu.length A2.cp,.slice A2.o N1.out.length A2.co,.slice A2.s N1.seen.length A2.cs,.int .i64 N1.old,.slice A2.r N1.reqs.length A2.cr] 30)).mono (unhide HB6).size))
 obtain⟨c0,c1,c2,c3,c4,c5,c6,c7,c8⟩:=nine (unhide HNA)
 have hnl:=obj_lt (unhide HNA)
 obtain⟨d0,d1,d2,d3,d4,d5,d6,d7,d8⟩:=nine (unhide HRA)
 have f0:=obj_free (unhide HRA) 0
 have f1:=obj_free (unhide HRA) 1
 have f2:=obj_free (unhide HRA) 2
 have f3:=obj_free (unhide HRA) 3
 have f4:=obj_free (unhide HRA) 4
 have f5:=obj_free (unhide HRA) 5
 have f6:=obj_free (unhide HRA) 6
 have f7:=obj_free (unhide HRA) 7
 have f8:=obj_free (unhide HRA) 8
 have hrl:=obj_lt (unhide HRA)
 go_wp2_with fail
 refine bodyPost_atN (fun W' hW'=>?_)
 have e4:W'.heap[w.heap.size+2]?=some (.cells #[.int .i64 N1.id,.int .i64 N1.par,.slice A2.k N1.kids.length A2.ck,.int .i64 N1.next,.slice A2.p N1.pu.length A2.cp,.slice A2.o N1.out.length A2.co,.slice A2.s N1.seen.length A2.cs,.int .i64 N1.old,.slice A2.r N1.reqs.length A2.cr] 30 (0,0)):=by
  rw [hW']
  exact GR.setW_blk [.int .i64 N1.id,.int .i64 N1.par,.slice A2.k N1.kids.length A2.ck,.int .i64 N1.next,.slice A2.p N1.pu.length A2.cp,.slice A2.o N1.out.length A2.co,.slice A2.s N1.seen.length A2.cs,.int .i64 N1.old,.slice A2.r N1.reqs.length A2.cr] (o:=0) (xs:=[.int .i64 0,.int .i64 0,.slice none 0 0,.int .i64 0,.slice none 0 0,.slice none 0 0,.slice none 0 0,.int .i64 0,.slice none 0 0]) (unhide HRA)
 have hkf:KeepsL [w.heap.size+2] (W5.alloc (.cells #[.int .i64 N1.id,.int .i64 N1.par,.slice A2.k N1.kids.length A2.ck,.int .i64 N1.next,.slice A2.p N1.pu.length A2.cp,.slice A2.o N1.out.length A2.co,.slice A2.s N1.seen.length A2.cs,.int .i64 N1.old,.slice A2.r N1.reqs.length A2.cr] 30)) W':=by
  rw [hW']
  exact setW_keeps [.int .i64 N1.id,.int .i64 N1.par,.slice A2.k N1.kids.length A2.ck,.int .i64 N1.next,.slice A2.p N1.pu.length A2.cp,.slice A2.o N1.out.length A2.co,.slice A2.s N1.seen.length A2.cs,.int .i64 N1.old,.slice A2.r N1.reqs.length A2.cr] (W5.alloc (.cells #[.int .i64 N1.id,.int .i64 N1.par,.slice A2.k N1.kids.length A2.ck,.int .i64 N1.next,.slice A2.p N1.pu.length A2.cp,.slice A2.o N1.out.length A2.co,.slice A2.s N1.seen.length A2.cs,.int .i64 N1.old,.slice A2.r N1.reqs.length A2.cr] 30)) 0
 have HAT:=hide (fun W'' (ho:Aft w W' W'')=>unhide HAT1 W'' (ho.out (c:=c) ((KeepsL.of_below (below_one W5 (.cells #[.int .i64 N1.id,.int .i64 N1.par,.slice A2.k N1.kids.length A2.ck,.int .i64 N1.next,.slice A2.p N1.pu.length A2.cp,.slice A2.o N1.out.length A2.co,.slice A2.s N1.seen.length A2.cs,.int .i64 N1.old,.slice A2.r N1.reqs.length A2.cr] 30))).trans hkf) hrx (unhide HC9)))
 have HBF:Hid (Below w.heap.size w W'):=(unhide HBA).trans (hkf.below (fun x hx=>by have:x=w.heap.size+2:=(by simpa using hx);omega) (unhide HBA).size)
 obtain⟨x0,x1,x2,x3,x4,x5,x6,x7,x8⟩:=nine e4
 clear hW' e4 hkf
 exact bodyPost_ret (v:= .tuple #[.agg #[.int .i64 N1.id,.int .i64 N1.par,.slice A2.k N1.kids.length A2.ck,.int .i64 N1.next,.slice A2.p N1.pu.length A2.cp,.slice A2.o N1.out.length A2.co,.slice A2.s N1.seen.length A2.cs,.int .i64 N1.old,.slice A2.r N1.reqs.length A2.cr],.slice (some ⟨W0.heap.size,0,none⟩) 0 0,.int .i64 code1]) (by simp[results,Tryz.results29,go_sem,x0,x1,x2,x3,x4,x5,x6,x7,x8]) rfl ⟨A2,some ⟨W0.heap.size,0,none⟩,0,rfl,unhide HAT,fun W'' _ i hi=>by simp at hi,unhide HBF⟩
end Go.Proofs.YtdlokncalhopoaaGreat
