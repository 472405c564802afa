/- Parts. -/
import Derived.Test.YtdlokncalhopoaaGreatPy38
import Derived.Test.YtdlokncalhopoaaGreatPy21
namespace Go.Proofs.YtdlokncalhopoaaGreat
set_option maxHeartbeats 8000000
set_option maxRecDepth 100000
open Go.RowKit
open Mth
theorem specDo_mintup (n:Nd) (A:Ads) (K no:Int) (k:ByteArray) (nn mK mF mT mI mL:Int) (mk:ByteArray) (mN:Int) (w:World) (hz:NdSz n 1048576) (hk:k.size≤1048576) (hmk:mk.size≤1048576) (hok:ndOk n=true) (hop:opOk ⟨K,no,k,nn,⟨mK,mF,mT,mI,mL,mk,mN⟩⟩=true) (hK:K=0) (RL:List Pu) (ok:Bool) (hu:addP n.pu k 1 1 0 nn=(RL,ok)) (hpar:n.par≠ -1) (ha:NodeAt w A n):Calls Tryz.prog 29 #[ndv n A,.agg #[.int .i64 K,.int .i64 no,.string k,.int .i64 nn,.int .i64 mK,.int .i64 mF,.int .i64 mT,.int .i64 mI,.int .i64 mL,.string mk,.int .i64 mN]] w (GivesE w (n,[],1)):=by
 subst hK
 unfold GivesE
 have HOK:=hide (fun W (h:Below w.heap.size w W)=>specNodeOk n A W (hz.mono (by omega)) (ha.below h))
 rw [hok] at HOK
 have hpg:(decide (n.par≥0))=true:=by
  have h:=(ndOk_parts hok).1
  unfold placeB at h
  simp only[Bool.and_eq_true,decide_eq_true_eq] at h
  exact decide_eq_true (by omega)
 have hpg':(decide (0≤n.par))=true:=hpg
 have HCL:=hide (fun W (A1:Ads) (hp:(∃g,A1.p=some ⟨g,0,none⟩)∧n.pu.length≤A1.cp) (hN:PursesAt W A1.p n.pu)=>(by
  obtain⟨⟨g,hg⟩,hc⟩:=hp
  rw [hg] at hN ⊢
  have:=specMint g 0 A1.cp n.pu k nn W (Nat.le_trans hz.p (by omega)) hc hz.pk hk hN
  rw [hu] at this
  exact this:Calls Tryz.prog 47 #[.slice A1.p n.pu.length A1.cp,.string k,.int .i64 nn] W (GivesO W (RL,ok))))
 clear hu
 unfold GivesO at HCL
 have HOP:=hide (fun W=>specOpOk ⟨0,no,k,nn,⟨mK,mF,mT,mI,mL,mk,mN⟩⟩ W (by unfold maxLen;dsimp only;omega) (by unfold maxLen;dsimp only;omega))
 rw [hop] at HOP
 unfold opw at HOP
 clear hop
 have HCP:=hide (fun W (h:Below w.heap.size w W)=>specCopyNode n A W hz (ha.below h))
 clear hz ha hok
 go_enter Tryz.func29,Tryz.ntmps29
 go_upto_region 2 with fail
 refine wp_at (fun W1 hW=>?_)
 obtain⟨e1,e2,e3,e4⟩:=allocs3E w (.cells (ndc n A) 30) (.cells #[.int .i64 0,.int .i64 no,.string k,.int .i64 nn,.int .i64 mK,.int .i64 mF,.int .i64 mT,.int .i64 mI,.int .i64 mL,.string mk,.int .i64 mN] 48) (.cells zc9 30)
 have hsz:(((w.alloc (.cells (ndc n A) 30)).alloc (.cells #[.int .i64 0,.int .i64 no,.string k,.int .i64 nn,.int .i64 mK,.int .i64 mF,.int .i64 mT,.int .i64 mI,.int .i64 mL,.string mk,.int .i64 mN] 48)).alloc (.cells zc9 30)).heap.size=w.heap.size+3:=by simp
 generalize hW0:((w.alloc (.cells (ndc n A) 30)).alloc (.cells #[.int .i64 0,.int .i64 no,.string k,.int .i64 nn,.int .i64 mK,.int .i64 mF,.int .i64 mT,.int .i64 mI,.int .i64 mL,.string mk,.int .i64 mN] 48)).alloc (.cells zc9 30)=W0 at *
 have hb:=below_one W0 (.cells #[] 37)
 have hW1:W1=W0.alloc (.cells #[] 37):=by rw [hW,←hW0]
 rw [←hW1] at hb
 have HN:=hide (obj_step e1 hb)
 have HO:=hide (obj_step e2 hb)
 have HR:=hide (obj_step e3 hb)
 have HB1:=hide (e4.trans (hb.mono e4.size))
 clear hW hW0 hW1 e1 e2 e3 e4 hb
 obtain⟨c0,c1,c2,c3,c4,c5,c6,c7,c8⟩:=nine (unhide HN)
 obtain⟨⟨p0,p1,p2,p3,p4,p5,p6,p7,p8,p9,p10⟩,_⟩:=eleven_at (unhide HO)
 have hnl:=obj_lt (unhide HN)
 have hol:=obj_lt (unhide HO)
 go_wp2_with fail
 refine(unhide HOK W1 (unhide HB1)).mono ?_
 rintro e W2 ⟨rfl,hb2⟩
 have HN_2:=hide (obj_step (unhide HN) hb2)
 have HO_2:=hide (obj_step (unhide HO) hb2)
 have HR_2:=hide (obj_step (unhide HR) hb2)
 have HB2:=hide ((unhide HB1).trans (hb2.mono (unhide HB1).size))
 clear hb2 c0 c1 c2 c3 c4 c5 c6 c7 c8 p0 p1 p2 p3 p4 p5 p6 p7 p8 p9 p10 hnl hol HOK HN HO HR HB1
 obtain⟨⟨p0,p1,p2,p3,p4,p5,p6,p7,p8,p9,p10⟩,_⟩:=eleven_at (unhide HO_2)
 have hol:=obj_lt (unhide HO_2)
 go_wp2_with fail
 refine(unhide HOP W2).mono ?_
 rintro e W4 ⟨rfl,hb4⟩
 have HN_5:=hide (obj_step (unhide HN_2) hb4)
 have HO_5:=hide (obj_step (unhide HO_2) hb4)
 have HR_5:=hide (obj_step (unhide HR_2) hb4)
 have HB5:=hide ((unhide HB2).trans (hb4.mono (unhide HB2).size))
 clear hb4 p0 p1 p2 p3 p4 p5 p6 p7 p8 p9 p10 hol HOP HN_2 HO_2 HR_2 HB2
 obtain⟨c0,c1,c2,c3,c4,c5,c6,c7,c8⟩:=nine (unhide HN_5)
 have hnl:=obj_lt (unhide HN_5)
 go_wp2_with fail
 refine(unhide HCP W4 (unhide HB5)).mono ?_
 rintro e W3 ⟨A1,G1,cc,rfl,hNO,hb3,hP1,hP2,hR1,hR2⟩
 have HR_3:=hide (obj_step (unhide HR_5) hb3)
 have HN_3:=hide (obj_step (unhide HN_5) hb3)
 have HO_3:=hide (obj_step (unhide HO_5) hb3)
 have HB3:=hide ((unhide HB5).trans (hb3.mono (unhide HB5).size))
 have HPR:=hide (And.intro (And.intro hP1 hP2) (And.intro hR1 hR2))
 have HNO:=hide (hNO.flat (b:=0) (Nat.zero_le _))
 have HC9:=hide (fun x (hx:x < w.heap.size+3)=>flatC_own (b:=0) (Nat.zero_le _) (hNO.lo x (by have:=obj_lt (unhide HR_5);omega)))
 have hrs:=obj_lt (unhide HR_5)
 have H9:=hide (flatC_h9 0 cc)
 generalize flatC 0 cc=c at *
 have HC2:=hide (unhide HC9 (w.heap.size+2) (by omega))
 have HC0:=hide (unhide HC9 w.heap.size (by omega))
 clear hb3 hNO hP1 hP2 hR1 hR2 c0 c1 c2 c3 c4 c5 c6 c7 c8 hnl HCP HN_5 HO_5 HR_5
 obtain⟨d0,d1,d2,d3,d4,d5,d6,d7,d8⟩:=nine (unhide HN_3)
 have f0:=obj_free (unhide HN_3) 0
 have f1:=obj_free (unhide HN_3) 1
 have f2:=obj_free (unhide HN_3) 2
 have f3:=obj_free (unhide HN_3) 3
 have f4:=obj_free (unhide HN_3) 4
 have f5:=obj_free (unhide HN_3) 5
 have f6:=obj_free (unhide HN_3) 6
 have f7:=obj_free (unhide HN_3) 7
 have f8:=obj_free (unhide HN_3) 8
 obtain⟨⟨p0,p1,p2,p3,p4,p5,p6,p7,p8,p9,p10⟩,_⟩:=eleven_at (unhide HO_3)
 have hnl:=obj_lt (unhide HN_3)
 have hol:=obj_lt (unhide HO_3)
 go_upto_region 5 with fail
 refine wp_at (fun X hX=>?_)
 have e5:X.heap[w.heap.size]?=some (.cells #[.int .i64 n.id,.int .i64 n.par,.slice A1.k n.kids.length A1.ck,.int .i64 n.next,.slice A1.p n.pu.length A1.cp,.slice A1.o n.out.length A1.co,.slice A1.s n.seen.length A1.cs,.int .i64 n.old,.slice A1.r n.reqs.length A1.cr] 30 (0,0)):=by
  rw [hX]
  exact GR.setW_blk [.int .i64 n.id,.int .i64 n.par,.slice A1.k n.kids.length A1.ck,.int .i64 n.next,.slice A1.p n.pu.length A1.cp,.slice A1.o n.out.length A1.co,.slice A1.s n.seen.length A1.cs,.int .i64 n.old,.slice A1.r n.reqs.length A1.cr] (o:=0) (xs:=[.int .i64 n.id,.int .i64 n.par,.slice A.k n.kids.length A.ck,.int .i64 n.next,.slice A.p n.pu.length A.cp,.slice A.o n.out.length A.co,.slice A.s n.seen.length A.cs,.int .i64 n.old,.slice A.r n.reqs.length A.cr]) (unhide HN_3)
 have hkx:KeepsL [w.heap.size] W3 X:=by
  rw [hX]
  exact setW_keeps [.int .i64 n.id,.int .i64 n.par,.slice A1.k n.kids.length A1.ck,.int .i64 n.next,.slice A1.p n.pu.length A1.cp,.slice A1.o n.out.length A1.co,.slice A1.s n.seen.length A1.cs,.int .i64 n.old,.slice A1.r n.reqs.length A1.cr] W3 0
 have HNX:=hide e5
 have HOX:=hide ((hkx.block _ (obj_lt (unhide HO_3)) (by simp)).trans (unhide HO_3))
 have HRX:=hide ((hkx.block _ (obj_lt (unhide HR_3)) (by simp)).trans (unhide HR_3))
 have HBX:=hide ((unhide HB3).trans (hkx.below (B:=w.heap.size) (fun x hx=>by have:x=w.heap.size:=(by simpa using hx);omega) (unhide HB3).size))
 have HNO5:=hide ((unhide HNO).kc (k:=9) (KC.keeps hkx (fun x hx=>by have:x=w.heap.size:=(by simpa using hx);rw [this];exact unhide HC0)) (by omega))
 clear e5 hkx hX d0 d1 d2 d3 d4 d5 d6 d7 d8 f0 f1 f2 f3 f4 f5 f6 f7 f8 p0 p1 p2 p3 p4 p5 p6 p7 p8 p9 p10 hnl hol HN_3 HO_3 HR_3 HB3 HNO HB5
 obtain⟨c0,c1,c2,c3,c4,c5,c6,c7,c8⟩:=nine (unhide HNX)
 obtain⟨⟨p0,p1,p2,p3,p4,p5,p6,p7,p8,p9,p10⟩,_⟩:=eleven_at (unhide HOX)
 have hnl:=obj_lt (unhide HNX)
 have hol:=obj_lt (unhide HOX)
 go_wp2_with fail
 refine(unhide HCL X A1 (unhide HPR).1 (unhide HNO5).at.p).mono ?_
 rintro e W5 ⟨v,rfl,_,hown,hb5⟩
 obtain⟨pa,pc,rfl,_⟩:=GR.own_at (enc:=encP) encP_length hown
 have HN_6:=hide (obj_step (unhide HNX) hb5)
 have HR_6:=hide (obj_step (unhide HRX) hb5)
 have HB6:=hide ((unhide HBX).trans (hb5.mono (unhide HBX).size))
 have HNO6:=hide ((unhide HNO5).kc (k:=9) (KC.of_below hb5) (by omega))
 have HPO:=hide hown
 have hxr:=obj_lt (unhide HRX)
 clear hown hb5 c0 c1 c2 c3 c4 c5 c6 c7 c8 p0 p1 p2 p3 p4 p5 p6 p7 p8 p9 p10 hnl hol HCL HNX HOX HRX HNO5 HPR HBX
 obtain⟨c0,c1,c2,c3,c4,c5,c6,c7,c8⟩:=nine (unhide HN_6)
 have hnl:=obj_lt (unhide HN_6)
 go_upto_region 9 with fail
 obtain⟨d0,d1,d2,d3,d4,d5,d6,d7,d8⟩:=nine (unhide HR_6)
 have f0:=obj_free (unhide HR_6) 0
 have f1:=obj_free (unhide HR_6) 1
 have f2:=obj_free (unhide HR_6) 2
 have f3:=obj_free (unhide HR_6) 3
 have f4:=obj_free (unhide HR_6) 4
 have f5:=obj_free (unhide HR_6) 5
 have f6:=obj_free (unhide HR_6) 6
 have f7:=obj_free (unhide HR_6) 7
 have f8:=obj_free (unhide HR_6) 8
 have hrl:=obj_lt (unhide HR_6)
 go_wp2_with fail
 refine bodyPost_atN (fun W' hW'=>?_)
 have e4:W'.heap[w.heap.size+2]?=some (.cells #[.int .i64 n.id,.int .i64 n.par,.slice A1.k n.kids.length A1.ck,.int .i64 n.next,.slice A1.p n.pu.length A1.cp,.slice A1.o n.out.length A1.co,.slice A1.s n.seen.length A1.cs,.int .i64 n.old,.slice A1.r n.reqs.length A1.cr] 30 (0,0)):=by
  rw [hW']
  exact GR.setW_blk [.int .i64 n.id,.int .i64 n.par,.slice A1.k n.kids.length A1.ck,.int .i64 n.next,.slice A1.p n.pu.length A1.cp,.slice A1.o n.out.length A1.co,.slice A1.s n.seen.length A1.cs,.int .i64 n.old,.slice A1.r n.reqs.length A1.cr] (o:=0) (xs:=[.int .i64 0,.int .i64 0,.slice none 0 0,.int .i64 0,.slice none 0 0,.slice none 0 0,.slice none 0 0,.int .i64 0,.slice none 0 0]) (unhide HR_6)
 have hkf:KeepsL [w.heap.size+2] W5 W':=by
  rw [hW']
  exact setW_keeps [.int .i64 n.id,.int .i64 n.par,.slice A1.k n.kids.length A1.ck,.int .i64 n.next,.slice A1.p n.pu.length A1.cp,.slice A1.o n.out.length A1.co,.slice A1.s n.seen.length A1.cs,.int .i64 n.old,.slice A1.r n.reqs.length A1.cr] W5 0
 have HAT:=hide (fun W'' (ho:Aft w W' W'')=>(((unhide HNO6).kc (k:=9) (KC.keeps hkf (fun x hx=>by have:x=w.heap.size+2:=(by simpa using hx);rw [this];exact unhide HC2)) (by omega)).kc (k:=9) (ho.kc (fun x hx=>unhide HC9 x (by omega))) (by omega)).rm)
 have HBF:Hid (Below w.heap.size w W'):=(unhide HB6).trans (hkf.below (fun x hx=>by have:x=w.heap.size+2:=(by simpa using hx);omega) (unhide HB6).size)
 obtain⟨x0,x1,x2,x3,x4,x5,x6,x7,x8⟩:=nine e4
 clear hW' e4 hkf
 exact bodyPost_ret (v:= .tuple #[.agg #[.int .i64 n.id,.int .i64 n.par,.slice A1.k n.kids.length A1.ck,.int .i64 n.next,.slice A1.p n.pu.length A1.cp,.slice A1.o n.out.length A1.co,.slice A1.s n.seen.length A1.cs,.int .i64 n.old,.slice A1.r n.reqs.length A1.cr],.slice (some ⟨W0.heap.size,0,none⟩) 0 0,.int .i64 1]) (by simp[results,Tryz.results29,go_sem,x0,x1,x2,x3,x4,x5,x6,x7,x8]) rfl ⟨A1,some ⟨W0.heap.size,0,none⟩,0,rfl,unhide HAT,fun W'' _ i hi=>by simp at hi,unhide HBF⟩
theorem specDo_mintno (n:Nd) (A:Ads) (K no:Int) (k:ByteArray) (nn mK mF mT mI mL:Int) (mk:ByteArray) (mN:Int) (w:World) (hz:NdSz n 1048576) (hk:k.size≤1048576) (hmk:mk.size≤1048576) (hok:ndOk n=true) (hop:opOk ⟨K,no,k,nn,⟨mK,mF,mT,mI,mL,mk,mN⟩⟩=true) (hK:K=0) (RL:List Pu) (hu:addP n.pu k 1 1 0 nn=(RL,false)) (hpar:n.par= -1) (ha:NodeAt w A n):Calls Tryz.prog 29 #[ndv n A,.agg #[.int .i64 K,.int .i64 no,.string k,.int .i64 nn,.int .i64 mK,.int .i64 mF,.int .i64 mT,.int .i64 mI,.int .i64 mL,.string mk,.int .i64 mN]] w (GivesE w (n,[],1)):=by
 subst hK
 unfold GivesE
 have HOK:=hide (fun W (h:Below w.heap.size w W)=>specNodeOk n A W (hz.mono (by omega)) (ha.below h))
 rw [hok] at HOK
 have hpg:(decide (n.par≥0))=false:=by rw [hpar];rfl
 have hpg':(decide (0≤n.par))=false:=hpg
 clear hpar
 have HCL:=hide (fun W (A1:Ads) (hp:(∃g,A1.p=some ⟨g,0,none⟩)∧n.pu.length≤A1.cp) (hN:PursesAt W A1.p n.pu)=>(by
  obtain⟨⟨g,hg⟩,hc⟩:=hp
  rw [hg] at hN ⊢
  have:=specMint g 0 A1.cp n.pu k nn W (Nat.le_trans hz.p (by omega)) hc hz.pk hk hN
  rw [hu] at this
  exact this:Calls Tryz.prog 47 #[.slice A1.p n.pu.length A1.cp,.string k,.int .i64 nn] W (GivesO W (RL,false))))
 clear hu
 unfold GivesO at HCL
 have HOP:=hide (fun W=>specOpOk ⟨0,no,k,nn,⟨mK,mF,mT,mI,mL,mk,mN⟩⟩ W (by unfold maxLen;dsimp only;omega) (by unfold maxLen;dsimp only;omega))
 rw [hop] at HOP
 unfold opw at HOP
 clear hop
 have HCP:=hide (fun W (h:Below w.heap.size w W)=>specCopyNode n A W hz (ha.below h))
 clear hz ha hok
 go_enter Tryz.func29,Tryz.ntmps29
 go_upto_region 2 with fail
 refine wp_at (fun W1 hW=>?_)
 obtain⟨e1,e2,e3,e4⟩:=allocs3E w (.cells (ndc n A) 30) (.cells #[.int .i64 0,.int .i64 no,.string k,.int .i64 nn,.int .i64 mK,.int .i64 mF,.int .i64 mT,.int .i64 mI,.int .i64 mL,.string mk,.int .i64 mN] 48) (.cells zc9 30)
 have hsz:(((w.alloc (.cells (ndc n A) 30)).alloc (.cells #[.int .i64 0,.int .i64 no,.string k,.int .i64 nn,.int .i64 mK,.int .i64 mF,.int .i64 mT,.int .i64 mI,.int .i64 mL,.string mk,.int .i64 mN] 48)).alloc (.cells zc9 30)).heap.size=w.heap.size+3:=by simp
 generalize hW0:((w.alloc (.cells (ndc n A) 30)).alloc (.cells #[.int .i64 0,.int .i64 no,.string k,.int .i64 nn,.int .i64 mK,.int .i64 mF,.int .i64 mT,.int .i64 mI,.int .i64 mL,.string mk,.int .i64 mN] 48)).alloc (.cells zc9 30)=W0 at *
 have hb:=below_one W0 (.cells #[] 37)
 have hW1:W1=W0.alloc (.cells #[] 37):=by rw [hW,←hW0]
 rw [←hW1] at hb
 have HN:=hide (obj_step e1 hb)
 have HO:=hide (obj_step e2 hb)
 have HR:=hide (obj_step e3 hb)
 have HB1:=hide (e4.trans (hb.mono e4.size))
 clear hW hW0 hW1 e1 e2 e3 e4 hb
 obtain⟨c0,c1,c2,c3,c4,c5,c6,c7,c8⟩:=nine (unhide HN)
 obtain⟨⟨p0,p1,p2,p3,p4,p5,p6,p7,p8,p9,p10⟩,_⟩:=eleven_at (unhide HO)
 have hnl:=obj_lt (unhide HN)
 have hol:=obj_lt (unhide HO)
 go_wp2_with fail
 refine(unhide HOK W1 (unhide HB1)).mono ?_
 rintro e W2 ⟨rfl,hb2⟩
 have HN_2:=hide (obj_step (unhide HN) hb2)
 have HO_2:=hide (obj_step (unhide HO) hb2)
 have HR_2:=hide (obj_step (unhide HR) hb2)
 have HB2:=hide ((unhide HB1).trans (hb2.mono (unhide HB1).size))
 clear hb2 c0 c1 c2 c3 c4 c5 c6 c7 c8 p0 p1 p2 p3 p4 p5 p6 p7 p8 p9 p10 hnl hol HOK HN HO HR HB1
 obtain⟨⟨p0,p1,p2,p3,p4,p5,p6,p7,p8,p9,p10⟩,_⟩:=eleven_at (unhide HO_2)
 have hol:=obj_lt (unhide HO_2)
 go_wp2_with fail
 refine(unhide HOP W2).mono ?_
 rintro e W4 ⟨rfl,hb4⟩
 have HN_5:=hide (obj_step (unhide HN_2) hb4)
 have HO_5:=hide (obj_step (unhide HO_2) hb4)
 have HR_5:=hide (obj_step (unhide HR_2) hb4)
 have HB5:=hide ((unhide HB2).trans (hb4.mono (unhide HB2).size))
 clear hb4 p0 p1 p2 p3 p4 p5 p6 p7 p8 p9 p10 hol HOP HN_2 HO_2 HR_2 HB2
 obtain⟨c0,c1,c2,c3,c4,c5,c6,c7,c8⟩:=nine (unhide HN_5)
 have hnl:=obj_lt (unhide HN_5)
 go_wp2_with fail
 refine(unhide HCP W4 (unhide HB5)).mono ?_
 rintro e W3 ⟨A1,G1,cc,rfl,hNO,hb3,hP1,hP2,hR1,hR2⟩
 have HR_3:=hide (obj_step (unhide HR_5) hb3)
 have HN_3:=hide (obj_step (unhide HN_5) hb3)
 have HO_3:=hide (obj_step (unhide HO_5) hb3)
 have HB3:=hide ((unhide HB5).trans (hb3.mono (unhide HB5).size))
 have HPR:=hide (And.intro (And.intro hP1 hP2) (And.intro hR1 hR2))
 have HNO:=hide (hNO.flat (b:=0) (Nat.zero_le _))
 have HC9:=hide (fun x (hx:x < w.heap.size+3)=>flatC_own (b:=0) (Nat.zero_le _) (hNO.lo x (by have:=obj_lt (unhide HR_5);omega)))
 have hrs:=obj_lt (unhide HR_5)
 have H9:=hide (flatC_h9 0 cc)
 generalize flatC 0 cc=c at *
 have HC2:=hide (unhide HC9 (w.heap.size+2) (by omega))
 have HC0:=hide (unhide HC9 w.heap.size (by omega))
 clear hb3 hNO hP1 hP2 hR1 hR2 c0 c1 c2 c3 c4 c5 c6 c7 c8 hnl HCP HN_5 HO_5 HR_5
 obtain⟨d0,d1,d2,d3,d4,d5,d6,d7,d8⟩:=nine (unhide HN_3)
 have f0:=obj_free (unhide HN_3) 0
 have f1:=obj_free (unhide HN_3) 1
 have f2:=obj_free (unhide HN_3) 2
 have f3:=obj_free (unhide HN_3) 3
 have f4:=obj_free (unhide HN_3) 4
 have f5:=obj_free (unhide HN_3) 5
 have f6:=obj_free (unhide HN_3) 6
 have f7:=obj_free (unhide HN_3) 7
 have f8:=obj_free (unhide HN_3) 8
 obtain⟨⟨p0,p1,p2,p3,p4,p5,p6,p7,p8,p9,p10⟩,_⟩:=eleven_at (unhide HO_3)
 have hnl:=obj_lt (unhide HN_3)
 have hol:=obj_lt (unhide HO_3)
 go_upto_region 5 with fail
 refine wp_at (fun X hX=>?_)
 have e5:X.heap[w.heap.size]?=some (.cells #[.int .i64 n.id,.int .i64 n.par,.slice A1.k n.kids.length A1.ck,.int .i64 n.next,.slice A1.p n.pu.length A1.cp,.slice A1.o n.out.length A1.co,.slice A1.s n.seen.length A1.cs,.int .i64 n.old,.slice A1.r n.reqs.length A1.cr] 30 (0,0)):=by
  rw [hX]
  exact GR.setW_blk [.int .i64 n.id,.int .i64 n.par,.slice A1.k n.kids.length A1.ck,.int .i64 n.next,.slice A1.p n.pu.length A1.cp,.slice A1.o n.out.length A1.co,.slice A1.s n.seen.length A1.cs,.int .i64 n.old,.slice A1.r n.reqs.length A1.cr] (o:=0) (xs:=[.int .i64 n.id,.int .i64 n.par,.slice A.k n.kids.length A.ck,.int .i64 n.next,.slice A.p n.pu.length A.cp,.slice A.o n.out.length A.co,.slice A.s n.seen.length A.cs,.int .i64 n.old,.slice A.r n.reqs.length A.cr]) (unhide HN_3)
 have hkx:KeepsL [w.heap.size] W3 X:=by
  rw [hX]
  exact setW_keeps [.int .i64 n.id,.int .i64 n.par,.slice A1.k n.kids.length A1.ck,.int .i64 n.next,.slice A1.p n.pu.length A1.cp,.slice A1.o n.out.length A1.co,.slice A1.s n.seen.length A1.cs,.int .i64 n.old,.slice A1.r n.reqs.length A1.cr] W3 0
 have HNX:=hide e5
 have HOX:=hide ((hkx.block _ (obj_lt (unhide HO_3)) (by simp)).trans (unhide HO_3))
 have HRX:=hide ((hkx.block _ (obj_lt (unhide HR_3)) (by simp)).trans (unhide HR_3))
 have HBX:=hide ((unhide HB3).trans (hkx.below (B:=w.heap.size) (fun x hx=>by have:x=w.heap.size:=(by simpa using hx);omega) (unhide HB3).size))
 have HNO5:=hide ((unhide HNO).kc (k:=9) (KC.keeps hkx (fun x hx=>by have:x=w.heap.size:=(by simpa using hx);rw [this];exact unhide HC0)) (by omega))
 clear e5 hkx hX d0 d1 d2 d3 d4 d5 d6 d7 d8 f0 f1 f2 f3 f4 f5 f6 f7 f8 p0 p1 p2 p3 p4 p5 p6 p7 p8 p9 p10 hnl hol HN_3 HO_3 HR_3 HB3 HNO HB5
 obtain⟨c0,c1,c2,c3,c4,c5,c6,c7,c8⟩:=nine (unhide HNX)
 obtain⟨⟨p0,p1,p2,p3,p4,p5,p6,p7,p8,p9,p10⟩,_⟩:=eleven_at (unhide HOX)
 have hnl:=obj_lt (unhide HNX)
 have hol:=obj_lt (unhide HOX)
 go_wp2_with fail
 refine(unhide HCL X A1 (unhide HPR).1 (unhide HNO5).at.p).mono ?_
 rintro e W5 ⟨v,rfl,_,hown,hb5⟩
 obtain⟨pa,pc,rfl,_⟩:=GR.own_at (enc:=encP) encP_length hown
 have HN_6:=hide (obj_step (unhide HNX) hb5)
 have HR_6:=hide (obj_step (unhide HRX) hb5)
 have HB6:=hide ((unhide HBX).trans (hb5.mono (unhide HBX).size))
 have HNO6:=hide ((unhide HNO5).kc (k:=9) (KC.of_below hb5) (by omega))
 have HPO:=hide hown
 have hxr:=obj_lt (unhide HRX)
 clear hown hb5 c0 c1 c2 c3 c4 c5 c6 c7 c8 p0 p1 p2 p3 p4 p5 p6 p7 p8 p9 p10 hnl hol HCL HNX HOX HRX HNO5 HPR HBX
 obtain⟨c0,c1,c2,c3,c4,c5,c6,c7,c8⟩:=nine (unhide HN_6)
 have hnl:=obj_lt (unhide HN_6)
 go_upto_region 9 with fail
 obtain⟨d0,d1,d2,d3,d4,d5,d6,d7,d8⟩:=nine (unhide HR_6)
 have f0:=obj_free (unhide HR_6) 0
 have f1:=obj_free (unhide HR_6) 1
 have f2:=obj_free (unhide HR_6) 2
 have f3:=obj_free (unhide HR_6) 3
 have f4:=obj_free (unhide HR_6) 4
 have f5:=obj_free (unhide HR_6) 5
 have f6:=obj_free (unhide HR_6) 6
 have f7:=obj_free (unhide HR_6) 7
 have f8:=obj_free (unhide HR_6) 8
 have hrl:=obj_lt (unhide HR_6)
 go_wp2_with fail
 refine bodyPost_atN (fun W' hW'=>?_)
 have e4:W'.heap[w.heap.size+2]?=some (.cells #[.int .i64 n.id,.int .i64 n.par,.slice A1.k n.kids.length A1.ck,.int .i64 n.next,.slice A1.p n.pu.length A1.cp,.slice A1.o n.out.length A1.co,.slice A1.s n.seen.length A1.cs,.int .i64 n.old,.slice A1.r n.reqs.length A1.cr] 30 (0,0)):=by
  rw [hW']
  exact GR.setW_blk [.int .i64 n.id,.int .i64 n.par,.slice A1.k n.kids.length A1.ck,.int .i64 n.next,.slice A1.p n.pu.length A1.cp,.slice A1.o n.out.length A1.co,.slice A1.s n.seen.length A1.cs,.int .i64 n.old,.slice A1.r n.reqs.length A1.cr] (o:=0) (xs:=[.int .i64 0,.int .i64 0,.slice none 0 0,.int .i64 0,.slice none 0 0,.slice none 0 0,.slice none 0 0,.int .i64 0,.slice none 0 0]) (unhide HR_6)
 have hkf:KeepsL [w.heap.size+2] W5 W':=by
  rw [hW']
  exact setW_keeps [.int .i64 n.id,.int .i64 n.par,.slice A1.k n.kids.length A1.ck,.int .i64 n.next,.slice A1.p n.pu.length A1.cp,.slice A1.o n.out.length A1.co,.slice A1.s n.seen.length A1.cs,.int .i64 n.old,.slice A1.r n.reqs.length A1.cr] W5 0
 have HAT:=hide (fun W'' (ho:Aft w W' W'')=>(((unhide HNO6).kc (k:=9) (KC.keeps hkf (fun x hx=>by have:x=w.heap.size+2:=(by simpa using hx);rw [this];exact unhide HC2)) (by omega)).kc (k:=9) (ho.kc (fun x hx=>unhide HC9 x (by omega))) (by omega)).rm)
 have HBF:Hid (Below w.heap.size w W'):=(unhide HB6).trans (hkf.below (fun x hx=>by have:x=w.heap.size+2:=(by simpa using hx);omega) (unhide HB6).size)
 obtain⟨x0,x1,x2,x3,x4,x5,x6,x7,x8⟩:=nine e4
 clear hW' e4 hkf
 exact bodyPost_ret (v:= .tuple #[.agg #[.int .i64 n.id,.int .i64 n.par,.slice A1.k n.kids.length A1.ck,.int .i64 n.next,.slice A1.p n.pu.length A1.cp,.slice A1.o n.out.length A1.co,.slice A1.s n.seen.length A1.cs,.int .i64 n.old,.slice A1.r n.reqs.length A1.cr],.slice (some ⟨W0.heap.size,0,none⟩) 0 0,.int .i64 1]) (by simp[results,Tryz.results29,go_sem,x0,x1,x2,x3,x4,x5,x6,x7,x8]) rfl ⟨A1,some ⟨W0.heap.size,0,none⟩,0,rfl,unhide HAT,fun W'' _ i hi=>by simp at hi,unhide HBF⟩
theorem specDo_mintyes (n:Nd) (A:Ads) (K no:Int) (k:ByteArray) (nn mK mF mT mI mL:Int) (mk:ByteArray) (mN:Int) (w:World) (hz:NdSz n 1048576) (hk:k.size≤1048576) (hmk:mk.size≤1048576) (hok:ndOk n=true) (hop:opOk ⟨K,no,k,nn,⟨mK,mF,mT,mI,mL,mk,mN⟩⟩=true) (hK:K=0) (RL:List Pu) (hu:addP n.pu k 1 1 0 nn=(RL,true)) (hpar:n.par= -1) (ha:NodeAt w A n):Calls Tryz.prog 29 #[ndv n A,.agg #[.int .i64 K,.int .i64 no,.string k,.int .i64 nn,.int .i64 mK,.int .i64 mF,.int .i64 mT,.int .i64 mI,.int .i64 mL,.string mk,.int .i64 mN]] w (GivesE w (setPu n RL,[],0)):=by
 subst hK
 unfold GivesE
 have HOK:=hide (fun W (h:Below w.heap.size w W)=>specNodeOk n A W (hz.mono (by omega)) (ha.below h))
 rw [hok] at HOK
 have hpg:(decide (n.par≥0))=false:=by rw [hpar];rfl
 have hpg':(decide (0≤n.par))=false:=hpg
 clear hpar
 have HCL:=hide (fun W (A1:Ads) (hp:(∃g,A1.p=some ⟨g,0,none⟩)∧n.pu.length≤A1.cp) (hN:PursesAt W A1.p n.pu)=>(by
  obtain⟨⟨g,hg⟩,hc⟩:=hp
  rw [hg] at hN ⊢
  have:=specMint g 0 A1.cp n.pu k nn W (Nat.le_trans hz.p (by omega)) hc hz.pk hk hN
  rw [hu] at this
  exact this:Calls Tryz.prog 47 #[.slice A1.p n.pu.length A1.cp,.string k,.int .i64 nn] W (GivesO W (RL,true))))
 clear hu
 unfold GivesO at HCL
 have HOP:=hide (fun W=>specOpOk ⟨0,no,k,nn,⟨mK,mF,mT,mI,mL,mk,mN⟩⟩ W (by unfold maxLen;dsimp only;omega) (by unfold maxLen;dsimp only;omega))
 rw [hop] at HOP
 unfold opw at HOP
 clear hop
 have HCP:=hide (fun W (h:Below w.heap.size w W)=>specCopyNode n A W hz (ha.below h))
 clear hz ha hok
 go_enter Tryz.func29,Tryz.ntmps29
 go_upto_region 2 with fail
 refine wp_at (fun W1 hW=>?_)
 obtain⟨e1,e2,e3,e4⟩:=allocs3E w (.cells (ndc n A) 30) (.cells #[.int .i64 0,.int .i64 no,.string k,.int .i64 nn,.int .i64 mK,.int .i64 mF,.int .i64 mT,.int .i64 mI,.int .i64 mL,.string mk,.int .i64 mN] 48) (.cells zc9 30)
 have hsz:(((w.alloc (.cells (ndc n A) 30)).alloc (.cells #[.int .i64 0,.int .i64 no,.string k,.int .i64 nn,.int .i64 mK,.int .i64 mF,.int .i64 mT,.int .i64 mI,.int .i64 mL,.string mk,.int .i64 mN] 48)).alloc (.cells zc9 30)).heap.size=w.heap.size+3:=by simp
 generalize hW0:((w.alloc (.cells (ndc n A) 30)).alloc (.cells #[.int .i64 0,.int .i64 no,.string k,.int .i64 nn,.int .i64 mK,.int .i64 mF,.int .i64 mT,.int .i64 mI,.int .i64 mL,.string mk,.int .i64 mN] 48)).alloc (.cells zc9 30)=W0 at *
 have hb:=below_one W0 (.cells #[] 37)
 have hW1:W1=W0.alloc (.cells #[] 37):=by rw [hW,←hW0]
 rw [←hW1] at hb
 have HN:=hide (obj_step e1 hb)
 have HO:=hide (obj_step e2 hb)
 have HR:=hide (obj_step e3 hb)
 have HB1:=hide (e4.trans (hb.mono e4.size))
 clear hW hW0 hW1 e1 e2 e3 e4 hb
 obtain⟨c0,c1,c2,c3,c4,c5,c6,c7,c8⟩:=nine (unhide HN)
 obtain⟨⟨p0,p1,p2,p3,p4,p5,p6,p7,p8,p9,p10⟩,_⟩:=eleven_at (unhide HO)
 have hnl:=obj_lt (unhide HN)
 have hol:=obj_lt (unhide HO)
 go_wp2_with fail
 refine(unhide HOK W1 (unhide HB1)).mono ?_
 rintro e W2 ⟨rfl,hb2⟩
 have HN_2:=hide (obj_step (unhide HN) hb2)
 have HO_2:=hide (obj_step (unhide HO) hb2)
 have HR_2:=hide (obj_step (unhide HR) hb2)
 have HB2:=hide ((unhide HB1).trans (hb2.mono (unhide HB1).size))
 clear hb2 c0 c1 c2 c3 c4 c5 c6 c7 c8 p0 p1 p2 p3 p4 p5 p6 p7 p8 p9 p10 hnl hol HOK HN HO HR HB1
 obtain⟨⟨p0,p1,p2,p3,p4,p5,p6,p7,p8,p9,p10⟩,_⟩:=eleven_at (unhide HO_2)
 have hol:=obj_lt (unhide HO_2)
 go_wp2_with fail
 refine(unhide HOP W2).mono ?_
 rintro e W4 ⟨rfl,hb4⟩
 have HN_5:=hide (obj_step (unhide HN_2) hb4)
 have HO_5:=hide (obj_step (unhide HO_2) hb4)
 have HR_5:=hide (obj_step (unhide HR_2) hb4)
 have HB5:=hide ((unhide HB2).trans (hb4.mono (unhide HB2).size))
 clear hb4 p0 p1 p2 p3 p4 p5 p6 p7 p8 p9 p10 hol HOP HN_2 HO_2 HR_2 HB2
 obtain⟨c0,c1,c2,c3,c4,c5,c6,c7,c8⟩:=nine (unhide HN_5)
 have hnl:=obj_lt (unhide HN_5)
 go_wp2_with fail
 refine(unhide HCP W4 (unhide HB5)).mono ?_
 rintro e W3 ⟨A1,G1,cc,rfl,hNO,hb3,hP1,hP2,hR1,hR2⟩
 have HR_3:=hide (obj_step (unhide HR_5) hb3)
 have HN_3:=hide (obj_step (unhide HN_5) hb3)
 have HO_3:=hide (obj_step (unhide HO_5) hb3)
 have HB3:=hide ((unhide HB5).trans (hb3.mono (unhide HB5).size))
 have HPR:=hide (And.intro (And.intro hP1 hP2) (And.intro hR1 hR2))
 have HNO:=hide (hNO.flat (b:=0) (Nat.zero_le _))
 have HC9:=hide (fun x (hx:x < w.heap.size+3)=>flatC_own (b:=0) (Nat.zero_le _) (hNO.lo x (by have:=obj_lt (unhide HR_5);omega)))
 have hrs:=obj_lt (unhide HR_5)
 have H9:=hide (flatC_h9 0 cc)
 generalize flatC 0 cc=c at *
 have HC2:=hide (unhide HC9 (w.heap.size+2) (by omega))
 have HC0:=hide (unhide HC9 w.heap.size (by omega))
 clear hb3 hNO hP1 hP2 hR1 hR2 c0 c1 c2 c3 c4 c5 c6 c7 c8 hnl HCP HN_5 HO_5 HR_5
 obtain⟨d0,d1,d2,d3,d4,d5,d6,d7,d8⟩:=nine (unhide HN_3)
 have f0:=obj_free (unhide HN_3) 0
 have f1:=obj_free (unhide HN_3) 1
 have f2:=obj_free (unhide HN_3) 2
 have f3:=obj_free (unhide HN_3) 3
 have f4:=obj_free (unhide HN_3) 4
 have f5:=obj_free (unhide HN_3) 5
 have f6:=obj_free (unhide HN_3) 6
 have f7:=obj_free (unhide HN_3) 7
 have f8:=obj_free (unhide HN_3) 8
 obtain⟨⟨p0,p1,p2,p3,p4,p5,p6,p7,p8,p9,p10⟩,_⟩:=eleven_at (unhide HO_3)
 have hnl:=obj_lt (unhide HN_3)
 have hol:=obj_lt (unhide HO_3)
 go_upto_region 5 with fail
 refine wp_at (fun X hX=>?_)
 have e5:X.heap[w.heap.size]?=some (.cells #[.int .i64 n.id,.int .i64 n.par,.slice A1.k n.kids.length A1.ck,.int .i64 n.next,.slice A1.p n.pu.length A1.cp,.slice A1.o n.out.length A1.co,.slice A1.s n.seen.length A1.cs,.int .i64 n.old,.slice A1.r n.reqs.length A1.cr] 30 (0,0)):=by
  rw [hX]
  exact GR.setW_blk [.int .i64 n.id,.int .i64 n.par,.slice A1.k n.kids.length A1.ck,.int .i64 n.next,.slice A1.p n.pu.length A1.cp,.slice A1.o n.out.length A1.co,.slice A1.s n.seen.length A1.cs,.int .i64 n.old,.slice A1.r n.reqs.length A1.cr] (o:=0) (xs:=[.int .i64 n.id,.int .i64 n.par,.slice A.k n.kids.length A.ck,.int .i64 n.next,.slice A.p n.pu.length A.cp,.slice A.o n.out.length A.co,.slice A.s n.seen.length A.cs,.int .i64 n.old,.slice A.r n.reqs.length A.cr]) (unhide HN_3)
 have hkx:KeepsL [w.heap.size] W3 X:=by
  rw [hX]
  exact setW_keeps [.int .i64 n.id,.int .i64 n.par,.slice A1.k n.kids.length A1.ck,.int .i64 n.next,.slice A1.p n.pu.length A1.cp,.slice A1.o n.out.length A1.co,.slice A1.s n.seen.length A1.cs,.int .i64 n.old,.slice A1.r n.reqs.length A1.cr] W3 0
 have HNX:=hide e5
 have HOX:=hide ((hkx.block _ (obj_lt (unhide HO_3)) (by simp)).trans (unhide HO_3))
 have HRX:=hide ((hkx.block _ (obj_lt (unhide HR_3)) (by simp)).trans (unhide HR_3))
 have HBX:=hide ((unhide HB3).trans (hkx.below (B:=w.heap.size) (fun x hx=>by have:x=w.heap.size:=(by simpa using hx);omega) (unhide HB3).size))
 have HNO5:=hide ((unhide HNO).kc (k:=9) (KC.keeps hkx (fun x hx=>by have:x=w.heap.size:=(by simpa using hx);rw [this];exact unhide HC0)) (by omega))
 have HCQ:=hide ((unhide HNO5).nine (Nat.zero_le _))
 clear e5 hkx hX d0 d1 d2 d3 d4 d5 d6 d7 d8 f0 f1 f2 f3 f4 f5 f6 f7 f8 p0 p1 p2 p3 p4 p5 p6 p7 p8 p9 p10 hnl hol HN_3 HO_3 HR_3 HB3 HNO HB5
 obtain⟨c0,c1,c2,c3,c4,c5,c6,c7,c8⟩:=nine (unhide HNX)
 obtain⟨⟨p0,p1,p2,p3,p4,p5,p6,p7,p8,p9,p10⟩,_⟩:=eleven_at (unhide HOX)
 have hnl:=obj_lt (unhide HNX)
 have hol:=obj_lt (unhide HOX)
 go_wp2_with fail
 refine(unhide HCL X A1 (unhide HPR).1 (unhide HNO5).at.p).mono ?_
 rintro e W5 ⟨v,rfl,_,hown,hb5⟩
 obtain⟨pa,pc,rfl,_⟩:=GR.own_at (enc:=encP) encP_length hown
 have HN_6:=hide (obj_step (unhide HNX) hb5)
 have HR_6:=hide (obj_step (unhide HRX) hb5)
 have HB6:=hide ((unhide HBX).trans (hb5.mono (unhide HBX).size))
 have HNO6:=hide ((unhide HNO5).kc (k:=9) (KC.of_below hb5) (by omega))
 have HPO:=hide hown
 have hxr:=obj_lt (unhide HRX)
 clear hown hb5 c0 c1 c2 c3 c4 c5 c6 c7 c8 p0 p1 p2 p3 p4 p5 p6 p7 p8 p9 p10 hnl hol HCL HNX HOX HRX HNO5 HPR HBX
 obtain⟨c0,c1,c2,c3,c4,c5,c6,c7,c8⟩:=nine (unhide HN_6)
 have hnl:=obj_lt (unhide HN_6)
 have f4:=obj_free (unhide HN_6) 4
 go_upto_region 11 with fail
 refine wp_at (fun Y hY=>?_)
 have hky:KeepsL [w.heap.size] W5 Y:=by
  rw [hY]
  exact KeepsL.set _
 have HN_7:Hid (Y.heap[w.heap.size]?=some (.cells #[.int .i64 n.id,.int .i64 n.par,.slice A1.k n.kids.length A1.ck,.int .i64 n.next,.slice pa RL.length pc,.slice A1.o n.out.length A1.co,.slice A1.s n.seen.length A1.cs,.int .i64 n.old,.slice A1.r n.reqs.length A1.cr] 30 (0,0))):=by
  rw [hY]
  exact blk_setO (unhide HN_6) 4 (.slice pa RL.length pc)
 have HR_7:=hide (hky.obj (unhide HR_6) (by simp))
 have HB7:=hide ((unhide HB6).trans (hky.below (B:=w.heap.size) (fun x hx=>by have:x=w.heap.size:=(by simpa using hx);omega) (unhide HB6).size))
 have HNO7:=hide ((unhide HNO6).kc (k:=9) (KC.keeps hky (fun x hx=>by have:x=w.heap.size:=(by simpa using hx);rw [this];exact unhide HC0)) (by omega))
 have HPO7:=hide (own_keepsL (unhide HPO) hky (fun x hx=>by have:x=w.heap.size:=(by simpa using hx);omega))
 clear hY hky f4 c0 c1 c2 c3 c4 c5 c6 c7 c8 hnl HN_6 HR_6 HB6 HNO6 HPO
 obtain⟨c0,c1,c2,c3,c4,c5,c6,c7,c8⟩:=nine (unhide HN_7)
 have hnl:=obj_lt (unhide HN_7)
 obtain⟨d0,d1,d2,d3,d4,d5,d6,d7,d8⟩:=nine (unhide HR_7)
 have f0:=obj_free (unhide HR_7) 0
 have f1:=obj_free (unhide HR_7) 1
 have f2:=obj_free (unhide HR_7) 2
 have f3:=obj_free (unhide HR_7) 3
 have f4:=obj_free (unhide HR_7) 4
 have f5:=obj_free (unhide HR_7) 5
 have f6:=obj_free (unhide HR_7) 6
 have f7:=obj_free (unhide HR_7) 7
 have f8:=obj_free (unhide HR_7) 8
 have hrl:=obj_lt (unhide HR_7)
 go_wp2_with fail
 refine bodyPost_atN (fun W' hW'=>?_)
 have e4:W'.heap[w.heap.size+2]?=some (.cells #[.int .i64 n.id,.int .i64 n.par,.slice A1.k n.kids.length A1.ck,.int .i64 n.next,.slice pa RL.length pc,.slice A1.o n.out.length A1.co,.slice A1.s n.seen.length A1.cs,.int .i64 n.old,.slice A1.r n.reqs.length A1.cr] 30 (0,0)):=by
  rw [hW']
  exact GR.setW_blk [.int .i64 n.id,.int .i64 n.par,.slice A1.k n.kids.length A1.ck,.int .i64 n.next,.slice pa RL.length pc,.slice A1.o n.out.length A1.co,.slice A1.s n.seen.length A1.cs,.int .i64 n.old,.slice A1.r n.reqs.length A1.cr] (o:=0) (xs:=[.int .i64 0,.int .i64 0,.slice none 0 0,.int .i64 0,.slice none 0 0,.slice none 0 0,.slice none 0 0,.int .i64 0,.slice none 0 0]) (unhide HR_7)
 have hkf:KeepsL [w.heap.size+2] Y W':=by
  rw [hW']
  exact setW_keeps [.int .i64 n.id,.int .i64 n.par,.slice A1.k n.kids.length A1.ck,.int .i64 n.next,.slice pa RL.length pc,.slice A1.o n.out.length A1.co,.slice A1.s n.seen.length A1.cs,.int .i64 n.old,.slice A1.r n.reqs.length A1.cr] Y 0
 have HAT:=hide (fun W'' (ho:Aft w W' W'')=>(show RM W'' ⟨A1.k,pa,A1.o,A1.s,A1.r,A1.ck,pc,A1.co,A1.cs,A1.cr⟩ (setPu n RL) from(by
  have h:=(((unhide HNO7).kc (k:=9) (KC.keeps hkf (fun x hx=>by have:x=w.heap.size+2:=(by simpa using hx);rw [this];exact unhide HC2)) (by omega)).kc (k:=9) (ho.kc (fun x hx=>unhide HC9 x (by omega))) (by omega))
  obtain⟨F,hk2,hF⟩:=ho
  have hpo:=(own_keepsL (own_keepsL (unhide HPO7) hkf (fun x hx=>by have:x=w.heap.size+2:=(by simpa using hx);omega)) hk2 (fun x hx=>by have:=hF x hx;omega))
  have hp9:∀g',pa.map (fun y=>y.block)=some g'→6 < newC X.heap.size 9 c g':=fun g' hg'=>by
   have h1:=own_lo hpo (own_blkA hpo hg')
   rw [newC_new (by omega)]
   omega
  exact NQ.put h (unhide HCQ) (setPu n RL) ⟨A1.k,pa,A1.o,A1.s,A1.r,A1.ck,pc,A1.co,A1.cs,A1.cr⟩ rfl rfl rfl rfl (GR.own_ati encP_length hpo) (fun g' hg' _=> .inr (hp9 g' hg')) h.o (fun y hy=> .inl ((unhide HCQ).co y hy)) h.r (fun y hy=> .inl ((unhide HCQ).cr y hy))
   (fun g' hg' _ h6=>⟨fun e=>by have:=(unhide HCQ).co g' e;omega,fun e=>by have:=(unhide HCQ).cr g' e;omega⟩) (fun y hy h6 e=>by have:=(unhide HCQ).co y hy;omega))))
 have HBF:Hid (Below w.heap.size w W'):=(unhide HB7).trans (hkf.below (fun x hx=>by have:x=w.heap.size+2:=(by simpa using hx);omega) (unhide HB7).size)
 obtain⟨x0,x1,x2,x3,x4,x5,x6,x7,x8⟩:=nine e4
 clear hW' e4 hkf
 exact bodyPost_ret (v:= .tuple #[.agg #[.int .i64 n.id,.int .i64 n.par,.slice A1.k n.kids.length A1.ck,.int .i64 n.next,.slice pa RL.length pc,.slice A1.o n.out.length A1.co,.slice A1.s n.seen.length A1.cs,.int .i64 n.old,.slice A1.r n.reqs.length A1.cr],.slice (some ⟨W0.heap.size,0,none⟩) 0 0,.int .i64 0]) (by simp[results,Tryz.results29,go_sem,x0,x1,x2,x3,x4,x5,x6,x7,x8]) rfl ⟨⟨A1.k,pa,A1.o,A1.s,A1.r,A1.ck,pc,A1.co,A1.cs,A1.cr⟩,some ⟨W0.heap.size,0,none⟩,0,rfl,unhide HAT,fun W'' _ i hi=>by simp at hi,unhide HBF⟩
end Go.Proofs.YtdlokncalhopoaaGreat
