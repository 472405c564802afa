/- Parts. -/
import Derived.Test.YtdlokncalhopoaaGreatPy38
import Derived.Test.YtdlokncalhopoaaGreatPy33
import Derived.Test.YtdlokncalhopoaaGreatPy34
namespace Go.Proofs.YtdlokncalhopoaaGreat
set_option maxHeartbeats 8000000
set_option maxRecDepth 100000
open Go.RowKit
open Mth
theorem specDo_back (n:Nd) (A:Ads) (K no:Int) (k:ByteArray) (nn mK mF mT mI mL:Int) (mk:ByteArray) (mN:Int) (w:World) (hz:NdSz n 1048576) (hk:k.size≤1048576) (hmk:mk.size≤1048576) (hok:ndOk n=true) (hop:opOk ⟨K,no,k,nn,⟨mK,mF,mT,mI,mL,mk,mN⟩⟩=true) (hK:K=4) (hpar:n.par≠ -1) (ha:NodeAt w A n):Calls Tryz.prog 29 #[ndv n A,.agg #[.int .i64 K,.int .i64 no,.string k,.int .i64 nn,.int .i64 mK,.int .i64 mF,.int .i64 mT,.int .i64 mI,.int .i64 mL,.string mk,.int .i64 mN]] w (GivesE w ((giveN n n.par k nn).1,(giveN n n.par k nn).2.1,if (giveN n n.par k nn).2.2=true then 0 else 1)):=by
 subst hK
 unfold GivesE
 have HOK:=hide (fun W (h:Below w.heap.size w W)=>specNodeOk n A W (hz.mono (by omega)) (ha.below h))
 rw [hok] at HOK
 have hpz:(decide (n.par < 0))=false:=by
  have h:=(ndOk_parts hok).1
  unfold placeB at h
  simp only[Bool.and_eq_true,decide_eq_true_eq] at h
  exact decide_eq_false (by omega)
 have HCL:=hide (fun W A1 G1 c (hB:0≤W.heap.size) (h9:∀x,6 < c x→c x=9) (hp:((∃g,A1.p=some ⟨g,0,none⟩)∧n.pu.length≤A1.cp)∧(∃g,A1.r=some ⟨g,0,none⟩)∧n.reqs.length≤A1.cr) (hN:NQ W 0 n A1 G1 c)=>specGive n A1 G1 c n.par k nn W 0 hB h9 hz hk hp.1.1 hp.1.2 (by have h:=(ndOk_parts hok).2.2.2.1;unfold smB at h;simp at h;omega) hN)
 unfold GivesT at HCL
 generalize giveN n n.par k nn=GV at *
 obtain⟨N1,L1,b1⟩:=GV
 dsimp only at HCL ⊢
 generalize (if b1=true then(0:Int) else 1)=code1 at *
 have HOP:=hide (fun W=>specOpOk ⟨4,no,k,nn,⟨mK,mF,mT,mI,mL,mk,mN⟩⟩ W (by unfold maxLen;dsimp only;omega) (by unfold maxLen;dsimp only;omega))
 rw [hop] at HOP
 unfold opw at HOP
 clear hop
 have HCP:=hide (fun W (h:Below w.heap.size w W)=>specCopyNode n A W hz (ha.below h))
 clear hz ha hok
 go_enter Tryz.func29,Tryz.ntmps29
 go_upto_region 2 with fail
 refine wp_at (fun W1 hW=>?_)
 obtain⟨e1,e2,e3,e4⟩:=allocs3E w (.cells (ndc n A) 30) (.cells #[.int .i64 4,.int .i64 no,.string k,.int .i64 nn,.int .i64 mK,.int .i64 mF,.int .i64 mT,.int .i64 mI,.int .i64 mL,.string mk,.int .i64 mN] 48) (.cells zc9 30)
 have hsz:(((w.alloc (.cells (ndc n A) 30)).alloc (.cells #[.int .i64 4,.int .i64 no,.string k,.int .i64 nn,.int .i64 mK,.int .i64 mF,.int .i64 mT,.int .i64 mI,.int .i64 mL,.string mk,.int .i64 mN] 48)).alloc (.cells zc9 30)).heap.size=w.heap.size+3:=by simp
 generalize hW0:((w.alloc (.cells (ndc n A) 30)).alloc (.cells #[.int .i64 4,.int .i64 no,.string k,.int .i64 nn,.int .i64 mK,.int .i64 mF,.int .i64 mT,.int .i64 mI,.int .i64 mL,.string mk,.int .i64 mN] 48)).alloc (.cells zc9 30)=W0 at *
 have hb:=below_one W0 (.cells #[] 37)
 have hW1:W1=W0.alloc (.cells #[] 37):=by rw [hW,←hW0]
 rw [←hW1] at hb
 have HN:=hide (obj_step e1 hb)
 have HO:=hide (obj_step e2 hb)
 have HR:=hide (obj_step e3 hb)
 have HB1:=hide (e4.trans (hb.mono e4.size))
 clear hW hW0 hW1 e1 e2 e3 e4 hb
 obtain⟨c0,c1,c2,c3,c4,c5,c6,c7,c8⟩:=nine (unhide HN)
 obtain⟨⟨p0,p1,p2,p3,p4,p5,p6,p7,p8,p9,p10⟩,_⟩:=eleven_at (unhide HO)
 have hnl:=obj_lt (unhide HN)
 have hol:=obj_lt (unhide HO)
 go_wp2_with fail
 refine(unhide HOK W1 (unhide HB1)).mono ?_
 rintro e W2 ⟨rfl,hb2⟩
 have HN_2:=hide (obj_step (unhide HN) hb2)
 have HO_2:=hide (obj_step (unhide HO) hb2)
 have HR_2:=hide (obj_step (unhide HR) hb2)
 have HB2:=hide ((unhide HB1).trans (hb2.mono (unhide HB1).size))
 clear hb2 c0 c1 c2 c3 c4 c5 c6 c7 c8 p0 p1 p2 p3 p4 p5 p6 p7 p8 p9 p10 hnl hol HOK HN HO HR HB1
 obtain⟨⟨p0,p1,p2,p3,p4,p5,p6,p7,p8,p9,p10⟩,_⟩:=eleven_at (unhide HO_2)
 have hol:=obj_lt (unhide HO_2)
 go_wp2_with fail
 refine(unhide HOP W2).mono ?_
 rintro e W4 ⟨rfl,hb4⟩
 have HN_5:=hide (obj_step (unhide HN_2) hb4)
 have HO_5:=hide (obj_step (unhide HO_2) hb4)
 have HR_5:=hide (obj_step (unhide HR_2) hb4)
 have HB5:=hide ((unhide HB2).trans (hb4.mono (unhide HB2).size))
 clear hb4 p0 p1 p2 p3 p4 p5 p6 p7 p8 p9 p10 hol HOP HN_2 HO_2 HR_2 HB2
 obtain⟨c0,c1,c2,c3,c4,c5,c6,c7,c8⟩:=nine (unhide HN_5)
 have hnl:=obj_lt (unhide HN_5)
 go_wp2_with fail
 refine(unhide HCP W4 (unhide HB5)).mono ?_
 rintro e W3 ⟨A1,G1,cc,rfl,hNO,hb3,hP1,hP2,hR1,hR2⟩
 have HR_3:=hide (obj_step (unhide HR_5) hb3)
 have HN_3:=hide (obj_step (unhide HN_5) hb3)
 have HO_3:=hide (obj_step (unhide HO_5) hb3)
 have HB3:=hide ((unhide HB5).trans (hb3.mono (unhide HB5).size))
 have HPR:=hide (And.intro (And.intro hP1 hP2) (And.intro hR1 hR2))
 have HNO:=hide (hNO.flat (b:=0) (Nat.zero_le _))
 have HC9:=hide (fun x (hx:x < w.heap.size+3)=>flatC_own (b:=0) (Nat.zero_le _) (hNO.lo x (by have:=obj_lt (unhide HR_5);omega)))
 have hrs:=obj_lt (unhide HR_5)
 have H9:=hide (flatC_h9 0 cc)
 generalize flatC 0 cc=c at *
 have HC2:=hide (unhide HC9 (w.heap.size+2) (by omega))
 have HC0:=hide (unhide HC9 w.heap.size (by omega))
 clear hb3 hNO hP1 hP2 hR1 hR2 c0 c1 c2 c3 c4 c5 c6 c7 c8 hnl HCP HN_5 HO_5 HR_5
 obtain⟨d0,d1,d2,d3,d4,d5,d6,d7,d8⟩:=nine (unhide HN_3)
 have f0:=obj_free (unhide HN_3) 0
 have f1:=obj_free (unhide HN_3) 1
 have f2:=obj_free (unhide HN_3) 2
 have f3:=obj_free (unhide HN_3) 3
 have f4:=obj_free (unhide HN_3) 4
 have f5:=obj_free (unhide HN_3) 5
 have f6:=obj_free (unhide HN_3) 6
 have f7:=obj_free (unhide HN_3) 7
 have f8:=obj_free (unhide HN_3) 8
 obtain⟨⟨p0,p1,p2,p3,p4,p5,p6,p7,p8,p9,p10⟩,_⟩:=eleven_at (unhide HO_3)
 have hnl:=obj_lt (unhide HN_3)
 have hol:=obj_lt (unhide HO_3)
 go_upto_region 5 with fail
 refine wp_at (fun X hX=>?_)
 have e5:X.heap[w.heap.size]?=some (.cells #[.int .i64 n.id,.int .i64 n.par,.slice A1.k n.kids.length A1.ck,.int .i64 n.next,.slice A1.p n.pu.length A1.cp,.slice A1.o n.out.length A1.co,.slice A1.s n.seen.length A1.cs,.int .i64 n.old,.slice A1.r n.reqs.length A1.cr] 30 (0,0)):=by
  rw [hX]
  exact GR.setW_blk [.int .i64 n.id,.int .i64 n.par,.slice A1.k n.kids.length A1.ck,.int .i64 n.next,.slice A1.p n.pu.length A1.cp,.slice A1.o n.out.length A1.co,.slice A1.s n.seen.length A1.cs,.int .i64 n.old,.slice A1.r n.reqs.length A1.cr] (o:=0) (xs:=[.int .i64 n.id,.int .i64 n.par,.slice A.k n.kids.length A.ck,.int .i64 n.next,.slice A.p n.pu.length A.cp,.slice A.o n.out.length A.co,.slice A.s n.seen.length A.cs,.int .i64 n.old,.slice A.r n.reqs.length A.cr]) (unhide HN_3)
 have hkx:KeepsL [w.heap.size] W3 X:=by
  rw [hX]
  exact setW_keeps [.int .i64 n.id,.int .i64 n.par,.slice A1.k n.kids.length A1.ck,.int .i64 n.next,.slice A1.p n.pu.length A1.cp,.slice A1.o n.out.length A1.co,.slice A1.s n.seen.length A1.cs,.int .i64 n.old,.slice A1.r n.reqs.length A1.cr] W3 0
 have HNX:=hide e5
 have HOX:=hide ((hkx.block _ (obj_lt (unhide HO_3)) (by simp)).trans (unhide HO_3))
 have HRX:=hide ((hkx.block _ (obj_lt (unhide HR_3)) (by simp)).trans (unhide HR_3))
 have HBX:=hide ((unhide HB3).trans (hkx.below (B:=w.heap.size) (fun x hx=>by have:x=w.heap.size:=(by simpa using hx);omega) (unhide HB3).size))
 have HNO5:=hide ((unhide HNO).kc (k:=9) (KC.keeps hkx (fun x hx=>by have:x=w.heap.size:=(by simpa using hx);rw [this];exact unhide HC0)) (by omega))
 clear e5 hkx hX d0 d1 d2 d3 d4 d5 d6 d7 d8 f0 f1 f2 f3 f4 f5 f6 f7 f8 p0 p1 p2 p3 p4 p5 p6 p7 p8 p9 p10 hnl hol HN_3 HO_3 HR_3 HB3 HNO HB5
 obtain⟨c0,c1,c2,c3,c4,c5,c6,c7,c8⟩:=nine (unhide HNX)
 obtain⟨⟨p0,p1,p2,p3,p4,p5,p6,p7,p8,p9,p10⟩,_⟩:=eleven_at (unhide HOX)
 have hnl:=obj_lt (unhide HNX)
 have hol:=obj_lt (unhide HOX)
 go_wp2_with fail
 refine(unhide HCL X A1 G1 c (Nat.zero_le _) (unhide H9) (unhide HPR) (unhide HNO5)).mono ?_
 rintro e W5 ⟨A2,ma,mc,rfl,hat,hmt,hb5,hap⟩
 have HMT1:=hide hmt
 clear hmt
 have HR_6:=hide ((hap _ (obj_lt (unhide HRX)) (by rw [unhide HC2];omega)).trans (unhide HRX))
 have HAT1:=hide hat
 have HB6:=hide (below_apart (unhide HBX) hb5 hap (unhide HC9))
 have hrx:=obj_lt (unhide HRX)
 clear hat hb5 hap c0 c1 c2 c3 c4 c5 c6 c7 c8 p0 p1 p2 p3 p4 p5 p6 p7 p8 p9 p10 hnl hol HCL HNX HOX HRX HNO5 HPR
 obtain⟨d0,d1,d2,d3,d4,d5,d6,d7,d8⟩:=nine (unhide HR_6)
 have f0:=obj_free (unhide HR_6) 0
 have f1:=obj_free (unhide HR_6) 1
 have f2:=obj_free (unhide HR_6) 2
 have f3:=obj_free (unhide HR_6) 3
 have f4:=obj_free (unhide HR_6) 4
 have f5:=obj_free (unhide HR_6) 5
 have f6:=obj_free (unhide HR_6) 6
 have f7:=obj_free (unhide HR_6) 7
 have f8:=obj_free (unhide HR_6) 8
 have hrl:=obj_lt (unhide HR_6)
 go_wp2_with fail
 refine bodyPost_atN (fun W' hW'=>?_)
 have e4:W'.heap[w.heap.size+2]?=some (.cells #[.int .i64 N1.id,.int .i64 N1.par,.slice A2.k N1.kids.length A2.ck,.int .i64 N1.next,.slice A2.p N1.pu.length A2.cp,.slice A2.o N1.out.length A2.co,.slice A2.s N1.seen.length A2.cs,.int .i64 N1.old,.slice A2.r N1.reqs.length A2.cr] 30 (0,0)):=by
  rw [hW']
  exact GR.setW_blk [.int .i64 N1.id,.int .i64 N1.par,.slice A2.k N1.kids.length A2.ck,.int .i64 N1.next,.slice A2.p N1.pu.length A2.cp,.slice A2.o N1.out.length A2.co,.slice A2.s N1.seen.length A2.cs,.int .i64 N1.old,.slice A2.r N1.reqs.length A2.cr] (o:=0) (xs:=[.int .i64 0,.int .i64 0,.slice none 0 0,.int .i64 0,.slice none 0 0,.slice none 0 0,.slice none 0 0,.int .i64 0,.slice none 0 0]) (unhide HR_6)
 have hkf:KeepsL [w.heap.size+2] W5 W':=by
  rw [hW']
  exact setW_keeps [.int .i64 N1.id,.int .i64 N1.par,.slice A2.k N1.kids.length A2.ck,.int .i64 N1.next,.slice A2.p N1.pu.length A2.cp,.slice A2.o N1.out.length A2.co,.slice A2.s N1.seen.length A2.cs,.int .i64 N1.old,.slice A2.r N1.reqs.length A2.cr] W5 0
 have HAT:=hide (fun W'' (ho:Aft w W' W'')=>unhide HAT1 W'' (ho.out (c:=c) (hkf) hrx (unhide HC9)))
 have HMT:=hide (fun W'' (ho:Aft w W' W'')=>unhide HMT1 W'' (ho.out (c:=c) (hkf) hrx (unhide HC9)))
 have HBF:Hid (Below w.heap.size w W'):=(unhide HB6).trans (hkf.below (fun x hx=>by have:x=w.heap.size+2:=(by simpa using hx);omega) (unhide HB6).size)
 obtain⟨x0,x1,x2,x3,x4,x5,x6,x7,x8⟩:=nine e4
 clear hW' e4 hkf
 exact bodyPost_ret (v:= .tuple #[.agg #[.int .i64 N1.id,.int .i64 N1.par,.slice A2.k N1.kids.length A2.ck,.int .i64 N1.next,.slice A2.p N1.pu.length A2.cp,.slice A2.o N1.out.length A2.co,.slice A2.s N1.seen.length A2.cs,.int .i64 N1.old,.slice A2.r N1.reqs.length A2.cr],.slice ma L1.length mc,.int .i64 code1]) (by simp[results,Tryz.results29,go_sem,x0,x1,x2,x3,x4,x5,x6,x7,x8]) rfl ⟨A2,ma,mc,rfl,unhide HAT,unhide HMT,unhide HBF⟩
theorem specTake (n:Nd) (A:Ads) (G:Blks) (c:Nat→Nat) (mK mF mT mI mL:Int) (mk:ByteArray) (mN:Int) (w:World) (B:Nat) (hB:B≤w.heap.size) (h9:∀x,6 < c x→c x=9)
 (hz:NdSz n 1048576) (hmk:mk.size≤1048576) (hP:∃g,A.p=some ⟨g,0,none⟩) (hPc:n.pu.length≤A.cp) (hok:ndOk n=true) (hF:nearB n mF=true) (h:NQ w B n A G c):
 Calls Tryz.prog 68 #[ndv n A,.agg #[.int .i64 mK,.int .i64 mF,.int .i64 mT,.int .i64 mI,.int .i64 mL,.string mk,.int .i64 mN]] w
  (GivesT w B c ((takeN n ⟨mK,mF,mT,mI,mL,mk,mN⟩).1,if (takeN n ⟨mK,mF,mT,mI,mL,mk,mN⟩).2=true then[ackM n ⟨mK,mF,mT,mI,mL,mk,mN⟩] else[],if (takeN n ⟨mK,mF,mT,mI,mL,mk,mN⟩).2=true then 0 else 1)):=by
 obtain⟨hi,hif⟩:=seenI_lt hok hF
 have hsn:=seen_mem hok _ (List.getElem_mem hi)
 have hsl:n.seen.length≤1000:=by
  have h1:=(ndOk_parts hok).1
  have h2:=(ndOk_parts hok).2.2.1
  have h3:=nbrs_length h1
  rw [told_eq h1,Bool.and_eq_true,decide_eq_true_eq] at h2
  have h4:=congrArg List.length h2.1
  rw [List.length_map,srt_length] at h4
  unfold placeB at h1
  simp only[Bool.and_eq_true,decide_eq_true_eq] at h1
  split at h3<;>omega
 have hil:n.seen[seenI n.seen mF].ids.length≤1000:=by
  unfold snB at hsn
  simp only[Bool.and_eq_true,decide_eq_true_eq] at hsn
  omega
 have hbef:∀x (hx:x < n.seen.length),x < seenI n.seen mF→n.seen[x].f≠mF:=fun x hx hlt=>by
  have:=List.not_of_lt_findIdx (p:=fun s:Sn=>decide (s.f=mF)) (xs:=n.seen) hlt
  simpa using this
 obtain⟨ak,ap,ao,as',ar,ck,cp,co,cs,cr⟩:=A
 cases hh:hasS n.seen[seenI n.seen mF] mL mI
 ·cases hu:addP n.pu mk 0 1 0 mN with
  |mk RL ok=>
   by_cases hg:ok=true∧(idsS n.seen[seenI n.seen mF] mL).length < 40
   ·have hgb:gainB n n.seen[seenI n.seen mF] ⟨mK,mF,mT,mI,mL,mk,mN⟩=true:=by
     unfold gainB
     dsimp only
     rw [hu,hg.1,decide_eq_true hg.2]
     rfl
    rw [takeN_gain (m:=⟨mK,mF,mT,mI,mL,mk,mN⟩) hi rfl rfl hh hgb]
    obtain⟨rfl,hg2⟩:=hg
    have hres:=specTake_gain n ak ap ao as' ar ck cp co cs cr G c mK mF mT mI mL mk mN w B hB h9 _ hi _ rfl hif hbef hsl hil hz hmk hP hPc RL hu hh hg2 h
    dsimp only
    rw [hu]
    exact hres
   ·have hgb:gainB n n.seen[seenI n.seen mF] ⟨mK,mF,mT,mI,mL,mk,mN⟩=false:=by
     unfold gainB
     dsimp only
     rw [hu]
     cases ok
     ·rfl
     ·rw [decide_eq_false (fun h=>hg ⟨rfl,h⟩)]
      rfl
    rw [takeN_no (m:=⟨mK,mF,mT,mI,mL,mk,mN⟩) hi rfl rfl hh hgb]
    exact specTake_no n ak ap ao as' ar ck cp co cs cr G c mK mF mT mI mL mk mN w B hB h9 _ hi _ rfl hif hbef hsl hil hz hmk hP hPc RL ok hu hh (by
     cases ok
     ·exact .inl rfl
     ·exact .inr (by have:¬(idsS n.seen[seenI n.seen mF] mL).length < 40:=fun h=>hg ⟨rfl,h⟩;omega)) h
 ·rw [takeN_has (m:=⟨mK,mF,mT,mI,mL,mk,mN⟩) hi rfl rfl hh]
  exact specTake_has n ak ap ao as' ar ck cp co cs cr G c mK mF mT mI mL mk mN w B hB h9 _ hi _ rfl hif hbef hsl hil hh h
end Go.Proofs.YtdlokncalhopoaaGreat
