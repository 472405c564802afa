/- Parts. -/
import Derived.Test.YtdlokncalhopoaaGreatPy23
import Derived.Test.YtdlokncalhopoaaGreatPy21
import Derived.Test.YtdlokncalhopoaaGreatPy16
import Derived.BigQuiet
namespace Go.Proofs.YtdlokncalhopoaaGreat
set_option maxHeartbeats 8000000
set_option maxRecDepth 100000
open Go.RowKit
open Mth
theorem specAdm_stale (n:Nd) (A:Ads) (G:Blks) (c:Nat→Nat) (K no:Int) (k:ByteArray) (nn mK mF mT mI mL:Int) (mk:ByteArray) (mN:Int) (w:World) (B:Nat) (hB:B≤w.heap.size) (h9:∀x,6 < c x→c x=9) (hs:no≤n.old) (h:NQ w B n A G c):Calls Tryz.prog 48 #[ndv n A,.agg #[.int .i64 K,.int .i64 no,.string k,.int .i64 nn,.int .i64 mK,.int .i64 mF,.int .i64 mT,.int .i64 mI,.int .i64 mL,.string mk,.int .i64 mN]] w (GivesR w B c (n,2)):=by
 unfold GivesR
 have H9:=hide h9
 clear h9
 have HNO:=hide (h.nine hB)
 clear h
 go_enter Tryz.func48,Tryz.ntmps48
 go_upto_region 1 with fail
 refine wp_at (fun W0 hW=>?_)
 obtain⟨e1,e2,e3,e4⟩:=allocs3E w (.cells (ndc n A) 30) (.cells #[.int .i64 K,.int .i64 no,.string k,.int .i64 nn,.int .i64 mK,.int .i64 mF,.int .i64 mT,.int .i64 mI,.int .i64 mL,.string mk,.int .i64 mN] 48) (.cells zc9 30)
 rw [←hW] at e1 e2 e3 e4
 have HN:=hide e1
 have HO:=hide e2
 have HR:=hide e3
 have HB0:=hide e4
 have HN0:=hide ((unhide HNO).kc (k:=9) (KC.of_below e4) (by omega))
 clear hW e1 e2 e3 e4 HNO
 obtain⟨⟨p0,p1,p2,p3,p4,p5,p6,p7,p8,p9,p10⟩,_⟩:=eleven_at (unhide HO)
 have hol:=obj_lt (unhide HO)
 obtain⟨c0,c1,c2,c3,c4,c5,c6,c7,c8⟩:=nine (unhide HN)
 obtain⟨d0,d1,d2,d3,d4,d5,d6,d7,d8⟩:=nine (unhide HR)
 have f0:=obj_free (unhide HR) 0
 have f1:=obj_free (unhide HR) 1
 have f2:=obj_free (unhide HR) 2
 have f3:=obj_free (unhide HR) 3
 have f4:=obj_free (unhide HR) 4
 have f5:=obj_free (unhide HR) 5
 have f6:=obj_free (unhide HR) 6
 have f7:=obj_free (unhide HR) 7
 have f8:=obj_free (unhide HR) 8
 have hnl:=obj_lt (unhide HN)
 have hrl:=obj_lt (unhide HR)
 go_wp2_with fail
 refine bodyPost_atN (fun W' hW'=>?_)
 have e4:W'.heap[w.heap.size+2]?=some (.cells #[.int .i64 n.id,.int .i64 n.par,.slice A.k n.kids.length A.ck,.int .i64 n.next,.slice A.p n.pu.length A.cp,.slice A.o n.out.length A.co,.slice A.s n.seen.length A.cs,.int .i64 n.old,.slice A.r n.reqs.length A.cr] 30 (0,0)):=by
  rw [hW']
  exact GR.setW_blk [.int .i64 n.id,.int .i64 n.par,.slice A.k n.kids.length A.ck,.int .i64 n.next,.slice A.p n.pu.length A.cp,.slice A.o n.out.length A.co,.slice A.s n.seen.length A.cs,.int .i64 n.old,.slice A.r n.reqs.length A.cr] (o:=0) (xs:=[.int .i64 0,.int .i64 0,.slice none 0 0,.int .i64 0,.slice none 0 0,.slice none 0 0,.slice none 0 0,.int .i64 0,.slice none 0 0]) (unhide HR)
 have hkf:KeepsL [w.heap.size+2] W0 W':=by
  rw [hW']
  exact setW_keeps [.int .i64 n.id,.int .i64 n.par,.slice A.k n.kids.length A.ck,.int .i64 n.next,.slice A.p n.pu.length A.cp,.slice A.o n.out.length A.co,.slice A.s n.seen.length A.cs,.int .i64 n.old,.slice A.r n.reqs.length A.cr] W0 0
 have HAT:=hide (fun W'' (ho:Out c w W' W'')=>((unhide HN0).kc (k:=9) ((KC.keeps hkf (fun x hx=>by have:x=w.heap.size+2:=(by simpa using hx);rw [this];exact newC_new (by omega))).trans (KC.out (unhide H9) ho)) (by omega)).rm)
 have HBF:Hid (Below B w W'):=((unhide HB0).mono hB).trans (hkf.below (fun x hx=>by have:x=w.heap.size+2:=(by simpa using hx);omega) (Nat.le_trans hB ((unhide HB0).mono hB).size))
 have HKF:=hide (Apart.keeps (c:=c) (Apart.of_below ((unhide HB0))) ((unhide HB0).mono hB).size hkf (fun x hx=>by have:x=w.heap.size+2:=(by simpa using hx);omega))
 obtain⟨x0,x1,x2,x3,x4,x5,x6,x7,x8⟩:=nine e4
 clear hW' e4 hkf
 exact bodyPost_ret (v:= .tuple #[.agg #[.int .i64 n.id,.int .i64 n.par,.slice A.k n.kids.length A.ck,.int .i64 n.next,.slice A.p n.pu.length A.cp,.slice A.o n.out.length A.co,.slice A.s n.seen.length A.cs,.int .i64 n.old,.slice A.r n.reqs.length A.cr],.int .i64 2]) (by simp[results,Tryz.results48,go_sem,x0,x1,x2,x3,x4,x5,x6,x7,x8]) rfl ⟨A,rfl,unhide HAT,unhide HBF,unhide HKF⟩
theorem specAdm_f0 (n:Nd) (a_k a_p a_o a_s a_r:Option Addr) (a_ck a_cp a_co a_cs a_cr:Nat) (G:Blks) (c:Nat→Nat) (K no:Int) (k:ByteArray) (nn mK mF mT mI mL:Int) (mk:ByteArray) (mN:Int) (w:World) (B:Nat) (hB:B≤w.heap.size) (h9:∀x,6 < c x→c x=9) (i:Nat) (hi:i < n.reqs.length) (hok:reqsB n=true) (hs:¬no≤n.old) (hJ:reqJ n.reqs no=i) (rq:Rq) (hrq:n.reqs[i]=rq) (h1:(rq.s == 0)=false) (h:NQ w B n (⟨a_k,a_p,a_o,a_s,a_r,a_ck,a_cp,a_co,a_cs,a_cr⟩:Ads) G c):Calls Tryz.prog 48 #[ndv n (⟨a_k,a_p,a_o,a_s,a_r,a_ck,a_cp,a_co,a_cs,a_cr⟩:Ads),.agg #[.int .i64 K,.int .i64 no,.string k,.int .i64 nn,.int .i64 mK,.int .i64 mF,.int .i64 mT,.int .i64 mI,.int .i64 mL,.string mk,.int .i64 mN]] w (GivesR w B c (n,1)):=by
 have hiI:(i:Int) < (n.reqs.length:Int):=by omega
 have HRQ0:=hide hrq
 clear hrq
 have hp:=reqs_asc hok
 have HRQ:=hide (fun W1 (ha:ReqAt W1 a_r n.reqs)=>specReq n (⟨a_k,a_p,a_o,a_s,a_r,a_ck,a_cp,a_co,a_cs,a_cr⟩:Ads) no W1 (by omega) hp.1 ha)
 rw [hJ] at HRQ
 clear hp hok hJ
 unfold GivesR
 have H9:=hide h9
 clear h9
 have HNO:=hide (h.nine hB)
 clear h
 go_enter Tryz.func48,Tryz.ntmps48
 go_upto_region 1 with fail
 refine wp_at (fun W0 hW=>?_)
 obtain⟨e1,e2,e3,e4⟩:=allocs3E w (.cells (ndc n (⟨a_k,a_p,a_o,a_s,a_r,a_ck,a_cp,a_co,a_cs,a_cr⟩:Ads)) 30) (.cells #[.int .i64 K,.int .i64 no,.string k,.int .i64 nn,.int .i64 mK,.int .i64 mF,.int .i64 mT,.int .i64 mI,.int .i64 mL,.string mk,.int .i64 mN] 48) (.cells zc9 30)
 rw [←hW] at e1 e2 e3 e4
 have HN:=hide e1
 have HO:=hide e2
 have HR:=hide e3
 have HB0:=hide e4
 have HN0:=hide ((unhide HNO).kc (k:=9) (KC.of_below e4) (by omega))
 clear hW e1 e2 e3 e4 HNO
 obtain⟨⟨p0,p1,p2,p3,p4,p5,p6,p7,p8,p9,p10⟩,_⟩:=eleven_at (unhide HO)
 obtain⟨c0,c1,c2,c3,c4,c5,c6,c7,c8⟩:=nine (unhide HN)
 have hol:=obj_lt (unhide HO)
 have hnl:=obj_lt (unhide HN)
 go_wp2_with fail
 refine(unhide HRQ W0 (unhide HN0).at.r).mono ?_
 rintro e W1 ⟨rfl,hb1⟩
 have HN_1:=hide (obj_step (unhide HN) hb1)
 have HO_1:=hide (obj_step (unhide HO) hb1)
 have HR_1:=hide (obj_step (unhide HR) hb1)
 have HB1:=hide ((unhide HB0).trans (hb1.mono (unhide HB0).size))
 have HN1:=hide ((unhide HN0).kc (k:=9) (KC.of_below hb1) (by omega))
 clear hb1 c0 c1 c2 c3 c4 c5 c6 c7 c8 p0 p1 p2 p3 p4 p5 p6 p7 p8 p9 p10 hnl hol HRQ HN HO HR HN0 HB0
 obtain⟨g,off,e0,hg,q0,q1,q2,q3⟩:=ReqAt.four (unhide HN1).at.r i hi
 rw [unhide HRQ0] at q0 q1 q2 q3
 clear HRQ0
 obtain⟨rno,rk,rn,rs⟩:=rq
 dsimp only at q0 q1 q2 q3 h1
 obtain⟨⟨p0,p1,p2,p3,p4,p5,p6,p7,p8,p9,p10⟩,_⟩:=eleven_at (unhide HO_1)
 have hol:=obj_lt (unhide HO_1)
 obtain⟨c0,c1,c2,c3,c4,c5,c6,c7,c8⟩:=nine (unhide HN_1)
 obtain⟨d0,d1,d2,d3,d4,d5,d6,d7,d8⟩:=nine (unhide HR_1)
 have f0:=obj_free (unhide HR_1) 0
 have f1:=obj_free (unhide HR_1) 1
 have f2:=obj_free (unhide HR_1) 2
 have f3:=obj_free (unhide HR_1) 3
 have f4:=obj_free (unhide HR_1) 4
 have f5:=obj_free (unhide HR_1) 5
 have f6:=obj_free (unhide HR_1) 6
 have f7:=obj_free (unhide HR_1) 7
 have f8:=obj_free (unhide HR_1) 8
 have hnl:=obj_lt (unhide HN_1)
 have hrl:=obj_lt (unhide HR_1)
 clear q0
 dsimp only at e0
 subst e0
 go_wp2_with fail
 go_quiet (fail)
 go_wp2_with fail
 refine bodyPost_atN (fun W' hW'=>?_)
 have e4:W'.heap[w.heap.size+2]?=some (.cells #[.int .i64 n.id,.int .i64 n.par,.slice a_k n.kids.length a_ck,.int .i64 n.next,.slice a_p n.pu.length a_cp,.slice a_o n.out.length a_co,.slice a_s n.seen.length a_cs,.int .i64 n.old,.slice (some ⟨g,off,none⟩) n.reqs.length a_cr] 30 (0,0)):=by
  rw [hW']
  exact GR.setW_blk [.int .i64 n.id,.int .i64 n.par,.slice a_k n.kids.length a_ck,.int .i64 n.next,.slice a_p n.pu.length a_cp,.slice a_o n.out.length a_co,.slice a_s n.seen.length a_cs,.int .i64 n.old,.slice (some ⟨g,off,none⟩) n.reqs.length a_cr] (o:=0) (xs:=[.int .i64 0,.int .i64 0,.slice none 0 0,.int .i64 0,.slice none 0 0,.slice none 0 0,.slice none 0 0,.int .i64 0,.slice none 0 0]) (unhide HR_1)
 have hkf:KeepsL [w.heap.size+2] W1 W':=by
  rw [hW']
  exact KeepsL.trans (b:=W1.drewN nq) ⟨rfl,rfl,rfl,Nat.le_refl _,fun _ _ _=>rfl⟩ (setW_keeps [.int .i64 n.id,.int .i64 n.par,.slice a_k n.kids.length a_ck,.int .i64 n.next,.slice a_p n.pu.length a_cp,.slice a_o n.out.length a_co,.slice a_s n.seen.length a_cs,.int .i64 n.old,.slice (some ⟨g,off,none⟩) n.reqs.length a_cr] (W1.drewN nq) 0)
 have HAT:=hide (fun W'' (ho:Out c w W' W'')=>((unhide HN1).kc (k:=9) ((KC.keeps hkf (fun x hx=>by have:x=w.heap.size+2:=(by simpa using hx);rw [this];exact newC_new (by omega))).trans (KC.out (unhide H9) ho)) (by omega)).rm)
 have HBF:Hid (Below B w W'):=((unhide HB1).mono hB).trans (hkf.below (fun x hx=>by have:x=w.heap.size+2:=(by simpa using hx);omega) (Nat.le_trans hB ((unhide HB1).mono hB).size))
 have HKF:=hide (Apart.keeps (c:=c) (Apart.of_below ((unhide HB1))) ((unhide HB1).mono hB).size hkf (fun x hx=>by have:x=w.heap.size+2:=(by simpa using hx);omega))
 obtain⟨x0,x1,x2,x3,x4,x5,x6,x7,x8⟩:=nine e4
 clear hW' e4 hkf
 exact bodyPost_ret (v:= .tuple #[.agg #[.int .i64 n.id,.int .i64 n.par,.slice a_k n.kids.length a_ck,.int .i64 n.next,.slice a_p n.pu.length a_cp,.slice a_o n.out.length a_co,.slice a_s n.seen.length a_cs,.int .i64 n.old,.slice (some ⟨g,off,none⟩) n.reqs.length a_cr],.int .i64 1]) (by simp[results,Tryz.results48,go_sem,x0,x1,x2,x3,x4,x5,x6,x7,x8]) rfl ⟨(⟨a_k,a_p,a_o,a_s,(some ⟨g,off,none⟩),a_ck,a_cp,a_co,a_cs,a_cr⟩:Ads),rfl,unhide HAT,unhide HBF,unhide HKF⟩
theorem specAdm_f1 (n:Nd) (a_k a_p a_o a_s a_r:Option Addr) (a_ck a_cp a_co a_cs a_cr:Nat) (G:Blks) (c:Nat→Nat) (K no:Int) (k:ByteArray) (nn mK mF mT mI mL:Int) (mk:ByteArray) (mN:Int) (w:World) (B:Nat) (hB:B≤w.heap.size) (h9:∀x,6 < c x→c x=9) (i:Nat) (hi:i < n.reqs.length) (hok:reqsB n=true) (hs:¬no≤n.old) (hJ:reqJ n.reqs no=i) (rq:Rq) (hrq:n.reqs[i]=rq) (h1:(rq.s == 0)=true) (h2:(rq.k.toList == k.toList)=false) (h:NQ w B n (⟨a_k,a_p,a_o,a_s,a_r,a_ck,a_cp,a_co,a_cs,a_cr⟩:Ads) G c):Calls Tryz.prog 48 #[ndv n (⟨a_k,a_p,a_o,a_s,a_r,a_ck,a_cp,a_co,a_cs,a_cr⟩:Ads),.agg #[.int .i64 K,.int .i64 no,.string k,.int .i64 nn,.int .i64 mK,.int .i64 mF,.int .i64 mT,.int .i64 mI,.int .i64 mL,.string mk,.int .i64 mN]] w (GivesR w B c (n,1)):=by
 have hiI:(i:Int) < (n.reqs.length:Int):=by omega
 have HRQ0:=hide hrq
 clear hrq
 have hp:=reqs_asc hok
 have HRQ:=hide (fun W1 (ha:ReqAt W1 a_r n.reqs)=>specReq n (⟨a_k,a_p,a_o,a_s,a_r,a_ck,a_cp,a_co,a_cs,a_cr⟩:Ads) no W1 (by omega) hp.1 ha)
 rw [hJ] at HRQ
 clear hp hok hJ
 unfold GivesR
 have H9:=hide h9
 clear h9
 have HNO:=hide (h.nine hB)
 clear h
 go_enter Tryz.func48,Tryz.ntmps48
 go_upto_region 1 with fail
 refine wp_at (fun W0 hW=>?_)
 obtain⟨e1,e2,e3,e4⟩:=allocs3E w (.cells (ndc n (⟨a_k,a_p,a_o,a_s,a_r,a_ck,a_cp,a_co,a_cs,a_cr⟩:Ads)) 30) (.cells #[.int .i64 K,.int .i64 no,.string k,.int .i64 nn,.int .i64 mK,.int .i64 mF,.int .i64 mT,.int .i64 mI,.int .i64 mL,.string mk,.int .i64 mN] 48) (.cells zc9 30)
 rw [←hW] at e1 e2 e3 e4
 have HN:=hide e1
 have HO:=hide e2
 have HR:=hide e3
 have HB0:=hide e4
 have HN0:=hide ((unhide HNO).kc (k:=9) (KC.of_below e4) (by omega))
 clear hW e1 e2 e3 e4 HNO
 obtain⟨⟨p0,p1,p2,p3,p4,p5,p6,p7,p8,p9,p10⟩,_⟩:=eleven_at (unhide HO)
 obtain⟨c0,c1,c2,c3,c4,c5,c6,c7,c8⟩:=nine (unhide HN)
 have hol:=obj_lt (unhide HO)
 have hnl:=obj_lt (unhide HN)
 go_wp2_with fail
 refine(unhide HRQ W0 (unhide HN0).at.r).mono ?_
 rintro e W1 ⟨rfl,hb1⟩
 have HN_1:=hide (obj_step (unhide HN) hb1)
 have HO_1:=hide (obj_step (unhide HO) hb1)
 have HR_1:=hide (obj_step (unhide HR) hb1)
 have HB1:=hide ((unhide HB0).trans (hb1.mono (unhide HB0).size))
 have HN1:=hide ((unhide HN0).kc (k:=9) (KC.of_below hb1) (by omega))
 clear hb1 c0 c1 c2 c3 c4 c5 c6 c7 c8 p0 p1 p2 p3 p4 p5 p6 p7 p8 p9 p10 hnl hol HRQ HN HO HR HN0 HB0
 obtain⟨g,off,e0,hg,q0,q1,q2,q3⟩:=ReqAt.four (unhide HN1).at.r i hi
 rw [unhide HRQ0] at q0 q1 q2 q3
 clear HRQ0
 obtain⟨rno,rk,rn,rs⟩:=rq
 dsimp only at q0 q1 q2 q3 h1 h2
 obtain⟨⟨p0,p1,p2,p3,p4,p5,p6,p7,p8,p9,p10⟩,_⟩:=eleven_at (unhide HO_1)
 have hol:=obj_lt (unhide HO_1)
 obtain⟨c0,c1,c2,c3,c4,c5,c6,c7,c8⟩:=nine (unhide HN_1)
 obtain⟨d0,d1,d2,d3,d4,d5,d6,d7,d8⟩:=nine (unhide HR_1)
 have f0:=obj_free (unhide HR_1) 0
 have f1:=obj_free (unhide HR_1) 1
 have f2:=obj_free (unhide HR_1) 2
 have f3:=obj_free (unhide HR_1) 3
 have f4:=obj_free (unhide HR_1) 4
 have f5:=obj_free (unhide HR_1) 5
 have f6:=obj_free (unhide HR_1) 6
 have f7:=obj_free (unhide HR_1) 7
 have f8:=obj_free (unhide HR_1) 8
 have hnl:=obj_lt (unhide HN_1)
 have hrl:=obj_lt (unhide HR_1)
 clear q0
 dsimp only at e0
 subst e0
 go_wp2_with fail
 go_quiet (fail)
 go_wp2_with fail
 refine bodyPost_atN (fun W' hW'=>?_)
 have e4:W'.heap[w.heap.size+2]?=some (.cells #[.int .i64 n.id,.int .i64 n.par,.slice a_k n.kids.length a_ck,.int .i64 n.next,.slice a_p n.pu.length a_cp,.slice a_o n.out.length a_co,.slice a_s n.seen.length a_cs,.int .i64 n.old,.slice (some ⟨g,off,none⟩) n.reqs.length a_cr] 30 (0,0)):=by
  rw [hW']
  exact GR.setW_blk [.int .i64 n.id,.int .i64 n.par,.slice a_k n.kids.length a_ck,.int .i64 n.next,.slice a_p n.pu.length a_cp,.slice a_o n.out.length a_co,.slice a_s n.seen.length a_cs,.int .i64 n.old,.slice (some ⟨g,off,none⟩) n.reqs.length a_cr] (o:=0) (xs:=[.int .i64 0,.int .i64 0,.slice none 0 0,.int .i64 0,.slice none 0 0,.slice none 0 0,.slice none 0 0,.int .i64 0,.slice none 0 0]) (unhide HR_1)
 have hkf:KeepsL [w.heap.size+2] W1 W':=by
  rw [hW']
  exact KeepsL.trans (b:=W1.drewN nq) ⟨rfl,rfl,rfl,Nat.le_refl _,fun _ _ _=>rfl⟩ (setW_keeps [.int .i64 n.id,.int .i64 n.par,.slice a_k n.kids.length a_ck,.int .i64 n.next,.slice a_p n.pu.length a_cp,.slice a_o n.out.length a_co,.slice a_s n.seen.length a_cs,.int .i64 n.old,.slice (some ⟨g,off,none⟩) n.reqs.length a_cr] (W1.drewN nq) 0)
 have HAT:=hide (fun W'' (ho:Out c w W' W'')=>((unhide HN1).kc (k:=9) ((KC.keeps hkf (fun x hx=>by have:x=w.heap.size+2:=(by simpa using hx);rw [this];exact newC_new (by omega))).trans (KC.out (unhide H9) ho)) (by omega)).rm)
 have HBF:Hid (Below B w W'):=((unhide HB1).mono hB).trans (hkf.below (fun x hx=>by have:x=w.heap.size+2:=(by simpa using hx);omega) (Nat.le_trans hB ((unhide HB1).mono hB).size))
 have HKF:=hide (Apart.keeps (c:=c) (Apart.of_below ((unhide HB1))) ((unhide HB1).mono hB).size hkf (fun x hx=>by have:x=w.heap.size+2:=(by simpa using hx);omega))
 obtain⟨x0,x1,x2,x3,x4,x5,x6,x7,x8⟩:=nine e4
 clear hW' e4 hkf
 exact bodyPost_ret (v:= .tuple #[.agg #[.int .i64 n.id,.int .i64 n.par,.slice a_k n.kids.length a_ck,.int .i64 n.next,.slice a_p n.pu.length a_cp,.slice a_o n.out.length a_co,.slice a_s n.seen.length a_cs,.int .i64 n.old,.slice (some ⟨g,off,none⟩) n.reqs.length a_cr],.int .i64 1]) (by simp[results,Tryz.results48,go_sem,x0,x1,x2,x3,x4,x5,x6,x7,x8]) rfl ⟨(⟨a_k,a_p,a_o,a_s,(some ⟨g,off,none⟩),a_ck,a_cp,a_co,a_cs,a_cr⟩:Ads),rfl,unhide HAT,unhide HBF,unhide HKF⟩
theorem specAdm_f2 (n:Nd) (a_k a_p a_o a_s a_r:Option Addr) (a_ck a_cp a_co a_cs a_cr:Nat) (G:Blks) (c:Nat→Nat) (K no:Int) (k:ByteArray) (nn mK mF mT mI mL:Int) (mk:ByteArray) (mN:Int) (w:World) (B:Nat) (hB:B≤w.heap.size) (h9:∀x,6 < c x→c x=9) (i:Nat) (hi:i < n.reqs.length) (hok:reqsB n=true) (hs:¬no≤n.old) (hJ:reqJ n.reqs no=i) (rq:Rq) (hrq:n.reqs[i]=rq) (h1:(rq.s == 0)=true) (h2:(rq.k.toList == k.toList)=true) (h3:(rq.n == nn)=false) (h:NQ w B n (⟨a_k,a_p,a_o,a_s,a_r,a_ck,a_cp,a_co,a_cs,a_cr⟩:Ads) G c):Calls Tryz.prog 48 #[ndv n (⟨a_k,a_p,a_o,a_s,a_r,a_ck,a_cp,a_co,a_cs,a_cr⟩:Ads),.agg #[.int .i64 K,.int .i64 no,.string k,.int .i64 nn,.int .i64 mK,.int .i64 mF,.int .i64 mT,.int .i64 mI,.int .i64 mL,.string mk,.int .i64 mN]] w (GivesR w B c (n,1)):=by
 have hiI:(i:Int) < (n.reqs.length:Int):=by omega
 have HRQ0:=hide hrq
 clear hrq
 have hp:=reqs_asc hok
 have HRQ:=hide (fun W1 (ha:ReqAt W1 a_r n.reqs)=>specReq n (⟨a_k,a_p,a_o,a_s,a_r,a_ck,a_cp,a_co,a_cs,a_cr⟩:Ads) no W1 (by omega) hp.1 ha)
 rw [hJ] at HRQ
 clear hp hok hJ
 unfold GivesR
 have H9:=hide h9
 clear h9
 have HNO:=hide (h.nine hB)
 clear h
 go_enter Tryz.func48,Tryz.ntmps48
 go_upto_region 1 with fail
 refine wp_at (fun W0 hW=>?_)
 obtain⟨e1,e2,e3,e4⟩:=allocs3E w (.cells (ndc n (⟨a_k,a_p,a_o,a_s,a_r,a_ck,a_cp,a_co,a_cs,a_cr⟩:Ads)) 30) (.cells #[.int .i64 K,.int .i64 no,.string k,.int .i64 nn,.int .i64 mK,.int .i64 mF,.int .i64 mT,.int .i64 mI,.int .i64 mL,.string mk,.int .i64 mN] 48) (.cells zc9 30)
 rw [←hW] at e1 e2 e3 e4
 have HN:=hide e1
 have HO:=hide e2
 have HR:=hide e3
 have HB0:=hide e4
 have HN0:=hide ((unhide HNO).kc (k:=9) (KC.of_below e4) (by omega))
 clear hW e1 e2 e3 e4 HNO
 obtain⟨⟨p0,p1,p2,p3,p4,p5,p6,p7,p8,p9,p10⟩,_⟩:=eleven_at (unhide HO)
 obtain⟨c0,c1,c2,c3,c4,c5,c6,c7,c8⟩:=nine (unhide HN)
 have hol:=obj_lt (unhide HO)
 have hnl:=obj_lt (unhide HN)
 go_wp2_with fail
 refine(unhide HRQ W0 (unhide HN0).at.r).mono ?_
 rintro e W1 ⟨rfl,hb1⟩
 have HN_1:=hide (obj_step (unhide HN) hb1)
 have HO_1:=hide (obj_step (unhide HO) hb1)
 have HR_1:=hide (obj_step (unhide HR) hb1)
 have HB1:=hide ((unhide HB0).trans (hb1.mono (unhide HB0).size))
 have HN1:=hide ((unhide HN0).kc (k:=9) (KC.of_below hb1) (by omega))
 clear hb1 c0 c1 c2 c3 c4 c5 c6 c7 c8 p0 p1 p2 p3 p4 p5 p6 p7 p8 p9 p10 hnl hol HRQ HN HO HR HN0 HB0
 obtain⟨g,off,e0,hg,q0,q1,q2,q3⟩:=ReqAt.four (unhide HN1).at.r i hi
 rw [unhide HRQ0] at q0 q1 q2 q3
 clear HRQ0
 obtain⟨rno,rk,rn,rs⟩:=rq
 dsimp only at q0 q1 q2 q3 h1 h2 h3
 obtain⟨⟨p0,p1,p2,p3,p4,p5,p6,p7,p8,p9,p10⟩,_⟩:=eleven_at (unhide HO_1)
 have hol:=obj_lt (unhide HO_1)
 obtain⟨c0,c1,c2,c3,c4,c5,c6,c7,c8⟩:=nine (unhide HN_1)
 obtain⟨d0,d1,d2,d3,d4,d5,d6,d7,d8⟩:=nine (unhide HR_1)
 have f0:=obj_free (unhide HR_1) 0
 have f1:=obj_free (unhide HR_1) 1
 have f2:=obj_free (unhide HR_1) 2
 have f3:=obj_free (unhide HR_1) 3
 have f4:=obj_free (unhide HR_1) 4
 have f5:=obj_free (unhide HR_1) 5
 have f6:=obj_free (unhide HR_1) 6
 have f7:=obj_free (unhide HR_1) 7
 have f8:=obj_free (unhide HR_1) 8
 have hnl:=obj_lt (unhide HN_1)
 have hrl:=obj_lt (unhide HR_1)
 clear q0
 dsimp only at e0
 subst e0
 go_wp2_with fail
 go_quiet (fail)
 go_wp2_with fail
 refine bodyPost_atN (fun W' hW'=>?_)
 have e4:W'.heap[w.heap.size+2]?=some (.cells #[.int .i64 n.id,.int .i64 n.par,.slice a_k n.kids.length a_ck,.int .i64 n.next,.slice a_p n.pu.length a_cp,.slice a_o n.out.length a_co,.slice a_s n.seen.length a_cs,.int .i64 n.old,.slice (some ⟨g,off,none⟩) n.reqs.length a_cr] 30 (0,0)):=by
  rw [hW']
  exact GR.setW_blk [.int .i64 n.id,.int .i64 n.par,.slice a_k n.kids.length a_ck,.int .i64 n.next,.slice a_p n.pu.length a_cp,.slice a_o n.out.length a_co,.slice a_s n.seen.length a_cs,.int .i64 n.old,.slice (some ⟨g,off,none⟩) n.reqs.length a_cr] (o:=0) (xs:=[.int .i64 0,.int .i64 0,.slice none 0 0,.int .i64 0,.slice none 0 0,.slice none 0 0,.slice none 0 0,.int .i64 0,.slice none 0 0]) (unhide HR_1)
 have hkf:KeepsL [w.heap.size+2] W1 W':=by
  rw [hW']
  exact KeepsL.trans (b:=W1.drewN nq) ⟨rfl,rfl,rfl,Nat.le_refl _,fun _ _ _=>rfl⟩ (setW_keeps [.int .i64 n.id,.int .i64 n.par,.slice a_k n.kids.length a_ck,.int .i64 n.next,.slice a_p n.pu.length a_cp,.slice a_o n.out.length a_co,.slice a_s n.seen.length a_cs,.int .i64 n.old,.slice (some ⟨g,off,none⟩) n.reqs.length a_cr] (W1.drewN nq) 0)
 have HAT:=hide (fun W'' (ho:Out c w W' W'')=>((unhide HN1).kc (k:=9) ((KC.keeps hkf (fun x hx=>by have:x=w.heap.size+2:=(by simpa using hx);rw [this];exact newC_new (by omega))).trans (KC.out (unhide H9) ho)) (by omega)).rm)
 have HBF:Hid (Below B w W'):=((unhide HB1).mono hB).trans (hkf.below (fun x hx=>by have:x=w.heap.size+2:=(by simpa using hx);omega) (Nat.le_trans hB ((unhide HB1).mono hB).size))
 have HKF:=hide (Apart.keeps (c:=c) (Apart.of_below ((unhide HB1))) ((unhide HB1).mono hB).size hkf (fun x hx=>by have:x=w.heap.size+2:=(by simpa using hx);omega))
 obtain⟨x0,x1,x2,x3,x4,x5,x6,x7,x8⟩:=nine e4
 clear hW' e4 hkf
 exact bodyPost_ret (v:= .tuple #[.agg #[.int .i64 n.id,.int .i64 n.par,.slice a_k n.kids.length a_ck,.int .i64 n.next,.slice a_p n.pu.length a_cp,.slice a_o n.out.length a_co,.slice a_s n.seen.length a_cs,.int .i64 n.old,.slice (some ⟨g,off,none⟩) n.reqs.length a_cr],.int .i64 1]) (by simp[results,Tryz.results48,go_sem,x0,x1,x2,x3,x4,x5,x6,x7,x8]) rfl ⟨(⟨a_k,a_p,a_o,a_s,(some ⟨g,off,none⟩),a_ck,a_cp,a_co,a_cs,a_cr⟩:Ads),rfl,unhide HAT,unhide HBF,unhide HKF⟩
theorem specAdm_f3 (n:Nd) (a_k a_p a_o a_s a_r:Option Addr) (a_ck a_cp a_co a_cs a_cr:Nat) (G:Blks) (c:Nat→Nat) (K no:Int) (k:ByteArray) (nn mK mF mT mI mL:Int) (mk:ByteArray) (mN:Int) (w:World) (B:Nat) (hB:B≤w.heap.size) (h9:∀x,6 < c x→c x=9) (i:Nat) (hi:i < n.reqs.length) (hok:reqsB n=true) (hs:¬no≤n.old) (hJ:reqJ n.reqs no=i) (rq:Rq) (hrq:n.reqs[i]=rq) (h1:(rq.s == 0)=true) (h2:(rq.k.toList == k.toList)=true) (h3:(rq.n == nn)=true) (h:NQ w B n (⟨a_k,a_p,a_o,a_s,a_r,a_ck,a_cp,a_co,a_cs,a_cr⟩:Ads) G c):Calls Tryz.prog 48 #[ndv n (⟨a_k,a_p,a_o,a_s,a_r,a_ck,a_cp,a_co,a_cs,a_cr⟩:Ads),.agg #[.int .i64 K,.int .i64 no,.string k,.int .i64 nn,.int .i64 mK,.int .i64 mF,.int .i64 mT,.int .i64 mI,.int .i64 mL,.string mk,.int .i64 mN]] w (GivesR w B c (n,0)):=by
 have hiI:(i:Int) < (n.reqs.length:Int):=by omega
 have HRQ0:=hide hrq
 clear hrq
 have hp:=reqs_asc hok
 have HRQ:=hide (fun W1 (ha:ReqAt W1 a_r n.reqs)=>specReq n (⟨a_k,a_p,a_o,a_s,a_r,a_ck,a_cp,a_co,a_cs,a_cr⟩:Ads) no W1 (by omega) hp.1 ha)
 rw [hJ] at HRQ
 clear hp hok hJ
 unfold GivesR
 have H9:=hide h9
 clear h9
 have HNO:=hide (h.nine hB)
 clear h
 go_enter Tryz.func48,Tryz.ntmps48
 go_upto_region 1 with fail
 refine wp_at (fun W0 hW=>?_)
 obtain⟨e1,e2,e3,e4⟩:=allocs3E w (.cells (ndc n (⟨a_k,a_p,a_o,a_s,a_r,a_ck,a_cp,a_co,a_cs,a_cr⟩:Ads)) 30) (.cells #[.int .i64 K,.int .i64 no,.string k,.int .i64 nn,.int .i64 mK,.int .i64 mF,.int .i64 mT,.int .i64 mI,.int .i64 mL,.string mk,.int .i64 mN] 48) (.cells zc9 30)
 rw [←hW] at e1 e2 e3 e4
 have HN:=hide e1
 have HO:=hide e2
 have HR:=hide e3
 have HB0:=hide e4
 have HN0:=hide ((unhide HNO).kc (k:=9) (KC.of_below e4) (by omega))
 clear hW e1 e2 e3 e4 HNO
 obtain⟨⟨p0,p1,p2,p3,p4,p5,p6,p7,p8,p9,p10⟩,_⟩:=eleven_at (unhide HO)
 obtain⟨c0,c1,c2,c3,c4,c5,c6,c7,c8⟩:=nine (unhide HN)
 have hol:=obj_lt (unhide HO)
 have hnl:=obj_lt (unhide HN)
 go_wp2_with fail
 refine(unhide HRQ W0 (unhide HN0).at.r).mono ?_
 rintro e W1 ⟨rfl,hb1⟩
 have HN_1:=hide (obj_step (unhide HN) hb1)
 have HO_1:=hide (obj_step (unhide HO) hb1)
 have HR_1:=hide (obj_step (unhide HR) hb1)
 have HB1:=hide ((unhide HB0).trans (hb1.mono (unhide HB0).size))
 have HN1:=hide ((unhide HN0).kc (k:=9) (KC.of_below hb1) (by omega))
 clear hb1 c0 c1 c2 c3 c4 c5 c6 c7 c8 p0 p1 p2 p3 p4 p5 p6 p7 p8 p9 p10 hnl hol HRQ HN HO HR HN0 HB0
 obtain⟨g,off,e0,hg,q0,q1,q2,q3⟩:=ReqAt.four (unhide HN1).at.r i hi
 rw [unhide HRQ0] at q0 q1 q2 q3
 clear HRQ0
 obtain⟨rno,rk,rn,rs⟩:=rq
 dsimp only at q0 q1 q2 q3 h1 h2 h3
 obtain⟨⟨p0,p1,p2,p3,p4,p5,p6,p7,p8,p9,p10⟩,_⟩:=eleven_at (unhide HO_1)
 have hol:=obj_lt (unhide HO_1)
 obtain⟨c0,c1,c2,c3,c4,c5,c6,c7,c8⟩:=nine (unhide HN_1)
 obtain⟨d0,d1,d2,d3,d4,d5,d6,d7,d8⟩:=nine (unhide HR_1)
 have f0:=obj_free (unhide HR_1) 0
 have f1:=obj_free (unhide HR_1) 1
 have f2:=obj_free (unhide HR_1) 2
 have f3:=obj_free (unhide HR_1) 3
 have f4:=obj_free (unhide HR_1) 4
 have f5:=obj_free (unhide HR_1) 5
 have f6:=obj_free (unhide HR_1) 6
 have f7:=obj_free (unhide HR_1) 7
 have f8:=obj_free (unhide HR_1) 8
 have hnl:=obj_lt (unhide HN_1)
 have hrl:=obj_lt (unhide HR_1)
 clear q0
 dsimp only at e0
 subst e0
 go_wp2_with fail
 go_quiet (fail)
 go_wp2_with fail
 refine bodyPost_atN (fun W' hW'=>?_)
 have e4:W'.heap[w.heap.size+2]?=some (.cells #[.int .i64 n.id,.int .i64 n.par,.slice a_k n.kids.length a_ck,.int .i64 n.next,.slice a_p n.pu.length a_cp,.slice a_o n.out.length a_co,.slice a_s n.seen.length a_cs,.int .i64 n.old,.slice (some ⟨g,off,none⟩) n.reqs.length a_cr] 30 (0,0)):=by
  rw [hW']
  exact GR.setW_blk [.int .i64 n.id,.int .i64 n.par,.slice a_k n.kids.length a_ck,.int .i64 n.next,.slice a_p n.pu.length a_cp,.slice a_o n.out.length a_co,.slice a_s n.seen.length a_cs,.int .i64 n.old,.slice (some ⟨g,off,none⟩) n.reqs.length a_cr] (o:=0) (xs:=[.int .i64 0,.int .i64 0,.slice none 0 0,.int .i64 0,.slice none 0 0,.slice none 0 0,.slice none 0 0,.int .i64 0,.slice none 0 0]) (unhide HR_1)
 have hkf:KeepsL [w.heap.size+2] W1 W':=by
  rw [hW']
  exact KeepsL.trans (b:=W1.drewN nq) ⟨rfl,rfl,rfl,Nat.le_refl _,fun _ _ _=>rfl⟩ (setW_keeps [.int .i64 n.id,.int .i64 n.par,.slice a_k n.kids.length a_ck,.int .i64 n.next,.slice a_p n.pu.length a_cp,.slice a_o n.out.length a_co,.slice a_s n.seen.length a_cs,.int .i64 n.old,.slice (some ⟨g,off,none⟩) n.reqs.length a_cr] (W1.drewN nq) 0)
 have HAT:=hide (fun W'' (ho:Out c w W' W'')=>((unhide HN1).kc (k:=9) ((KC.keeps hkf (fun x hx=>by have:x=w.heap.size+2:=(by simpa using hx);rw [this];exact newC_new (by omega))).trans (KC.out (unhide H9) ho)) (by omega)).rm)
 have HBF:Hid (Below B w W'):=((unhide HB1).mono hB).trans (hkf.below (fun x hx=>by have:x=w.heap.size+2:=(by simpa using hx);omega) (Nat.le_trans hB ((unhide HB1).mono hB).size))
 have HKF:=hide (Apart.keeps (c:=c) (Apart.of_below ((unhide HB1))) ((unhide HB1).mono hB).size hkf (fun x hx=>by have:x=w.heap.size+2:=(by simpa using hx);omega))
 obtain⟨x0,x1,x2,x3,x4,x5,x6,x7,x8⟩:=nine e4
 clear hW' e4 hkf
 exact bodyPost_ret (v:= .tuple #[.agg #[.int .i64 n.id,.int .i64 n.par,.slice a_k n.kids.length a_ck,.int .i64 n.next,.slice a_p n.pu.length a_cp,.slice a_o n.out.length a_co,.slice a_s n.seen.length a_cs,.int .i64 n.old,.slice (some ⟨g,off,none⟩) n.reqs.length a_cr],.int .i64 0]) (by simp[results,Tryz.results48,go_sem,x0,x1,x2,x3,x4,x5,x6,x7,x8]) rfl ⟨(⟨a_k,a_p,a_o,a_s,(some ⟨g,off,none⟩),a_ck,a_cp,a_co,a_cs,a_cr⟩:Ads),rfl,unhide HAT,unhide HBF,unhide HKF⟩
end Go.Proofs.YtdlokncalhopoaaGreat
