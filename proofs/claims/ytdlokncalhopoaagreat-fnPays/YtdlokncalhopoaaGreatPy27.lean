/- Parts. -/
import Derived.Test.YtdlokncalhopoaaGreatPy25
import Derived.Test.YtdlokncalhopoaaGreatPy3
import Derived.Test.YtdlokncalhopoaaGreatPy21
import Derived.Test.YtdlokncalhopoaaGreatPy16
import Derived.Test.YtdlokncalhopoaaGreatPy26
namespace Go.Proofs.YtdlokncalhopoaaGreat
set_option maxHeartbeats 8000000
set_option maxRecDepth 100000
open Go.RowKit
open Mth
theorem specHear_badT (n:Nd) (A:Ads) (G:Blks) (c:Nat→Nat) (mK mF mT mI mL:Int) (mk:ByteArray) (mN:Int) (w:World) (B:Nat) (hB:B≤w.heap.size) (h9:∀x,6 < c x→c x=9) (hkl:n.kids.length≤1048600) (hmk:mk.size≤1048576) (hmo:mgOk ⟨mK,mF,mT,mI,mL,mk,mN⟩=true) (h1:mT≠n.id) (h:NQ w B n A G c):Calls Tryz.prog 50 #[ndv n A,.agg #[.int .i64 mK,.int .i64 mF,.int .i64 mT,.int .i64 mI,.int .i64 mL,.string mk,.int .i64 mN]] w (GivesT w B c (n,[],3)):=by
 have q0:(mT != n.id)=true:=by simpa using h1
 have q0':(mT == n.id)=false:=by simpa using h1
 unfold GivesT
 have H9:=hide h9
 clear h9
 have HMO:=hide (fun W=>specMsgOk ⟨mK,mF,mT,mI,mL,mk,mN⟩ W (by unfold maxLen;dsimp only;omega))
 rw [hmo] at HMO
 unfold mgv at HMO
 have HNR:=hide (fun W (ha:IntsAt W A.k n.kids)=>specNear n A mF W hkl ha)
 clear hmo
 have HNO:=hide (h.nine hB)
 clear h
 go_enter Tryz.func50,Tryz.ntmps50
 go_upto_region 1 with fail
 refine wp_at (fun W0 hW=>?_)
 obtain⟨e1,e2,e3,e4⟩:=allocs3E w (.cells (ndc n A) 30) (.cells #[.int .i64 mK,.int .i64 mF,.int .i64 mT,.int .i64 mI,.int .i64 mL,.string mk,.int .i64 mN] 37) (.cells zc9 30)
 rw [←hW] at e1 e2 e3 e4
 have HN:=hide e1
 have HM:=hide e2
 have HR:=hide e3
 have HB0:=hide e4
 have HN0:=hide ((unhide HNO).kc (k:=9) (KC.of_below e4) (by omega))
 clear hW e1 e2 e3 e4 HNO
 obtain⟨m0,m1,m2,m3,m4,m5,m6⟩:=sevenC (unhide HM)
 have hml:=obj_lt (unhide HM)
 have hnl:=obj_lt (unhide HN)
 go_wp2_with fail
 refine(unhide HMO W0).mono ?_
 rintro e W1 ⟨rfl,hb1⟩
 have HN_1:=hide (obj_step (unhide HN) hb1)
 have HM_1:=hide (obj_step (unhide HM) hb1)
 have HR_1:=hide (obj_step (unhide HR) hb1)
 have HB1:=hide ((unhide HB0).trans (hb1.mono (unhide HB0).size))
 have HN1:=hide ((unhide HN0).kc (k:=9) (KC.of_below hb1) (by omega))
 clear hb1 HM HR HN HB0 HN0
 clear m0 m1 m2 m3 m4 m5 m6 hml hnl HMO
 obtain⟨m0,m1,m2,m3,m4,m5,m6⟩:=sevenC (unhide HM_1)
 have hml:=obj_lt (unhide HM_1)
 have HRA:=hide (obj_step (unhide HR_1) (below_one W1 (.cells #[] 37)))
 have HNA:=hide ((unhide HN1).kc (k:=9) (KC.of_below (below_one W1 (.cells #[] 37))) (by omega))
 have HBA:=hide ((unhide HB1).trans ((below_one W1 (.cells #[] 37)).mono (unhide HB1).size))
 obtain⟨c0,c1,c2,c3,c4,c5,c6,c7,c8⟩:=nine (unhide HN_1)
 obtain⟨d0,d1,d2,d3,d4,d5,d6,d7,d8⟩:=nine (unhide HRA)
 have f0:=obj_free (unhide HRA) 0
 have f1:=obj_free (unhide HRA) 1
 have f2:=obj_free (unhide HRA) 2
 have f3:=obj_free (unhide HRA) 3
 have f4:=obj_free (unhide HRA) 4
 have f5:=obj_free (unhide HRA) 5
 have f6:=obj_free (unhide HRA) 6
 have f7:=obj_free (unhide HRA) 7
 have f8:=obj_free (unhide HRA) 8
 have hnl:=obj_lt (unhide HN_1)
 have hrl:=obj_lt (unhide HRA)
 go_wp2_with fail
 refine bodyPost_atN (fun W' hW'=>?_)
 have e4:W'.heap[w.heap.size+2]?=some (.cells #[.int .i64 n.id,.int .i64 n.par,.slice A.k n.kids.length A.ck,.int .i64 n.next,.slice A.p n.pu.length A.cp,.slice A.o n.out.length A.co,.slice A.s n.seen.length A.cs,.int .i64 n.old,.slice A.r n.reqs.length A.cr] 30 (0,0)):=by
  rw [hW']
  exact GR.setW_blk [.int .i64 n.id,.int .i64 n.par,.slice A.k n.kids.length A.ck,.int .i64 n.next,.slice A.p n.pu.length A.cp,.slice A.o n.out.length A.co,.slice A.s n.seen.length A.cs,.int .i64 n.old,.slice A.r n.reqs.length A.cr] (o:=0) (xs:=[.int .i64 0,.int .i64 0,.slice none 0 0,.int .i64 0,.slice none 0 0,.slice none 0 0,.slice none 0 0,.int .i64 0,.slice none 0 0]) (unhide HRA)
 have hkf:KeepsL [w.heap.size+2] (W1.alloc (.cells #[] 37)) W':=by
  rw [hW']
  exact setW_keeps [.int .i64 n.id,.int .i64 n.par,.slice A.k n.kids.length A.ck,.int .i64 n.next,.slice A.p n.pu.length A.cp,.slice A.o n.out.length A.co,.slice A.s n.seen.length A.cs,.int .i64 n.old,.slice A.r n.reqs.length A.cr] (W1.alloc (.cells #[] 37)) 0
 have HAT:=hide (fun W'' (ho:Out c w W' W'')=>((unhide HNA).kc (k:=9) ((KC.keeps hkf (fun x hx=>by have:x=w.heap.size+2:=(by simpa using hx);rw [this];exact newC_new (by omega))).trans (KC.out (unhide H9) ho)) (by omega)).rm)
 have HBF:Hid (Below B w W'):=((unhide HBA).mono hB).trans (hkf.below (fun x hx=>by have:x=w.heap.size+2:=(by simpa using hx);omega) (Nat.le_trans hB ((unhide HBA).mono hB).size))
 have HKF:=hide (Apart.keeps (c:=c) (Apart.of_below (unhide HBA)) ((unhide HBA).mono hB).size hkf (fun x hx=>by have:x=w.heap.size+2:=(by simpa using hx);omega))
 obtain⟨x0,x1,x2,x3,x4,x5,x6,x7,x8⟩:=nine e4
 clear hW' e4 hkf
 exact bodyPost_ret (v:= .tuple #[.agg #[.int .i64 n.id,.int .i64 n.par,.slice A.k n.kids.length A.ck,.int .i64 n.next,.slice A.p n.pu.length A.cp,.slice A.o n.out.length A.co,.slice A.s n.seen.length A.cs,.int .i64 n.old,.slice A.r n.reqs.length A.cr],.slice (some ⟨W1.heap.size,0,none⟩) 0 0,.int .i64 3]) (by simp[results,Tryz.results50,go_sem,x0,x1,x2,x3,x4,x5,x6,x7,x8]) rfl ⟨A,some ⟨W1.heap.size,0,none⟩,0,rfl,unhide HAT,fun W'' _ i hi=>by simp at hi,unhide HBF,unhide HKF⟩
theorem specHear_badN (n:Nd) (A:Ads) (G:Blks) (c:Nat→Nat) (mK mF mT mI mL:Int) (mk:ByteArray) (mN:Int) (w:World) (B:Nat) (hB:B≤w.heap.size) (h9:∀x,6 < c x→c x=9) (hkl:n.kids.length≤1048600) (hmk:mk.size≤1048576) (hmo:mgOk ⟨mK,mF,mT,mI,mL,mk,mN⟩=true) (h1:mT=n.id) (h2:nearB n mF=false) (h:NQ w B n A G c):Calls Tryz.prog 50 #[ndv n A,.agg #[.int .i64 mK,.int .i64 mF,.int .i64 mT,.int .i64 mI,.int .i64 mL,.string mk,.int .i64 mN]] w (GivesT w B c (n,[],3)):=by
 have q0:(mT != n.id)=false:=by simp[h1]
 have q0':(mT == n.id)=true:=by simp[h1]
 clear h1
 unfold GivesT
 have H9:=hide h9
 clear h9
 have HMO:=hide (fun W=>specMsgOk ⟨mK,mF,mT,mI,mL,mk,mN⟩ W (by unfold maxLen;dsimp only;omega))
 rw [hmo] at HMO
 unfold mgv at HMO
 have HNR:=hide (fun W (ha:IntsAt W A.k n.kids)=>specNear n A mF W hkl ha)
 rw [h2] at HNR
 clear hmo h2
 have HNO:=hide (h.nine hB)
 clear h
 go_enter Tryz.func50,Tryz.ntmps50
 go_upto_region 1 with fail
 refine wp_at (fun W0 hW=>?_)
 obtain⟨e1,e2,e3,e4⟩:=allocs3E w (.cells (ndc n A) 30) (.cells #[.int .i64 mK,.int .i64 mF,.int .i64 mT,.int .i64 mI,.int .i64 mL,.string mk,.int .i64 mN] 37) (.cells zc9 30)
 rw [←hW] at e1 e2 e3 e4
 have HN:=hide e1
 have HM:=hide e2
 have HR:=hide e3
 have HB0:=hide e4
 have HN0:=hide ((unhide HNO).kc (k:=9) (KC.of_below e4) (by omega))
 clear hW e1 e2 e3 e4 HNO
 obtain⟨m0,m1,m2,m3,m4,m5,m6⟩:=sevenC (unhide HM)
 have hml:=obj_lt (unhide HM)
 have hnl:=obj_lt (unhide HN)
 go_wp2_with fail
 refine(unhide HMO W0).mono ?_
 rintro e W1 ⟨rfl,hb1⟩
 have HN_1:=hide (obj_step (unhide HN) hb1)
 have HM_1:=hide (obj_step (unhide HM) hb1)
 have HR_1:=hide (obj_step (unhide HR) hb1)
 have HB1:=hide ((unhide HB0).trans (hb1.mono (unhide HB0).size))
 have HN1:=hide ((unhide HN0).kc (k:=9) (KC.of_below hb1) (by omega))
 clear hb1 HM HR HN HB0 HN0
 clear m0 m1 m2 m3 m4 m5 m6 hml hnl HMO
 obtain⟨m0,m1,m2,m3,m4,m5,m6⟩:=sevenC (unhide HM_1)
 obtain⟨c0,c1,c2,c3,c4,c5,c6,c7,c8⟩:=nine (unhide HN_1)
 have hml:=obj_lt (unhide HM_1)
 have hnl:=obj_lt (unhide HN_1)
 go_wp2_with fail
 refine(unhide HNR W1 (unhide HN1).at.k).mono ?_
 rintro e W2 ⟨rfl,hb2⟩
 have HN_2:=hide (obj_step (unhide HN_1) hb2)
 have HM_2:=hide (obj_step (unhide HM_1) hb2)
 have HR_2:=hide (obj_step (unhide HR_1) hb2)
 have HB2:=hide ((unhide HB1).trans (hb2.mono (unhide HB1).size))
 have HN2:=hide ((unhide HN1).kc (k:=9) (KC.of_below hb2) (by omega))
 clear hb2 HM_1 HR_1 HN_1 HB1 HN1
 clear m0 m1 m2 m3 m4 m5 m6 c0 c1 c2 c3 c4 c5 c6 c7 c8 hml hnl HNR
 obtain⟨m0,m1,m2,m3,m4,m5,m6⟩:=sevenC (unhide HM_2)
 have hml:=obj_lt (unhide HM_2)
 have HRA:=hide (obj_step (unhide HR_2) (below_one W2 (.cells #[] 37)))
 have HNA:=hide ((unhide HN2).kc (k:=9) (KC.of_below (below_one W2 (.cells #[] 37))) (by omega))
 have HBA:=hide ((unhide HB2).trans ((below_one W2 (.cells #[] 37)).mono (unhide HB2).size))
 obtain⟨c0,c1,c2,c3,c4,c5,c6,c7,c8⟩:=nine (unhide HN_2)
 obtain⟨d0,d1,d2,d3,d4,d5,d6,d7,d8⟩:=nine (unhide HRA)
 have f0:=obj_free (unhide HRA) 0
 have f1:=obj_free (unhide HRA) 1
 have f2:=obj_free (unhide HRA) 2
 have f3:=obj_free (unhide HRA) 3
 have f4:=obj_free (unhide HRA) 4
 have f5:=obj_free (unhide HRA) 5
 have f6:=obj_free (unhide HRA) 6
 have f7:=obj_free (unhide HRA) 7
 have f8:=obj_free (unhide HRA) 8
 have hnl:=obj_lt (unhide HN_2)
 have hrl:=obj_lt (unhide HRA)
 go_wp2_with fail
 refine bodyPost_atN (fun W' hW'=>?_)
 have e4:W'.heap[w.heap.size+2]?=some (.cells #[.int .i64 n.id,.int .i64 n.par,.slice A.k n.kids.length A.ck,.int .i64 n.next,.slice A.p n.pu.length A.cp,.slice A.o n.out.length A.co,.slice A.s n.seen.length A.cs,.int .i64 n.old,.slice A.r n.reqs.length A.cr] 30 (0,0)):=by
  rw [hW']
  exact GR.setW_blk [.int .i64 n.id,.int .i64 n.par,.slice A.k n.kids.length A.ck,.int .i64 n.next,.slice A.p n.pu.length A.cp,.slice A.o n.out.length A.co,.slice A.s n.seen.length A.cs,.int .i64 n.old,.slice A.r n.reqs.length A.cr] (o:=0) (xs:=[.int .i64 0,.int .i64 0,.slice none 0 0,.int .i64 0,.slice none 0 0,.slice none 0 0,.slice none 0 0,.int .i64 0,.slice none 0 0]) (unhide HRA)
 have hkf:KeepsL [w.heap.size+2] (W2.alloc (.cells #[] 37)) W':=by
  rw [hW']
  exact setW_keeps [.int .i64 n.id,.int .i64 n.par,.slice A.k n.kids.length A.ck,.int .i64 n.next,.slice A.p n.pu.length A.cp,.slice A.o n.out.length A.co,.slice A.s n.seen.length A.cs,.int .i64 n.old,.slice A.r n.reqs.length A.cr] (W2.alloc (.cells #[] 37)) 0
 have HAT:=hide (fun W'' (ho:Out c w W' W'')=>((unhide HNA).kc (k:=9) ((KC.keeps hkf (fun x hx=>by have:x=w.heap.size+2:=(by simpa using hx);rw [this];exact newC_new (by omega))).trans (KC.out (unhide H9) ho)) (by omega)).rm)
 have HBF:Hid (Below B w W'):=((unhide HBA).mono hB).trans (hkf.below (fun x hx=>by have:x=w.heap.size+2:=(by simpa using hx);omega) (Nat.le_trans hB ((unhide HBA).mono hB).size))
 have HKF:=hide (Apart.keeps (c:=c) (Apart.of_below (unhide HBA)) ((unhide HBA).mono hB).size hkf (fun x hx=>by have:x=w.heap.size+2:=(by simpa using hx);omega))
 obtain⟨x0,x1,x2,x3,x4,x5,x6,x7,x8⟩:=nine e4
 clear hW' e4 hkf
 exact bodyPost_ret (v:= .tuple #[.agg #[.int .i64 n.id,.int .i64 n.par,.slice A.k n.kids.length A.ck,.int .i64 n.next,.slice A.p n.pu.length A.cp,.slice A.o n.out.length A.co,.slice A.s n.seen.length A.cs,.int .i64 n.old,.slice A.r n.reqs.length A.cr],.slice (some ⟨W2.heap.size,0,none⟩) 0 0,.int .i64 3]) (by simp[results,Tryz.results50,go_sem,x0,x1,x2,x3,x4,x5,x6,x7,x8]) rfl ⟨A,some ⟨W2.heap.size,0,none⟩,0,rfl,unhide HAT,fun W'' _ i hi=>by simp at hi,unhide HBF,unhide HKF⟩
theorem specHear_up (n:Nd) (A:Ads) (G:Blks) (c:Nat→Nat) (mK mF mT mI mL:Int) (mk:ByteArray) (mN:Int) (w:World) (B:Nat) (hB:B≤w.heap.size) (h9:∀x,6 < c x→c x=9) (hkl:n.kids.length≤1048600) (hmk:mk.size≤1048576) (hmo:mgOk ⟨mK,mF,mT,mI,mL,mk,mN⟩=true) (h1:mT=n.id) (h2:nearB n mF=true) (h3:mK=0) (h4:mF=n.par) (h:NQ w B n A G c):Calls Tryz.prog 50 #[ndv n A,.agg #[.int .i64 mK,.int .i64 mF,.int .i64 mT,.int .i64 mI,.int .i64 mL,.string mk,.int .i64 mN]] w (GivesT w B c (n,[],1)):=by
 have q0:(mT != n.id)=false:=by simp[h1]
 have q0':(mT == n.id)=true:=by simp[h1]
 clear h1
 subst h3
 have q4:(mF == n.par)=true:=by simp[h4]
 clear h4
 unfold GivesT
 have H9:=hide h9
 clear h9
 have HMO:=hide (fun W=>specMsgOk ⟨0,mF,mT,mI,mL,mk,mN⟩ W (by unfold maxLen;dsimp only;omega))
 rw [hmo] at HMO
 unfold mgv at HMO
 have HNR:=hide (fun W (ha:IntsAt W A.k n.kids)=>specNear n A mF W hkl ha)
 rw [h2] at HNR
 clear hmo h2
 have HNO:=hide (h.nine hB)
 clear h
 go_enter Tryz.func50,Tryz.ntmps50
 go_upto_region 1 with fail
 refine wp_at (fun W0 hW=>?_)
 obtain⟨e1,e2,e3,e4⟩:=allocs3E w (.cells (ndc n A) 30) (.cells #[.int .i64 0,.int .i64 mF,.int .i64 mT,.int .i64 mI,.int .i64 mL,.string mk,.int .i64 mN] 37) (.cells zc9 30)
 rw [←hW] at e1 e2 e3 e4
 have HN:=hide e1
 have HM:=hide e2
 have HR:=hide e3
 have HB0:=hide e4
 have HN0:=hide ((unhide HNO).kc (k:=9) (KC.of_below e4) (by omega))
 clear hW e1 e2 e3 e4 HNO
 obtain⟨m0,m1,m2,m3,m4,m5,m6⟩:=sevenC (unhide HM)
 have hml:=obj_lt (unhide HM)
 have hnl:=obj_lt (unhide HN)
 go_wp2_with fail
 refine(unhide HMO W0).mono ?_
 rintro e W1 ⟨rfl,hb1⟩
 have HN_1:=hide (obj_step (unhide HN) hb1)
 have HM_1:=hide (obj_step (unhide HM) hb1)
 have HR_1:=hide (obj_step (unhide HR) hb1)
 have HB1:=hide ((unhide HB0).trans (hb1.mono (unhide HB0).size))
 have HN1:=hide ((unhide HN0).kc (k:=9) (KC.of_below hb1) (by omega))
 clear hb1 HM HR HN HB0 HN0
 clear m0 m1 m2 m3 m4 m5 m6 hml hnl HMO
 obtain⟨m0,m1,m2,m3,m4,m5,m6⟩:=sevenC (unhide HM_1)
 obtain⟨c0,c1,c2,c3,c4,c5,c6,c7,c8⟩:=nine (unhide HN_1)
 have hml:=obj_lt (unhide HM_1)
 have hnl:=obj_lt (unhide HN_1)
 go_wp2_with fail
 refine(unhide HNR W1 (unhide HN1).at.k).mono ?_
 rintro e W2 ⟨rfl,hb2⟩
 have HN_2:=hide (obj_step (unhide HN_1) hb2)
 have HM_2:=hide (obj_step (unhide HM_1) hb2)
 have HR_2:=hide (obj_step (unhide HR_1) hb2)
 have HB2:=hide ((unhide HB1).trans (hb2.mono (unhide HB1).size))
 have HN2:=hide ((unhide HN1).kc (k:=9) (KC.of_below hb2) (by omega))
 clear hb2 HM_1 HR_1 HN_1 HB1 HN1
 clear m0 m1 m2 m3 m4 m5 m6 c0 c1 c2 c3 c4 c5 c6 c7 c8 hml hnl HNR
 obtain⟨m0,m1,m2,m3,m4,m5,m6⟩:=sevenC (unhide HM_2)
 have hml:=obj_lt (unhide HM_2)
 have HRA:=hide (obj_step (unhide HR_2) (below_one W2 (.cells #[] 37)))
 have HNA:=hide ((unhide HN2).kc (k:=9) (KC.of_below (below_one W2 (.cells #[] 37))) (by omega))
 have HBA:=hide ((unhide HB2).trans ((below_one W2 (.cells #[] 37)).mono (unhide HB2).size))
 obtain⟨c0,c1,c2,c3,c4,c5,c6,c7,c8⟩:=nine (unhide HN_2)
 obtain⟨d0,d1,d2,d3,d4,d5,d6,d7,d8⟩:=nine (unhide HRA)
 have f0:=obj_free (unhide HRA) 0
 have f1:=obj_free (unhide HRA) 1
 have f2:=obj_free (unhide HRA) 2
 have f3:=obj_free (unhide HRA) 3
 have f4:=obj_free (unhide HRA) 4
 have f5:=obj_free (unhide HRA) 5
 have f6:=obj_free (unhide HRA) 6
 have f7:=obj_free (unhide HRA) 7
 have f8:=obj_free (unhide HRA) 8
 have hnl:=obj_lt (unhide HN_2)
 have hrl:=obj_lt (unhide HRA)
 go_wp2_with fail
 refine bodyPost_atN (fun W' hW'=>?_)
 have e4:W'.heap[w.heap.size+2]?=some (.cells #[.int .i64 n.id,.int .i64 n.par,.slice A.k n.kids.length A.ck,.int .i64 n.next,.slice A.p n.pu.length A.cp,.slice A.o n.out.length A.co,.slice A.s n.seen.length A.cs,.int .i64 n.old,.slice A.r n.reqs.length A.cr] 30 (0,0)):=by
  rw [hW']
  exact GR.setW_blk [.int .i64 n.id,.int .i64 n.par,.slice A.k n.kids.length A.ck,.int .i64 n.next,.slice A.p n.pu.length A.cp,.slice A.o n.out.length A.co,.slice A.s n.seen.length A.cs,.int .i64 n.old,.slice A.r n.reqs.length A.cr] (o:=0) (xs:=[.int .i64 0,.int .i64 0,.slice none 0 0,.int .i64 0,.slice none 0 0,.slice none 0 0,.slice none 0 0,.int .i64 0,.slice none 0 0]) (unhide HRA)
 have hkf:KeepsL [w.heap.size+2] (W2.alloc (.cells #[] 37)) W':=by
  rw [hW']
  exact setW_keeps [.int .i64 n.id,.int .i64 n.par,.slice A.k n.kids.length A.ck,.int .i64 n.next,.slice A.p n.pu.length A.cp,.slice A.o n.out.length A.co,.slice A.s n.seen.length A.cs,.int .i64 n.old,.slice A.r n.reqs.length A.cr] (W2.alloc (.cells #[] 37)) 0
 have HAT:=hide (fun W'' (ho:Out c w W' W'')=>((unhide HNA).kc (k:=9) ((KC.keeps hkf (fun x hx=>by have:x=w.heap.size+2:=(by simpa using hx);rw [this];exact newC_new (by omega))).trans (KC.out (unhide H9) ho)) (by omega)).rm)
 have HBF:Hid (Below B w W'):=((unhide HBA).mono hB).trans (hkf.below (fun x hx=>by have:x=w.heap.size+2:=(by simpa using hx);omega) (Nat.le_trans hB ((unhide HBA).mono hB).size))
 have HKF:=hide (Apart.keeps (c:=c) (Apart.of_below (unhide HBA)) ((unhide HBA).mono hB).size hkf (fun x hx=>by have:x=w.heap.size+2:=(by simpa using hx);omega))
 obtain⟨x0,x1,x2,x3,x4,x5,x6,x7,x8⟩:=nine e4
 clear hW' e4 hkf
 exact bodyPost_ret (v:= .tuple #[.agg #[.int .i64 n.id,.int .i64 n.par,.slice A.k n.kids.length A.ck,.int .i64 n.next,.slice A.p n.pu.length A.cp,.slice A.o n.out.length A.co,.slice A.s n.seen.length A.cs,.int .i64 n.old,.slice A.r n.reqs.length A.cr],.slice (some ⟨W2.heap.size,0,none⟩) 0 0,.int .i64 1]) (by simp[results,Tryz.results50,go_sem,x0,x1,x2,x3,x4,x5,x6,x7,x8]) rfl ⟨A,some ⟨W2.heap.size,0,none⟩,0,rfl,unhide HAT,fun W'' _ i hi=>by simp at hi,unhide HBF,unhide HKF⟩
theorem specHear_give (n:Nd) (A:Ads) (G:Blks) (c:Nat→Nat) (mK mF mT mI mL:Int) (mk:ByteArray) (mN:Int) (w:World) (B:Nat) (hB:B≤w.heap.size) (h9:∀x,6 < c x→c x=9) (hkl:n.kids.length≤1048600) (hmk:mk.size≤1048576) (hmo:mgOk ⟨mK,mF,mT,mI,mL,mk,mN⟩=true) (hz:NdSz n 1048576) (hP:∃g,A.p=some ⟨g,0,none⟩) (hPc:n.pu.length≤A.cp) (h0:0≤n.next) (h1:mT=n.id) (h2:nearB n mF=true) (h3:mK=0) (h4:mF≠n.par) (h:NQ w B n A G c):Calls Tryz.prog 50 #[ndv n A,.agg #[.int .i64 mK,.int .i64 mF,.int .i64 mT,.int .i64 mI,.int .i64 mL,.string mk,.int .i64 mN]] w (GivesT w B c ((giveN n mF mk mN).1,(giveN n mF mk mN).2.1,0)):=by
 have q0:(mT != n.id)=false:=by simp[h1]
 have q0':(mT == n.id)=true:=by simp[h1]
 clear h1
 subst h3
 have q4:(mF == n.par)=false:=by simpa using h4
 clear h4
 have h9n:∀x,6 < newC w.heap.size 9 c x→newC w.heap.size 9 c x=9:=fun x hx=>by
  by_cases hlt:x < w.heap.size
  ·rw [newC_old hlt] at hx ⊢;exact h9 x hx
  ·exact newC_new (by omega)
 have HGV:=hide (fun W (hBW:B≤W.heap.size) (hN:NQ W B n A G (newC w.heap.size 9 c))=>specGive n A G (newC w.heap.size 9 c) mF mk mN W B hBW h9n hz hmk hP hPc h0 hN)
 clear h9n hz hP hPc
 unfold GivesT at HGV
 generalize giveN n mF mk mN=GV at *
 obtain⟨N1,L1,b1⟩:=GV
 dsimp only at HGV ⊢
 generalize (if b1=true then(0:Int) else 1)=code1 at *
 unfold GivesT
 have H9:=hide h9
 clear h9
 have HMO:=hide (fun W=>specMsgOk ⟨0,mF,mT,mI,mL,mk,mN⟩ W (by unfold maxLen;dsimp only;omega))
 rw [hmo] at HMO
 unfold mgv at HMO
 have HNR:=hide (fun W (ha:IntsAt W A.k n.kids)=>specNear n A mF W hkl ha)
 rw [h2] at HNR
 clear hmo h2
 have HNO:=hide (h.nine hB)
 clear h
 go_enter Tryz.func50,Tryz.ntmps50
 go_upto_region 1 with fail
 refine wp_at (fun W0 hW=>?_)
 obtain⟨e1,e2,e3,e4⟩:=allocs3E w (.cells (ndc n A) 30) (.cells #[.int .i64 0,.int .i64 mF,.int .i64 mT,.int .i64 mI,.int .i64 mL,.string mk,.int .i64 mN] 37) (.cells zc9 30)
 rw [←hW] at e1 e2 e3 e4
 have HN:=hide e1
 have HM:=hide e2
 have HR:=hide e3
 have HB0:=hide e4
 have HN0:=hide ((unhide HNO).kc (k:=9) (KC.of_below e4) (by omega))
 clear hW e1 e2 e3 e4 HNO
 obtain⟨m0,m1,m2,m3,m4,m5,m6⟩:=sevenC (unhide HM)
 have hml:=obj_lt (unhide HM)
 have hnl:=obj_lt (unhide HN)
 go_wp2_with fail
 refine(unhide HMO W0).mono ?_
 rintro e W1 ⟨rfl,hb1⟩
 have HN_1:=hide (obj_step (unhide HN) hb1)
 have HM_1:=hide (obj_step (unhide HM) hb1)
 have HR_1:=hide (obj_step (unhide HR) hb1)
 have HB1:=hide ((unhide HB0).trans (hb1.mono (unhide HB0).size))
 have HN1:=hide ((unhide HN0).kc (k:=9) (KC.of_below hb1) (by omega))
 clear hb1 HM HR HN HB0 HN0
 clear m0 m1 m2 m3 m4 m5 m6 hml hnl HMO
 obtain⟨m0,m1,m2,m3,m4,m5,m6⟩:=sevenC (unhide HM_1)
 obtain⟨c0,c1,c2,c3,c4,c5,c6,c7,c8⟩:=nine (unhide HN_1)
 have hml:=obj_lt (unhide HM_1)
 have hnl:=obj_lt (unhide HN_1)
 go_wp2_with fail
 refine(unhide HNR W1 (unhide HN1).at.k).mono ?_
 rintro e W2 ⟨rfl,hb2⟩
 have HN_2:=hide (obj_step (unhide HN_1) hb2)
 have HM_2:=hide (obj_step (unhide HM_1) hb2)
 have HR_2:=hide (obj_step (unhide HR_1) hb2)
 have HB2:=hide ((unhide HB1).trans (hb2.mono (unhide HB1).size))
 have HN2:=hide ((unhide HN1).kc (k:=9) (KC.of_below hb2) (by omega))
 clear hb2 HM_1 HR_1 HN_1 HB1 HN1
 clear m0 m1 m2 m3 m4 m5 m6 c0 c1 c2 c3 c4 c5 c6 c7 c8 hml hnl HNR
 obtain⟨m0,m1,m2,m3,m4,m5,m6⟩:=sevenC (unhide HM_2)
 obtain⟨c0,c1,c2,c3,c4,c5,c6,c7,c8⟩:=nine (unhide HN_2)
 have hml:=obj_lt (unhide HM_2)
 have hnl:=obj_lt (unhide HN_2)
 go_wp2_with fail
 refine(unhide HGV W2 (Nat.le_trans hB (unhide HB2).size) (unhide HN2)).mono ?_
 rintro e W3 ⟨A1,ma,mc,rfl,hat,hmt,hb3,hap⟩
 have HR_3:=hide ((hap _ (obj_lt (unhide HR_2)) (by rw [newC_new (by omega)];omega)).trans (unhide HR_2))
 have HAT1:=hide hat
 have HMT1:=hide hmt
 have HB3:=hide (((unhide HB2).mono hB).trans hb3)
 have HK3:Hid (Apart c w W3):=fun x hx hc=>(hap x (Nat.lt_of_lt_of_le hx (unhide HB2).size) (by rw [newC_old hx];exact hc)).trans ((unhide HB2).block x hx)
 have h23:=hb3.size
 have h02:=(unhide HB2).size
 have h2r:=obj_lt (unhide HR_2)
 clear hat hmt hb3 hap c0 c1 c2 c3 c4 c5 c6 c7 c8 m0 m1 m2 m3 m4 m5 m6 hml hnl HGV HN_2 HM_2 HR_2 HN2
 obtain⟨A1,hA1⟩:∃A2,A2=A1:=⟨_,rfl⟩
 subst hA1
 have HNA:=hide (heap_alloc_new W3 (.cells #[.int .i64 N1.id,.int .i64 N1.par,.slice A1.k N1.kids.length A1.ck,.int .i64 N1.next,.slice A1.p N1.pu.length A1.cp,.slice A1.o N1.out.length A1.co,.slice A1.s N1.seen.length A1.cs,.int .i64 N1.old,.slice A1.r N1.reqs.length A1.cr] 30))
 have HRA:=hide (obj_step (unhide HR_3) (below_one W3 (.cells #[.int .i64 N1.id,.int .i64 N1.par,.slice A1.k N1.kids.length A1.ck,.int .i64 N1.next,.slice A1.p N1.pu.length A1.cp,.slice A1.o N1.out.length A1.co,.slice A1.s N1.seen.length A1.cs,.int .i64 N1.old,.slice A1.r N1.reqs.length A1.cr] 30)))
 have HBA:=hide ((unhide HB3).trans ((below_one W3 (.cells #[.int .i64 N1.id,.int .i64 N1.par,.slice A1.k N1.kids.length A1.ck,.int .i64 N1.next,.slice A1.p N1.pu.length A1.cp,.slice A1.o N1.out.length A1.co,.slice A1.s N1.seen.length A1.cs,.int .i64 N1.old,.slice A1.r N1.reqs.length A1.cr] 30)).mono (Nat.le_trans hB (unhide HB3).size)))
 have HKA:=hide ((unhide HK3).step (unhide HB3).size (below_one W3 (.cells #[.int .i64 N1.id,.int .i64 N1.par,.slice A1.k N1.kids.length A1.ck,.int .i64 N1.next,.slice A1.p N1.pu.length A1.cp,.slice A1.o N1.out.length A1.co,.slice A1.s N1.seen.length A1.cs,.int .i64 N1.old,.slice A1.r N1.reqs.length A1.cr] 30)))
 obtain⟨c0,c1,c2,c3,c4,c5,c6,c7,c8⟩:=nine (unhide HNA)
 obtain⟨d0,d1,d2,d3,d4,d5,d6,d7,d8⟩:=nine (unhide HRA)
 have f0:=obj_free (unhide HRA) 0
 have f1:=obj_free (unhide HRA) 1
 have f2:=obj_free (unhide HRA) 2
 have f3:=obj_free (unhide HRA) 3
 have f4:=obj_free (unhide HRA) 4
 have f5:=obj_free (unhide HRA) 5
 have f6:=obj_free (unhide HRA) 6
 have f7:=obj_free (unhide HRA) 7
 have f8:=obj_free (unhide HRA) 8
 have hnl:=obj_lt (unhide HNA)
 have hrl:=obj_lt (unhide HRA)
 go_wp2_with fail
 refine bodyPost_atN (fun W' hW'=>?_)
 have e4:W'.heap[w.heap.size+2]?=some (.cells #[.int .i64 N1.id,.int .i64 N1.par,.slice A1.k N1.kids.length A1.ck,.int .i64 N1.next,.slice A1.p N1.pu.length A1.cp,.slice A1.o N1.out.length A1.co,.slice A1.s N1.seen.length A1.cs,.int .i64 N1.old,.slice A1.r N1.reqs.length A1.cr] 30 (0,0)):=by
  rw [hW']
  exact GR.setW_blk [.int .i64 N1.id,.int .i64 N1.par,.slice A1.k N1.kids.length A1.ck,.int .i64 N1.next,.slice A1.p N1.pu.length A1.cp,.slice A1.o N1.out.length A1.co,.slice A1.s N1.seen.length A1.cs,.int .i64 N1.old,.slice A1.r N1.reqs.length A1.cr] (o:=0) (xs:=[.int .i64 0,.int .i64 0,.slice none 0 0,.int .i64 0,.slice none 0 0,.slice none 0 0,.slice none 0 0,.int .i64 0,.slice none 0 0]) (unhide HRA)
 have hkf:KeepsL [w.heap.size+2] (W3.alloc (.cells #[.int .i64 N1.id,.int .i64 N1.par,.slice A1.k N1.kids.length A1.ck,.int .i64 N1.next,.slice A1.p N1.pu.length A1.cp,.slice A1.o N1.out.length A1.co,.slice A1.s N1.seen.length A1.cs,.int .i64 N1.old,.slice A1.r N1.reqs.length A1.cr] 30)) W':=by
  rw [hW']
  exact setW_keeps [.int .i64 N1.id,.int .i64 N1.par,.slice A1.k N1.kids.length A1.ck,.int .i64 N1.next,.slice A1.p N1.pu.length A1.cp,.slice A1.o N1.out.length A1.co,.slice A1.s N1.seen.length A1.cs,.int .i64 N1.old,.slice A1.r N1.reqs.length A1.cr] (W3.alloc (.cells #[.int .i64 N1.id,.int .i64 N1.par,.slice A1.k N1.kids.length A1.ck,.int .i64 N1.next,.slice A1.p N1.pu.length A1.cp,.slice A1.o N1.out.length A1.co,.slice A1.s N1.seen.length A1.cs,.int .i64 N1.old,.slice A1.r N1.reqs.length A1.cr] 30)) 0
 have HAT:=hide (fun W'' (ho:Out c w W' W'')=>(show RM W'' A1 N1 from(by
  obtain⟨F,hk,hF⟩:=ho
  exact unhide HAT1 _ ⟨(w.heap.size+2)::F,KeepsL.trans (b:=W') ((KeepsL.of_below (below_one W3 (.cells #[.int .i64 N1.id,.int .i64 N1.par,.slice A1.k N1.kids.length A1.ck,.int .i64 N1.next,.slice A1.p N1.pu.length A1.cp,.slice A1.o N1.out.length A1.co,.slice A1.s N1.seen.length A1.cs,.int .i64 N1.old,.slice A1.r N1.reqs.length A1.cr] 30))).trans (hkf.mono (fun x hx=>by simp at hx;simp[hx]))) (hk.mono (fun x hx=>by simp[hx])),fun y hy=>by
   rcases List.mem_cons.1 hy with h1|h1
   ·rw [h1];exact⟨h2r,by rw [newC_new (by omega)];omega⟩
   ·exact⟨Nat.lt_of_lt_of_le (hF y h1).1 h02,by rw [newC_old (hF y h1).1];exact(hF y h1).2⟩⟩)))
 have HMT:=hide (fun W'' (ho:Out c w W' W'')=>(show GR.At encM 7 W'' ma L1 from(by
  obtain⟨F,hk,hF⟩:=ho
  exact unhide HMT1 _ ⟨(w.heap.size+2)::F,KeepsL.trans (b:=W') ((KeepsL.of_below (below_one W3 (.cells #[.int .i64 N1.id,.int .i64 N1.par,.slice A1.k N1.kids.length A1.ck,.int .i64 N1.next,.slice A1.p N1.pu.length A1.cp,.slice A1.o N1.out.length A1.co,.slice A1.s N1.seen.length A1.cs,.int .i64 N1.old,.slice A1.r N1.reqs.length A1.cr] 30))).trans (hkf.mono (fun x hx=>by simp at hx;simp[hx]))) (hk.mono (fun x hx=>by simp[hx])),fun y hy=>by
   rcases List.mem_cons.1 hy with h1|h1
   ·rw [h1];exact⟨h2r,by rw [newC_new (by omega)];omega⟩
   ·exact⟨Nat.lt_of_lt_of_le (hF y h1).1 h02,by rw [newC_old (hF y h1).1];exact(hF y h1).2⟩⟩)))
 have HBF:Hid (Below B w W'):=(unhide HBA).trans (hkf.below (fun x hx=>by have:x=w.heap.size+2:=(by simpa using hx);omega) (Nat.le_trans hB (unhide HBA).size))
 have HKF:=hide (Apart.keeps (c:=c) (unhide HKA) (unhide HBA).size hkf (fun x hx=>by have:x=w.heap.size+2:=(by simpa using hx);omega))
 obtain⟨x0,x1,x2,x3,x4,x5,x6,x7,x8⟩:=nine e4
 clear hW' e4 hkf
 exact bodyPost_ret (v:= .tuple #[.agg #[.int .i64 N1.id,.int .i64 N1.par,.slice A1.k N1.kids.length A1.ck,.int .i64 N1.next,.slice A1.p N1.pu.length A1.cp,.slice A1.o N1.out.length A1.co,.slice A1.s N1.seen.length A1.cs,.int .i64 N1.old,.slice A1.r N1.reqs.length A1.cr],.slice ma L1.length mc,.int .i64 0]) (by simp[results,Tryz.results50,go_sem,x0,x1,x2,x3,x4,x5,x6,x7,x8]) rfl ⟨A1,ma,mc,rfl,unhide HAT,unhide HMT,unhide HBF,unhide HKF⟩
end Go.Proofs.YtdlokncalhopoaaGreat
