/- Parts. -/
import Derived.Test.YtdlokncalhopoaaGreatPy23
import Derived.Test.YtdlokncalhopoaaGreatPy24
import Derived.Test.YtdlokncalhopoaaGreatPy2
import Derived.Test.YtdlokncalhopoaaGreatPy7
import Derived.Test.YtdlokncalhopoaaGreatPy17
namespace Go.Proofs.YtdlokncalhopoaaGreat
set_option maxHeartbeats 16000000
set_option maxRecDepth 100000
open Go.RowKit
open Mth
def GivesT (w:World) (B:Nat) (c:Nat→Nat) (R:Nd×List Mg×Int) (e:Ending) (w':World):Prop:=∃A' a cp,e= .returned (.tuple #[ndv R.1 A',.slice a R.2.1.length cp,.int .i64 R.2.2])∧(∀W'',Out c w w' W''→RM W'' A' R.1)∧(∀W'',Out c w w' W''→GR.At encM 7 W'' a R.2.1)∧Below B w w'∧Apart c w w'
theorem specGive_n00 (n:Nd) (A:Ads) (G:Blks) (c:Nat→Nat) (dst:Int) (key:ByteArray) (most:Int) (w:World) (B:Nat) (hB:B≤w.heap.size) (h9:∀x,6 < c x→c x=9) (pk:ByteArray) (pm pf ps:Int) (hpp:purseOf n.pu key=⟨pk,pm,pf,ps⟩) (hl:n.pu.length≤1048600) (hc:¬pf < most) (h1:most < 1) (h:NQ w B n A G c):Calls Tryz.prog 51 #[ndv n A,.int .i64 dst,.string key,.int .i64 most] w (GivesT w B c (n,[],1)):=by
 have q0:decide (pf < most)=false:=by simpa using hc
 have q1:decide (most < 1)=true:=by simpa using h1
 unfold GivesT
 have H9:=hide h9
 clear h9
 have HPO:=hide (fun W (ha:PursesAt W A.p n.pu)=>specPurseOf A.p A.cp n.pu key W hl ha)
 rw [hpp] at HPO
 unfold puv at HPO
 clear hpp
 have hbw0:=below_one w (.cells (ndc n A) 30)
 have HNO:=hide (h.nine hB)
 clear h
 go_enter Tryz.func51,Tryz.ntmps51
 go_upto_region 1 with fail
 refine wp_at (fun W0 hW=>?_)
 obtain⟨e1,e2,e3⟩:=allocsE2 w (.cells (ndc n A) 30) (.cells zc9 30)
 rw [←hW] at e1 e2 e3
 have HN:=hide e1
 have HR:=hide e2
 have HB0:=hide e3
 have HN0:=hide ((unhide HNO).kc (k:=9) (KC.of_below e3) (by omega))
 clear hW e1 e2 e3 HNO hbw0
 obtain⟨c0,c1,c2,c3,c4,c5,c6,c7,c8⟩:=nine (unhide HN)
 have hnl:=obj_lt (unhide HN)
 go_wp2_with fail
 refine(unhide HPO W0 (unhide HN0).at.p).mono ?_
 rintro e W1 ⟨rfl,hb1⟩
 have HN_1:=hide (obj_step (unhide HN) hb1)
 have HRX:=hide (obj_step (unhide HR) hb1)
 have HB1:=hide ((unhide HB0).trans (hb1.mono (unhide HB0).size))
 have HN1:=hide ((unhide HN0).kc (k:=9) (KC.of_below hb1) (by omega))
 clear hb1 c0 c1 c2 c3 c4 c5 c6 c7 c8 hnl HPO HN HR HN0 HB0
 have HRA:=hide (obj_step (unhide HRX) (below_one W1 (.cells #[] 37)))
 obtain⟨c0,c1,c2,c3,c4,c5,c6,c7,c8⟩:=nine (unhide HN_1)
 obtain⟨d0,d1,d2,d3,d4,d5,d6,d7,d8⟩:=nine (unhide HRA)
 have f0:=obj_free (unhide HRA) 0
 have f1:=obj_free (unhide HRA) 1
 have f2:=obj_free (unhide HRA) 2
 have f3:=obj_free (unhide HRA) 3
 have f4:=obj_free (unhide HRA) 4
 have f5:=obj_free (unhide HRA) 5
 have f6:=obj_free (unhide HRA) 6
 have f7:=obj_free (unhide HRA) 7
 have f8:=obj_free (unhide HRA) 8
 have hnl:=obj_lt (unhide HN_1)
 have hrl:=obj_lt (unhide HRA)
 go_wp2_with fail
 rw [fieldFree]
 go_upto_region 5 with fail
 go_wp2_with fail
 have HNA:=hide ((unhide HN1).kc (k:=9) (KC.of_below (below_one W1 (.cells #[] 37))) (by omega))
 have HBA:=hide ((unhide HB1).trans ((below_one W1 (.cells #[] 37)).mono (unhide HB1).size))
 refine bodyPost_atN (fun W' hW'=>?_)
 have e4:W'.heap[w.heap.size+1]?=some (.cells #[.int .i64 n.id,.int .i64 n.par,.slice A.k n.kids.length A.ck,.int .i64 n.next,.slice A.p n.pu.length A.cp,.slice A.o n.out.length A.co,.slice A.s n.seen.length A.cs,.int .i64 n.old,.slice A.r n.reqs.length A.cr] 30 (0,0)):=by
  rw [hW']
  exact GR.setW_blk [.int .i64 n.id,.int .i64 n.par,.slice A.k n.kids.length A.ck,.int .i64 n.next,.slice A.p n.pu.length A.cp,.slice A.o n.out.length A.co,.slice A.s n.seen.length A.cs,.int .i64 n.old,.slice A.r n.reqs.length A.cr] (o:=0) (xs:=[.int .i64 0,.int .i64 0,.slice none 0 0,.int .i64 0,.slice none 0 0,.slice none 0 0,.slice none 0 0,.int .i64 0,.slice none 0 0]) (unhide HRA)
 have hkf:KeepsL [w.heap.size+1] (W1.alloc (.cells #[] 37)) W':=by
  rw [hW']
  exact setW_keeps [.int .i64 n.id,.int .i64 n.par,.slice A.k n.kids.length A.ck,.int .i64 n.next,.slice A.p n.pu.length A.cp,.slice A.o n.out.length A.co,.slice A.s n.seen.length A.cs,.int .i64 n.old,.slice A.r n.reqs.length A.cr] (W1.alloc (.cells #[] 37)) 0
 have HAT:=hide (fun W'' (ho:Out c w W' W'')=>((unhide HNA).kc (k:=9) ((KC.keeps hkf (fun x hx=>by have:x=w.heap.size+1:=(by simpa using hx);rw [this];exact newC_new (by omega))).trans (KC.out (unhide H9) ho)) (by omega)).rm)
 have HBF:Hid (Below B w W'):=((unhide HBA).mono hB).trans (hkf.below (fun x hx=>by have:x=w.heap.size+1:=(by simpa using hx);omega) (Nat.le_trans hB ((unhide HBA).mono hB).size))
 have HKF:=hide (Apart.keeps (c:=c) (Apart.of_below (unhide HBA)) ((unhide HBA).mono hB).size hkf (fun x hx=>by have:x=w.heap.size+1:=(by simpa using hx);omega))
 obtain⟨x0,x1,x2,x3,x4,x5,x6,x7,x8⟩:=nine e4
 clear hW' e4 hkf
 exact bodyPost_ret (v:= .tuple #[.agg #[.int .i64 n.id,.int .i64 n.par,.slice A.k n.kids.length A.ck,.int .i64 n.next,.slice A.p n.pu.length A.cp,.slice A.o n.out.length A.co,.slice A.s n.seen.length A.cs,.int .i64 n.old,.slice A.r n.reqs.length A.cr],.slice (some ⟨W1.heap.size,0,none⟩) 0 0,.int .i64 1]) (by simp[results,Tryz.results51,go_sem,x0,x1,x2,x3,x4,x5,x6,x7,x8]) rfl ⟨A,some ⟨W1.heap.size,0,none⟩,0,rfl,unhide HAT,fun W'' _ i hi=>by simp at hi,unhide HBF,unhide HKF⟩
theorem specGive_n01 (n:Nd) (A:Ads) (G:Blks) (c:Nat→Nat) (dst:Int) (key:ByteArray) (most:Int) (w:World) (B:Nat) (hB:B≤w.heap.size) (h9:∀x,6 < c x→c x=9) (pk:ByteArray) (pm pf ps:Int) (hpp:purseOf n.pu key=⟨pk,pm,pf,ps⟩) (hl:n.pu.length≤1048600) (hc:¬pf < most) (h1:¬most < 1) (h2:40≤n.out.length) (h:NQ w B n A G c):Calls Tryz.prog 51 #[ndv n A,.int .i64 dst,.string key,.int .i64 most] w (GivesT w B c (n,[],1)):=by
 have q0:decide (pf < most)=false:=by simpa using hc
 have q1:decide (most < 1)=false:=by simpa using h1
 have h2I:(40:Int)≤(n.out.length:Int):=by omega
 have q2:decide ((40:Int)≤(n.out.length:Int))=true:=by simpa using h2I
 unfold GivesT
 have H9:=hide h9
 clear h9
 have HPO:=hide (fun W (ha:PursesAt W A.p n.pu)=>specPurseOf A.p A.cp n.pu key W hl ha)
 rw [hpp] at HPO
 unfold puv at HPO
 clear hpp
 have hbw0:=below_one w (.cells (ndc n A) 30)
 have HNO:=hide (h.nine hB)
 clear h
 go_enter Tryz.func51,Tryz.ntmps51
 go_upto_region 1 with fail
 refine wp_at (fun W0 hW=>?_)
 obtain⟨e1,e2,e3⟩:=allocsE2 w (.cells (ndc n A) 30) (.cells zc9 30)
 rw [←hW] at e1 e2 e3
 have HN:=hide e1
 have HR:=hide e2
 have HB0:=hide e3
 have HN0:=hide ((unhide HNO).kc (k:=9) (KC.of_below e3) (by omega))
 clear hW e1 e2 e3 HNO hbw0
 obtain⟨c0,c1,c2,c3,c4,c5,c6,c7,c8⟩:=nine (unhide HN)
 have hnl:=obj_lt (unhide HN)
 go_wp2_with fail
 refine(unhide HPO W0 (unhide HN0).at.p).mono ?_
 rintro e W1 ⟨rfl,hb1⟩
 have HN_1:=hide (obj_step (unhide HN) hb1)
 have HRX:=hide (obj_step (unhide HR) hb1)
 have HB1:=hide ((unhide HB0).trans (hb1.mono (unhide HB0).size))
 have HN1:=hide ((unhide HN0).kc (k:=9) (KC.of_below hb1) (by omega))
 clear hb1 c0 c1 c2 c3 c4 c5 c6 c7 c8 hnl HPO HN HR HN0 HB0
 have HRA:=hide (obj_step (unhide HRX) (below_one W1 (.cells #[] 37)))
 obtain⟨c0,c1,c2,c3,c4,c5,c6,c7,c8⟩:=nine (unhide HN_1)
 obtain⟨d0,d1,d2,d3,d4,d5,d6,d7,d8⟩:=nine (unhide HRA)
 have f0:=obj_free (unhide HRA) 0
 have f1:=obj_free (unhide HRA) 1
 have f2:=obj_free (unhide HRA) 2
 have f3:=obj_free (unhide HRA) 3
 have f4:=obj_free (unhide HRA) 4
 have f5:=obj_free (unhide HRA) 5
 have f6:=obj_free (unhide HRA) 6
 have f7:=obj_free (unhide HRA) 7
 have f8:=obj_free (unhide HRA) 8
 have hnl:=obj_lt (unhide HN_1)
 have hrl:=obj_lt (unhide HRA)
 go_wp2_with fail
 rw [fieldFree]
 go_upto_region 5 with fail
 go_wp2_with fail
 have HNA:=hide ((unhide HN1).kc (k:=9) (KC.of_below (below_one W1 (.cells #[] 37))) (by omega))
 have HBA:=hide ((unhide HB1).trans ((below_one W1 (.cells #[] 37)).mono (unhide HB1).size))
 refine bodyPost_atN (fun W' hW'=>?_)
 have e4:W'.heap[w.heap.size+1]?=some (.cells #[.int .i64 n.id,.int .i64 n.par,.slice A.k n.kids.length A.ck,.int .i64 n.next,.slice A.p n.pu.length A.cp,.slice A.o n.out.length A.co,.slice A.s n.seen.length A.cs,.int .i64 n.old,.slice A.r n.reqs.length A.cr] 30 (0,0)):=by
  rw [hW']
  exact GR.setW_blk [.int .i64 n.id,.int .i64 n.par,.slice A.k n.kids.length A.ck,.int .i64 n.next,.slice A.p n.pu.length A.cp,.slice A.o n.out.length A.co,.slice A.s n.seen.length A.cs,.int .i64 n.old,.slice A.r n.reqs.length A.cr] (o:=0) (xs:=[.int .i64 0,.int .i64 0,.slice none 0 0,.int .i64 0,.slice none 0 0,.slice none 0 0,.slice none 0 0,.int .i64 0,.slice none 0 0]) (unhide HRA)
 have hkf:KeepsL [w.heap.size+1] (W1.alloc (.cells #[] 37)) W':=by
  rw [hW']
  exact setW_keeps [.int .i64 n.id,.int .i64 n.par,.slice A.k n.kids.length A.ck,.int .i64 n.next,.slice A.p n.pu.length A.cp,.slice A.o n.out.length A.co,.slice A.s n.seen.length A.cs,.int .i64 n.old,.slice A.r n.reqs.length A.cr] (W1.alloc (.cells #[] 37)) 0
 have HAT:=hide (fun W'' (ho:Out c w W' W'')=>((unhide HNA).kc (k:=9) ((KC.keeps hkf (fun x hx=>by have:x=w.heap.size+1:=(by simpa using hx);rw [this];exact newC_new (by omega))).trans (KC.out (unhide H9) ho)) (by omega)).rm)
 have HBF:Hid (Below B w W'):=((unhide HBA).mono hB).trans (hkf.below (fun x hx=>by have:x=w.heap.size+1:=(by simpa using hx);omega) (Nat.le_trans hB ((unhide HBA).mono hB).size))
 have HKF:=hide (Apart.keeps (c:=c) (Apart.of_below (unhide HBA)) ((unhide HBA).mono hB).size hkf (fun x hx=>by have:x=w.heap.size+1:=(by simpa using hx);omega))
 obtain⟨x0,x1,x2,x3,x4,x5,x6,x7,x8⟩:=nine e4
 clear hW' e4 hkf
 exact bodyPost_ret (v:= .tuple #[.agg #[.int .i64 n.id,.int .i64 n.par,.slice A.k n.kids.length A.ck,.int .i64 n.next,.slice A.p n.pu.length A.cp,.slice A.o n.out.length A.co,.slice A.s n.seen.length A.cs,.int .i64 n.old,.slice A.r n.reqs.length A.cr],.slice (some ⟨W1.heap.size,0,none⟩) 0 0,.int .i64 1]) (by simp[results,Tryz.results51,go_sem,x0,x1,x2,x3,x4,x5,x6,x7,x8]) rfl ⟨A,some ⟨W1.heap.size,0,none⟩,0,rfl,unhide HAT,fun W'' _ i hi=>by simp at hi,unhide HBF,unhide HKF⟩
theorem specGive_n02 (n:Nd) (A:Ads) (G:Blks) (c:Nat→Nat) (dst:Int) (key:ByteArray) (most:Int) (w:World) (B:Nat) (hB:B≤w.heap.size) (h9:∀x,6 < c x→c x=9) (pk:ByteArray) (pm pf ps:Int) (hpp:purseOf n.pu key=⟨pk,pm,pf,ps⟩) (hl:n.pu.length≤1048600) (hc:¬pf < most) (h1:¬most < 1) (h2:¬40≤n.out.length) (h3:1000000000≤n.next) (h:NQ w B n A G c):Calls Tryz.prog 51 #[ndv n A,.int .i64 dst,.string key,.int .i64 most] w (GivesT w B c (n,[],1)):=by
 have q0:decide (pf < most)=false:=by simpa using hc
 have q1:decide (most < 1)=false:=by simpa using h1
 have h2I:¬(40:Int)≤(n.out.length:Int):=by omega
 have q2:decide ((40:Int)≤(n.out.length:Int))=false:=by simpa using h2I
 have q3:decide ((1000000000:Int)≤n.next)=true:=by simpa using h3
 unfold GivesT
 have H9:=hide h9
 clear h9
 have HPO:=hide (fun W (ha:PursesAt W A.p n.pu)=>specPurseOf A.p A.cp n.pu key W hl ha)
 rw [hpp] at HPO
 unfold puv at HPO
 clear hpp
 have hbw0:=below_one w (.cells (ndc n A) 30)
 have HNO:=hide (h.nine hB)
 clear h
 go_enter Tryz.func51,Tryz.ntmps51
 go_upto_region 1 with fail
 refine wp_at (fun W0 hW=>?_)
 obtain⟨e1,e2,e3⟩:=allocsE2 w (.cells (ndc n A) 30) (.cells zc9 30)
 rw [←hW] at e1 e2 e3
 have HN:=hide e1
 have HR:=hide e2
 have HB0:=hide e3
 have HN0:=hide ((unhide HNO).kc (k:=9) (KC.of_below e3) (by omega))
 clear hW e1 e2 e3 HNO hbw0
 obtain⟨c0,c1,c2,c3,c4,c5,c6,c7,c8⟩:=nine (unhide HN)
 have hnl:=obj_lt (unhide HN)
 go_wp2_with fail
 refine(unhide HPO W0 (unhide HN0).at.p).mono ?_
 rintro e W1 ⟨rfl,hb1⟩
 have HN_1:=hide (obj_step (unhide HN) hb1)
 have HRX:=hide (obj_step (unhide HR) hb1)
 have HB1:=hide ((unhide HB0).trans (hb1.mono (unhide HB0).size))
 have HN1:=hide ((unhide HN0).kc (k:=9) (KC.of_below hb1) (by omega))
 clear hb1 c0 c1 c2 c3 c4 c5 c6 c7 c8 hnl HPO HN HR HN0 HB0
 have HRA:=hide (obj_step (unhide HRX) (below_one W1 (.cells #[] 37)))
 obtain⟨c0,c1,c2,c3,c4,c5,c6,c7,c8⟩:=nine (unhide HN_1)
 obtain⟨d0,d1,d2,d3,d4,d5,d6,d7,d8⟩:=nine (unhide HRA)
 have f0:=obj_free (unhide HRA) 0
 have f1:=obj_free (unhide HRA) 1
 have f2:=obj_free (unhide HRA) 2
 have f3:=obj_free (unhide HRA) 3
 have f4:=obj_free (unhide HRA) 4
 have f5:=obj_free (unhide HRA) 5
 have f6:=obj_free (unhide HRA) 6
 have f7:=obj_free (unhide HRA) 7
 have f8:=obj_free (unhide HRA) 8
 have hnl:=obj_lt (unhide HN_1)
 have hrl:=obj_lt (unhide HRA)
 go_wp2_with fail
 rw [fieldFree]
 go_upto_region 5 with fail
 go_wp2_with fail
 have HNA:=hide ((unhide HN1).kc (k:=9) (KC.of_below (below_one W1 (.cells #[] 37))) (by omega))
 have HBA:=hide ((unhide HB1).trans ((below_one W1 (.cells #[] 37)).mono (unhide HB1).size))
 refine bodyPost_atN (fun W' hW'=>?_)
 have e4:W'.heap[w.heap.size+1]?=some (.cells #[.int .i64 n.id,.int .i64 n.par,.slice A.k n.kids.length A.ck,.int .i64 n.next,.slice A.p n.pu.length A.cp,.slice A.o n.out.length A.co,.slice A.s n.seen.length A.cs,.int .i64 n.old,.slice A.r n.reqs.length A.cr] 30 (0,0)):=by
  rw [hW']
  exact GR.setW_blk [.int .i64 n.id,.int .i64 n.par,.slice A.k n.kids.length A.ck,.int .i64 n.next,.slice A.p n.pu.length A.cp,.slice A.o n.out.length A.co,.slice A.s n.seen.length A.cs,.int .i64 n.old,.slice A.r n.reqs.length A.cr] (o:=0) (xs:=[.int .i64 0,.int .i64 0,.slice none 0 0,.int .i64 0,.slice none 0 0,.slice none 0 0,.slice none 0 0,.int .i64 0,.slice none 0 0]) (unhide HRA)
 have hkf:KeepsL [w.heap.size+1] (W1.alloc (.cells #[] 37)) W':=by
  rw [hW']
  exact setW_keeps [.int .i64 n.id,.int .i64 n.par,.slice A.k n.kids.length A.ck,.int .i64 n.next,.slice A.p n.pu.length A.cp,.slice A.o n.out.length A.co,.slice A.s n.seen.length A.cs,.int .i64 n.old,.slice A.r n.reqs.length A.cr] (W1.alloc (.cells #[] 37)) 0
 have HAT:=hide (fun W'' (ho:Out c w W' W'')=>((unhide HNA).kc (k:=9) ((KC.keeps hkf (fun x hx=>by have:x=w.heap.size+1:=(by simpa using hx);rw [this];exact newC_new (by omega))).trans (KC.out (unhide H9) ho)) (by omega)).rm)
 have HBF:Hid (Below B w W'):=((unhide HBA).mono hB).trans (hkf.below (fun x hx=>by have:x=w.heap.size+1:=(by simpa using hx);omega) (Nat.le_trans hB ((unhide HBA).mono hB).size))
 have HKF:=hide (Apart.keeps (c:=c) (Apart.of_below (unhide HBA)) ((unhide HBA).mono hB).size hkf (fun x hx=>by have:x=w.heap.size+1:=(by simpa using hx);omega))
 obtain⟨x0,x1,x2,x3,x4,x5,x6,x7,x8⟩:=nine e4
 clear hW' e4 hkf
 exact bodyPost_ret (v:= .tuple #[.agg #[.int .i64 n.id,.int .i64 n.par,.slice A.k n.kids.length A.ck,.int .i64 n.next,.slice A.p n.pu.length A.cp,.slice A.o n.out.length A.co,.slice A.s n.seen.length A.cs,.int .i64 n.old,.slice A.r n.reqs.length A.cr],.slice (some ⟨W1.heap.size,0,none⟩) 0 0,.int .i64 1]) (by simp[results,Tryz.results51,go_sem,x0,x1,x2,x3,x4,x5,x6,x7,x8]) rfl ⟨A,some ⟨W1.heap.size,0,none⟩,0,rfl,unhide HAT,fun W'' _ i hi=>by simp at hi,unhide HBF,unhide HKF⟩
theorem specGive_n10 (n:Nd) (A:Ads) (G:Blks) (c:Nat→Nat) (dst:Int) (key:ByteArray) (most:Int) (w:World) (B:Nat) (hB:B≤w.heap.size) (h9:∀x,6 < c x→c x=9) (pk:ByteArray) (pm pf ps:Int) (hpp:purseOf n.pu key=⟨pk,pm,pf,ps⟩) (hl:n.pu.length≤1048600) (hc:pf < most) (h1:pf < 1) (h:NQ w B n A G c):Calls Tryz.prog 51 #[ndv n A,.int .i64 dst,.string key,.int .i64 most] w (GivesT w B c (n,[],1)):=by
 have q0:decide (pf < most)=true:=by simpa using hc
 have q1:decide (pf < 1)=true:=by simpa using h1
 unfold GivesT
 have H9:=hide h9
 clear h9
 have HPO:=hide (fun W (ha:PursesAt W A.p n.pu)=>specPurseOf A.p A.cp n.pu key W hl ha)
 rw [hpp] at HPO
 unfold puv at HPO
 clear hpp
 have hbw0:=below_one w (.cells (ndc n A) 30)
 have HNO:=hide (h.nine hB)
 clear h
 go_enter Tryz.func51,Tryz.ntmps51
 go_upto_region 1 with fail
 refine wp_at (fun W0 hW=>?_)
 obtain⟨e1,e2,e3⟩:=allocsE2 w (.cells (ndc n A) 30) (.cells zc9 30)
 rw [←hW] at e1 e2 e3
 have HN:=hide e1
 have HR:=hide e2
 have HB0:=hide e3
 have HN0:=hide ((unhide HNO).kc (k:=9) (KC.of_below e3) (by omega))
 clear hW e1 e2 e3 HNO hbw0
 obtain⟨c0,c1,c2,c3,c4,c5,c6,c7,c8⟩:=nine (unhide HN)
 have hnl:=obj_lt (unhide HN)
 go_wp2_with fail
 refine(unhide HPO W0 (unhide HN0).at.p).mono ?_
 rintro e W1 ⟨rfl,hb1⟩
 have HN_1:=hide (obj_step (unhide HN) hb1)
 have HRX:=hide (obj_step (unhide HR) hb1)
 have HB1:=hide ((unhide HB0).trans (hb1.mono (unhide HB0).size))
 have HN1:=hide ((unhide HN0).kc (k:=9) (KC.of_below hb1) (by omega))
 clear hb1 c0 c1 c2 c3 c4 c5 c6 c7 c8 hnl HPO HN HR HN0 HB0
 have HRA:=hide (obj_step (unhide HRX) (below_one W1 (.cells #[] 37)))
 obtain⟨c0,c1,c2,c3,c4,c5,c6,c7,c8⟩:=nine (unhide HN_1)
 obtain⟨d0,d1,d2,d3,d4,d5,d6,d7,d8⟩:=nine (unhide HRA)
 have f0:=obj_free (unhide HRA) 0
 have f1:=obj_free (unhide HRA) 1
 have f2:=obj_free (unhide HRA) 2
 have f3:=obj_free (unhide HRA) 3
 have f4:=obj_free (unhide HRA) 4
 have f5:=obj_free (unhide HRA) 5
 have f6:=obj_free (unhide HRA) 6
 have f7:=obj_free (unhide HRA) 7
 have f8:=obj_free (unhide HRA) 8
 have hnl:=obj_lt (unhide HN_1)
 have hrl:=obj_lt (unhide HRA)
 go_wp2_with fail
 rw [fieldFree]
 go_upto_region 5 with fail
 go_wp2_with fail
 have HNA:=hide ((unhide HN1).kc (k:=9) (KC.of_below (below_one W1 (.cells #[] 37))) (by omega))
 have HBA:=hide ((unhide HB1).trans ((below_one W1 (.cells #[] 37)).mono (unhide HB1).size))
 refine bodyPost_atN (fun W' hW'=>?_)
 have e4:W'.heap[w.heap.size+1]?=some (.cells #[.int .i64 n.id,.int .i64 n.par,.slice A.k n.kids.length A.ck,.int .i64 n.next,.slice A.p n.pu.length A.cp,.slice A.o n.out.length A.co,.slice A.s n.seen.length A.cs,.int .i64 n.old,.slice A.r n.reqs.length A.cr] 30 (0,0)):=by
  rw [hW']
  exact GR.setW_blk [.int .i64 n.id,.int .i64 n.par,.slice A.k n.kids.length A.ck,.int .i64 n.next,.slice A.p n.pu.length A.cp,.slice A.o n.out.length A.co,.slice A.s n.seen.length A.cs,.int .i64 n.old,.slice A.r n.reqs.length A.cr] (o:=0) (xs:=[.int .i64 0,.int .i64 0,.slice none 0 0,.int .i64 0,.slice none 0 0,.slice none 0 0,.slice none 0 0,.int .i64 0,.slice none 0 0]) (unhide HRA)
 have hkf:KeepsL [w.heap.size+1] (W1.alloc (.cells #[] 37)) W':=by
  rw [hW']
  exact setW_keeps [.int .i64 n.id,.int .i64 n.par,.slice A.k n.kids.length A.ck,.int .i64 n.next,.slice A.p n.pu.length A.cp,.slice A.o n.out.length A.co,.slice A.s n.seen.length A.cs,.int .i64 n.old,.slice A.r n.reqs.length A.cr] (W1.alloc (.cells #[] 37)) 0
 have HAT:=hide (fun W'' (ho:Out c w W' W'')=>((unhide HNA).kc (k:=9) ((KC.keeps hkf (fun x hx=>by have:x=w.heap.size+1:=(by simpa using hx);rw [this];exact newC_new (by omega))).trans (KC.out (unhide H9) ho)) (by omega)).rm)
 have HBF:Hid (Below B w W'):=((unhide HBA).mono hB).trans (hkf.below (fun x hx=>by have:x=w.heap.size+1:=(by simpa using hx);omega) (Nat.le_trans hB ((unhide HBA).mono hB).size))
 have HKF:=hide (Apart.keeps (c:=c) (Apart.of_below (unhide HBA)) ((unhide HBA).mono hB).size hkf (fun x hx=>by have:x=w.heap.size+1:=(by simpa using hx);omega))
 obtain⟨x0,x1,x2,x3,x4,x5,x6,x7,x8⟩:=nine e4
 clear hW' e4 hkf
 exact bodyPost_ret (v:= .tuple #[.agg #[.int .i64 n.id,.int .i64 n.par,.slice A.k n.kids.length A.ck,.int .i64 n.next,.slice A.p n.pu.length A.cp,.slice A.o n.out.length A.co,.slice A.s n.seen.length A.cs,.int .i64 n.old,.slice A.r n.reqs.length A.cr],.slice (some ⟨W1.heap.size,0,none⟩) 0 0,.int .i64 1]) (by simp[results,Tryz.results51,go_sem,x0,x1,x2,x3,x4,x5,x6,x7,x8]) rfl ⟨A,some ⟨W1.heap.size,0,none⟩,0,rfl,unhide HAT,fun W'' _ i hi=>by simp at hi,unhide HBF,unhide HKF⟩
theorem specGive_n11 (n:Nd) (A:Ads) (G:Blks) (c:Nat→Nat) (dst:Int) (key:ByteArray) (most:Int) (w:World) (B:Nat) (hB:B≤w.heap.size) (h9:∀x,6 < c x→c x=9) (pk:ByteArray) (pm pf ps:Int) (hpp:purseOf n.pu key=⟨pk,pm,pf,ps⟩) (hl:n.pu.length≤1048600) (hc:pf < most) (h1:¬pf < 1) (h2:40≤n.out.length) (h:NQ w B n A G c):Calls Tryz.prog 51 #[ndv n A,.int .i64 dst,.string key,.int .i64 most] w (GivesT w B c (n,[],1)):=by
 have q0:decide (pf < most)=true:=by simpa using hc
 have q1:decide (pf < 1)=false:=by simpa using h1
 have h2I:(40:Int)≤(n.out.length:Int):=by omega
 have q2:decide ((40:Int)≤(n.out.length:Int))=true:=by simpa using h2I
 unfold GivesT
 have H9:=hide h9
 clear h9
 have HPO:=hide (fun W (ha:PursesAt W A.p n.pu)=>specPurseOf A.p A.cp n.pu key W hl ha)
 rw [hpp] at HPO
 unfold puv at HPO
 clear hpp
 have hbw0:=below_one w (.cells (ndc n A) 30)
 have HNO:=hide (h.nine hB)
 clear h
 go_enter Tryz.func51,Tryz.ntmps51
 go_upto_region 1 with fail
 refine wp_at (fun W0 hW=>?_)
 obtain⟨e1,e2,e3⟩:=allocsE2 w (.cells (ndc n A) 30) (.cells zc9 30)
 rw [←hW] at e1 e2 e3
 have HN:=hide e1
 have HR:=hide e2
 have HB0:=hide e3
 have HN0:=hide ((unhide HNO).kc (k:=9) (KC.of_below e3) (by omega))
 clear hW e1 e2 e3 HNO hbw0
 obtain⟨c0,c1,c2,c3,c4,c5,c6,c7,c8⟩:=nine (unhide HN)
 have hnl:=obj_lt (unhide HN)
 go_wp2_with fail
 refine(unhide HPO W0 (unhide HN0).at.p).mono ?_
 rintro e W1 ⟨rfl,hb1⟩
 have HN_1:=hide (obj_step (unhide HN) hb1)
 have HRX:=hide (obj_step (unhide HR) hb1)
 have HB1:=hide ((unhide HB0).trans (hb1.mono (unhide HB0).size))
 have HN1:=hide ((unhide HN0).kc (k:=9) (KC.of_below hb1) (by omega))
 clear hb1 c0 c1 c2 c3 c4 c5 c6 c7 c8 hnl HPO HN HR HN0 HB0
 have HRA:=hide (obj_step (unhide HRX) (below_one W1 (.cells #[] 37)))
 obtain⟨c0,c1,c2,c3,c4,c5,c6,c7,c8⟩:=nine (unhide HN_1)
 obtain⟨d0,d1,d2,d3,d4,d5,d6,d7,d8⟩:=nine (unhide HRA)
 have f0:=obj_free (unhide HRA) 0
 have f1:=obj_free (unhide HRA) 1
 have f2:=obj_free (unhide HRA) 2
 have f3:=obj_free (unhide HRA) 3
 have f4:=obj_free (unhide HRA) 4
 have f5:=obj_free (unhide HRA) 5
 have f6:=obj_free (unhide HRA) 6
 have f7:=obj_free (unhide HRA) 7
 have f8:=obj_free (unhide HRA) 8
 have hnl:=obj_lt (unhide HN_1)
 have hrl:=obj_lt (unhide HRA)
 go_wp2_with fail
 rw [fieldFree]
 go_upto_region 5 with fail
 go_wp2_with fail
 have HNA:=hide ((unhide HN1).kc (k:=9) (KC.of_below (below_one W1 (.cells #[] 37))) (by omega))
 have HBA:=hide ((unhide HB1).trans ((below_one W1 (.cells #[] 37)).mono (unhide HB1).size))
 refine bodyPost_atN (fun W' hW'=>?_)
 have e4:W'.heap[w.heap.size+1]?=some (.cells #[.int .i64 n.id,.int .i64 n.par,.slice A.k n.kids.length A.ck,.int .i64 n.next,.slice A.p n.pu.length A.cp,.slice A.o n.out.length A.co,.slice A.s n.seen.length A.cs,.int .i64 n.old,.slice A.r n.reqs.length A.cr] 30 (0,0)):=by
  rw [hW']
  exact GR.setW_blk [.int .i64 n.id,.int .i64 n.par,.slice A.k n.kids.length A.ck,.int .i64 n.next,.slice A.p n.pu.length A.cp,.slice A.o n.out.length A.co,.slice A.s n.seen.length A.cs,.int .i64 n.old,.slice A.r n.reqs.length A.cr] (o:=0) (xs:=[.int .i64 0,.int .i64 0,.slice none 0 0,.int .i64 0,.slice none 0 0,.slice none 0 0,.slice none 0 0,.int .i64 0,.slice none 0 0]) (unhide HRA)
 have hkf:KeepsL [w.heap.size+1] (W1.alloc (.cells #[] 37)) W':=by
  rw [hW']
  exact setW_keeps [.int .i64 n.id,.int .i64 n.par,.slice A.k n.kids.length A.ck,.int .i64 n.next,.slice A.p n.pu.length A.cp,.slice A.o n.out.length A.co,.slice A.s n.seen.length A.cs,.int .i64 n.old,.slice A.r n.reqs.length A.cr] (W1.alloc (.cells #[] 37)) 0
 have HAT:=hide (fun W'' (ho:Out c w W' W'')=>((unhide HNA).kc (k:=9) ((KC.keeps hkf (fun x hx=>by have:x=w.heap.size+1:=(by simpa using hx);rw [this];exact newC_new (by omega))).trans (KC.out (unhide H9) ho)) (by omega)).rm)
 have HBF:Hid (Below B w W'):=((unhide HBA).mono hB).trans (hkf.below (fun x hx=>by have:x=w.heap.size+1:=(by simpa using hx);omega) (Nat.le_trans hB ((unhide HBA).mono hB).size))
 have HKF:=hide (Apart.keeps (c:=c) (Apart.of_below (unhide HBA)) ((unhide HBA).mono hB).size hkf (fun x hx=>by have:x=w.heap.size+1:=(by simpa using hx);omega))
 obtain⟨x0,x1,x2,x3,x4,x5,x6,x7,x8⟩:=nine e4
 clear hW' e4 hkf
 exact bodyPost_ret (v:= .tuple #[.agg #[.int .i64 n.id,.int .i64 n.par,.slice A.k n.kids.length A.ck,.int .i64 n.next,.slice A.p n.pu.length A.cp,.slice A.o n.out.length A.co,.slice A.s n.seen.length A.cs,.int .i64 n.old,.slice A.r n.reqs.length A.cr],.slice (some ⟨W1.heap.size,0,none⟩) 0 0,.int .i64 1]) (by simp[results,Tryz.results51,go_sem,x0,x1,x2,x3,x4,x5,x6,x7,x8]) rfl ⟨A,some ⟨W1.heap.size,0,none⟩,0,rfl,unhide HAT,fun W'' _ i hi=>by simp at hi,unhide HBF,unhide HKF⟩
theorem specGive_n12 (n:Nd) (A:Ads) (G:Blks) (c:Nat→Nat) (dst:Int) (key:ByteArray) (most:Int) (w:World) (B:Nat) (hB:B≤w.heap.size) (h9:∀x,6 < c x→c x=9) (pk:ByteArray) (pm pf ps:Int) (hpp:purseOf n.pu key=⟨pk,pm,pf,ps⟩) (hl:n.pu.length≤1048600) (hc:pf < most) (h1:¬pf < 1) (h2:¬40≤n.out.length) (h3:1000000000≤n.next) (h:NQ w B n A G c):Calls Tryz.prog 51 #[ndv n A,.int .i64 dst,.string key,.int .i64 most] w (GivesT w B c (n,[],1)):=by
 have q0:decide (pf < most)=true:=by simpa using hc
 have q1:decide (pf < 1)=false:=by simpa using h1
 have h2I:¬(40:Int)≤(n.out.length:Int):=by omega
 have q2:decide ((40:Int)≤(n.out.length:Int))=false:=by simpa using h2I
 have q3:decide ((1000000000:Int)≤n.next)=true:=by simpa using h3
 unfold GivesT
 have H9:=hide h9
 clear h9
 have HPO:=hide (fun W (ha:PursesAt W A.p n.pu)=>specPurseOf A.p A.cp n.pu key W hl ha)
 rw [hpp] at HPO
 unfold puv at HPO
 clear hpp
 have hbw0:=below_one w (.cells (ndc n A) 30)
 have HNO:=hide (h.nine hB)
 clear h
 go_enter Tryz.func51,Tryz.ntmps51
 go_upto_region 1 with fail
 refine wp_at (fun W0 hW=>?_)
 obtain⟨e1,e2,e3⟩:=allocsE2 w (.cells (ndc n A) 30) (.cells zc9 30)
 rw [←hW] at e1 e2 e3
 have HN:=hide e1
 have HR:=hide e2
 have HB0:=hide e3
 have HN0:=hide ((unhide HNO).kc (k:=9) (KC.of_below e3) (by omega))
 clear hW e1 e2 e3 HNO hbw0
 obtain⟨c0,c1,c2,c3,c4,c5,c6,c7,c8⟩:=nine (unhide HN)
 have hnl:=obj_lt (unhide HN)
 go_wp2_with fail
 refine(unhide HPO W0 (unhide HN0).at.p).mono ?_
 rintro e W1 ⟨rfl,hb1⟩
 have HN_1:=hide (obj_step (unhide HN) hb1)
 have HRX:=hide (obj_step (unhide HR) hb1)
 have HB1:=hide ((unhide HB0).trans (hb1.mono (unhide HB0).size))
 have HN1:=hide ((unhide HN0).kc (k:=9) (KC.of_below hb1) (by omega))
 clear hb1 c0 c1 c2 c3 c4 c5 c6 c7 c8 hnl HPO HN HR HN0 HB0
 have HRA:=hide (obj_step (unhide HRX) (below_one W1 (.cells #[] 37)))
 obtain⟨c0,c1,c2,c3,c4,c5,c6,c7,c8⟩:=nine (unhide HN_1)
 obtain⟨d0,d1,d2,d3,d4,d5,d6,d7,d8⟩:=nine (unhide HRA)
 have f0:=obj_free (unhide HRA) 0
 have f1:=obj_free (unhide HRA) 1
 have f2:=obj_free (unhide HRA) 2
 have f3:=obj_free (unhide HRA) 3
 have f4:=obj_free (unhide HRA) 4
 have f5:=obj_free (unhide HRA) 5
 have f6:=obj_free (unhide HRA) 6
 have f7:=obj_free (unhide HRA) 7
 have f8:=obj_free (unhide HRA) 8
 have hnl:=obj_lt (unhide HN_1)
 have hrl:=obj_lt (unhide HRA)
 go_wp2_with fail
 rw [fieldFree]
 go_upto_region 5 with fail
 go_wp2_with fail
 have HNA:=hide ((unhide HN1).kc (k:=9) (KC.of_below (below_one W1 (.cells #[] 37))) (by omega))
 have HBA:=hide ((unhide HB1).trans ((below_one W1 (.cells #[] 37)).mono (unhide HB1).size))
 refine bodyPost_atN (fun W' hW'=>?_)
 have e4:W'.heap[w.heap.size+1]?=some (.cells #[.int .i64 n.id,.int .i64 n.par,.slice A.k n.kids.length A.ck,.int .i64 n.next,.slice A.p n.pu.length A.cp,.slice A.o n.out.length A.co,.slice A.s n.seen.length A.cs,.int .i64 n.old,.slice A.r n.reqs.length A.cr] 30 (0,0)):=by
  rw [hW']
  exact GR.setW_blk [.int .i64 n.id,.int .i64 n.par,.slice A.k n.kids.length A.ck,.int .i64 n.next,.slice A.p n.pu.length A.cp,.slice A.o n.out.length A.co,.slice A.s n.seen.length A.cs,.int .i64 n.old,.slice A.r n.reqs.length A.cr] (o:=0) (xs:=[.int .i64 0,.int .i64 0,.slice none 0 0,.int .i64 0,.slice none 0 0,.slice none 0 0,.slice none 0 0,.int .i64 0,.slice none 0 0]) (unhide HRA)
 have hkf:KeepsL [w.heap.size+1] (W1.alloc (.cells #[] 37)) W':=by
  rw [hW']
  exact setW_keeps [.int .i64 n.id,.int .i64 n.par,.slice A.k n.kids.length A.ck,.int .i64 n.next,.slice A.p n.pu.length A.cp,.slice A.o n.out.length A.co,.slice A.s n.seen.length A.cs,.int .i64 n.old,.slice A.r n.reqs.length A.cr] (W1.alloc (.cells #[] 37)) 0
 have HAT:=hide (fun W'' (ho:Out c w W' W'')=>((unhide HNA).kc (k:=9) ((KC.keeps hkf (fun x hx=>by have:x=w.heap.size+1:=(by simpa using hx);rw [this];exact newC_new (by omega))).trans (KC.out (unhide H9) ho)) (by omega)).rm)
 have HBF:Hid (Below B w W'):=((unhide HBA).mono hB).trans (hkf.below (fun x hx=>by have:x=w.heap.size+1:=(by simpa using hx);omega) (Nat.le_trans hB ((unhide HBA).mono hB).size))
 have HKF:=hide (Apart.keeps (c:=c) (Apart.of_below (unhide HBA)) ((unhide HBA).mono hB).size hkf (fun x hx=>by have:x=w.heap.size+1:=(by simpa using hx);omega))
 obtain⟨x0,x1,x2,x3,x4,x5,x6,x7,x8⟩:=nine e4
 clear hW' e4 hkf
 exact bodyPost_ret (v:= .tuple #[.agg #[.int .i64 n.id,.int .i64 n.par,.slice A.k n.kids.length A.ck,.int .i64 n.next,.slice A.p n.pu.length A.cp,.slice A.o n.out.length A.co,.slice A.s n.seen.length A.cs,.int .i64 n.old,.slice A.r n.reqs.length A.cr],.slice (some ⟨W1.heap.size,0,none⟩) 0 0,.int .i64 1]) (by simp[results,Tryz.results51,go_sem,x0,x1,x2,x3,x4,x5,x6,x7,x8]) rfl ⟨A,some ⟨W1.heap.size,0,none⟩,0,rfl,unhide HAT,fun W'' _ i hi=>by simp at hi,unhide HBF,unhide HKF⟩
theorem specGive_s0 (n:Nd) (a_k a_p a_o a_s a_r:Option Addr) (a_ck a_cp a_co a_cs a_cr:Nat) (G:Blks) (c:Nat→Nat) (dst:Int) (key:ByteArray) (most:Int) (w:World) (B:Nat) (hB:B≤w.heap.size) (h9:∀x,6 < c x→c x=9) (pk:ByteArray) (pm pf ps:Int) (hpp:purseOf n.pu key=⟨pk,pm,pf,ps⟩) (hl:n.pu.length≤1048600) (hz:NdSz n 1048576) (hkey:key.size≤1048576) (hP:∃g,a_p=some ⟨g,0,none⟩) (hPc:n.pu.length≤a_cp) (RL:List Pu) (bu:Bool) (hu:addP n.pu key 0 (-1) 0 most=(RL,bu)) (hc:¬pf < most) (h1:¬most < 1) (h2:¬40≤n.out.length) (h3:¬1000000000≤n.next) (h0:0≤n.next) (h:NQ w B n (⟨a_k,a_p,a_o,a_s,a_r,a_ck,a_cp,a_co,a_cs,a_cr⟩:Ads) G c):Calls Tryz.prog 51 #[ndv n (⟨a_k,a_p,a_o,a_s,a_r,a_ck,a_cp,a_co,a_cs,a_cr⟩:Ads),.int .i64 dst,.string key,.int .i64 most] w (GivesT w B c (⟨n.id,n.par,n.kids,n.next+1,RL,n.out++[⟨n.next,dst,key,most⟩],n.seen,n.old,n.reqs⟩,[payM ⟨n.id,n.par,n.kids,n.next+1,RL,n.out++[⟨n.next,dst,key,most⟩],n.seen,n.old,n.reqs⟩ ⟨n.next,dst,key,most⟩],0)):=by
 have q0:decide (pf < most)=false:=by simpa using hc
 have q1:decide (most < 1)=false:=by simpa using h1
 have h2I:¬(40:Int)≤(n.out.length:Int):=by omega
 have q2:decide ((40:Int)≤(n.out.length:Int))=false:=by simpa using h2I
 have q3:decide ((1000000000:Int)≤n.next)=false:=by simpa using h3
 obtain⟨gp,hgp⟩:=hP
 subst hgp
 obtain⟨i0,hi,hz0,hz1,hz2⟩:=info_parts infoSnt
 have HPT:=hide (fun W (ha:PursesAt W (some ⟨gp,0,none⟩) n.pu)=>specPart gp 0 a_cp n.pu key most W (Nat.le_trans hz.p (by omega)) hPc hz.pk hkey ha)
 unfold GivesO at HPT
 rw [hu] at HPT
 obtain⟨PM,hPM⟩:∃PM,payM ⟨n.id,n.par,n.kids,n.next+1,RL,n.out++[⟨n.next,dst,key,most⟩],n.seen,n.old,n.reqs⟩ ⟨n.next,dst,key,most⟩=PM:=⟨_,rfl⟩
 have HPM:=hide hPM
 rw [hPM]
 clear hz hPc hu hPM
 unfold GivesT
 have H9:=hide h9
 clear h9
 have HPO:=hide (fun W (ha:PursesAt W (some ⟨gp,0,none⟩) n.pu)=>specPurseOf (some ⟨gp,0,none⟩) a_cp n.pu key W hl ha)
 rw [hpp] at HPO
 unfold puv at HPO
 clear hpp
 have hbw0:=below_one w (.cells (ndc n (⟨a_k,(some ⟨gp,0,none⟩),a_o,a_s,a_r,a_ck,a_cp,a_co,a_cs,a_cr⟩:Ads)) 30)
 have HNO:=hide (h.nine hB)
 clear h
 go_enter Tryz.func51,Tryz.ntmps51
 go_upto_region 1 with fail
 refine wp_at (fun W0 hW=>?_)
 obtain⟨e1,e2,e3⟩:=allocsE2 w (.cells (ndc n (⟨a_k,(some ⟨gp,0,none⟩),a_o,a_s,a_r,a_ck,a_cp,a_co,a_cs,a_cr⟩:Ads)) 30) (.cells zc9 30)
 rw [←hW] at e1 e2 e3
 have HN:=hide e1
 have HR:=hide e2
 have HB0:=hide e3
 have HN0:=hide ((unhide HNO).kc (k:=9) (KC.of_below e3) (by omega))
 clear hW e1 e2 e3 HNO hbw0
 obtain⟨c0,c1,c2,c3,c4,c5,c6,c7,c8⟩:=nine (unhide HN)
 have hnl:=obj_lt (unhide HN)
 go_wp2_with fail
 refine(unhide HPO W0 (unhide HN0).at.p).mono ?_
 rintro e W1 ⟨rfl,hb1⟩
 have HN_1:=hide (obj_step (unhide HN) hb1)
 have HRX:=hide (obj_step (unhide HR) hb1)
 have HB1:=hide ((unhide HB0).trans (hb1.mono (unhide HB0).size))
 have HN1:=hide ((unhide HN0).kc (k:=9) (KC.of_below hb1) (by omega))
 clear hb1 c0 c1 c2 c3 c4 c5 c6 c7 c8 hnl HPO HN HR HN0 HB0
 have HI:=hide (And.intro hi (And.intro hz0 (And.intro hz1 hz2)))
 clear hi hz0 hz1 hz2
 obtain⟨c0,c1,c2,c3,c4,c5,c6,c7,c8⟩:=nine (unhide HN_1)
 have hnl:=obj_lt (unhide HN_1)
 have hrl:=obj_lt (unhide HRX)
 go_wp2_with fail
 rw [fieldFree]
 go_upto_region 6 with fail
 go_wp2_with fail
 refine(unhide HPT W1 (unhide HN1).at.p).mono ?_
 rintro e W2 ⟨v,rfl,hne,hrow,hb2⟩
 obtain⟨av,cv,rfl,_⟩:=GR.own_at (enc:=encP) (sz:=4) encP_length hrow
 have HN_2:=hide (obj_step (unhide HN_1) hb2)
 have HR_2:=hide (obj_step (unhide HRX) hb2)
 have HB2:=hide ((unhide HB1).trans (hb2.mono (unhide HB1).size))
 have HN2:=hide ((unhide HN1).kc (k:=9) (KC.of_below hb2) (by omega))
 have HP2:=hide hrow
 have hbs:w.heap.size+1 < W1.heap.size:=hrl
 generalize W1.heap.size=bs at *
 clear hb2 hne hrow c0 c1 c2 c3 c4 c5 c6 c7 c8 hnl hrl HPT HN_1 HRX HB1 HN1
 have f4n:=obj_free (unhide HN_2) 4
 have c4n:=(nine (unhide HN_2)).2.2.2.2.1
 have hn2:=obj_lt (unhide HN_2)
 go_upto_region 7 with fail
 refine wp_at (fun Z6 hZ=>?_)
 have HN_6:Hid (Z6.heap[w.heap.size]?=some (.cells #[.int .i64 n.id,.int .i64 n.par,.slice a_k n.kids.length a_ck,.int .i64 n.next,.slice av RL.length cv,.slice a_o n.out.length a_co,.slice a_s n.seen.length a_cs,.int .i64 n.old,.slice a_r n.reqs.length a_cr] 30 (0,0))):=by rw [hZ];exact setN9 (unhide HN_2)
 have HR_6:Hid (Z6.heap[w.heap.size+1]?=some (.cells zc9 30 (0,0))):=by rw [hZ];exact oth_set (unhide HR_2) (by omega)
 have HN6:Hid (NQ Z6 B n (⟨a_k,(some ⟨gp,0,none⟩),a_o,a_s,a_r,a_ck,a_cp,a_co,a_cs,a_cr⟩:Ads) G (newC w.heap.size 9 c)):=by rw [hZ];exact(unhide HN2).kc (k:=9) (KC.set (newC_new (Nat.le_refl _))) (by omega)
 have HP6:Hid (Z6.ownsRow bs 80 4 (.slice av RL.length cv) RL.length (GR.flat encP RL)):=by rw [hZ];exact own_keepsL (unhide HP2) (KeepsL.set _) (fun y hy=>by have:y=w.heap.size:=(by simpa using hy);omega)
 have HB6:Hid (Below B w Z6):=by rw [hZ];exact((unhide HB2).mono hB).setCell (p:=⟨w.heap.size,4,none⟩) hB _
 have HK6:Hid (Apart c w Z6):=by rw [hZ];exact(Apart.of_below (unhide HB2)).keeps (unhide HB2).size (KeepsL.set _) (fun y hy=>by have:y=w.heap.size:=(by simpa using hy);omega)
 clear hZ HN_2 HR_2 HN2 HP2 HB2 f4n c4n hn2
 have c3n:=(nine (unhide HN_6)).2.2.2.1
 have hn6:=obj_lt (unhide HN_6)
 go_upto_region 8 with fail
 refine wp_at (fun Z7 hZ=>?_)
 have HS7:Hid (Z7.heap[Z6.heap.size]?=some (.cells #[.int .i64 n.next,.int .i64 dst,.string key,.int .i64 most] 40 (0,0))):=by
  rw [hZ]
  exact heap_alloc_new Z6 _
 have hb7:Below Z6.heap.size Z6 Z7:=by
  rw [hZ]
  exact below_one Z6 _
 have HN_7:=hide (obj_step (unhide HN_6) hb7)
 have HR_7:=hide (obj_step (unhide HR_6) hb7)
 have HN7:=hide ((unhide HN6).kc (k:=9) (KC.of_below hb7) (by omega))
 have HP7:=hide (GR.own_below (unhide HP6) hb7)
 have HB7:=hide ((unhide HB6).trans (hb7.mono (Nat.le_trans hB (unhide HB6).size)))
 have HK7:=hide ((unhide HK6).step (unhide HB6).size hb7)
 have hsb:w.heap.size+1 < Z6.heap.size:=obj_lt (unhide HR_6)
 generalize Z6.heap.size=sb at *
 clear hZ hb7 HN_6 HR_6 HN6 HP6 HB6 HK6 c3n hn6
 have c3n:=(nine (unhide HN_7)).2.2.2.1
 have f3n:=obj_free (unhide HN_7) 3
 have hn7:=obj_lt (unhide HN_7)
 go_upto_region 9 with fail
 refine wp_at (fun Z8 hZ=>?_)
 have HN_8:Hid (Z8.heap[w.heap.size]?=some (.cells #[.int .i64 n.id,.int .i64 n.par,.slice a_k n.kids.length a_ck,.int .i64 (n.next+1),.slice av RL.length cv,.slice a_o n.out.length a_co,.slice a_s n.seen.length a_cs,.int .i64 n.old,.slice a_r n.reqs.length a_cr] 30 (0,0))):=by rw [hZ];exact setN9 (unhide HN_7)
 have HR_8:Hid (Z8.heap[w.heap.size+1]?=some (.cells zc9 30 (0,0))):=by rw [hZ];exact oth_set (unhide HR_7) (by omega)
 have HS8:Hid (Z8.heap[sb]?=some (.cells #[.int .i64 n.next,.int .i64 dst,.string key,.int .i64 most] 40 (0,0))):=by rw [hZ];exact oth_set (unhide HS7) (by omega)
 have HN8:Hid (NQ Z8 B n (⟨a_k,(some ⟨gp,0,none⟩),a_o,a_s,a_r,a_ck,a_cp,a_co,a_cs,a_cr⟩:Ads) G (newC w.heap.size 9 c)):=by rw [hZ];exact(unhide HN7).kc (k:=9) (KC.set (newC_new (Nat.le_refl _))) (by omega)
 have HP8:Hid (Z8.ownsRow bs 80 4 (.slice av RL.length cv) RL.length (GR.flat encP RL)):=by rw [hZ];exact own_keepsL (unhide HP7) (KeepsL.set _) (fun y hy=>by have:y=w.heap.size:=(by simpa using hy);omega)
 have HB8:Hid (Below B w Z8):=by rw [hZ];exact(unhide HB7).setCell (p:=⟨w.heap.size,3,none⟩) hB _
 have HK8:Hid (Apart c w Z8):=by rw [hZ];exact(unhide HK7).keeps (unhide HB7).size (KeepsL.set _) (fun y hy=>by have:y=w.heap.size:=(by simpa using hy);omega)
 clear hZ HK7 HN_7 HR_7 HN7 HP7 HB7 HS7 c3n f3n hn7
 obtain⟨a6,c6,W9,hrun,hown9,hgr9,hwh9⟩:∃a6 c6 W9,(Builtin.append_ #[26,26] 26 #[.slice a_o n.out.length a_co,.slice (some ⟨Z8.heap.size,0,none⟩) 1 1]).run Tryz.prog (Z8.alloc (.cells #[.int .i64 n.next,.int .i64 dst,.string key,.int .i64 most] 40))= .ok (.slice a6 (n.out.length+1) c6) W9∧W9.ownsRow B 40 4 (.slice a6 (n.out.length+1) c6) (n.out.length+1) (GR.flat encSnt (n.out++[⟨n.next,dst,key,most⟩]))∧(Z8.alloc (.cells #[.int .i64 n.next,.int .i64 dst,.string key,.int .i64 most] 40)).grownBy W9 (Value.slice a_o n.out.length a_co).ownBlock∧∀x,(Value.slice a6 (n.out.length+1) c6).ownBlock=some x→(Value.slice a_o n.out.length a_co).ownBlock=some x∨(Z8.alloc (.cells #[.int .i64 n.next,.int .i64 dst,.string key,.int .i64 most] 40)).heap.size≤x:=by
  obtain⟨hi,hz0,hz1,hz2⟩:=unhide HI
  obtain⟨v',w',hr,ho,hg,hw⟩:=run_append_where (P:=Tryz.prog) (Z8.alloc (.cells #[.int .i64 n.next,.int .i64 dst,.string key,.int .i64 most] 40)) B 26 26 40 i0 (.agg #[.int .i64 0,.int .i64 0,.string ByteArray.empty,.int .i64 0]) 4 40 Tryz.underlying26 hi hz0 hz1 hz2 rfl (by decide) (.slice a_o n.out.length a_co) n.out.length (GR.flat encSnt n.out) (GR.own_below (unhide HN8).o (below_one Z8 _)) ⟨Z8.heap.size,0,none⟩ 1 1 (encSnt ⟨n.next,dst,key,most⟩) rfl (World.news_of_block (heap_alloc_new Z8 _)) (encSnt_one _) (by unfold maxLen;omega) (by omega) (Nat.le_trans (Nat.le_trans hB (unhide HB8).size) (below_one Z8 _).size)
  obtain⟨a6,c6,hv6,_⟩:=GR.own_at (enc:=encSnt) (sz:=4) (l:=n.out++[⟨n.next,dst,key,most⟩]) encSnt_length (by rw [List.length_append,flat_snoc];exact ho)
  rw [List.length_append] at hv6
  have hv7:v'= .slice a6 (n.out.length+1) c6:=hv6
  subst hv7
  exact⟨a6,c6,w',hr,by rw [flat_snoc];exact ho,hg,hw⟩
 have hNA:=(unhide HN8).kc (k:=9) (KC.of_below (below_one Z8 (.cells #[.int .i64 n.next,.int .i64 dst,.string key,.int .i64 most] 40))) (by omega)
 have k9:KC (newC w.heap.size 9 c) 3 (Z8.alloc (.cells #[.int .i64 n.next,.int .i64 dst,.string key,.int .i64 most] 40)) W9:=KC.grown hgr9 hNA.co
 have hn9:∀x,w.heap.size≤x→newC w.heap.size 9 c x≠3:=fun x hx=>by rw [newC_new hx];omega
 have HN_9:=hide (k9.obj (obj_step (unhide HN_8) (below_one Z8 (.cells #[.int .i64 n.next,.int .i64 dst,.string key,.int .i64 most] 40))) (hn9 _ (Nat.le_refl _)))
 have HR_9:=hide (k9.obj (obj_step (unhide HR_8) (below_one Z8 (.cells #[.int .i64 n.next,.int .i64 dst,.string key,.int .i64 most] 40))) (hn9 _ (by omega)))
 have HS_9:=hide (k9.obj (obj_step (unhide HS8) (below_one Z8 (.cells #[.int .i64 n.next,.int .i64 dst,.string key,.int .i64 most] 40))) (hn9 _ (by omega)))
 have HB9:=hide (k9.below (B:=B) ((unhide HB8).trans ((below_one Z8 (.cells #[.int .i64 n.next,.int .i64 dst,.string key,.int .i64 most] 40)).mono (Nat.le_trans hB (unhide HB8).size))) hNA.lo (by omega) (Nat.le_trans (Nat.le_trans hB (unhide HB8).size) (below_one Z8 _).size))
 have hZ8:w.heap.size+1 < Z8.heap.size:=obj_lt (unhide HR_8)
 have HNX:Hid (∀W',(∃F,KeepsL F W9 W'∧∀y∈F,(y=w.heap.size∨y=w.heap.size+1)∨(y < w.heap.size∧6 < c y))→RM W' ⟨a_k,av,a6,a_s,a_r,a_ck,cv,c6,a_cs,a_cr⟩ ⟨n.id,n.par,n.kids,n.next+1,RL,n.out++[⟨n.next,dst,key,most⟩],n.seen,n.old,n.reqs⟩):=fun W' hkF=>by
  obtain⟨F,hk,hF⟩:=hkF
  have kF:KC (newC w.heap.size 9 c) 9 W9 W':=KC.keeps hk (fun y hy=>by
   rcases hF y hy with h1|h1
   ·exact newC_new (by omega)
   ·rw [newC_old h1.1];exact unhide H9 y h1.2)
  have hr:=(kF.own (k9.own hNA.r hNA.cr (by omega)) hNA.cr (by omega))
  have hp:=(own_keepsL (k9.own (j:=9) (GR.own_below (unhide HP8) (below_one Z8 _)) (fun x hx=>newC_new (by have:=own_lo (unhide HP8) hx;omega)) (by omega)) hk (fun y hy=>by
   have:=hF y hy
   omega))
  have ho:W'.ownsRow B 40 4 (.slice a6 (n.out++[(⟨n.next,dst,key,most⟩:Snt)]).length c6) (n.out++[(⟨n.next,dst,key,most⟩:Snt)]).length (GR.flat encSnt (n.out++[(⟨n.next,dst,key,most⟩:Snt)])):=(by
   rw [List.length_append]
   exact own_blocks hown9 (fun x hx=>by
    have hx9:=own_lt hown9 hx
    refine hk.block x hx9 (fun hm=>?_)
    have hm':=hF x hm
    rcases hwh9 x hx with h1|h1
    ·have h2:=hNA.co x h1
     rcases hm' with h3|h3
     ·rw [newC_new (by omega)] at h2
      cases h2
     ·rw [newC_old h3.1] at h2
      omega
    ·have:=(below_one Z8 (.cells #[.int .i64 n.next,.int .i64 dst,.string key,.int .i64 most] 40)).size
     omega))
  have hp9:∀g,av.map (fun y=>y.block)=some g→6 < newC w.heap.size 9 c g:=fun g hg=>by
   have h1:=own_lo hp (own_blkA hp hg)
   rw [newC_new (by omega)]
   omega
  have ho9:∀x,(Value.slice a6 (n.out++[(⟨n.next,dst,key,most⟩:Snt)]).length c6).ownBlock=some x→(Value.slice a_o n.out.length a_co).ownBlock=some x∨(Z8.alloc (.cells #[.int .i64 n.next,.int .i64 dst,.string key,.int .i64 most] 40)).heap.size≤x:=fun x hx=>by
   rw [List.length_append] at hx
   exact hwh9 x hx
  have hz9:(Z8.alloc (.cells #[.int .i64 n.next,.int .i64 dst,.string key,.int .i64 most] 40)).heap.size=Z8.heap.size+1:=by simp
  exact RM.of (n:=⟨n.id,n.par,n.kids,n.next+1,RL,n.out++[⟨n.next,dst,key,most⟩],n.seen,n.old,n.reqs⟩) (A:=⟨a_k,av,a6,a_s,a_r,a_ck,cv,c6,a_cs,a_cr⟩) (c:=newC w.heap.size 9 c) (kF.w (k9.w hNA.k hNA.ck (by omega)) hNA.ck (by omega)) hNA.ck (kF.seenQ (k9.seenQ hNA.sq hNA.c4 hNA.ci (by omega) (by omega)) hNA.c4 hNA.ci (by omega) (by omega)) hNA.c4 hNA.ci hNA.ni
   (GR.own_ati encP_length hp) (fun g hg _=> .inr (hp9 g hg)) ho (fun x hx=>by
    rcases ho9 x hx with h1|h1
    ·exact .inl (hNA.co x h1)
    ·refine .inr ?_
     rw [newC_new (by omega)]
     omega) hr (fun x hx=> .inl (hNA.cr x hx))
   (fun g hg _ h6=>⟨fun e=>by
    rcases ho9 g e with h1|h1
    ·have:=hNA.co g h1
     omega
    ·have h2:=own_lt (unhide HP8) (own_blkA (unhide HP8) hg)
     omega,fun e=>by have:=hNA.cr g e;omega⟩) (fun x hx h6 e=>by have:=hNA.cr x e;omega)
 have HK9:=hide (((unhide HK8).step (unhide HB8).size (below_one Z8 (.cells #[.int .i64 n.next,.int .i64 dst,.string key,.int .i64 most] 40))).grown (Nat.le_trans (unhide HB8).size (below_one Z8 _).size) hgr9 (fun x hx hlt=>by
  have h1:=hNA.co x hx
  rw [newC_old hlt] at h1
  omega))
 have HRUN:=hide hrun
 clear hrun hown9 hgr9 hwh9 hNA k9 hn9 HP8 HN8 HB8 HK8
 have c5n:=(nine (unhide HN_8)).2.2.2.2.2.1
 obtain⟨s0,s1,s2,s3⟩:=fourC (unhide HS8)
 have c5w:=(nine (unhide HN_9)).2.2.2.2.2.1
 have f5w:=obj_free (unhide HN_9) 5
 have hn8:=obj_lt (unhide HN_8)
 have hs8:=obj_lt (unhide HS8)
 go_upto_region 10 with(at_builtin;refine wpList_append_eq rfl _ _ 26 rfl _ _ rfl rfl _ _ (unhide HRUN) ?_)
 refine wp_at (fun Z9 hZ=>?_)
 have HN_Z:Hid (Z9.heap[w.heap.size]?=some (.cells #[.int .i64 n.id,.int .i64 n.par,.slice a_k n.kids.length a_ck,.int .i64 (n.next+1),.slice av RL.length cv,.slice a6 (n.out.length+1) c6,.slice a_s n.seen.length a_cs,.int .i64 n.old,.slice a_r n.reqs.length a_cr] 30 (0,0))):=by rw [hZ];exact setN9 (unhide HN_9)
 have HR_Z:Hid (Z9.heap[w.heap.size+1]?=some (.cells zc9 30 (0,0))):=by rw [hZ];exact oth_set (unhide HR_9) (by omega)
 have HS_Z:Hid (Z9.heap[sb]?=some (.cells #[.int .i64 n.next,.int .i64 dst,.string key,.int .i64 most] 40 (0,0))):=by rw [hZ];exact oth_set (unhide HS_9) (by omega)
 have HNZ:Hid (∀W' W'',KeepsL [w.heap.size+1] Z9 W'→Out c w W' W''→RM W'' ⟨a_k,av,a6,a_s,a_r,a_ck,cv,c6,a_cs,a_cr⟩ ⟨n.id,n.par,n.kids,n.next+1,RL,n.out++[⟨n.next,dst,key,most⟩],n.seen,n.old,n.reqs⟩):=fun W' W'' hk ho=>by
  obtain⟨F,hk2,hF⟩:=ho
  refine unhide HNX W'' ⟨w.heap.size::(w.heap.size+1)::F,KeepsL.trans (b:=Z9) (by rw [hZ];exact(KeepsL.set _).mono (fun x hx=>by simp at hx;simp[hx])) (KeepsL.trans (hk.mono (fun x hx=>by simp at hx;simp[hx])) (hk2.mono (fun x hx=>by simp[hx]))),fun y hy=>?_⟩
  rcases List.mem_cons.1 hy with h1|h1
  ·exact .inl (.inl h1)
  ·rcases List.mem_cons.1 h1 with h2|h2
   ·exact .inl (.inr h2)
   ·exact .inr (hF y h2)
 have HBZ:Hid (Below B w Z9):=by rw [hZ];exact(unhide HB9).setCell (p:=⟨w.heap.size,5,none⟩) hB _
 have HKZ:Hid (Apart c w Z9):=by rw [hZ];exact(unhide HK9).keeps (unhide HB9).size (KeepsL.set _) (fun y hy=>by have:y=w.heap.size:=(by simpa using hy);omega)
 clear hZ HK9 HNX HRUN HN_9 HR_9 HS_9 HB9 c5n s0 s1 s2 s3 c5w f5w hn8 hs8 HN_8 HR_8 HS8 hZ8
 have HNV:Hid (ndv ⟨n.id,n.par,n.kids,n.next+1,RL,n.out++[⟨n.next,dst,key,most⟩],n.seen,n.old,n.reqs⟩ ⟨a_k,av,a6,a_s,a_r,a_ck,cv,c6,a_cs,a_cr⟩= .agg #[.int .i64 n.id,.int .i64 n.par,.slice a_k n.kids.length a_ck,.int .i64 (n.next+1),.slice av RL.length cv,.slice a6 (n.out.length+1) c6,.slice a_s n.seen.length a_cs,.int .i64 n.old,.slice a_r n.reqs.length a_cr]):=by unfold Hid;simp[ndv,ndc]
 have HPY:Hid (∀x,Ge Z9 x→Calls Tryz.prog 15 #[.agg #[.int .i64 n.id,.int .i64 n.par,.slice a_k n.kids.length a_ck,.int .i64 (n.next+1),.slice av RL.length cv,.slice a6 (n.out.length+1) c6,.slice a_s n.seen.length a_cs,.int .i64 n.old,.slice a_r n.reqs.length a_cr],.agg #[.int .i64 n.next,.int .i64 dst,.string key,.int .i64 most]] x fun e w'=>e= .returned (mgv PM)∧Below x.heap.size x w'):=fun x hx=>by
  have h1:=specPay ⟨n.id,n.par,n.kids,n.next+1,RL,n.out++[⟨n.next,dst,key,most⟩],n.seen,n.old,n.reqs⟩ ⟨a_k,av,a6,a_s,a_r,a_ck,cv,c6,a_cs,a_cr⟩ ⟨n.next,dst,key,most⟩ x (by simp;omega) (GR.At.below (unhide HNZ Z9 Z9 (KeepsL.refl _ _) Out.refl).at.o hx)
  rw [unhide HPM,unhide HNV] at h1
  exact h1
 obtain⟨qK,qF,qT,qI,qL,qk,qN⟩:=PM
 unfold mgv at HPY
 have HFIN:Hid (∀W' mb,KeepsL [w.heap.size+1] Z9 W'→W'.heap[mb]?=some (.cells #[.int .i64 qK,.int .i64 qF,.int .i64 qT,.int .i64 qI,.int .i64 qL,.string qk,.int .i64 qN] 37 (0,0))→w.heap.size≤mb→(∀W'',Out c w W' W''→RM W'' ⟨a_k,av,a6,a_s,a_r,a_ck,cv,c6,a_cs,a_cr⟩ ⟨n.id,n.par,n.kids,n.next+1,RL,n.out++[⟨n.next,dst,key,most⟩],n.seen,n.old,n.reqs⟩)∧(∀W'',Out c w W' W''→GR.At encM 7 W'' (some ⟨mb,0,none⟩) [⟨qK,qF,qT,qI,qL,qk,qN⟩])∧Below B w W'∧Apart c w W'):=fun W' mb hk hm hmb=>by
  refine⟨fun W'' ho=>unhide HNZ W' W'' hk ho,fun W'' ho i hi=>?_,(unhide HBZ).trans (hk.below (fun x hx=>by have:x=w.heap.size+1:=(by simpa using hx);omega) (Nat.le_trans hB (unhide HBZ).size)),(unhide HKZ).keeps (unhide HBZ).size hk (fun x hx=>by have:x=w.heap.size+1:=(by simpa using hx);omega)⟩
  obtain⟨F,hk2,hF⟩:=ho
  have hm2:=hk2.obj hm (fun hx=>by have:=(hF mb hx).1;omega)
  refine⟨mb,0,rfl,obj_lt hm2,fun j hj=>?_⟩
  have hi0:i=0:=by simp at hi;omega
  subst hi0
  have h1:=cell_of_row W'' mb (0+(0*7+j)) _ _ (0,0) hm2
  rw [h1]
  simp[encM]
 clear HNZ HBZ HKZ HPM
 obtain⟨c0,c1,c2,c3,c4,c5,c6,c7,c8⟩:=nine (unhide HN_Z)
 obtain⟨s0,s1,s2,s3⟩:=fourC (unhide HS_Z)
 have y0:=cell_regrown c0
 have y1:=cell_regrown c1
 have y2:=cell_regrown c2
 have y3:=cell_regrown c3
 have y4:=cell_regrown c4
 have y5:=cell_regrown c5
 have y6:=cell_regrown c6
 have y7:=cell_regrown c7
 have y8:=cell_regrown c8
 have x0:=cell_regrown s0
 have x1:=cell_regrown s1
 have x2:=cell_regrown s2
 have x3:=cell_regrown s3
 have hnz:=obj_lt (unhide HN_Z)
 have hsz:=obj_lt (unhide HS_Z)
 clear c0 c1 c2 c3 c4 c5 c6 c7 c8 s0 s1 s2 s3
 refine wp_region_mixF 5 (by kernel_rfl) ?_
 show wpMixF _ _ _ _ _ 8 (Array.replicate 8 false) _ _
 refine wpMixF_take 0 20 rfl (by kernel_rfl) (by kernel_rfl) (by kernel_rfl) (by kernel_rfl) (by kernel_rfl) (fun _ _ _ _ h=>h) (fun K hK=>?_)
 go_simp
 first
  |(refine hK _ ?_;clear hK K)
  |(apply Exists.intro
    refine⟨fun _=>?_,hK _ ?_⟩
    (fail)
    clear hK K)
 refine wpMixF_take 1 20 rfl (by kernel_rfl) (by kernel_rfl) (by kernel_rfl) (by kernel_rfl) (by kernel_rfl) (fun _ _ _ _ h=>h) (fun K hK=>?_)
 go_simp
 first
  |(refine hK _ ?_;clear hK K)
  |(apply Exists.intro
    refine⟨fun _=>?_,hK _ ?_⟩
    (fail)
    clear hK K)
 refine wpMixF_take 2 20 rfl (by kernel_rfl) (by kernel_rfl) (by kernel_rfl) (by kernel_rfl) (by kernel_rfl) (fun _ _ _ _ h=>h) (fun K hK=>?_)
 go_simp
 first
  |(refine hK _ ?_;clear hK K)
  |(apply Exists.intro
    refine⟨fun _=>?_,hK _ ?_⟩
    (fail)
    clear hK K)
 clear y0 y1 y2 y3 y4 y5 y6 y7 y8 x0 x1 x2 x3 hnz hsz HN_Z HS_Z
 refine wpMixF_one 3 rfl (by kernel_rfl) (by rfl) (by decide) (fun x hx=>?_)
 go_simp
 refine(unhide HPY x hx).mono ?_
 rintro e y ⟨rfl,hby⟩
 refine⟨hby,?_⟩
 have HY:=hide (Ge.trans hx hby)
 clear hx hby HPY
 refine wpMixF_two 4 rfl rfl (by kernel_rfl) (by rfl) (by rfl) (by decide) (fun z hz=>?_) (fun z hz=>?_)
 ·have HZ:=hide (Ge.trans (unhide HY) hz)
  clear hz HY
  go_simp
  refine⟨below_one z _,?_⟩
  refine wpMixF_leave (by kernel_rfl) (fun z2 hz2=>?_)
  have HZ2:=hide (Ge.trans (unhide HZ) (Ge.trans (below_one z _) hz2))
  have HM2:=hide (obj_step (heap_alloc_new z (.cells #[.int .i64 qK,.int .i64 qF,.int .i64 qT,.int .i64 qI,.int .i64 qL,.string qk,.int .i64 qN] 37)) hz2)
  have HRZ2:=hide (obj_step (unhide HR_Z) (unhide HZ2))
  have hmz:w.heap.size+1 < z.heap.size:=Nat.lt_of_lt_of_le (obj_lt (unhide HR_Z)) (unhide HZ).size
  clear hz2
  obtain⟨d0,d1,d2,d3,d4,d5,d6,d7,d8⟩:=nine (unhide HRZ2)
  have f0:=obj_free (unhide HRZ2) 0
  have f1:=obj_free (unhide HRZ2) 1
  have f2:=obj_free (unhide HRZ2) 2
  have f3:=obj_free (unhide HRZ2) 3
  have f4:=obj_free (unhide HRZ2) 4
  have f5:=obj_free (unhide HRZ2) 5
  have f6:=obj_free (unhide HRZ2) 6
  have f7:=obj_free (unhide HRZ2) 7
  have f8:=obj_free (unhide HRZ2) 8
  have hrl:=obj_lt (unhide HRZ2)
  refine wpAny_one 5 rfl (by kernel_rfl) (by rfl) ?_
  go_simp
  refine wpAny_one 6 rfl (by kernel_rfl) (by rfl) ?_
  go_simp
  refine wpAny_one 7 rfl (by kernel_rfl) (by rfl) ?_
  go_simp
  refine wpAny_done (by kernel_rfl) ?_
  go_simp
  clear d0 d1 d2 d3 d4 d5 d6 d7 d8 f0 f1 f2 f3 f4 f5 f6 f7 f8 hrl
  go_wp2_with fail
  refine bodyPost_atN (fun W' hW'=>?_)
  have e4:W'.heap[w.heap.size+1]?=some (.cells #[.int .i64 n.id,.int .i64 n.par,.slice a_k n.kids.length a_ck,.int .i64 (n.next+1),.slice av RL.length cv,.slice a6 (n.out.length+1) c6,.slice a_s n.seen.length a_cs,.int .i64 n.old,.slice a_r n.reqs.length a_cr] 30 (0,0)):=by
   rw [hW']
   exact GR.setW_blk [.int .i64 n.id,.int .i64 n.par,.slice a_k n.kids.length a_ck,.int .i64 (n.next+1),.slice av RL.length cv,.slice a6 (n.out.length+1) c6,.slice a_s n.seen.length a_cs,.int .i64 n.old,.slice a_r n.reqs.length a_cr] (o:=0) (xs:=[.int .i64 0,.int .i64 0,.slice none 0 0,.int .i64 0,.slice none 0 0,.slice none 0 0,.slice none 0 0,.int .i64 0,.slice none 0 0]) (unhide HRZ2)
  have hkf:KeepsL [w.heap.size+1] z2 W':=by
   rw [hW']
   exact setW_keeps [.int .i64 n.id,.int .i64 n.par,.slice a_k n.kids.length a_ck,.int .i64 (n.next+1),.slice av RL.length cv,.slice a6 (n.out.length+1) c6,.slice a_s n.seen.length a_cs,.int .i64 n.old,.slice a_r n.reqs.length a_cr] z2 0
  have HFI:=hide (unhide HFIN W' z.heap.size ((KeepsL.of_below (unhide HZ2)).trans hkf) (hkf.obj (unhide HM2) (fun hm=>by have:z.heap.size=w.heap.size+1:=(by simpa using hm);omega)) (by omega))
  obtain⟨x0,x1,x2,x3,x4,x5,x6,x7,x8⟩:=nine e4
  clear hW' e4 hkf
  exact bodyPost_ret (v:= .tuple #[.agg #[.int .i64 n.id,.int .i64 n.par,.slice a_k n.kids.length a_ck,.int .i64 (n.next+1),.slice av RL.length cv,.slice a6 (n.out.length+1) c6,.slice a_s n.seen.length a_cs,.int .i64 n.old,.slice a_r n.reqs.length a_cr],.slice (some ⟨z.heap.size,0,none⟩) 1 1,.int .i64 0]) (by simp[results,Tryz.results51,go_sem,x0,x1,x2,x3,x4,x5,x6,x7,x8]) rfl ⟨⟨a_k,av,a6,a_s,a_r,a_ck,cv,c6,a_cs,a_cr⟩,some ⟨z.heap.size,0,none⟩,1,by rw [unhide HNV],(unhide HFI).1,(unhide HFI).2.1,(unhide HFI).2.2.1,(unhide HFI).2.2.2⟩
 ·have HZ:=hide (Ge.trans (unhide HY) hz)
  have HRZ2:=hide (obj_step (unhide HR_Z) (unhide HZ))
  clear hz HY
  obtain⟨d0,d1,d2,d3,d4,d5,d6,d7,d8⟩:=nine (unhide HRZ2)
  have f0:=obj_free (unhide HRZ2) 0
  have f1:=obj_free (unhide HRZ2) 1
  have f2:=obj_free (unhide HRZ2) 2
  have f3:=obj_free (unhide HRZ2) 3
  have f4:=obj_free (unhide HRZ2) 4
  have f5:=obj_free (unhide HRZ2) 5
  have f6:=obj_free (unhide HRZ2) 6
  have f7:=obj_free (unhide HRZ2) 7
  have f8:=obj_free (unhide HRZ2) 8
  have hrl:=obj_lt (unhide HRZ2)
  go_simp
  refine wpAny_one 4 rfl (by kernel_rfl) (by rfl) ?_
  go_simp
  refine wpAny_one 6 rfl (by kernel_rfl) (by rfl) ?_
  go_simp
  refine wpAny_one 7 rfl (by kernel_rfl) (by rfl) ?_
  go_simp
  refine wpAny_done (by kernel_rfl) ?_
  go_simp
  clear d0 d1 d2 d3 d4 d5 d6 d7 d8 f0 f1 f2 f3 f4 f5 f6 f7 f8
  go_wp2_with fail
  refine bodyPost_atN (fun W' hW'=>?_)
  obtain⟨SW,hSW,hsz,hk0,e3⟩:∃SW:World,W'=SW.alloc (.cells #[.int .i64 qK,.int .i64 qF,.int .i64 qT,.int .i64 qI,.int .i64 qL,.string qk,.int .i64 qN] 37)∧SW.heap.size=z.heap.size∧KeepsL [w.heap.size+1] z SW∧SW.heap[w.heap.size+1]?=some (.cells #[.int .i64 n.id,.int .i64 n.par,.slice a_k n.kids.length a_ck,.int .i64 (n.next+1),.slice av RL.length cv,.slice a6 (n.out.length+1) c6,.slice a_s n.seen.length a_cs,.int .i64 n.old,.slice a_r n.reqs.length a_cr] 30 (0,0)):=
   ⟨GR.setW z (w.heap.size+1) 0 [.int .i64 n.id,.int .i64 n.par,.slice a_k n.kids.length a_ck,.int .i64 (n.next+1),.slice av RL.length cv,.slice a6 (n.out.length+1) c6,.slice a_s n.seen.length a_cs,.int .i64 n.old,.slice a_r n.reqs.length a_cr],hW',by simp[GR.setW],setW_keeps [.int .i64 n.id,.int .i64 n.par,.slice a_k n.kids.length a_ck,.int .i64 (n.next+1),.slice av RL.length cv,.slice a6 (n.out.length+1) c6,.slice a_s n.seen.length a_cs,.int .i64 n.old,.slice a_r n.reqs.length a_cr] z 0,GR.setW_blk [.int .i64 n.id,.int .i64 n.par,.slice a_k n.kids.length a_ck,.int .i64 (n.next+1),.slice av RL.length cv,.slice a6 (n.out.length+1) c6,.slice a_s n.seen.length a_cs,.int .i64 n.old,.slice a_r n.reqs.length a_cr] (o:=0) (xs:=[.int .i64 0,.int .i64 0,.slice none 0 0,.int .i64 0,.slice none 0 0,.slice none 0 0,.slice none 0 0,.int .i64 0,.slice none 0 0]) (unhide HRZ2)⟩
  have e4:W'.heap[w.heap.size+1]?=some (.cells #[.int .i64 n.id,.int .i64 n.par,.slice a_k n.kids.length a_ck,.int .i64 (n.next+1),.slice av RL.length cv,.slice a6 (n.out.length+1) c6,.slice a_s n.seen.length a_cs,.int .i64 n.old,.slice a_r n.reqs.length a_cr] 30 (0,0)):=by rw [hSW];exact obj_step e3 (below_one SW _)
  have hkf:KeepsL [w.heap.size+1] z W':=by rw [hSW];exact hk0.trans (KeepsL.of_below (below_one SW _))
  have hm:W'.heap[z.heap.size]?=some (.cells #[.int .i64 qK,.int .i64 qF,.int .i64 qT,.int .i64 qI,.int .i64 qL,.string qk,.int .i64 qN] 37 (0,0)):=by rw [hSW,←hsz];exact heap_alloc_new SW _
  have HFI:=hide (unhide HFIN W' z.heap.size ((KeepsL.of_below (unhide HZ)).trans hkf) hm (by have:=obj_lt (unhide HRZ2);omega))
  obtain⟨x0,x1,x2,x3,x4,x5,x6,x7,x8⟩:=nine e4
  clear hW' e4 hkf hm hSW hsz hk0 e3
  exact bodyPost_ret (v:= .tuple #[.agg #[.int .i64 n.id,.int .i64 n.par,.slice a_k n.kids.length a_ck,.int .i64 (n.next+1),.slice av RL.length cv,.slice a6 (n.out.length+1) c6,.slice a_s n.seen.length a_cs,.int .i64 n.old,.slice a_r n.reqs.length a_cr],.slice (some ⟨z.heap.size,0,none⟩) 1 1,.int .i64 0]) (by simp[results,Tryz.results51,go_sem,x0,x1,x2,x3,x4,x5,x6,x7,x8]) rfl ⟨⟨a_k,av,a6,a_s,a_r,a_ck,cv,c6,a_cs,a_cr⟩,some ⟨z.heap.size,0,none⟩,1,by rw [unhide HNV],(unhide HFI).1,(unhide HFI).2.1,(unhide HFI).2.2.1,(unhide HFI).2.2.2⟩
theorem specGive_s1 (n:Nd) (a_k a_p a_o a_s a_r:Option Addr) (a_ck a_cp a_co a_cs a_cr:Nat) (G:Blks) (c:Nat→Nat) (dst:Int) (key:ByteArray) (most:Int) (w:World) (B:Nat) (hB:B≤w.heap.size) (h9:∀x,6 < c x→c x=9) (pk:ByteArray) (pm pf ps:Int) (hpp:purseOf n.pu key=⟨pk,pm,pf,ps⟩) (hl:n.pu.length≤1048600) (hz:NdSz n 1048576) (hkey:key.size≤1048576) (hP:∃g,a_p=some ⟨g,0,none⟩) (hPc:n.pu.length≤a_cp) (RL:List Pu) (bu:Bool) (hu:addP n.pu key 0 (-1) 0 pf=(RL,bu)) (hc:pf < most) (h1:¬pf < 1) (h2:¬40≤n.out.length) (h3:¬1000000000≤n.next) (h0:0≤n.next) (h:NQ w B n (⟨a_k,a_p,a_o,a_s,a_r,a_ck,a_cp,a_co,a_cs,a_cr⟩:Ads) G c):Calls Tryz.prog 51 #[ndv n (⟨a_k,a_p,a_o,a_s,a_r,a_ck,a_cp,a_co,a_cs,a_cr⟩:Ads),.int .i64 dst,.string key,.int .i64 most] w (GivesT w B c (⟨n.id,n.par,n.kids,n.next+1,RL,n.out++[⟨n.next,dst,key,pf⟩],n.seen,n.old,n.reqs⟩,[payM ⟨n.id,n.par,n.kids,n.next+1,RL,n.out++[⟨n.next,dst,key,pf⟩],n.seen,n.old,n.reqs⟩ ⟨n.next,dst,key,pf⟩],0)):=by
 have q0:decide (pf < most)=true:=by simpa using hc
 have q1:decide (pf < 1)=false:=by simpa using h1
 have h2I:¬(40:Int)≤(n.out.length:Int):=by omega
 have q2:decide ((40:Int)≤(n.out.length:Int))=false:=by simpa using h2I
 have q3:decide ((1000000000:Int)≤n.next)=false:=by simpa using h3
 obtain⟨gp,hgp⟩:=hP
 subst hgp
 obtain⟨i0,hi,hz0,hz1,hz2⟩:=info_parts infoSnt
 have HPT:=hide (fun W (ha:PursesAt W (some ⟨gp,0,none⟩) n.pu)=>specPart gp 0 a_cp n.pu key pf W (Nat.le_trans hz.p (by omega)) hPc hz.pk hkey ha)
 unfold GivesO at HPT
 rw [hu] at HPT
 obtain⟨PM,hPM⟩:∃PM,payM ⟨n.id,n.par,n.kids,n.next+1,RL,n.out++[⟨n.next,dst,key,pf⟩],n.seen,n.old,n.reqs⟩ ⟨n.next,dst,key,pf⟩=PM:=⟨_,rfl⟩
 have HPM:=hide hPM
 rw [hPM]
 clear hz hPc hu hPM
 unfold GivesT
 have H9:=hide h9
 clear h9
 have HPO:=hide (fun W (ha:PursesAt W (some ⟨gp,0,none⟩) n.pu)=>specPurseOf (some ⟨gp,0,none⟩) a_cp n.pu key W hl ha)
 rw [hpp] at HPO
 unfold puv at HPO
 clear hpp
 have hbw0:=below_one w (.cells (ndc n (⟨a_k,(some ⟨gp,0,none⟩),a_o,a_s,a_r,a_ck,a_cp,a_co,a_cs,a_cr⟩:Ads)) 30)
 have HNO:=hide (h.nine hB)
 clear h
 go_enter Tryz.func51,Tryz.ntmps51
 go_upto_region 1 with fail
 refine wp_at (fun W0 hW=>?_)
 obtain⟨e1,e2,e3⟩:=allocsE2 w (.cells (ndc n (⟨a_k,(some ⟨gp,0,none⟩),a_o,a_s,a_r,a_ck,a_cp,a_co,a_cs,a_cr⟩:Ads)) 30) (.cells zc9 30)
 rw [←hW] at e1 e2 e3
 have HN:=hide e1
 have HR:=hide e2
 have HB0:=hide e3
 have HN0:=hide ((unhide HNO).kc (k:=9) (KC.of_below e3) (by omega))
 clear hW e1 e2 e3 HNO hbw0
 obtain⟨c0,c1,c2,c3,c4,c5,c6,c7,c8⟩:=nine (unhide HN)
 have hnl:=obj_lt (unhide HN)
 go_wp2_with fail
 refine(unhide HPO W0 (unhide HN0).at.p).mono ?_
 rintro e W1 ⟨rfl,hb1⟩
 have HN_1:=hide (obj_step (unhide HN) hb1)
 have HRX:=hide (obj_step (unhide HR) hb1)
 have HB1:=hide ((unhide HB0).trans (hb1.mono (unhide HB0).size))
 have HN1:=hide ((unhide HN0).kc (k:=9) (KC.of_below hb1) (by omega))
 clear hb1 c0 c1 c2 c3 c4 c5 c6 c7 c8 hnl HPO HN HR HN0 HB0
 have HI:=hide (And.intro hi (And.intro hz0 (And.intro hz1 hz2)))
 clear hi hz0 hz1 hz2
 obtain⟨c0,c1,c2,c3,c4,c5,c6,c7,c8⟩:=nine (unhide HN_1)
 have hnl:=obj_lt (unhide HN_1)
 have hrl:=obj_lt (unhide HRX)
 go_wp2_with fail
 rw [fieldFree]
 go_upto_region 6 with fail
 go_wp2_with fail
 refine(unhide HPT W1 (unhide HN1).at.p).mono ?_
 rintro e W2 ⟨v,rfl,hne,hrow,hb2⟩
 obtain⟨av,cv,rfl,_⟩:=GR.own_at (enc:=encP) (sz:=4) encP_length hrow
 have HN_2:=hide (obj_step (unhide HN_1) hb2)
 have HR_2:=hide (obj_step (unhide HRX) hb2)
 have HB2:=hide ((unhide HB1).trans (hb2.mono (unhide HB1).size))
 have HN2:=hide ((unhide HN1).kc (k:=9) (KC.of_below hb2) (by omega))
 have HP2:=hide hrow
 have hbs:w.heap.size+1 < W1.heap.size:=hrl
 generalize W1.heap.size=bs at *
 clear hb2 hne hrow c0 c1 c2 c3 c4 c5 c6 c7 c8 hnl hrl HPT HN_1 HRX HB1 HN1
 have f4n:=obj_free (unhide HN_2) 4
 have c4n:=(nine (unhide HN_2)).2.2.2.2.1
 have hn2:=obj_lt (unhide HN_2)
 go_upto_region 7 with fail
 refine wp_at (fun Z6 hZ=>?_)
 have HN_6:Hid (Z6.heap[w.heap.size]?=some (.cells #[.int .i64 n.id,.int .i64 n.par,.slice a_k n.kids.length a_ck,.int .i64 n.next,.slice av RL.length cv,.slice a_o n.out.length a_co,.slice a_s n.seen.length a_cs,.int .i64 n.old,.slice a_r n.reqs.length a_cr] 30 (0,0))):=by rw [hZ];exact setN9 (unhide HN_2)
 have HR_6:Hid (Z6.heap[w.heap.size+1]?=some (.cells zc9 30 (0,0))):=by rw [hZ];exact oth_set (unhide HR_2) (by omega)
 have HN6:Hid (NQ Z6 B n (⟨a_k,(some ⟨gp,0,none⟩),a_o,a_s,a_r,a_ck,a_cp,a_co,a_cs,a_cr⟩:Ads) G (newC w.heap.size 9 c)):=by rw [hZ];exact(unhide HN2).kc (k:=9) (KC.set (newC_new (Nat.le_refl _))) (by omega)
 have HP6:Hid (Z6.ownsRow bs 80 4 (.slice av RL.length cv) RL.length (GR.flat encP RL)):=by rw [hZ];exact own_keepsL (unhide HP2) (KeepsL.set _) (fun y hy=>by have:y=w.heap.size:=(by simpa using hy);omega)
 have HB6:Hid (Below B w Z6):=by rw [hZ];exact((unhide HB2).mono hB).setCell (p:=⟨w.heap.size,4,none⟩) hB _
 have HK6:Hid (Apart c w Z6):=by rw [hZ];exact(Apart.of_below (unhide HB2)).keeps (unhide HB2).size (KeepsL.set _) (fun y hy=>by have:y=w.heap.size:=(by simpa using hy);omega)
 clear hZ HN_2 HR_2 HN2 HP2 HB2 f4n c4n hn2
 have c3n:=(nine (unhide HN_6)).2.2.2.1
 have hn6:=obj_lt (unhide HN_6)
 go_upto_region 8 with fail
 refine wp_at (fun Z7 hZ=>?_)
 have HS7:Hid (Z7.heap[Z6.heap.size]?=some (.cells #[.int .i64 n.next,.int .i64 dst,.string key,.int .i64 pf] 40 (0,0))):=by
  rw [hZ]
  exact heap_alloc_new Z6 _
 have hb7:Below Z6.heap.size Z6 Z7:=by
  rw [hZ]
  exact below_one Z6 _
 have HN_7:=hide (obj_step (unhide HN_6) hb7)
 have HR_7:=hide (obj_step (unhide HR_6) hb7)
 have HN7:=hide ((unhide HN6).kc (k:=9) (KC.of_below hb7) (by omega))
 have HP7:=hide (GR.own_below (unhide HP6) hb7)
 have HB7:=hide ((unhide HB6).trans (hb7.mono (Nat.le_trans hB (unhide HB6).size)))
 have HK7:=hide ((unhide HK6).step (unhide HB6).size hb7)
 have hsb:w.heap.size+1 < Z6.heap.size:=obj_lt (unhide HR_6)
 generalize Z6.heap.size=sb at *
 clear hZ hb7 HN_6 HR_6 HN6 HP6 HB6 HK6 c3n hn6
 have c3n:=(nine (unhide HN_7)).2.2.2.1
 have f3n:=obj_free (unhide HN_7) 3
 have hn7:=obj_lt (unhide HN_7)
 go_upto_region 9 with fail
 refine wp_at (fun Z8 hZ=>?_)
 have HN_8:Hid (Z8.heap[w.heap.size]?=some (.cells #[.int .i64 n.id,.int .i64 n.par,.slice a_k n.kids.length a_ck,.int .i64 (n.next+1),.slice av RL.length cv,.slice a_o n.out.length a_co,.slice a_s n.seen.length a_cs,.int .i64 n.old,.slice a_r n.reqs.length a_cr] 30 (0,0))):=by rw [hZ];exact setN9 (unhide HN_7)
 have HR_8:Hid (Z8.heap[w.heap.size+1]?=some (.cells zc9 30 (0,0))):=by rw [hZ];exact oth_set (unhide HR_7) (by omega)
 have HS8:Hid (Z8.heap[sb]?=some (.cells #[.int .i64 n.next,.int .i64 dst,.string key,.int .i64 pf] 40 (0,0))):=by rw [hZ];exact oth_set (unhide HS7) (by omega)
 have HN8:Hid (NQ Z8 B n (⟨a_k,(some ⟨gp,0,none⟩),a_o,a_s,a_r,a_ck,a_cp,a_co,a_cs,a_cr⟩:Ads) G (newC w.heap.size 9 c)):=by rw [hZ];exact(unhide HN7).kc (k:=9) (KC.set (newC_new (Nat.le_refl _))) (by omega)
 have HP8:Hid (Z8.ownsRow bs 80 4 (.slice av RL.length cv) RL.length (GR.flat encP RL)):=by rw [hZ];exact own_keepsL (unhide HP7) (KeepsL.set _) (fun y hy=>by have:y=w.heap.size:=(by simpa using hy);omega)
 have HB8:Hid (Below B w Z8):=by rw [hZ];exact(unhide HB7).setCell (p:=⟨w.heap.size,3,none⟩) hB _
 have HK8:Hid (Apart c w Z8):=by rw [hZ];exact(unhide HK7).keeps (unhide HB7).size (KeepsL.set _) (fun y hy=>by have:y=w.heap.size:=(by simpa using hy);omega)
 clear hZ HK7 HN_7 HR_7 HN7 HP7 HB7 HS7 c3n f3n hn7
 obtain⟨a6,c6,W9,hrun,hown9,hgr9,hwh9⟩:∃a6 c6 W9,(Builtin.append_ #[26,26] 26 #[.slice a_o n.out.length a_co,.slice (some ⟨Z8.heap.size,0,none⟩) 1 1]).run Tryz.prog (Z8.alloc (.cells #[.int .i64 n.next,.int .i64 dst,.string key,.int .i64 pf] 40))= .ok (.slice a6 (n.out.length+1) c6) W9∧W9.ownsRow B 40 4 (.slice a6 (n.out.length+1) c6) (n.out.length+1) (GR.flat encSnt (n.out++[⟨n.next,dst,key,pf⟩]))∧(Z8.alloc (.cells #[.int .i64 n.next,.int .i64 dst,.string key,.int .i64 pf] 40)).grownBy W9 (Value.slice a_o n.out.length a_co).ownBlock∧∀x,(Value.slice a6 (n.out.length+1) c6).ownBlock=some x→(Value.slice a_o n.out.length a_co).ownBlock=some x∨(Z8.alloc (.cells #[.int .i64 n.next,.int .i64 dst,.string key,.int .i64 pf] 40)).heap.size≤x:=by
  obtain⟨hi,hz0,hz1,hz2⟩:=unhide HI
  obtain⟨v',w',hr,ho,hg,hw⟩:=run_append_where (P:=Tryz.prog) (Z8.alloc (.cells #[.int .i64 n.next,.int .i64 dst,.string key,.int .i64 pf] 40)) B 26 26 40 i0 (.agg #[.int .i64 0,.int .i64 0,.string ByteArray.empty,.int .i64 0]) 4 40 Tryz.underlying26 hi hz0 hz1 hz2 rfl (by decide) (.slice a_o n.out.length a_co) n.out.length (GR.flat encSnt n.out) (GR.own_below (unhide HN8).o (below_one Z8 _)) ⟨Z8.heap.size,0,none⟩ 1 1 (encSnt ⟨n.next,dst,key,pf⟩) rfl (World.news_of_block (heap_alloc_new Z8 _)) (encSnt_one _) (by unfold maxLen;omega) (by omega) (Nat.le_trans (Nat.le_trans hB (unhide HB8).size) (below_one Z8 _).size)
  obtain⟨a6,c6,hv6,_⟩:=GR.own_at (enc:=encSnt) (sz:=4) (l:=n.out++[⟨n.next,dst,key,pf⟩]) encSnt_length (by rw [List.length_append,flat_snoc];exact ho)
  rw [List.length_append] at hv6
  have hv7:v'= .slice a6 (n.out.length+1) c6:=hv6
  subst hv7
  exact⟨a6,c6,w',hr,by rw [flat_snoc];exact ho,hg,hw⟩
 have hNA:=(unhide HN8).kc (k:=9) (KC.of_below (below_one Z8 (.cells #[.int .i64 n.next,.int .i64 dst,.string key,.int .i64 pf] 40))) (by omega)
 have k9:KC (newC w.heap.size 9 c) 3 (Z8.alloc (.cells #[.int .i64 n.next,.int .i64 dst,.string key,.int .i64 pf] 40)) W9:=KC.grown hgr9 hNA.co
 have hn9:∀x,w.heap.size≤x→newC w.heap.size 9 c x≠3:=fun x hx=>by rw [newC_new hx];omega
 have HN_9:=hide (k9.obj (obj_step (unhide HN_8) (below_one Z8 (.cells #[.int .i64 n.next,.int .i64 dst,.string key,.int .i64 pf] 40))) (hn9 _ (Nat.le_refl _)))
 have HR_9:=hide (k9.obj (obj_step (unhide HR_8) (below_one Z8 (.cells #[.int .i64 n.next,.int .i64 dst,.string key,.int .i64 pf] 40))) (hn9 _ (by omega)))
 have HS_9:=hide (k9.obj (obj_step (unhide HS8) (below_one Z8 (.cells #[.int .i64 n.next,.int .i64 dst,.string key,.int .i64 pf] 40))) (hn9 _ (by omega)))
 have HB9:=hide (k9.below (B:=B) ((unhide HB8).trans ((below_one Z8 (.cells #[.int .i64 n.next,.int .i64 dst,.string key,.int .i64 pf] 40)).mono (Nat.le_trans hB (unhide HB8).size))) hNA.lo (by omega) (Nat.le_trans (Nat.le_trans hB (unhide HB8).size) (below_one Z8 _).size))
 have hZ8:w.heap.size+1 < Z8.heap.size:=obj_lt (unhide HR_8)
 have HNX:Hid (∀W',(∃F,KeepsL F W9 W'∧∀y∈F,(y=w.heap.size∨y=w.heap.size+1)∨(y < w.heap.size∧6 < c y))→RM W' ⟨a_k,av,a6,a_s,a_r,a_ck,cv,c6,a_cs,a_cr⟩ ⟨n.id,n.par,n.kids,n.next+1,RL,n.out++[⟨n.next,dst,key,pf⟩],n.seen,n.old,n.reqs⟩):=fun W' hkF=>by
  obtain⟨F,hk,hF⟩:=hkF
  have kF:KC (newC w.heap.size 9 c) 9 W9 W':=KC.keeps hk (fun y hy=>by
   rcases hF y hy with h1|h1
   ·exact newC_new (by omega)
   ·rw [newC_old h1.1];exact unhide H9 y h1.2)
  have hr:=(kF.own (k9.own hNA.r hNA.cr (by omega)) hNA.cr (by omega))
  have hp:=(own_keepsL (k9.own (j:=9) (GR.own_below (unhide HP8) (below_one Z8 _)) (fun x hx=>newC_new (by have:=own_lo (unhide HP8) hx;omega)) (by omega)) hk (fun y hy=>by
   have:=hF y hy
   omega))
  have ho:W'.ownsRow B 40 4 (.slice a6 (n.out++[(⟨n.next,dst,key,pf⟩:Snt)]).length c6) (n.out++[(⟨n.next,dst,key,pf⟩:Snt)]).length (GR.flat encSnt (n.out++[(⟨n.next,dst,key,pf⟩:Snt)])):=(by
   rw [List.length_append]
   exact own_blocks hown9 (fun x hx=>by
    have hx9:=own_lt hown9 hx
    refine hk.block x hx9 (fun hm=>?_)
    have hm':=hF x hm
    rcases hwh9 x hx with h1|h1
    ·have h2:=hNA.co x h1
     rcases hm' with h3|h3
     ·rw [newC_new (by omega)] at h2
      cases h2
     ·rw [newC_old h3.1] at h2
      omega
    ·have:=(below_one Z8 (.cells #[.int .i64 n.next,.int .i64 dst,.string key,.int .i64 pf] 40)).size
     omega))
  have hp9:∀g,av.map (fun y=>y.block)=some g→6 < newC w.heap.size 9 c g:=fun g hg=>by
   have h1:=own_lo hp (own_blkA hp hg)
   rw [newC_new (by omega)]
   omega
  have ho9:∀x,(Value.slice a6 (n.out++[(⟨n.next,dst,key,pf⟩:Snt)]).length c6).ownBlock=some x→(Value.slice a_o n.out.length a_co).ownBlock=some x∨(Z8.alloc (.cells #[.int .i64 n.next,.int .i64 dst,.string key,.int .i64 pf] 40)).heap.size≤x:=fun x hx=>by
   rw [List.length_append] at hx
   exact hwh9 x hx
  have hz9:(Z8.alloc (.cells #[.int .i64 n.next,.int .i64 dst,.string key,.int .i64 pf] 40)).heap.size=Z8.heap.size+1:=by simp
  exact RM.of (n:=⟨n.id,n.par,n.kids,n.next+1,RL,n.out++[⟨n.next,dst,key,pf⟩],n.seen,n.old,n.reqs⟩) (A:=⟨a_k,av,a6,a_s,a_r,a_ck,cv,c6,a_cs,a_cr⟩) (c:=newC w.heap.size 9 c) (kF.w (k9.w hNA.k hNA.ck (by omega)) hNA.ck (by omega)) hNA.ck (kF.seenQ (k9.seenQ hNA.sq hNA.c4 hNA.ci (by omega) (by omega)) hNA.c4 hNA.ci (by omega) (by omega)) hNA.c4 hNA.ci hNA.ni
   (GR.own_ati encP_length hp) (fun g hg _=> .inr (hp9 g hg)) ho (fun x hx=>by
    rcases ho9 x hx with h1|h1
    ·exact .inl (hNA.co x h1)
    ·refine .inr ?_
     rw [newC_new (by omega)]
     omega) hr (fun x hx=> .inl (hNA.cr x hx))
   (fun g hg _ h6=>⟨fun e=>by
    rcases ho9 g e with h1|h1
    ·have:=hNA.co g h1
     omega
    ·have h2:=own_lt (unhide HP8) (own_blkA (unhide HP8) hg)
     omega,fun e=>by have:=hNA.cr g e;omega⟩) (fun x hx h6 e=>by have:=hNA.cr x e;omega)
 have HK9:=hide (((unhide HK8).step (unhide HB8).size (below_one Z8 (.cells #[.int .i64 n.next,.int .i64 dst,.string key,.int .i64 pf] 40))).grown (Nat.le_trans (unhide HB8).size (below_one Z8 _).size) hgr9 (fun x hx hlt=>by
  have h1:=hNA.co x hx
  rw [newC_old hlt] at h1
  omega))
 have HRUN:=hide hrun
 clear hrun hown9 hgr9 hwh9 hNA k9 hn9 HP8 HN8 HB8 HK8
 have c5n:=(nine (unhide HN_8)).2.2.2.2.2.1
 obtain⟨s0,s1,s2,s3⟩:=fourC (unhide HS8)
 have c5w:=(nine (unhide HN_9)).2.2.2.2.2.1
 have f5w:=obj_free (unhide HN_9) 5
 have hn8:=obj_lt (unhide HN_8)
 have hs8:=obj_lt (unhide HS8)
 go_upto_region 10 with(at_builtin;refine wpList_append_eq rfl _ _ 26 rfl _ _ rfl rfl _ _ (unhide HRUN) ?_)
 refine wp_at (fun Z9 hZ=>?_)
 have HN_Z:Hid (Z9.heap[w.heap.size]?=some (.cells #[.int .i64 n.id,.int .i64 n.par,.slice a_k n.kids.length a_ck,.int .i64 (n.next+1),.slice av RL.length cv,.slice a6 (n.out.length+1) c6,.slice a_s n.seen.length a_cs,.int .i64 n.old,.slice a_r n.reqs.length a_cr] 30 (0,0))):=by rw [hZ];exact setN9 (unhide HN_9)
 have HR_Z:Hid (Z9.heap[w.heap.size+1]?=some (.cells zc9 30 (0,0))):=by rw [hZ];exact oth_set (unhide HR_9) (by omega)
 have HS_Z:Hid (Z9.heap[sb]?=some (.cells #[.int .i64 n.next,.int .i64 dst,.string key,.int .i64 pf] 40 (0,0))):=by rw [hZ];exact oth_set (unhide HS_9) (by omega)
 have HNZ:Hid (∀W' W'',KeepsL [w.heap.size+1] Z9 W'→Out c w W' W''→RM W'' ⟨a_k,av,a6,a_s,a_r,a_ck,cv,c6,a_cs,a_cr⟩ ⟨n.id,n.par,n.kids,n.next+1,RL,n.out++[⟨n.next,dst,key,pf⟩],n.seen,n.old,n.reqs⟩):=fun W' W'' hk ho=>by
  obtain⟨F,hk2,hF⟩:=ho
  refine unhide HNX W'' ⟨w.heap.size::(w.heap.size+1)::F,KeepsL.trans (b:=Z9) (by rw [hZ];exact(KeepsL.set _).mono (fun x hx=>by simp at hx;simp[hx])) (KeepsL.trans (hk.mono (fun x hx=>by simp at hx;simp[hx])) (hk2.mono (fun x hx=>by simp[hx]))),fun y hy=>?_⟩
  rcases List.mem_cons.1 hy with h1|h1
  ·exact .inl (.inl h1)
  ·rcases List.mem_cons.1 h1 with h2|h2
   ·exact .inl (.inr h2)
   ·exact .inr (hF y h2)
 have HBZ:Hid (Below B w Z9):=by rw [hZ];exact(unhide HB9).setCell (p:=⟨w.heap.size,5,none⟩) hB _
 have HKZ:Hid (Apart c w Z9):=by rw [hZ];exact(unhide HK9).keeps (unhide HB9).size (KeepsL.set _) (fun y hy=>by have:y=w.heap.size:=(by simpa using hy);omega)
 clear hZ HK9 HNX HRUN HN_9 HR_9 HS_9 HB9 c5n s0 s1 s2 s3 c5w f5w hn8 hs8 HN_8 HR_8 HS8 hZ8
 have HNV:Hid (ndv ⟨n.id,n.par,n.kids,n.next+1,RL,n.out++[⟨n.next,dst,key,pf⟩],n.seen,n.old,n.reqs⟩ ⟨a_k,av,a6,a_s,a_r,a_ck,cv,c6,a_cs,a_cr⟩= .agg #[.int .i64 n.id,.int .i64 n.par,.slice a_k n.kids.length a_ck,.int .i64 (n.next+1),.slice av RL.length cv,.slice a6 (n.out.length+1) c6,.slice a_s n.seen.length a_cs,.int .i64 n.old,.slice a_r n.reqs.length a_cr]):=by unfold Hid;simp[ndv,ndc]
 have HPY:Hid (∀x,Ge Z9 x→Calls Tryz.prog 15 #[.agg #[.int .i64 n.id,.int .i64 n.par,.slice a_k n.kids.length a_ck,.int .i64 (n.next+1),.slice av RL.length cv,.slice a6 (n.out.length+1) c6,.slice a_s n.seen.length a_cs,.int .i64 n.old,.slice a_r n.reqs.length a_cr],.agg #[.int .i64 n.next,.int .i64 dst,.string key,.int .i64 pf]] x fun e w'=>e= .returned (mgv PM)∧Below x.heap.size x w'):=fun x hx=>by
  have h1:=specPay ⟨n.id,n.par,n.kids,n.next+1,RL,n.out++[⟨n.next,dst,key,pf⟩],n.seen,n.old,n.reqs⟩ ⟨a_k,av,a6,a_s,a_r,a_ck,cv,c6,a_cs,a_cr⟩ ⟨n.next,dst,key,pf⟩ x (by simp;omega) (GR.At.below (unhide HNZ Z9 Z9 (KeepsL.refl _ _) Out.refl).at.o hx)
  rw [unhide HPM,unhide HNV] at h1
  exact h1
 obtain⟨qK,qF,qT,qI,qL,qk,qN⟩:=PM
 unfold mgv at HPY
 have HFIN:Hid (∀W' mb,KeepsL [w.heap.size+1] Z9 W'→W'.heap[mb]?=some (.cells #[.int .i64 qK,.int .i64 qF,.int .i64 qT,.int .i64 qI,.int .i64 qL,.string qk,.int .i64 qN] 37 (0,0))→w.heap.size≤mb→(∀W'',Out c w W' W''→RM W'' ⟨a_k,av,a6,a_s,a_r,a_ck,cv,c6,a_cs,a_cr⟩ ⟨n.id,n.par,n.kids,n.next+1,RL,n.out++[⟨n.next,dst,key,pf⟩],n.seen,n.old,n.reqs⟩)∧(∀W'',Out c w W' W''→GR.At encM 7 W'' (some ⟨mb,0,none⟩) [⟨qK,qF,qT,qI,qL,qk,qN⟩])∧Below B w W'∧Apart c w W'):=fun W' mb hk hm hmb=>by
  refine⟨fun W'' ho=>unhide HNZ W' W'' hk ho,fun W'' ho i hi=>?_,(unhide HBZ).trans (hk.below (fun x hx=>by have:x=w.heap.size+1:=(by simpa using hx);omega) (Nat.le_trans hB (unhide HBZ).size)),(unhide HKZ).keeps (unhide HBZ).size hk (fun x hx=>by have:x=w.heap.size+1:=(by simpa using hx);omega)⟩
  obtain⟨F,hk2,hF⟩:=ho
  have hm2:=hk2.obj hm (fun hx=>by have:=(hF mb hx).1;omega)
  refine⟨mb,0,rfl,obj_lt hm2,fun j hj=>?_⟩
  have hi0:i=0:=by simp at hi;omega
  subst hi0
  have h1:=cell_of_row W'' mb (0+(0*7+j)) _ _ (0,0) hm2
  rw [h1]
  simp[encM]
 clear HNZ HBZ HKZ HPM
 obtain⟨c0,c1,c2,c3,c4,c5,c6,c7,c8⟩:=nine (unhide HN_Z)
 obtain⟨s0,s1,s2,s3⟩:=fourC (unhide HS_Z)
 have y0:=cell_regrown c0
 have y1:=cell_regrown c1
 have y2:=cell_regrown c2
 have y3:=cell_regrown c3
 have y4:=cell_regrown c4
 have y5:=cell_regrown c5
 have y6:=cell_regrown c6
 have y7:=cell_regrown c7
 have y8:=cell_regrown c8
 have x0:=cell_regrown s0
 have x1:=cell_regrown s1
 have x2:=cell_regrown s2
 have x3:=cell_regrown s3
 have hnz:=obj_lt (unhide HN_Z)
 have hsz:=obj_lt (unhide HS_Z)
 clear c0 c1 c2 c3 c4 c5 c6 c7 c8 s0 s1 s2 s3
 refine wp_region_mixF 5 (by kernel_rfl) ?_
 show wpMixF _ _ _ _ _ 8 (Array.replicate 8 false) _ _
 refine wpMixF_take 0 20 rfl (by kernel_rfl) (by kernel_rfl) (by kernel_rfl) (by kernel_rfl) (by kernel_rfl) (fun _ _ _ _ h=>h) (fun K hK=>?_)
 go_simp
 first
  |(refine hK _ ?_;clear hK K)
  |(apply Exists.intro
    refine⟨fun _=>?_,hK _ ?_⟩
    (fail)
    clear hK K)
 refine wpMixF_take 1 20 rfl (by kernel_rfl) (by kernel_rfl) (by kernel_rfl) (by kernel_rfl) (by kernel_rfl) (fun _ _ _ _ h=>h) (fun K hK=>?_)
 go_simp
 first
  |(refine hK _ ?_;clear hK K)
  |(apply Exists.intro
    refine⟨fun _=>?_,hK _ ?_⟩
    (fail)
    clear hK K)
 refine wpMixF_take 2 20 rfl (by kernel_rfl) (by kernel_rfl) (by kernel_rfl) (by kernel_rfl) (by kernel_rfl) (fun _ _ _ _ h=>h) (fun K hK=>?_)
 go_simp
 first
  |(refine hK _ ?_;clear hK K)
  |(apply Exists.intro
    refine⟨fun _=>?_,hK _ ?_⟩
    (fail)
    clear hK K)
 clear y0 y1 y2 y3 y4 y5 y6 y7 y8 x0 x1 x2 x3 hnz hsz HN_Z HS_Z
 refine wpMixF_one 3 rfl (by kernel_rfl) (by rfl) (by decide) (fun x hx=>?_)
 go_simp
 refine(unhide HPY x hx).mono ?_
 rintro e y ⟨rfl,hby⟩
 refine⟨hby,?_⟩
 have HY:=hide (Ge.trans hx hby)
 clear hx hby HPY
 refine wpMixF_two 4 rfl rfl (by kernel_rfl) (by rfl) (by rfl) (by decide) (fun z hz=>?_) (fun z hz=>?_)
 ·have HZ:=hide (Ge.trans (unhide HY) hz)
  clear hz HY
  go_simp
  refine⟨below_one z _,?_⟩
  refine wpMixF_leave (by kernel_rfl) (fun z2 hz2=>?_)
  have HZ2:=hide (Ge.trans (unhide HZ) (Ge.trans (below_one z _) hz2))
  have HM2:=hide (obj_step (heap_alloc_new z (.cells #[.int .i64 qK,.int .i64 qF,.int .i64 qT,.int .i64 qI,.int .i64 qL,.string qk,.int .i64 qN] 37)) hz2)
  have HRZ2:=hide (obj_step (unhide HR_Z) (unhide HZ2))
  have hmz:w.heap.size+1 < z.heap.size:=Nat.lt_of_lt_of_le (obj_lt (unhide HR_Z)) (unhide HZ).size
  clear hz2
  obtain⟨d0,d1,d2,d3,d4,d5,d6,d7,d8⟩:=nine (unhide HRZ2)
  have f0:=obj_free (unhide HRZ2) 0
  have f1:=obj_free (unhide HRZ2) 1
  have f2:=obj_free (unhide HRZ2) 2
  have f3:=obj_free (unhide HRZ2) 3
  have f4:=obj_free (unhide HRZ2) 4
  have f5:=obj_free (unhide HRZ2) 5
  have f6:=obj_free (unhide HRZ2) 6
  have f7:=obj_free (unhide HRZ2) 7
  have f8:=obj_free (unhide HRZ2) 8
  have hrl:=obj_lt (unhide HRZ2)
  refine wpAny_one 5 rfl (by kernel_rfl) (by rfl) ?_
  go_simp
  refine wpAny_one 6 rfl (by kernel_rfl) (by rfl) ?_
  go_simp
  refine wpAny_one 7 rfl (by kernel_rfl) (by rfl) ?_
  go_simp
  refine wpAny_done (by kernel_rfl) ?_
  go_simp
  clear d0 d1 d2 d3 d4 d5 d6 d7 d8 f0 f1 f2 f3 f4 f5 f6 f7 f8 hrl
  go_wp2_with fail
  refine bodyPost_atN (fun W' hW'=>?_)
  have e4:W'.heap[w.heap.size+1]?=some (.cells #[.int .i64 n.id,.int .i64 n.par,.slice a_k n.kids.length a_ck,.int .i64 (n.next+1),.slice av RL.length cv,.slice a6 (n.out.length+1) c6,.slice a_s n.seen.length a_cs,.int .i64 n.old,.slice a_r n.reqs.length a_cr] 30 (0,0)):=by
   rw [hW']
   exact GR.setW_blk [.int .i64 n.id,.int .i64 n.par,.slice a_k n.kids.length a_ck,.int .i64 (n.next+1),.slice av RL.length cv,.slice a6 (n.out.length+1) c6,.slice a_s n.seen.length a_cs,.int .i64 n.old,.slice a_r n.reqs.length a_cr] (o:=0) (xs:=[.int .i64 0,.int .i64 0,.slice none 0 0,.int .i64 0,.slice none 0 0,.slice none 0 0,.slice none 0 0,.int .i64 0,.slice none 0 0]) (unhide HRZ2)
  have hkf:KeepsL [w.heap.size+1] z2 W':=by
   rw [hW']
   exact setW_keeps [.int .i64 n.id,.int .i64 n.par,.slice a_k n.kids.length a_ck,.int .i64 (n.next+1),.slice av RL.length cv,.slice a6 (n.out.length+1) c6,.slice a_s n.seen.length a_cs,.int .i64 n.old,.slice a_r n.reqs.length a_cr] z2 0
  have HFI:=hide (unhide HFIN W' z.heap.size ((KeepsL.of_below (unhide HZ2)).trans hkf) (hkf.obj (unhide HM2) (fun hm=>by have:z.heap.size=w.heap.size+1:=(by simpa using hm);omega)) (by omega))
  obtain⟨x0,x1,x2,x3,x4,x5,x6,x7,x8⟩:=nine e4
  clear hW' e4 hkf
  exact bodyPost_ret (v:= .tuple #[.agg #[.int .i64 n.id,.int .i64 n.par,.slice a_k n.kids.length a_ck,.int .i64 (n.next+1),.slice av RL.length cv,.slice a6 (n.out.length+1) c6,.slice a_s n.seen.length a_cs,.int .i64 n.old,.slice a_r n.reqs.length a_cr],.slice (some ⟨z.heap.size,0,none⟩) 1 1,.int .i64 0]) (by simp[results,Tryz.results51,go_sem,x0,x1,x2,x3,x4,x5,x6,x7,x8]) rfl ⟨⟨a_k,av,a6,a_s,a_r,a_ck,cv,c6,a_cs,a_cr⟩,some ⟨z.heap.size,0,none⟩,1,by rw [unhide HNV],(unhide HFI).1,(unhide HFI).2.1,(unhide HFI).2.2.1,(unhide HFI).2.2.2⟩
 ·have HZ:=hide (Ge.trans (unhide HY) hz)
  have HRZ2:=hide (obj_step (unhide HR_Z) (unhide HZ))
  clear hz HY
  obtain⟨d0,d1,d2,d3,d4,d5,d6,d7,d8⟩:=nine (unhide HRZ2)
  have f0:=obj_free (unhide HRZ2) 0
  have f1:=obj_free (unhide HRZ2) 1
  have f2:=obj_free (unhide HRZ2) 2
  have f3:=obj_free (unhide HRZ2) 3
  have f4:=obj_free (unhide HRZ2) 4
  have f5:=obj_free (unhide HRZ2) 5
  have f6:=obj_free (unhide HRZ2) 6
  have f7:=obj_free (unhide HRZ2) 7
  have f8:=obj_free (unhide HRZ2) 8
  have hrl:=obj_lt (unhide HRZ2)
  go_simp
  refine wpAny_one 4 rfl (by kernel_rfl) (by rfl) ?_
  go_simp
  refine wpAny_one 6 rfl (by kernel_rfl) (by rfl) ?_
  go_simp
  refine wpAny_one 7 rfl (by kernel_rfl) (by rfl) ?_
  go_simp
  refine wpAny_done (by kernel_rfl) ?_
  go_simp
  clear d0 d1 d2 d3 d4 d5 d6 d7 d8 f0 f1 f2 f3 f4 f5 f6 f7 f8
  go_wp2_with fail
  refine bodyPost_atN (fun W' hW'=>?_)
  obtain⟨SW,hSW,hsz,hk0,e3⟩:∃SW:World,W'=SW.alloc (.cells #[.int .i64 qK,.int .i64 qF,.int .i64 qT,.int .i64 qI,.int .i64 qL,.string qk,.int .i64 qN] 37)∧SW.heap.size=z.heap.size∧KeepsL [w.heap.size+1] z SW∧SW.heap[w.heap.size+1]?=some (.cells #[.int .i64 n.id,.int .i64 n.par,.slice a_k n.kids.length a_ck,.int .i64 (n.next+1),.slice av RL.length cv,.slice a6 (n.out.length+1) c6,.slice a_s n.seen.length a_cs,.int .i64 n.old,.slice a_r n.reqs.length a_cr] 30 (0,0)):=
   ⟨GR.setW z (w.heap.size+1) 0 [.int .i64 n.id,.int .i64 n.par,.slice a_k n.kids.length a_ck,.int .i64 (n.next+1),.slice av RL.length cv,.slice a6 (n.out.length+1) c6,.slice a_s n.seen.length a_cs,.int .i64 n.old,.slice a_r n.reqs.length a_cr],hW',by simp[GR.setW],setW_keeps [.int .i64 n.id,.int .i64 n.par,.slice a_k n.kids.length a_ck,.int .i64 (n.next+1),.slice av RL.length cv,.slice a6 (n.out.length+1) c6,.slice a_s n.seen.length a_cs,.int .i64 n.old,.slice a_r n.reqs.length a_cr] z 0,GR.setW_blk [.int .i64 n.id,.int .i64 n.par,.slice a_k n.kids.length a_ck,.int .i64 (n.next+1),.slice av RL.length cv,.slice a6 (n.out.length+1) c6,.slice a_s n.seen.length a_cs,.int .i64 n.old,.slice a_r n.reqs.length a_cr] (o:=0) (xs:=[.int .i64 0,.int .i64 0,.slice none 0 0,.int .i64 0,.slice none 0 0,.slice none 0 0,.slice none 0 0,.int .i64 0,.slice none 0 0]) (unhide HRZ2)⟩
  have e4:W'.heap[w.heap.size+1]?=some (.cells #[.int .i64 n.id,.int .i64 n.par,.slice a_k n.kids.length a_ck,.int .i64 (n.next+1),.slice av RL.length cv,.slice a6 (n.out.length+1) c6,.slice a_s n.seen.length a_cs,.int .i64 n.old,.slice a_r n.reqs.length a_cr] 30 (0,0)):=by rw [hSW];exact obj_step e3 (below_one SW _)
  have hkf:KeepsL [w.heap.size+1] z W':=by rw [hSW];exact hk0.trans (KeepsL.of_below (below_one SW _))
  have hm:W'.heap[z.heap.size]?=some (.cells #[.int .i64 qK,.int .i64 qF,.int .i64 qT,.int .i64 qI,.int .i64 qL,.string qk,.int .i64 qN] 37 (0,0)):=by rw [hSW,←hsz];exact heap_alloc_new SW _
  have HFI:=hide (unhide HFIN W' z.heap.size ((KeepsL.of_below (unhide HZ)).trans hkf) hm (by have:=obj_lt (unhide HRZ2);omega))
  obtain⟨x0,x1,x2,x3,x4,x5,x6,x7,x8⟩:=nine e4
  clear hW' e4 hkf hm hSW hsz hk0 e3
  exact bodyPost_ret (v:= .tuple #[.agg #[.int .i64 n.id,.int .i64 n.par,.slice a_k n.kids.length a_ck,.int .i64 (n.next+1),.slice av RL.length cv,.slice a6 (n.out.length+1) c6,.slice a_s n.seen.length a_cs,.int .i64 n.old,.slice a_r n.reqs.length a_cr],.slice (some ⟨z.heap.size,0,none⟩) 1 1,.int .i64 0]) (by simp[results,Tryz.results51,go_sem,x0,x1,x2,x3,x4,x5,x6,x7,x8]) rfl ⟨⟨a_k,av,a6,a_s,a_r,a_ck,cv,c6,a_cs,a_cr⟩,some ⟨z.heap.size,0,none⟩,1,by rw [unhide HNV],(unhide HFI).1,(unhide HFI).2.1,(unhide HFI).2.2.1,(unhide HFI).2.2.2⟩
theorem specGive (n:Nd) (A:Ads) (G:Blks) (c:Nat→Nat) (dst:Int) (key:ByteArray) (most:Int) (w:World) (B:Nat) (hB:B≤w.heap.size) (h9:∀x,6 < c x→c x=9) (hz:NdSz n 1048576) (hkey:key.size≤1048576) (hP:∃g,A.p=some ⟨g,0,none⟩) (hPc:n.pu.length≤A.cp) (h0:0≤n.next) (h:NQ w B n A G c):Calls Tryz.prog 51 #[ndv n A,.int .i64 dst,.string key,.int .i64 most] w (GivesT w B c ((giveN n dst key most).1,(giveN n dst key most).2.1,if (giveN n dst key most).2.2=true then 0 else 1)):=by
 obtain⟨pp,hpp⟩:∃pp,purseOf n.pu key=pp:=⟨_,rfl⟩
 obtain⟨pk,pm,pf,ps⟩:=pp
 have hl:n.pu.length≤1048600:=Nat.le_trans hz.p (by omega)
 have key2:∀amt,amtP n key most=amt→(¬(1≤amt∧n.out.length < 40∧n.next < 1000000000)→((giveN n dst key most).1,(giveN n dst key most).2.1,if (giveN n dst key most).2.2=true then(0:Int) else 1)=(n,[],1))∧((1≤amt∧n.out.length < 40∧n.next < 1000000000)→((giveN n dst key most).1,(giveN n dst key most).2.1,if (giveN n dst key most).2.2=true then(0:Int) else 1)=(paidN n dst key amt,[payM (paidN n dst key amt) ⟨n.next,dst,key,amt⟩],0)):=fun amt e=>by
  subst e
  constructor
  ·intro hn
   have e:payB n (amtP n key most)=false:=by unfold payB;exact decide_eq_false hn
   unfold giveN
   rw [e]
   rfl
  ·intro hy
   have e:payB n (amtP n key most)=true:=by unfold payB;exact decide_eq_true hy
   unfold giveN
   rw [e]
   rfl
 obtain⟨ak,ap,ao,az,ar,ck,cp,co,cs,cr⟩:=A
 by_cases hc:pf < most
 ·obtain⟨k1,k2⟩:=key2 pf (by unfold amtP;rw [hpp];exact if_pos hc)
  obtain⟨R,hR⟩:∃R,addP n.pu key 0 (-1) 0 pf=R:=⟨_,rfl⟩
  by_cases h1:pf < 1
  ·rw [k1 (by omega)];exact specGive_n10 n _ G c dst key most w B hB h9 pk pm pf ps hpp hl hc h1 h
  by_cases h2:40≤n.out.length
  ·rw [k1 (by omega)];exact specGive_n11 n _ G c dst key most w B hB h9 pk pm pf ps hpp hl hc h1 h2 h
  by_cases h3:1000000000≤n.next
  ·rw [k1 (by omega)];exact specGive_n12 n _ G c dst key most w B hB h9 pk pm pf ps hpp hl hc h1 h2 h3 h
  rw [k2 (by omega)]
  unfold paidN
  rw [hR]
  exact specGive_s1 n ak ap ao az ar ck cp co cs cr G c dst key most w B hB h9 pk pm pf ps hpp hl hz hkey hP hPc R.1 R.2 hR hc h1 h2 h3 h0 h
 ·obtain⟨k1,k2⟩:=key2 most (by unfold amtP;rw [hpp];exact if_neg hc)
  obtain⟨R,hR⟩:∃R,addP n.pu key 0 (-1) 0 most=R:=⟨_,rfl⟩
  by_cases h1:most < 1
  ·rw [k1 (by omega)];exact specGive_n00 n _ G c dst key most w B hB h9 pk pm pf ps hpp hl hc h1 h
  by_cases h2:40≤n.out.length
  ·rw [k1 (by omega)];exact specGive_n01 n _ G c dst key most w B hB h9 pk pm pf ps hpp hl hc h1 h2 h
  by_cases h3:1000000000≤n.next
  ·rw [k1 (by omega)];exact specGive_n02 n _ G c dst key most w B hB h9 pk pm pf ps hpp hl hc h1 h2 h3 h
  rw [k2 (by omega)]
  unfold paidN
  rw [hR]
  exact specGive_s0 n ak ap ao az ar ck cp co cs cr G c dst key most w B hB h9 pk pm pf ps hpp hl hz hkey hP hPc R.1 R.2 hR hc h1 h2 h3 h0 h
end Go.Proofs.YtdlokncalhopoaaGreat
