/-
  Parts of proofs that stand more than once, each said once.
-/
import Derived.Test.YtppmcficiphgdaaGreatDoorQbZ1
namespace Go.Proofs.YtppmcficiphgdaaGreatDoor
set_option maxRecDepth 100000
variable{P:Prop}
theorem Sb120.Kb29(h:P:=by
 cases hc2:keyOk k.data.toList
 case' false=>
  have HP:=hide (show mgOk ⟨0,F,T,I,L,k,N⟩=false by simp[mgOk,hr,hc2])
  have HC2:=hide (fun w1=>specKeyB k false w1 hs hc2)
  clear hr hc2
  go_enter Tryz.func129,Tryz.ntmps129
  go_wp2_with (first|(go_at_call_of 123 F;refine(H1 _).mono ?_;rintro e w1 ⟨rfl,rfl⟩)|(go_at_call_of 123 T;refine(H2 _).mono ?_;rintro e w1 ⟨rfl,rfl⟩)|(go_at_call_of 50 k;refine(HC2 _).mono ?_;rintro e w1 ⟨rfl,rfl⟩))
  go_ret
  exact⟨ret_bool HP.symm,below_one w _⟩
 have HC2:=hide (fun w1=>specKeyB k true w1 hs hc2);cases hc3:smB N
 case' false=>
  have HP:=hide (show mgOk ⟨0,F,T,I,L,k,N⟩=false by simp[mgOk,hr,hc2,hc3])
  have HC3:=hide (fun w1=>l04Some N false w1 hc3)
  clear hr hc2 hc3
  go_enter Tryz.func129,Tryz.ntmps129
  go_wp2_with (first|(go_at_call_of 123 F;refine(H1 _).mono ?_;rintro e w1 ⟨rfl,rfl⟩)|(go_at_call_of 123 T;refine(H2 _).mono ?_;rintro e w1 ⟨rfl,rfl⟩)|(go_at_call_of 50 k;refine(HC2 _).mono ?_;rintro e w1 ⟨rfl,rfl⟩)|(go_at_call_of 46 N;refine(HC3 _).mono ?_;rintro e w1 ⟨rfl,rfl⟩))
  go_ret
  exact⟨ret_bool HP.symm,below_one w _⟩
 have HC3:=hide (fun w1=>l04Some N true w1 hc3);by_cases hzI:I=0
 case' neg=>
  have HP:=hide (show mgOk ⟨0,F,T,I,L,k,N⟩=false by simp[mgOk,hr,hc2,hc3,hzI])
  have he:(I == 0)=false:=by simp[hzI]
  clear hr hc2 hc3
  go_enter Tryz.func129,Tryz.ntmps129
  go_wp2_with (first|(go_at_call_of 123 F;refine(H1 _).mono ?_;rintro e w1 ⟨rfl,rfl⟩)|(go_at_call_of 123 T;refine(H2 _).mono ?_;rintro e w1 ⟨rfl,rfl⟩)|(go_at_call_of 50 k;refine(HC2 _).mono ?_;rintro e w1 ⟨rfl,rfl⟩)|(go_at_call_of 46 N;refine(HC3 _).mono ?_;rintro e w1 ⟨rfl,rfl⟩))
  go_ret
  exact⟨ret_bool (by first|exact HP.symm|exact he.trans HP.symm),below_one w _⟩
 subst hzI;by_cases hzL:L=0
 case' neg=>
  have HP:=hide (show mgOk ⟨0,F,T,0,L,k,N⟩=false by simp[mgOk,hr,hc2,hc3,hzL])
  have he:(L == 0)=false:=by simp[hzL]
  clear hr hc2 hc3
  go_enter Tryz.func129,Tryz.ntmps129
  go_wp2_with (first|(go_at_call_of 123 F;refine(H1 _).mono ?_;rintro e w1 ⟨rfl,rfl⟩)|(go_at_call_of 123 T;refine(H2 _).mono ?_;rintro e w1 ⟨rfl,rfl⟩)|(go_at_call_of 50 k;refine(HC2 _).mono ?_;rintro e w1 ⟨rfl,rfl⟩)|(go_at_call_of 46 N;refine(HC3 _).mono ?_;rintro e w1 ⟨rfl,rfl⟩))
  go_ret
  exact⟨ret_bool (by first|exact HP.symm|exact he.trans HP.symm),below_one w _⟩
 subst hzL;have HP:=hide (show mgOk ⟨0,F,T,0,0,k,N⟩=true by simp[mgOk,hr,hc2,hc3]);clear hr hc2 hc3;go_enter Tryz.func129,Tryz.ntmps129
 go_wp2_with (first|(go_at_call_of 123 F;refine(H1 _).mono ?_;rintro e w1 ⟨rfl,rfl⟩)|(go_at_call_of 123 T;refine(H2 _).mono ?_;rintro e w1 ⟨rfl,rfl⟩)|(go_at_call_of 50 k;refine(HC2 _).mono ?_;rintro e w1 ⟨rfl,rfl⟩)|(go_at_call_of 46 N;refine(HC3 _).mono ?_;rintro e w1 ⟨rfl,rfl⟩))
 exact Zb35):P:=h
theorem Yb30(h:P:=by
 go_simp;refine wpAny_one 2 rfl (by kernel_rfl) (by rfl) ?_;go_simp;refine wpAny_one 4 rfl (by kernel_rfl) (by rfl) ?_;go_simp;refine wpAny_done (by kernel_rfl) ?_;go_simp;go_wp2_with fail;exact Kb30):P:=h
theorem Sb121.Kb30(h:P:=by
 go_meet
 case rel=>exact⟨rfl,GR.setW_blk [.int .i64 n.id,.int .i64 n.par,.slice a_k n.kids.length a_ck,.int .i64 n.next,.slice av RL.length cv,.slice a_o n.out.length a_co,.slice a_s n.seen.length a_cs,.int .i64 IH.no,.slice (some ⟨g8,0,none⟩) n.reqs.length c8'] (o:=0) (xs:=[.int .i64 0,.int .i64 0,.slice none 0 0,.int .i64 0,.slice none 0 0,.slice none 0 0,.slice none 0 0,.int .i64 0,.slice none 0 0]) HRx,(KeepsL.of_below hg3).trans (setW_keeps [.int .i64 n.id,.int .i64 n.par,.slice a_k n.kids.length a_ck,.int .i64 n.next,.slice av RL.length cv,.slice a_o n.out.length a_co,.slice a_s n.seen.length a_cs,.int .i64 IH.no,.slice (some ⟨g8,0,none⟩) n.reqs.length c8'] x2 0)⟩):P:=h
theorem Sb122.Kb30(h:P:=by
 go_meet
 case rel=>exact⟨rfl,GR.setW_blk [.int .i64 n.id,.int .i64 n.par,.slice a_k n.kids.length a_ck,.int .i64 n.next,.slice av RL.length cv,.slice a_o n.out.length a_co,.slice a_s n.seen.length a_cs,.int .i64 IH.no,.slice (some ⟨g8,0,none⟩) n.reqs.length c8'] (o:=0) (xs:=[.int .i64 0,.int .i64 0,.slice none 0 0,.int .i64 0,.slice none 0 0,.slice none 0 0,.slice none 0 0,.int .i64 0,.slice none 0 0]) HRx,(KeepsL.of_below hx).trans (setW_keeps [.int .i64 n.id,.int .i64 n.par,.slice a_k n.kids.length a_ck,.int .i64 n.next,.slice av RL.length cv,.slice a_o n.out.length a_co,.slice a_s n.seen.length a_cs,.int .i64 IH.no,.slice (some ⟨g8,0,none⟩) n.reqs.length c8'] x 0)⟩):P:=h
theorem Sb123.Kb30(h:P:=by
 go_meet
 case rel=>exact⟨rfl,GR.setW_blk [.int .i64 n.id,.int .i64 n.par,.slice a_k n.kids.length a_ck,.int .i64 n.next,.slice av RL.length cv,.slice a_o n.out.length a_co,.slice a_s n.seen.length a_cs,.int .i64 n.old,.slice (some ⟨gv,0,none⟩) (n.reqs.length+1) vc] (o:=0) (xs:=[.int .i64 0,.int .i64 0,.slice none 0 0,.int .i64 0,.slice none 0 0,.slice none 0 0,.slice none 0 0,.int .i64 0,.slice none 0 0]) HRx,(KeepsL.of_below hg3).trans (setW_keeps [.int .i64 n.id,.int .i64 n.par,.slice a_k n.kids.length a_ck,.int .i64 n.next,.slice av RL.length cv,.slice a_o n.out.length a_co,.slice a_s n.seen.length a_cs,.int .i64 n.old,.slice (some ⟨gv,0,none⟩) (n.reqs.length+1) vc] x2 0)⟩):P:=h
theorem Sb124.Kb30(h:P:=by
 go_meet
 case rel=>exact⟨rfl,GR.setW_blk [.int .i64 n.id,.int .i64 n.par,.slice a_k n.kids.length a_ck,.int .i64 n.next,.slice av RL.length cv,.slice a_o n.out.length a_co,.slice a_s n.seen.length a_cs,.int .i64 n.old,.slice (some ⟨gv,0,none⟩) (n.reqs.length+1) vc] (o:=0) (xs:=[.int .i64 0,.int .i64 0,.slice none 0 0,.int .i64 0,.slice none 0 0,.slice none 0 0,.slice none 0 0,.int .i64 0,.slice none 0 0]) HRx,(KeepsL.of_below hx).trans (setW_keeps [.int .i64 n.id,.int .i64 n.par,.slice a_k n.kids.length a_ck,.int .i64 n.next,.slice av RL.length cv,.slice a_o n.out.length a_co,.slice a_s n.seen.length a_cs,.int .i64 n.old,.slice (some ⟨gv,0,none⟩) (n.reqs.length+1) vc] x 0)⟩):P:=h
theorem Sb125.Kb30(h:P:=by
 go_meet
 case rel=>exact⟨rfl,GR.setW_blk [.int .i64 n.id,.int .i64 n.par,.slice a_k n.kids.length a_ck,.int .i64 n.next,.slice (some ⟨gp,0,none⟩) n.pu.length a_cp,.slice a_o n.out.length a_co,.slice a_s n.seen.length a_cs,.int .i64 IH.no,.slice (some ⟨g8,0,none⟩) n.reqs.length c8'] (o:=0) (xs:=[.int .i64 0,.int .i64 0,.slice none 0 0,.int .i64 0,.slice none 0 0,.slice none 0 0,.slice none 0 0,.int .i64 0,.slice none 0 0]) HRx,(KeepsL.of_below hg3).trans (setW_keeps [.int .i64 n.id,.int .i64 n.par,.slice a_k n.kids.length a_ck,.int .i64 n.next,.slice (some ⟨gp,0,none⟩) n.pu.length a_cp,.slice a_o n.out.length a_co,.slice a_s n.seen.length a_cs,.int .i64 IH.no,.slice (some ⟨g8,0,none⟩) n.reqs.length c8'] x2 0)⟩):P:=h
theorem Sb126.Kb30(h:P:=by
 go_meet
 case rel=>exact⟨rfl,GR.setW_blk [.int .i64 n.id,.int .i64 n.par,.slice a_k n.kids.length a_ck,.int .i64 n.next,.slice (some ⟨gp,0,none⟩) n.pu.length a_cp,.slice a_o n.out.length a_co,.slice a_s n.seen.length a_cs,.int .i64 IH.no,.slice (some ⟨g8,0,none⟩) n.reqs.length c8'] (o:=0) (xs:=[.int .i64 0,.int .i64 0,.slice none 0 0,.int .i64 0,.slice none 0 0,.slice none 0 0,.slice none 0 0,.int .i64 0,.slice none 0 0]) HRx,(KeepsL.of_below hx).trans (setW_keeps [.int .i64 n.id,.int .i64 n.par,.slice a_k n.kids.length a_ck,.int .i64 n.next,.slice (some ⟨gp,0,none⟩) n.pu.length a_cp,.slice a_o n.out.length a_co,.slice a_s n.seen.length a_cs,.int .i64 IH.no,.slice (some ⟨g8,0,none⟩) n.reqs.length c8'] x 0)⟩):P:=h
theorem Sb127.Kb30(h:P:=by
 go_meet
 case rel=>exact⟨rfl,GR.setW_blk [.int .i64 n.id,.int .i64 n.par,.slice a_k n.kids.length a_ck,.int .i64 n.next,.slice (some ⟨gp,0,none⟩) n.pu.length a_cp,.slice a_o n.out.length a_co,.slice a_s n.seen.length a_cs,.int .i64 n.old,.slice (some ⟨gv,0,none⟩) (n.reqs.length+1) vc] (o:=0) (xs:=[.int .i64 0,.int .i64 0,.slice none 0 0,.int .i64 0,.slice none 0 0,.slice none 0 0,.slice none 0 0,.int .i64 0,.slice none 0 0]) HRx,(KeepsL.of_below hg3).trans (setW_keeps [.int .i64 n.id,.int .i64 n.par,.slice a_k n.kids.length a_ck,.int .i64 n.next,.slice (some ⟨gp,0,none⟩) n.pu.length a_cp,.slice a_o n.out.length a_co,.slice a_s n.seen.length a_cs,.int .i64 n.old,.slice (some ⟨gv,0,none⟩) (n.reqs.length+1) vc] x2 0)⟩):P:=h
theorem Sb128.Kb30(h:P:=by
 go_meet
 case rel=>exact⟨rfl,GR.setW_blk [.int .i64 n.id,.int .i64 n.par,.slice a_k n.kids.length a_ck,.int .i64 n.next,.slice (some ⟨gp,0,none⟩) n.pu.length a_cp,.slice a_o n.out.length a_co,.slice a_s n.seen.length a_cs,.int .i64 n.old,.slice (some ⟨gv,0,none⟩) (n.reqs.length+1) vc] (o:=0) (xs:=[.int .i64 0,.int .i64 0,.slice none 0 0,.int .i64 0,.slice none 0 0,.slice none 0 0,.slice none 0 0,.int .i64 0,.slice none 0 0]) HRx,(KeepsL.of_below hx).trans (setW_keeps [.int .i64 n.id,.int .i64 n.par,.slice a_k n.kids.length a_ck,.int .i64 n.next,.slice (some ⟨gp,0,none⟩) n.pu.length a_cp,.slice a_o n.out.length a_co,.slice a_s n.seen.length a_cs,.int .i64 n.old,.slice (some ⟨gv,0,none⟩) (n.reqs.length+1) vc] x 0)⟩):P:=h
theorem Yb31(h:P:=by
 obtain⟨d0,d1,d2,d3,d4,d5,d6,d7,d8⟩:=nine HRX;have f0:=obj_free HRX 0;have f1:=obj_free HRX 1;have f2:=obj_free HRX 2;have f3:=obj_free HRX 3;have f4:=obj_free HRX 4;have f5:=obj_free HRX 5;have f6:=obj_free HRX 6;have f7:=obj_free HRX 7;have f8:=obj_free HRX 8;exact Kb31):P:=h
theorem Sb129.Kb31(h:P:=by
 open Sb258 in exact Yb78):P:=h
theorem Sb130.Kb31(h:P:=by
 have hnl:=obj_lt HN_1;have hrl:=obj_lt HRX;clear q0 q1 q2 HST;dsimp only at e0;subst e0;go_wp2_with fail;refine bodyPost_atN (fun W' hW'=>?_)
 have e4:W'.heap[w.heap.size+1]?=some (.cells #[.int .i64 n.id,.int .i64 n.par,.slice a_k n.kids.length a_ck,.int .i64 n.next,.slice a_p n.pu.length a_cp,.slice a_o n.out.length a_co,.slice a_s n.seen.length a_cs,.int .i64 n.old,.slice (some ⟨g,off,none⟩) n.reqs.length a_cr] 30 (0,0)):=by
  exact Zb23
 have hkf:KeepsL [w.heap.size+1] W1 W':=by
  exact Zb30
 open Sb196 in exact Yb53):P:=h
theorem Sb131.Kb31(h:P:=by
 have hnl:=obj_lt HN_1;have hrl:=obj_lt HRX;first|dsimp only at e0|skip
 subst e0;have HQ3:=hide q3;have HQS:=hide (And.intro q0 (And.intro q1 (And.intro q2 q3)));generalize n.reqs[i].k=qk at *;exact Kb7):P:=h
theorem Sb132.Kb31(h:P:=by
 have hnl:=obj_lt HN_1;open Sb257 in exact Yb78):P:=h
theorem Sb133.Kb31(h:P:=by
 have hrl:=obj_lt HRX;go_wp2_with fail;refine bodyPost_atN (fun W' hW'=>?_)
 have e4:W'.heap[w.heap.size+2]?=some (.cells #[.int .i64 n.id,.int .i64 n.par,.slice A1.k n.kids.length A1.ck,.int .i64 n.next,.slice A1.p n.pu.length A1.cp,.slice A1.o n.out.length A1.co,.slice A1.s n.seen.length A1.cs,.int .i64 n.old,.slice A1.r n.reqs.length A1.cr] 30 (0,0)):=by
  rw [hW'];exact GR.setW_blk [.int .i64 n.id,.int .i64 n.par,.slice A1.k n.kids.length A1.ck,.int .i64 n.next,.slice A1.p n.pu.length A1.cp,.slice A1.o n.out.length A1.co,.slice A1.s n.seen.length A1.cs,.int .i64 n.old,.slice A1.r n.reqs.length A1.cr] (o:=0) (xs:=[.int .i64 0,.int .i64 0,.slice none 0 0,.int .i64 0,.slice none 0 0,.slice none 0 0,.slice none 0 0,.int .i64 0,.slice none 0 0]) HRX
 have hkf:KeepsL [w.heap.size+2] X W':=by
  rw [hW'];exact setW_keeps [.int .i64 n.id,.int .i64 n.par,.slice A1.k n.kids.length A1.ck,.int .i64 n.next,.slice A1.p n.pu.length A1.cp,.slice A1.o n.out.length A1.co,.slice A1.s n.seen.length A1.cs,.int .i64 n.old,.slice A1.r n.reqs.length A1.cr] X 0
 open Sb342 in exact Yb115):P:=h
theorem Yb32(h:P:=by
 rw [hmo] at HMO;unfold mgv at HMO;have HNR:=hide (fun W (ha:IntsAt W A.k n.kids)=>specNear n A mF W hkl ha);rw [h2] at HNR;clear hmo h2;have HNO:=hide (h.nine hB);clear h;go_enter Tryz.func62,Tryz.ntmps62
 go_upto_region 1 with fail;refine wp_at (fun W0 hW=>?_);exact Kb32):P:=h
theorem Sb134.Kb32(h:P:=by
 obtain⟨e1,e2,e3,e4⟩:=allocs3E w (.cells (ndc n A) 30) (.cells #[.int .i64 0,.int .i64 mF,.int .i64 mT,.int .i64 mI,.int .i64 mL,.string mk,.int .i64 mN] 32) (.cells zc9 30);open Sb14 in exact Yb3):P:=h
theorem Sb135.Kb32(h:P:=by
 obtain⟨e1,e2,e3,e4⟩:=allocs3E w (.cells (ndc n A) 30) (.cells #[.int .i64 0,.int .i64 mF,.int .i64 mT,.int .i64 mI,.int .i64 mL,.string mk,.int .i64 mN] 32) (.cells zc9 30);open Sb15 in exact Yb3):P:=h
theorem Sb136.Kb32(h:P:=by
 obtain⟨e1,e2,e3,e4⟩:=allocs3E w (.cells (ndc n A) 30) (.cells #[.int .i64 mK,.int .i64 mF,.int .i64 mT,.int .i64 mI,.int .i64 mL,.string mk,.int .i64 mN] 32) (.cells zc9 30);open Sb16 in exact Yb3):P:=h
theorem Sb137.Kb32(h:P:=by
 obtain⟨e1,e2,e3,e4⟩:=allocs3E w (.cells (ndc n A) 30) (.cells #[.int .i64 2,.int .i64 mF,.int .i64 mT,.int .i64 mI,.int .i64 mL,.string mk,.int .i64 mN] 32) (.cells zc9 30);open Sb17 in exact Yb3):P:=h
theorem Sb138.Kb32(h:P:=by
 obtain⟨e1,e2,e3,e4⟩:=allocs3E w (.cells (ndc n A) 30) (.cells #[.int .i64 1,.int .i64 mF,.int .i64 mT,.int .i64 mI,.int .i64 mL,.string mk,.int .i64 mN] 32) (.cells zc9 30);open Sb18 in exact Yb3):P:=h
theorem Yb33(h:P:=by
 iterate 2 (refine tkB hwb (fun K hK=>?_);go_simp;first|refine hK _ ?_|(apply Exists.intro;refine⟨fun _=>?_,hK _ ?_⟩;rfl);clear hK K)
 refine tkN ?_;clear hwb;exact Kb33):P:=h
theorem Sb139.Kb33(h:P:=by
 have HG0:=hide (Below.refl U.heap.size U);refine wpMixB_two 1 9 rfl rfl (by kernel_rfl) (by rfl) (by rfl) (by decide) (by decide) (fun x69 hx69=>?_) (fun x70 hx70=>?_)
 ·have HG69:=hide (Ge.trans HG0 hx69);go_simp;refine(HTN x69 (Below.trans HB_U (HG69.mono HB_U.size)) HZ).mono ?_;rintro e y71 ⟨A2,rfl,_,hNW71,_,hb71⟩;refine⟨hb71.mono HG69.size,?_⟩;have HG71:=hide (Ge.trans HG69 hb71);have HN71:=hide hNW71.at;clear hx69 hb71 hNW71;refine wpMixB_two 3 9 rfl rfl (by kernel_rfl) (by rfl) (by rfl) (by decide) (by decide) (fun x73 hx73=>?_) (fun x74 hx74=>?_)
  ·have HG73:=hide (Ge.trans HG71 hx73);have HN73:=hide (HN71.below hx73);go_simp;refine(HTO x73).mono ?_;rintro e y75 ⟨rfl,hb75⟩;refine⟨hb75.mono HG73.size,?_⟩;have HG75:=hide (Ge.trans HG73 hb75);have HN75:=hide (HN73.below hb75);clear hx73 hb75;refine wpMixB_two 4 9 rfl rfl (by kernel_rfl) (by rfl) (by rfl) (by decide) (by decide) (fun x77 hx77=>?_) (fun x78 hx78=>?_)
   ·have HG77:=hide (Ge.trans HG75 hx77);have HN77:=hide (HN75.below hx77);go_simp;refine(HID A2 x77 HZ HZK HZM HN77 (Below.trans HB_U (HG77.mono HB_U.size))).mono ?_;rintro e y79 ⟨A6,G5,c5,v5,rfl,hNO,hown,hc7,hb79⟩;refine⟨hb79.mono HG77.size,?_⟩;open Sb46 in exact Yb11
   ·have HG78:=hide (Ge.trans HG75 hx78);have HN78:=hide (HN75.below hx78);go_simp;refine⟨(below_one x78 _).mono HG78.size,?_⟩;have hqV:U.heap.size≤x78.heap.size:=HG78.size;have HG80:=hide (Ge.trans HG78 (below_one x78 (.cells zc9 30)));have HN80:=hide (HN78.below (below_one x78 (.cells zc9 30)));have HQ80:=hide (heap_alloc_new x78 (.cells zc9 30));clear hx78;refine wpMixB_one 4 rfl (by kernel_rfl) (by rfl) (by decide) (fun x83 hx83=>?_);have HG83:=hide (Ge.trans HG80 hx83);have HN83:=hide (HN80.below hx83);have HQ83:=hide (obj_step HQ80 hx83);go_simp;refine(HID A2 x83 HZ HZK HZM HN83 (Below.trans HB_U (HG83.mono HB_U.size))).mono ?_;rintro e y84 ⟨A6,G5,c5,v5,rfl,hNO,hown,hc7,hb84⟩;refine⟨hb84.mono HG83.size,?_⟩;open Sb45 in exact Yb11
  ·have HG74:=hide (Ge.trans HG71 hx74);have HN74:=hide (HN71.below hx74);go_simp;refine⟨(below_one x74 _).mono HG74.size,?_⟩;have hqV:U.heap.size≤x74.heap.size:=HG74.size;have HG76:=hide (Ge.trans HG74 (below_one x74 (.cells zc9 30)));have HN76:=hide (HN74.below (below_one x74 (.cells zc9 30)));have HQ76:=hide (heap_alloc_new x74 (.cells zc9 30));clear hx74;refine wpMixB_one 3 rfl (by kernel_rfl) (by rfl) (by decide) (fun x85 hx85=>?_);have HG85:=hide (Ge.trans HG76 hx85);have HN85:=hide (HN76.below hx85);have HQ85:=hide (obj_step HQ76 hx85);go_simp;refine(HTO x85).mono ?_;rintro e y86 ⟨rfl,hb86⟩;refine⟨hb86.mono HG85.size,?_⟩;have HG86:=hide (Ge.trans HG85 hb86);have HN86:=hide (HN85.below hb86);have HQ86:=hide (obj_step HQ85 hb86);clear hx85 hb86;refine wpMixB_one 4 rfl (by kernel_rfl) (by rfl) (by decide) (fun x87 hx87=>?_);have HG87:=hide (Ge.trans HG86 hx87);have HN87:=hide (HN86.below hx87);have HQ87:=hide (obj_step HQ86 hx87);go_simp;refine(HID A2 x87 HZ HZK HZM HN87 (Below.trans HB_U (HG87.mono HB_U.size))).mono ?_;rintro e y88 ⟨A6,G5,c5,v5,rfl,hNO,hown,hc7,hb88⟩;refine⟨hb88.mono HG87.size,?_⟩;open Sb44 in exact Yb11
 ·have HG70:=hide (Ge.trans HG0 hx70);go_simp;refine⟨(below_one x70 _).mono HG70.size,?_⟩;have hqV:U.heap.size≤x70.heap.size:=HG70.size;have HG72:=hide (Ge.trans HG70 (below_one x70 (.cells zc9 30)));have HQ72:=hide (heap_alloc_new x70 (.cells zc9 30));clear hx70;refine wpMixB_one 1 rfl (by kernel_rfl) (by rfl) (by decide) (fun x89 hx89=>?_);have HG89:=hide (Ge.trans HG72 hx89);have HQ89:=hide (obj_step HQ72 hx89);go_simp;refine(HTN x89 (Below.trans HB_U (HG89.mono HB_U.size)) HZ).mono ?_;rintro e y90 ⟨A2,rfl,_,hNW90,_,hb90⟩;refine⟨hb90.mono HG89.size,?_⟩;have HG90:=hide (Ge.trans HG89 hb90);have HQ90:=hide (obj_step HQ89 hb90);have HN90:=hide hNW90.at;clear hx89 hb90 hNW90;refine wpMixB_one 3 rfl (by kernel_rfl) (by rfl) (by decide) (fun x91 hx91=>?_);have HG91:=hide (Ge.trans HG90 hx91);have HN91:=hide (HN90.below hx91);have HQ91:=hide (obj_step HQ90 hx91);go_simp;refine(HTO x91).mono ?_;rintro e y92 ⟨rfl,hb92⟩;refine⟨hb92.mono HG91.size,?_⟩;have HG92:=hide (Ge.trans HG91 hb92);have HN92:=hide (HN91.below hb92);have HQ92:=hide (obj_step HQ91 hb92);clear hx91 hb92;refine wpMixB_one 4 rfl (by kernel_rfl) (by rfl) (by decide) (fun x93 hx93=>?_);have HG93:=hide (Ge.trans HG92 hx93);have HN93:=hide (HN92.below hx93);have HQ93:=hide (obj_step HQ92 hx93);go_simp;refine(HID A2 x93 HZ HZK HZM HN93 (Below.trans HB_U (HG93.mono HB_U.size))).mono ?_;rintro e y94 ⟨A6,G5,c5,v5,rfl,hNO,hown,hc7,hb94⟩;refine⟨hb94.mono HG93.size,?_⟩;open Sb43 in exact Yb11):P:=h
theorem Sb140.Kb33(h:P:=by
 have HG0:=hide (Below.refl V.heap.size V);refine wpMixB_two 2 8 rfl rfl (by kernel_rfl) (by rfl) (by rfl) (by decide) (by decide) (fun x53 hx53=>?_) (fun x54 hx54=>?_)
 ·have HG53:=hide (Ge.trans HG0 hx53);have HN53:=hide (HNV.below hx53);go_simp;refine(HTO x53).mono ?_;rintro e y55 ⟨rfl,hb55⟩;refine⟨hb55.mono HG53.size,?_⟩;have HG55:=hide (Ge.trans HG53 hb55);have HN55:=hide (HN53.below hb55);clear hx53 hb55;refine wpMixB_two 3 8 rfl rfl (by kernel_rfl) (by rfl) (by rfl) (by decide) (by decide) (fun x57 hx57=>?_) (fun x58 hx58=>?_)
  ·have HG57:=hide (Ge.trans HG55 hx57);have HN57:=hide (HN55.below hx57);go_simp;refine(HID A4 x57 HZ HZK HZM HN57 (Below.trans HB_V (HG57.mono HB_V.size))).mono ?_;rintro e y59 ⟨A6,G5,c5,v5,rfl,hNO,hown,hc7,hb59⟩;refine⟨hb59.mono HG57.size,?_⟩;open Sb49 in exact Yb11
  ·have HG58:=hide (Ge.trans HG55 hx58);have HN58:=hide (HN55.below hx58);go_simp;refine⟨(below_one x58 _).mono HG58.size,?_⟩;have hqV:V.heap.size≤x58.heap.size:=HG58.size;have HG60:=hide (Ge.trans HG58 (below_one x58 (.cells zc9 30)));have HN60:=hide (HN58.below (below_one x58 (.cells zc9 30)));have HQ60:=hide (heap_alloc_new x58 (.cells zc9 30));clear hx58;refine wpMixB_one 3 rfl (by kernel_rfl) (by rfl) (by decide) (fun x63 hx63=>?_);have HG63:=hide (Ge.trans HG60 hx63);have HN63:=hide (HN60.below hx63);have HQ63:=hide (obj_step HQ60 hx63);go_simp;refine(HID A4 x63 HZ HZK HZM HN63 (Below.trans HB_V (HG63.mono HB_V.size))).mono ?_;rintro e y64 ⟨A6,G5,c5,v5,rfl,hNO,hown,hc7,hb64⟩;refine⟨hb64.mono HG63.size,?_⟩;open Sb48 in exact Yb11
 ·have HG54:=hide (Ge.trans HG0 hx54);have HN54:=hide (HNV.below hx54);go_simp;refine⟨(below_one x54 _).mono HG54.size,?_⟩;have hqV:V.heap.size≤x54.heap.size:=HG54.size;have HG56:=hide (Ge.trans HG54 (below_one x54 (.cells zc9 30)));have HN56:=hide (HN54.below (below_one x54 (.cells zc9 30)));have HQ56:=hide (heap_alloc_new x54 (.cells zc9 30));clear hx54;refine wpMixB_one 2 rfl (by kernel_rfl) (by rfl) (by decide) (fun x65 hx65=>?_);have HG65:=hide (Ge.trans HG56 hx65);have HN65:=hide (HN56.below hx65);have HQ65:=hide (obj_step HQ56 hx65);go_simp;refine(HTO x65).mono ?_;rintro e y66 ⟨rfl,hb66⟩;refine⟨hb66.mono HG65.size,?_⟩;have HG66:=hide (Ge.trans HG65 hb66);have HN66:=hide (HN65.below hb66);have HQ66:=hide (obj_step HQ65 hb66);clear hx65 hb66;refine wpMixB_one 3 rfl (by kernel_rfl) (by rfl) (by decide) (fun x67 hx67=>?_);have HG67:=hide (Ge.trans HG66 hx67);have HN67:=hide (HN66.below hx67);have HQ67:=hide (obj_step HQ66 hx67);go_simp;refine(HID A4 x67 HZ HZK HZM HN67 (Below.trans HB_V (HG67.mono HB_V.size))).mono ?_;rintro e y68 ⟨A6,G5,c5,v5,rfl,hNO,hown,hc7,hb68⟩;refine⟨hb68.mono HG67.size,?_⟩;open Sb47 in exact Yb11):P:=h
theorem Sb141.Kb33(h:P:=by
 have HG0:=hide (Below.refl w2.heap.size w2);refine wpMixB_two 1 9 rfl rfl (by kernel_rfl) (by rfl) (by rfl) (by decide) (by decide) (fun x27 hx27=>?_) (fun x28 hx28=>?_)
 ·have HG27:=hide (Ge.trans HG0 hx27);go_simp;refine(HTN x27 (HB_2.trans (HG27.mono HB_2.size)) HZ).mono ?_;rintro e y29 ⟨A2,rfl,_,hNW29,_,hb29⟩;refine⟨hb29.mono HG27.size,?_⟩;have HG29:=hide (Ge.trans HG27 hb29);have HN29:=hide hNW29.at;clear hx27 hb29 hNW29;refine wpMixB_two 3 9 rfl rfl (by kernel_rfl) (by rfl) (by rfl) (by decide) (by decide) (fun x31 hx31=>?_) (fun x32 hx32=>?_)
  ·have HG31:=hide (Ge.trans HG29 hx31);have HN31:=hide (HN29.below hx31);go_simp;refine(HTO x31).mono ?_;rintro e y33 ⟨rfl,hb33⟩;refine⟨hb33.mono HG31.size,?_⟩;have HG33:=hide (Ge.trans HG31 hb33);have HN33:=hide (HN31.below hb33);clear hx31 hb33;refine wpMixB_two 4 9 rfl rfl (by kernel_rfl) (by rfl) (by rfl) (by decide) (by decide) (fun x35 hx35=>?_) (fun x36 hx36=>?_)
   ·have HG35:=hide (Ge.trans HG33 hx35);have HN35:=hide (HN33.below hx35);go_simp;refine(HSD A2 x35 HZ HZK HZM HN35).mono ?_;rintro e y37 ⟨A3,ma,mc,rfl,hat,hmt,hb37⟩;refine⟨hb37.mono HG35.size,?_⟩;have HAT:=hide hat;have HMT:=hide hmt;have HG37:=hide (Ge.trans HG35 hb37);have HD37:=hide (Below.refl y37.heap.size y37);clear hx35 hb37 hat hmt;have hwp:w2.heap.size≤y37.heap.size:=HG37.size;refine tk [5,6,7,8] ?_;open Sb74 in exact Yb19
   ·have HG36:=hide (Ge.trans HG33 hx36);have HN36:=hide (HN33.below hx36);go_simp;refine⟨(below_one x36 _).mono HG36.size,?_⟩;have hqV:w2.heap.size≤x36.heap.size:=HG36.size;have HG38:=hide (Ge.trans HG36 (below_one x36 (.cells zc9 30)));have HN38:=hide (HN36.below (below_one x36 (.cells zc9 30)));have HQ38:=hide (heap_alloc_new x36 (.cells zc9 30));clear hx36;refine wpMixB_one 4 rfl (by kernel_rfl) (by rfl) (by decide) (fun x41 hx41=>?_);have HG41:=hide (Ge.trans HG38 hx41);have HN41:=hide (HN38.below hx41);have HQ41:=hide (obj_step HQ38 hx41);go_simp;refine(HSD A2 x41 HZ HZK HZM HN41).mono ?_;rintro e y42 ⟨A3,ma,mc,rfl,hat,hmt,hb42⟩;refine⟨hb42.mono HG41.size,?_⟩;have HAT:=hide hat;have HMT:=hide hmt;have hqd:x36.heap.size < x41.heap.size∨y42.heap.size≤x36.heap.size:= .inl (obj_lt HQ41);have HG42:=hide (Ge.trans HG41 hb42);have HQ42:=hide (obj_step HQ41 hb42);have HD42:=hide (Below.refl y42.heap.size y42);clear hx41 hb42 hat hmt;have hwp:w2.heap.size≤y42.heap.size:=HG42.size;refine tk [5,6,7,8] ?_;open Sb73 in exact Yb19
  ·have HG32:=hide (Ge.trans HG29 hx32);have HN32:=hide (HN29.below hx32);go_simp;refine⟨(below_one x32 _).mono HG32.size,?_⟩;have hqV:w2.heap.size≤x32.heap.size:=HG32.size;have HG34:=hide (Ge.trans HG32 (below_one x32 (.cells zc9 30)));have HN34:=hide (HN32.below (below_one x32 (.cells zc9 30)));have HQ34:=hide (heap_alloc_new x32 (.cells zc9 30));clear hx32;refine wpMixB_one 3 rfl (by kernel_rfl) (by rfl) (by decide) (fun x43 hx43=>?_);have HG43:=hide (Ge.trans HG34 hx43);have HN43:=hide (HN34.below hx43);have HQ43:=hide (obj_step HQ34 hx43);go_simp;refine(HTO x43).mono ?_;rintro e y44 ⟨rfl,hb44⟩;refine⟨hb44.mono HG43.size,?_⟩;have HG44:=hide (Ge.trans HG43 hb44);have HN44:=hide (HN43.below hb44);have HQ44:=hide (obj_step HQ43 hb44);clear hx43 hb44;refine wpMixB_one 4 rfl (by kernel_rfl) (by rfl) (by decide) (fun x45 hx45=>?_);have HG45:=hide (Ge.trans HG44 hx45);have HN45:=hide (HN44.below hx45);have HQ45:=hide (obj_step HQ44 hx45);go_simp;refine(HSD A2 x45 HZ HZK HZM HN45).mono ?_;rintro e y46 ⟨A3,ma,mc,rfl,hat,hmt,hb46⟩;refine⟨hb46.mono HG45.size,?_⟩;have HAT:=hide hat;have HMT:=hide hmt;have hqd:x32.heap.size < x45.heap.size∨y46.heap.size≤x32.heap.size:= .inl (obj_lt HQ45);have HG46:=hide (Ge.trans HG45 hb46);have HQ46:=hide (obj_step HQ45 hb46);have HD46:=hide (Below.refl y46.heap.size y46);clear hx45 hb46 hat hmt;have hwp:w2.heap.size≤y46.heap.size:=HG46.size;refine tk [5,6,7,8] ?_;open Sb72 in exact Yb19
 ·have HG28:=hide (Ge.trans HG0 hx28);go_simp;refine⟨(below_one x28 _).mono HG28.size,?_⟩;have hqV:w2.heap.size≤x28.heap.size:=HG28.size;have HG30:=hide (Ge.trans HG28 (below_one x28 (.cells zc9 30)));have HQ30:=hide (heap_alloc_new x28 (.cells zc9 30));clear hx28;refine wpMixB_one 1 rfl (by kernel_rfl) (by rfl) (by decide) (fun x47 hx47=>?_);have HG47:=hide (Ge.trans HG30 hx47);have HQ47:=hide (obj_step HQ30 hx47);go_simp;refine(HTN x47 (HB_2.trans (HG47.mono HB_2.size)) HZ).mono ?_;rintro e y48 ⟨A2,rfl,_,hNW48,_,hb48⟩;refine⟨hb48.mono HG47.size,?_⟩;have HG48:=hide (Ge.trans HG47 hb48);have HQ48:=hide (obj_step HQ47 hb48);have HN48:=hide hNW48.at;clear hx47 hb48 hNW48;refine wpMixB_one 3 rfl (by kernel_rfl) (by rfl) (by decide) (fun x49 hx49=>?_);have HG49:=hide (Ge.trans HG48 hx49);have HN49:=hide (HN48.below hx49);have HQ49:=hide (obj_step HQ48 hx49);go_simp;refine(HTO x49).mono ?_;rintro e y50 ⟨rfl,hb50⟩;refine⟨hb50.mono HG49.size,?_⟩;have HG50:=hide (Ge.trans HG49 hb50);have HN50:=hide (HN49.below hb50);have HQ50:=hide (obj_step HQ49 hb50);clear hx49 hb50;refine wpMixB_one 4 rfl (by kernel_rfl) (by rfl) (by decide) (fun x51 hx51=>?_);have HG51:=hide (Ge.trans HG50 hx51);have HN51:=hide (HN50.below hx51);have HQ51:=hide (obj_step HQ50 hx51);go_simp;refine(HSD A2 x51 HZ HZK HZM HN51).mono ?_;rintro e y52 ⟨A3,ma,mc,rfl,hat,hmt,hb52⟩;refine⟨hb52.mono HG51.size,?_⟩;have HAT:=hide hat;have HMT:=hide hmt;have hqd:x28.heap.size < x51.heap.size∨y52.heap.size≤x28.heap.size:= .inl (obj_lt HQ51);have HG52:=hide (Ge.trans HG51 hb52);have HQ52:=hide (obj_step HQ51 hb52);have HD52:=hide (Below.refl y52.heap.size y52);clear hx51 hb52 hat hmt;have hwp:w2.heap.size≤y52.heap.size:=HG52.size;refine tk [5,6,7,8] ?_;open Sb71 in exact Yb19):P:=h
theorem Yb34(h:P:=by
 have HKF:=hide hkf;clear hkf;refine wpAny_one 12 rfl (by kernel_rfl) (by rfl) ?_;go_simp;refine wpAny_one 13 rfl (by kernel_rfl) (by rfl) ?_;go_simp;refine wpAny_done (by kernel_rfl) ?_;go_simp;go_wp2_with fail;refine bodyPost_atN (fun W' hW'=>?_);subst hW';have hkf:=unhide HKF;open Sb341 in exact Yb115):P:=h
theorem Sb142.Kb34(h:P:=by
 exact bodyPost_ret (v:= .tuple #[.agg #[.int .i64 n.id,.int .i64 n.par,.slice A1.k n.kids.length A1.ck,.int .i64 n.next,.slice A1.p n.pu.length A1.cp,.slice A1.o n.out.length A1.co,.slice A1.s n.seen.length A1.cs,.int .i64 n.old,.slice A1.r n.reqs.length A1.cr],.slice (some ⟨y.heap.size,0,none⟩) 1 1,.int .i64 0]) (by simp[results,Tryz.results19,go_sem,x0,x1,x2,x3,x4,x5,x6,x7,x8]) rfl ⟨A1,some ⟨y.heap.size,0,none⟩,1,rfl,HAT,HMT,HBF⟩):P:=h
theorem Sb143.Kb34(h:P:=by
 exact bodyPost_ret (v:= .tuple #[.agg #[.int .i64 n.id,.int .i64 n.par,.slice A1.k n.kids.length A1.ck,.int .i64 n.next,.slice A1.p n.pu.length A1.cp,.slice A1.o n.out.length A1.co,.slice A1.s n.seen.length A1.cs,.int .i64 n.old,.slice A1.r n.reqs.length A1.cr],.slice (some ⟨x.heap.size,0,none⟩) 1 1,.int .i64 0]) (by simp[results,Tryz.results19,go_sem,x0,x1,x2,x3,x4,x5,x6,x7,x8]) rfl ⟨A1,some ⟨x.heap.size,0,none⟩,1,rfl,HAT,HMT,HBF⟩):P:=h
theorem Yb35(h:P:=by
 have HRUN:=hide hrun;clear hrun hown9 hgr9 hwh9 hNA k9 hn9 HP8 HN8 HB8 HK8;have c5n:=(nine HN_8).2.2.2.2.2.1;obtain⟨s0,s1,s2,s3⟩:=fourC HS8;have c5w:=(nine HN_9).2.2.2.2.2.1;have f5w:=obj_free HN_9 5;have hn8:=obj_lt HN_8;have hs8:=obj_lt HS8;go_upto_region 10 with(at_builtin;refine wpList_append_eq rfl _ _ 26 rfl _ _ rfl rfl _ _ HRUN ?_)
 refine wp_at (fun Z9 hZ=>?_);have HN_Z:Hid (Z9.heap[w.heap.size]?=some (.cells #[.int .i64 n.id,.int .i64 n.par,.slice a_k n.kids.length a_ck,.int .i64 (n.next+1),.slice av RL.length cv,.slice a6 (n.out.length+1) c6,.slice a_s n.seen.length a_cs,.int .i64 n.old,.slice a_r n.reqs.length a_cr] 30 (0,0))):=by rw [hZ];exact setN9 HN_9
 have HR_Z:Hid (Z9.heap[w.heap.size+1]?=some (.cells zc9 30 (0,0))):=by rw [hZ];exact oth_set HR_9 (by omega)
 exact Kb35):P:=h
theorem Sb144.Kb35(h:P:=by
 have HS_Z:Hid (Z9.heap[sb]?=some (.cells #[.int .i64 n.next,.int .i64 dst,.string key,.int .i64 pf] 79 (0,0))):=by rw [hZ];exact oth_set HS_9 (by omega)
 have HNZ:Hid (∀W' W'',KeepsL [w.heap.size+1] Z9 W'→Out c w W' W''→NodeAt W'' ⟨a_k,av,a6,a_s,a_r,a_ck,cv,c6,a_cs,a_cr⟩ ⟨n.id,n.par,n.kids,n.next+1,RL,n.out++[⟨n.next,dst,key,pf⟩],n.seen,n.old,n.reqs⟩):=fun W' W'' hk ho=>by
  obtain⟨F,hk2,hF⟩:=ho
  refine HNX W'' ⟨w.heap.size::(w.heap.size+1)::F,KeepsL.trans (b:=Z9) (by rw [hZ];exact(KeepsL.set _).mono (fun x hx=>by simp at hx;simp[hx])) (KeepsL.trans (hk.mono (fun x hx=>by simp at hx;simp[hx])) (hk2.mono (fun x hx=>by simp[hx]))),fun y hy=>?_⟩
  rcases List.mem_cons.1 hy with h1|h1
  ·exact .inl (.inl h1)
  ·exact Zb52
 open Sb274 in exact Yb85):P:=h
theorem Sb145.Kb35(h:P:=by
 have HS_Z:Hid (Z9.heap[sb]?=some (.cells #[.int .i64 n.next,.int .i64 dst,.string key,.int .i64 most] 79 (0,0))):=by rw [hZ];exact oth_set HS_9 (by omega)
 have HNZ:Hid (∀W' W'',KeepsL [w.heap.size+1] Z9 W'→Out c w W' W''→NodeAt W'' ⟨a_k,av,a6,a_s,a_r,a_ck,cv,c6,a_cs,a_cr⟩ ⟨n.id,n.par,n.kids,n.next+1,RL,n.out++[⟨n.next,dst,key,most⟩],n.seen,n.old,n.reqs⟩):=fun W' W'' hk ho=>by
  obtain⟨F,hk2,hF⟩:=ho
  refine HNX W'' ⟨w.heap.size::(w.heap.size+1)::F,KeepsL.trans (b:=Z9) (by rw [hZ];exact(KeepsL.set _).mono (fun x hx=>by simp at hx;simp[hx])) (KeepsL.trans (hk.mono (fun x hx=>by simp at hx;simp[hx])) (hk2.mono (fun x hx=>by simp[hx]))),fun y hy=>?_⟩
  rcases List.mem_cons.1 hy with h1|h1
  ·exact .inl (.inl h1)
  ·exact Zb52
 open Sb273 in exact Yb85):P:=h
theorem Yb36(h:P:=by
 obtain⟨rfl,hs3,hk3⟩:=hcut;clear m0 m1 m2 m3 m4 m5 m6 s00 s01 s02 sf hml hsl2;go_upto_region 7 with fail;refine wp_at (fun W3 hW3=>?_);subst hW3;have HS_3:=hide hs3;have HN_3:=hide (hk3.obj HN_2 (fun hx=>by simp at hx;omega));have HM_3:=hide (hk3.obj HM_2 (fun hx=>by simp at hx;omega));have HR_3:=hide (hk3.obj HR_2 (fun hx=>by simp at hx;omega));have HB3:=hide (HB2.trans (hk3.below (B:=w.heap.size) (fun x hx=>by simp at hx;omega) HB2.size));have HNO3:=hide (HNO2.kc (k:=9) (KC.keeps hk3 (fun x hx=>by have:x=sb:=(by simpa using hx);rw [this];exact newC_new (by omega))) (by omega));have HWI3:=hide (HWI2.keeps hk3 (fun x hx hm=>by have h1:=hilt x hx;simp at hm;omega));clear hs3 hk3 HN_2 HM_2 HR_2 HB2 HNO2 HWI2 HS_2;have hsb3:=obj_lt HS_3;obtain⟨i0,hi0,hz0,hz1',hz2⟩:=info_parts infoInt;go_upto_block 2 with fail;exact Kb36):P:=h
theorem Sb146.Kb36(h:P:=by
 go_cut [9] from 15 (fun v wx=>∃g cp,v= .slice (some ⟨g,0,none⟩) (idsS s0 mL).length cp∧wx.ownsRow W3.heap.size 3 1 v (idsS s0 mL).length (GR.flat encNum (idsS s0 mL))∧Below W3.heap.size W3 wx)
 case first=>
  exact Zb12
 case rest=>
  open Sb52 in exact Yb12):P:=h
theorem Sb147.Kb36(h:P:=by
 go_cut [9] from 15 (fun v wx=>∃g cp,v= .slice (some ⟨g,0,none⟩) (idsS s0 mL).length cp∧wx.ownsRow W3.heap.size 3 1 v (idsS s0 mL).length (GR.flat encNum (idsS s0 mL))∧Below W3.heap.size W3 wx)
 case first=>
  exact Zb12
 case rest=>
  open Sb51 in exact Yb12):P:=h
theorem Sb148.Kb36(h:P:=by
 go_cut [9] from 15 (fun v wx=>∃g cp,v= .slice (some ⟨g,0,none⟩) (idsS s0 mL).length cp∧wx.ownsRow W3.heap.size 3 1 v (idsS s0 mL).length (GR.flat encNum (idsS s0 mL))∧Below W3.heap.size W3 wx)
 case first=>
  exact Zb12
 case rest=>
  open Sb50 in exact Yb12):P:=h
theorem Yb37(h:P:=by
 obtain⟨gp,hgp⟩:=hP;subst hgp;have HSP:=hide (fun W (ha:PursesAt W (some ⟨gp,0,none⟩) n.pu)=>specGain gp 0 a_cp n.pu mk mN W (Nat.le_trans hz.p (by omega)) hPc hz.pk hmk ha);unfold GivesO at HSP;rw [hu] at HSP;clear hu hz hPc;open Sb325 in exact Yb107):P:=h
theorem Sb149.Kb37(h:P:=by
 go_cut [7] from 15 (fun j wx=>j= .int .i64 (i:Nat)∧Ge W0 wx)
 case first=>
  exact Zb21
 case rest=>
  open Sb91 in exact Yb24):P:=h
theorem Sb150.Kb37(h:P:=by
 go_cut [7] from 15 (fun j wx=>j= .int .i64 (i:Nat)∧Ge W0 wx)
 case first=>
  exact Zb21
 case rest=>
  open Sb92 in exact Yb24):P:=h
theorem Yb38(h:P:=by
 open Sb299 in exact Yb97):P:=h
theorem Sb151.Kb38(h:P:=by
 have HQy3:=hide (show y3.heap[x2.heap.size]?=some (.cells #[.int .i64 no,.string k,.int .i64 nn,.int .i64 1] 49 (0,0)) from by rw [hgy3.block _ (obj_lt (unhide HQx3)) (fun hm=>unhide HEy2 _ hm.symm rfl)];exact HQx3);open Sb323 in exact Yb106):P:=h
theorem Sb152.Kb38(h:P:=by
 have HQy3:=hide (show y3.heap[x2.heap.size]?=some (.cells #[.int .i64 no,.string k,.int .i64 nn,.int .i64 0] 49 (0,0)) from by rw [hgy3.block _ (obj_lt (unhide HQx3)) (fun hm=>unhide HEy2 _ hm.symm rfl)];exact HQx3);open Sb322 in exact Yb106):P:=h
theorem Yb39(h:P:=by
 obtain⟨c0,c1,c2,c3,c4,c5,c6,c7,c8⟩:=nine HN_7;have cf:=obj_free HN_7 8;have hnl:=obj_lt HN_7;obtain⟨i0,hi,hz0,hz1,hz2⟩:=info_parts infoReq;obtain⟨a8,c8',W8,hrun,hown8,hb8,⟨g8,rfl⟩,hc8⟩:=run_copy_row (P:=Tryz.prog) encRq_length (by omega) W7 28 49 i0 (.agg #[.int .i64 0,.string ByteArray.empty,.int .i64 0,.int .i64 0]) 40 Tryz.underlying28 hi hz0 hz1 hz2 rfl (some ⟨gv,1*4,none⟩) IT (vc - 1) HTA7 (flatRq_one _) (by unfold maxLen;omega) (by omega);rw [hIT,Nat.one_mul] at hrun;have HRUN:=hide hrun;have HN_8:=hide (obj_step HN_7 hb8);have HR_8:=hide (obj_step HR_7 hb8);have HQ_8:=hide (obj_step HQ_7 hb8);have HB8:=hide (HB7.trans (hb8.mono HB7.size));have HL8:=hide (Lies.own encRq_length hown8);have hz7:w.heap.size+3≤W7.heap.size:=by have:=obj_lt HQ_7;omega
 exact Kb39):P:=h
theorem Sb153.Kb39(h:P:=by
 have HP8:=hide (HP7.below hb8);open Sb331 in exact Yb110):P:=h
theorem Sb154.Kb39(h:P:=by
 skip
 open Sb330 in exact Yb110):P:=h
theorem Yb40(h:P:=by
 unfold GivesE;have HOK:=hide (fun W (h:Below w.heap.size w W)=>specNodeOk n A W (hz.mono (by omega)) (ha.below h));rw [hok] at HOK;exact Kb40):P:=h
theorem Sb155.Kb40(h:P:=by
 have HOP:=hide (fun W=>specOpOk ⟨K,no,k,nn,⟨mK,mF,mT,mI,mL,mk,mN⟩⟩ W (by unfold maxLen;dsimp only;omega) (by unfold maxLen;dsimp only;omega));rw [hop] at HOP;unfold opw at HOP;clear hop;open Sb41 in exact Yb10):P:=h
theorem Sb156.Kb40(h:P:=by
 open Sb42 in exact Yb10):P:=h
theorem Sb157.Kb40(h:P:=by
 have HCL:=hide (fun W A1 G1 c (hB:0≤W.heap.size) (h9:∀x,6 < c x→c x=9) (hp:((∃g,A1.p=some ⟨g,0,none⟩)∧n.pu.length≤A1.cp)∧(∃g,A1.r=some ⟨g,0,none⟩)∧n.reqs.length≤A1.cr) (hN:NO W 0 n A1 G1 c)=>specRelease n A1 G1 c no W 0 hB h9 hz hp.1.1 hp.1.2 (ndOk_parts hok).2.2.2.2.2 hN);unfold GivesR at HCL;generalize releaseN n no=GV at *;obtain⟨N1,code1⟩:=GV;dsimp only at HCL ⊢;have HOP:=hide (fun W=>specOpOk ⟨2,no,k,nn,⟨mK,mF,mT,mI,mL,mk,mN⟩⟩ W (by unfold maxLen;dsimp only;omega) (by unfold maxLen;dsimp only;omega));open Sb100 in exact Yb26):P:=h
theorem Sb158.Kb40(h:P:=by
 have HCL:=hide (fun W A1 G1 c (hB:0≤W.heap.size) (h9:∀x,6 < c x→c x=9) (hp:((∃g,A1.p=some ⟨g,0,none⟩)∧n.pu.length≤A1.cp)∧(∃g,A1.r=some ⟨g,0,none⟩)∧n.reqs.length≤A1.cr) (hN:NO W 0 n A1 G1 c)=>specAdmit n A1 G1 c 1 no k nn mK mF mT mI mL mk mN W 0 hB h9 hz hk hp.1.1 hp.1.2 hp.2.1 hp.2.2 (ndOk_parts hok).2.2.2.2.2 hN);unfold GivesR at HCL;generalize admitN n no k nn=GV at *;obtain⟨N1,code1⟩:=GV;dsimp only at HCL ⊢;have HOP:=hide (fun W=>specOpOk ⟨1,no,k,nn,⟨mK,mF,mT,mI,mL,mk,mN⟩⟩ W (by unfold maxLen;dsimp only;omega) (by unfold maxLen;dsimp only;omega));open Sb101 in exact Yb26):P:=h
theorem Sb159.Kb40(h:P:=by
 have hpz:(decide (n.par < 0))=false:=by
  exact Zb48
 have HCL:=hide (fun W A1 G1 c (hB:0≤W.heap.size) (h9:∀x,6 < c x→c x=9) (hp:((∃g,A1.p=some ⟨g,0,none⟩)∧n.pu.length≤A1.cp)∧(∃g,A1.r=some ⟨g,0,none⟩)∧n.reqs.length≤A1.cr) (hN:NO W 0 n A1 G1 c)=>specGive n A1 G1 c n.par k nn W 0 hB h9 hz hk hp.1.1 hp.1.2 (by have h:=(ndOk_parts hok).2.2.2.1;unfold smB at h;simp at h;omega) hN);unfold GivesT at HCL;generalize giveN n n.par k nn=GV at *;obtain⟨N1,L1,b1⟩:=GV;dsimp only at HCL ⊢;generalize (if b1=true then(0:Int) else 1)=code1 at *;open Sb84 in exact Yb21):P:=h
theorem Sb160.Kb40(h:P:=by
 have hmo:mgOk ⟨mK,mF,mT,mI,mL,mk,mN⟩=true:=by
  have h:=hop;unfold opOk at h;dsimp only at h;rw [if_neg (by omega),if_neg (by omega),if_neg (by omega),if_neg (by omega),if_pos rfl,Bool.and_eq_true] at h;exact h.2
 have HCL:=hide (fun W A1 G1 c (hB:0≤W.heap.size) (h9:∀x,6 < c x→c x=9) (hp:((∃g,A1.p=some ⟨g,0,none⟩)∧n.pu.length≤A1.cp)∧(∃g,A1.r=some ⟨g,0,none⟩)∧n.reqs.length≤A1.cr) (hN:NO W 0 n A1 G1 c)=>specHear n A1 G1 c mK mF mT mI mL mk mN W 0 hB h9 hz hmk hok hmo hp.1.1 hp.1.2 hN);clear hmo;unfold GivesT at HCL;generalize hearG n ⟨mK,mF,mT,mI,mL,mk,mN⟩=GV at *;obtain⟨N1,L1,code1⟩:=GV;dsimp only at HCL ⊢;have HOP:=hide (fun W=>specOpOk ⟨6,no,k,nn,⟨mK,mF,mT,mI,mL,mk,mN⟩⟩ W (by unfold maxLen;dsimp only;omega) (by unfold maxLen;dsimp only;omega));open Sb102 in exact Yb26):P:=h
theorem Sb161.Kb40(h:P:=by
 have hpz:(decide (n.par < 0))=true:=by rw [hpar];rfl
 clear hpar;open Sb85 in exact Yb21):P:=h
theorem Sb162.Kb40(h:P:=by
 have hpz:(decide (n.par < 0))=true:=by rw [hpar];rfl
 clear hpar;have HOP:=hide (fun W=>specOpOk ⟨3,no,k,nn,⟨mK,mF,mT,mI,mL,mk,mN⟩⟩ W (by unfold maxLen;dsimp only;omega) (by unfold maxLen;dsimp only;omega));open Sb103 in exact Yb26):P:=h
theorem Sb163.Kb40(h:P:=by
 have hpg:(decide (n.par≥0))=false:=by rw [hpar];rfl
 have hpg':(decide (0≤n.par))=false:=hpg;clear hpar
 have HCL:=hide (fun W (A1:Ads) (hp:(∃g,A1.p=some ⟨g,0,none⟩)∧n.pu.length≤A1.cp) (hN:PursesAt W A1.p n.pu)=>(by
  obtain⟨⟨g,hg⟩,hc⟩:=hp
  rw [hg] at hN ⊢
  have:=specMint g 0 A1.cp n.pu k nn W (Nat.le_trans hz.p (by omega)) hc hz.pk hk hN
  rw [hu] at this
  exact this:Calls Tryz.prog 58 #[.slice A1.p n.pu.length A1.cp,.string k,.int .i64 nn] W (GivesO W (RL,true))))
 clear hu;unfold GivesO at HCL;have HOP:=hide (fun W=>specOpOk ⟨0,no,k,nn,⟨mK,mF,mT,mI,mL,mk,mN⟩⟩ W (by unfold maxLen;dsimp only;omega) (by unfold maxLen;dsimp only;omega));open Sb104 in exact Yb26):P:=h
theorem Sb164.Kb40(h:P:=by
 have hpg:(decide (n.par≥0))=false:=by rw [hpar];rfl
 have hpg':(decide (0≤n.par))=false:=hpg;clear hpar
 have HCL:=hide (fun W (A1:Ads) (hp:(∃g,A1.p=some ⟨g,0,none⟩)∧n.pu.length≤A1.cp) (hN:PursesAt W A1.p n.pu)=>(by
  obtain⟨⟨g,hg⟩,hc⟩:=hp
  rw [hg] at hN ⊢
  have:=specMint g 0 A1.cp n.pu k nn W (Nat.le_trans hz.p (by omega)) hc hz.pk hk hN
  rw [hu] at this
  exact this:Calls Tryz.prog 58 #[.slice A1.p n.pu.length A1.cp,.string k,.int .i64 nn] W (GivesO W (RL,false))))
 exact Zb7):P:=h
theorem Sb165.Kb40(h:P:=by
 have hpg:(decide (n.par≥0))=true:=by
  have h:=(ndOk_parts hok).1;unfold placeB at h;simp only[Bool.and_eq_true,decide_eq_true_eq] at h;exact decide_eq_true (by omega)
 have hpg':(decide (0≤n.par))=true:=hpg
 have HCL:=hide (fun W (A1:Ads) (hp:(∃g,A1.p=some ⟨g,0,none⟩)∧n.pu.length≤A1.cp) (hN:PursesAt W A1.p n.pu)=>(by
  obtain⟨⟨g,hg⟩,hc⟩:=hp
  rw [hg] at hN ⊢
  have:=specMint g 0 A1.cp n.pu k nn W (Nat.le_trans hz.p (by omega)) hc hz.pk hk hN
  rw [hu] at this
  exact this:Calls Tryz.prog 58 #[.slice A1.p n.pu.length A1.cp,.string k,.int .i64 nn] W (GivesO W (RL,ok))))
 exact Zb7):P:=h
theorem Sb166.Kb40(h:P:=by
 have HCL:=hide (fun W A1 (hN:NodeAt W A1 n)=>specPays n A1 W (hz.mono (by omega)) hN);rw [show paysL n=n.out.map (payM n) from if_pos hok] at HCL;unfold GivesM at HCL;dsimp only at HCL ⊢;generalize n.out.map (payM n)=L1 at *;have HOP:=hide (fun W=>specOpOk ⟨5,no,k,nn,⟨mK,mF,mT,mI,mL,mk,mN⟩⟩ W (by unfold maxLen;dsimp only;omega) (by unfold maxLen;dsimp only;omega));open Sb105 in exact Yb26):P:=h
theorem Sb167.Kb40(h:P:=by
 have hpz:(decide (n.par < 0))=false:=by
  exact Zb48
 have HOP:=hide (fun W=>specOpOk ⟨3,no,k,nn,⟨mK,mF,mT,mI,mL,mk,mN⟩⟩ W (by unfold maxLen;dsimp only;omega) (by unfold maxLen;dsimp only;omega));open Sb106 in exact Yb26):P:=h
theorem Yb41(h:P:=by
 obtain⟨e1,e2,e3,e4⟩:=allocs3E w (.cells (ndc n A) 30) (.cells #[.int .i64 3,.int .i64 no,.string k,.int .i64 nn,.int .i64 mK,.int .i64 mF,.int .i64 mT,.int .i64 mI,.int .i64 mL,.string mk,.int .i64 mN] 34) (.cells zc9 30);have hsz:(((w.alloc (.cells (ndc n A) 30)).alloc (.cells #[.int .i64 3,.int .i64 no,.string k,.int .i64 nn,.int .i64 mK,.int .i64 mF,.int .i64 mT,.int .i64 mI,.int .i64 mL,.string mk,.int .i64 mN] 34)).alloc (.cells zc9 30)).heap.size=w.heap.size+3:=by simp
 generalize hW0:((w.alloc (.cells (ndc n A) 30)).alloc (.cells #[.int .i64 3,.int .i64 no,.string k,.int .i64 nn,.int .i64 mK,.int .i64 mF,.int .i64 mT,.int .i64 mI,.int .i64 mL,.string mk,.int .i64 mN] 34)).alloc (.cells zc9 30)=W0 at *;exact Kb41):P:=h
theorem Sb168.Kb41(h:P:=by
 open Sb55 in exact Yb13):P:=h
theorem Sb169.Kb41(h:P:=by
 exact Zb11):P:=h
theorem Yb42(h:P:=by
 obtain⟨e1,e2,e3,e4⟩:=allocs3E w (.cells (ndc n A) 30) (.cells #[.int .i64 0,.int .i64 no,.string k,.int .i64 nn,.int .i64 mK,.int .i64 mF,.int .i64 mT,.int .i64 mI,.int .i64 mL,.string mk,.int .i64 mN] 34) (.cells zc9 30);have hsz:(((w.alloc (.cells (ndc n A) 30)).alloc (.cells #[.int .i64 0,.int .i64 no,.string k,.int .i64 nn,.int .i64 mK,.int .i64 mF,.int .i64 mT,.int .i64 mI,.int .i64 mL,.string mk,.int .i64 mN] 34)).alloc (.cells zc9 30)).heap.size=w.heap.size+3:=by simp
 generalize hW0:((w.alloc (.cells (ndc n A) 30)).alloc (.cells #[.int .i64 0,.int .i64 no,.string k,.int .i64 nn,.int .i64 mK,.int .i64 mF,.int .i64 mT,.int .i64 mI,.int .i64 mL,.string mk,.int .i64 mN] 34)).alloc (.cells zc9 30)=W0 at *;exact Kb42):P:=h
theorem Sb170.Kb42(h:P:=by
 open Sb59 in exact Yb13):P:=h
theorem Sb171.Kb42(h:P:=by
 open Sb53 in exact Yb13):P:=h
theorem Yb43(h:P:=by
 (refine tkB hwp (fun K hK=>?_);go_simp;first|refine hK _ ?_|(apply Exists.intro;refine⟨fun _=>?_,hK _ ?_⟩;rfl);clear hK K)
 refine tkN ?_;clear hwp;refine wpMixB_leave (by kernel_rfl) (fun z hz=>?_);have HBQz:=hide (obj_step HBQ hz);have HKDz:=hide (KeepsL.trans (F:=[qf]) HKD (KeepsL.of_below hz));have HBVz:=hide (HBV.trans (hz.mono HBV.size));clear hz HBQ HKD HBV;exact Kb43):P:=h
theorem Sb172.Kb43(h:P:=by
 refine wpAny_one 12 rfl (by kernel_rfl) (by rfl) ?_;go_simp;refine wpAny_done (by kernel_rfl) ?_;go_simp;go_wp2_with fail;go_meet
 case rel=>
  have hda:∀x∈G6.all N1,x∉[qf]:=fun x hx hm=>by
   have:x=qf:=(by simpa using hm)
   have h1:=HSEP.rng x hx
   omega
  have hdm:∀x∈fp g6 L1,x∉[qf]:=fun x hx hm=>by
   have:x=qf:=(by simpa using hm)
   have h1:=unhide HMR2 x hx
   omega
  exact⟨qf,A6,ma,mc,rfl,rfl,rfl,HBQz,(NodeW.keeps HNW HKDz hda).at,(GR.W.keeps HMW HKDz hdm).at,HBVz⟩):P:=h
theorem Sb173.Kb43(h:P:=by
 refine wpAny_one 11 rfl (by kernel_rfl) (by rfl) ?_;go_simp;refine wpAny_done (by kernel_rfl) ?_;go_simp;go_wp2_with fail;go_meet
 case rel=>
  have hda:∀x∈G6.all N1,x∉[qf]:=fun x hx hm=>by
   have:x=qf:=(by simpa using hm)
   have h1:=HSEP.rng x hx
   omega
  have hdm:∀x∈fp g6 L1,x∉[qf]:=fun x hx hm=>by
   have:x=qf:=(by simpa using hm)
   have h1:=unhide HMR x hx
   omega
  exact⟨qf,A6,G6,ma,mc,g6,rfl,rfl,rfl,hqV,HBQz,NodeW.keeps HNW HKDz hda,HSEP.nodup,fun x hx=>⟨by have h1:=HSEP.rng x hx;omega,by simpa using hda x hx⟩,GR.W.keeps HMW HKDz hdm,fun x hx=>⟨by have h1:=unhide HMR x hx;omega,by simpa using hdm x hx,HMA x hx⟩,HBVz⟩):P:=h
theorem Sb174.Kb43(h:P:=by
 refine wpAny_one 12 rfl (by kernel_rfl) (by rfl) ?_;go_simp;refine wpAny_done (by kernel_rfl) ?_;go_simp;go_wp2_with fail;go_meet
 case rel=>
  exact⟨qf,A3,ma,mc,rfl,rfl,rfl,hqV,HBQz,aft_or HAT hqd HKDz (fun b hb h=>h.below hb),aft_or HMT hqd HKDz (fun b hb h=>GR.At.below h hb),HBVz⟩):P:=h
theorem Yb44(h:P:=by
 obtain⟨gp,hgp⟩:=hP;obtain⟨gr,hgr⟩:=hR;subst hgp;subst hgr;have HSP:=hide (fun W (ha:PursesAt W (some ⟨gp,0,none⟩) n.pu)=>specSpend gp 0 a_cp n.pu k nn W (Nat.le_trans hz.p (by omega)) hPc hz.pk hkz ha);unfold GivesO at HSP;rw [hu] at HSP;have hp:=reqs_asc hok;have HRQ:=hide (fun W1 (ha:ReqAt W1 (some ⟨gr,0,none⟩) n.reqs)=>specReq n (⟨a_k,(some ⟨gp,0,none⟩),a_o,a_s,(some ⟨gr,0,none⟩),a_ck,a_cp,a_co,a_cs,a_cr⟩:Ads) no W1 (by omega) hp.1 ha);rw [show reqJ n.reqs no= -1 by unfold reqJ;rw [hf];rfl] at HRQ;have HPW:=hide hp.1;have hl30:=hp.2.1;clear hp hok hf hu hkz hz hPc;unfold GivesR;have H9:=hide h9;clear h9;have HNO:=hide (h.nine hB);clear h;exact Kb44):P:=h
theorem Sb175.Kb44(h:P:=by
 open Sb61 in exact Yb14):P:=h
theorem Sb176.Kb44(h:P:=by
 open Sb62 in exact Yb14):P:=h
theorem Yb45(h:P:=by
 have HN8:Hid (NO Z8 B n (⟨a_k,(some ⟨gp,0,none⟩),a_o,a_s,a_r,a_ck,a_cp,a_co,a_cs,a_cr⟩:Ads) G (newC w.heap.size 9 c)):=by rw [hZ];exact HN7.kc (k:=9) (KC.set (newC_new (Nat.le_refl _))) (by omega)
 have HP8:Hid (Z8.ownsRow bs 141 4 (.slice av RL.length cv) RL.length (GR.flat encP RL)):=by rw [hZ];exact own_keepsL HP7 (KeepsL.set _) (fun y hy=>by have:y=w.heap.size:=(by simpa using hy);omega)
 have HB8:Hid (Below B w Z8):=by rw [hZ];exact HB7.setCell (p:=⟨w.heap.size,3,none⟩) hB _
 have HK8:Hid (Apart c w Z8):=by rw [hZ];exact HK7.keeps HB7.size (KeepsL.set _) (fun y hy=>by have:y=w.heap.size:=(by simpa using hy);omega)
 clear hZ HK7 HN_7 HR_7 HN7 HP7 HB7 HS7 c3n f3n hn7;exact Kb45):P:=h
theorem Sb177.Kb45(h:P:=by
 obtain⟨a6,c6,W9,hrun,hown9,hgr9,hwh9⟩:∃a6 c6 W9,(Builtin.append_ #[26,26] 26 #[.slice a_o n.out.length a_co,.slice (some ⟨Z8.heap.size,0,none⟩) 1 1]).run Tryz.prog (Z8.alloc (.cells #[.int .i64 n.next,.int .i64 dst,.string key,.int .i64 pf] 79))= .ok (.slice a6 (n.out.length+1) c6) W9∧W9.ownsRow B 79 4 (.slice a6 (n.out.length+1) c6) (n.out.length+1) (GR.flat encSnt (n.out++[⟨n.next,dst,key,pf⟩]))∧(Z8.alloc (.cells #[.int .i64 n.next,.int .i64 dst,.string key,.int .i64 pf] 79)).grownBy W9 (Value.slice a_o n.out.length a_co).ownBlock∧∀x,(Value.slice a6 (n.out.length+1) c6).ownBlock=some x→(Value.slice a_o n.out.length a_co).ownBlock=some x∨(Z8.alloc (.cells #[.int .i64 n.next,.int .i64 dst,.string key,.int .i64 pf] 79)).heap.size≤x:=by
  obtain⟨hi,hz0,hz1,hz2⟩:=unhide HI;obtain⟨v',w',hr,ho,hg,hw⟩:=run_append_where (P:=Tryz.prog) (Z8.alloc (.cells #[.int .i64 n.next,.int .i64 dst,.string key,.int .i64 pf] 79)) B 26 26 79 i0 (.agg #[.int .i64 0,.int .i64 0,.string ByteArray.empty,.int .i64 0]) 4 40 Tryz.underlying26 hi hz0 hz1 hz2 rfl (by decide) (.slice a_o n.out.length a_co) n.out.length (GR.flat encSnt n.out) (GR.own_below HN8.o (below_one Z8 _)) ⟨Z8.heap.size,0,none⟩ 1 1 (encSnt ⟨n.next,dst,key,pf⟩) rfl (World.news_of_block (heap_alloc_new Z8 _)) (encSnt_one _) (by unfold maxLen;omega) (by omega) (Nat.le_trans (Nat.le_trans hB HB8.size) (below_one Z8 _).size);obtain⟨a6,c6,hv6,_⟩:=GR.own_at (enc:=encSnt) (sz:=4) (l:=n.out++[⟨n.next,dst,key,pf⟩]) encSnt_length (by rw [List.length_append,flat_snoc];exact ho);exact Zb46
 have hNA:=HN8.kc (k:=9) (KC.of_below (below_one Z8 (.cells #[.int .i64 n.next,.int .i64 dst,.string key,.int .i64 pf] 79))) (by omega);have k9:KC (newC w.heap.size 9 c) 3 (Z8.alloc (.cells #[.int .i64 n.next,.int .i64 dst,.string key,.int .i64 pf] 79)) W9:=KC.grown hgr9 hNA.co;have hn9:∀x,w.heap.size≤x→newC w.heap.size 9 c x≠3:=fun x hx=>by rw [newC_new hx];omega
 have HN_9:=hide (k9.obj (obj_step HN_8 (below_one Z8 (.cells #[.int .i64 n.next,.int .i64 dst,.string key,.int .i64 pf] 79))) (hn9 _ (Nat.le_refl _)));have HR_9:=hide (k9.obj (obj_step HR_8 (below_one Z8 (.cells #[.int .i64 n.next,.int .i64 dst,.string key,.int .i64 pf] 79))) (hn9 _ (by omega)));have HS_9:=hide (k9.obj (obj_step HS8 (below_one Z8 (.cells #[.int .i64 n.next,.int .i64 dst,.string key,.int .i64 pf] 79))) (hn9 _ (by omega)));have HB9:=hide (k9.below (B:=B) (HB8.trans ((below_one Z8 (.cells #[.int .i64 n.next,.int .i64 dst,.string key,.int .i64 pf] 79)).mono (Nat.le_trans hB HB8.size))) hNA.lo (by omega) (Nat.le_trans (Nat.le_trans hB HB8.size) (below_one Z8 _).size));have hZ8:w.heap.size+1 < Z8.heap.size:=obj_lt HR_8
 have HNX:Hid (∀W',(∃F,KeepsL F W9 W'∧∀y∈F,(y=w.heap.size∨y=w.heap.size+1)∨(y < w.heap.size∧6 < c y))→NodeAt W' ⟨a_k,av,a6,a_s,a_r,a_ck,cv,c6,a_cs,a_cr⟩ ⟨n.id,n.par,n.kids,n.next+1,RL,n.out++[⟨n.next,dst,key,pf⟩],n.seen,n.old,n.reqs⟩):=fun W' hkF=>by
  obtain⟨F,hk,hF⟩:=hkF
  have kF:KC (newC w.heap.size 9 c) 9 W9 W':=KC.keeps hk (fun y hy=>by
   rcases hF y hy with h1|h1
   ·exact newC_new (by omega)
   ·rw [newC_old h1.1];exact H9 y h1.2)
  have hr:=GR.own_ati (enc:=encRq) (sz:=4) (l:=n.reqs) encRq_length (kF.own (k9.own hNA.r hNA.cr (by omega)) hNA.cr (by omega))
  have hp:=GR.own_ati (enc:=encP) (sz:=4) (l:=RL) encP_length (own_keepsL (k9.own (j:=9) (GR.own_below HP8 (below_one Z8 _)) (fun x hx=>newC_new (by have:=own_lo HP8 hx;omega)) (by omega)) hk (fun y hy=>by
   have:=hF y hy
   omega))
  have ho:=GR.own_ati (enc:=encSnt) (sz:=4) (l:=n.out++[⟨n.next,dst,key,pf⟩]) encSnt_length (by
   rw [List.length_append]
   exact own_blocks hown9 (fun x hx=>by
    have hx9:=own_lt hown9 hx
    refine hk.block x hx9 (fun hm=>?_)
    have hm':=hF x hm
    rcases hwh9 x hx with h1|h1
    ·exact Zb44
    ·have:=(below_one Z8 (.cells #[.int .i64 n.next,.int .i64 dst,.string key,.int .i64 pf] 79)).size
     omega))
  exact NodeAt.mk (n:=⟨n.id,n.par,n.kids,n.next+1,RL,n.out++[⟨n.next,dst,key,pf⟩],n.seen,n.old,n.reqs⟩) (A:=⟨a_k,av,a6,a_s,a_r,a_ck,cv,c6,a_cs,a_cr⟩) (kF.w (k9.w hNA.k hNA.ck (by omega)) hNA.ck (by omega)).at hp ho (kF.seen (k9.seen hNA.s hNA.c4 hNA.ci (by omega) (by omega)) hNA.c4 hNA.ci (by omega) (by omega)).at hr
 have HK9:=hide ((HK8.step HB8.size (below_one Z8 (.cells #[.int .i64 n.next,.int .i64 dst,.string key,.int .i64 pf] 79))).grown (Nat.le_trans HB8.size (below_one Z8 _).size) hgr9 (fun x hx hlt=>by
  have h1:=hNA.co x hx
  rw [newC_old hlt] at h1
  omega))
 open Sb144 in exact Yb35):P:=h
theorem Sb178.Kb45(h:P:=by
 obtain⟨a6,c6,W9,hrun,hown9,hgr9,hwh9⟩:∃a6 c6 W9,(Builtin.append_ #[26,26] 26 #[.slice a_o n.out.length a_co,.slice (some ⟨Z8.heap.size,0,none⟩) 1 1]).run Tryz.prog (Z8.alloc (.cells #[.int .i64 n.next,.int .i64 dst,.string key,.int .i64 most] 79))= .ok (.slice a6 (n.out.length+1) c6) W9∧W9.ownsRow B 79 4 (.slice a6 (n.out.length+1) c6) (n.out.length+1) (GR.flat encSnt (n.out++[⟨n.next,dst,key,most⟩]))∧(Z8.alloc (.cells #[.int .i64 n.next,.int .i64 dst,.string key,.int .i64 most] 79)).grownBy W9 (Value.slice a_o n.out.length a_co).ownBlock∧∀x,(Value.slice a6 (n.out.length+1) c6).ownBlock=some x→(Value.slice a_o n.out.length a_co).ownBlock=some x∨(Z8.alloc (.cells #[.int .i64 n.next,.int .i64 dst,.string key,.int .i64 most] 79)).heap.size≤x:=by
  obtain⟨hi,hz0,hz1,hz2⟩:=unhide HI;obtain⟨v',w',hr,ho,hg,hw⟩:=run_append_where (P:=Tryz.prog) (Z8.alloc (.cells #[.int .i64 n.next,.int .i64 dst,.string key,.int .i64 most] 79)) B 26 26 79 i0 (.agg #[.int .i64 0,.int .i64 0,.string ByteArray.empty,.int .i64 0]) 4 40 Tryz.underlying26 hi hz0 hz1 hz2 rfl (by decide) (.slice a_o n.out.length a_co) n.out.length (GR.flat encSnt n.out) (GR.own_below HN8.o (below_one Z8 _)) ⟨Z8.heap.size,0,none⟩ 1 1 (encSnt ⟨n.next,dst,key,most⟩) rfl (World.news_of_block (heap_alloc_new Z8 _)) (encSnt_one _) (by unfold maxLen;omega) (by omega) (Nat.le_trans (Nat.le_trans hB HB8.size) (below_one Z8 _).size);obtain⟨a6,c6,hv6,_⟩:=GR.own_at (enc:=encSnt) (sz:=4) (l:=n.out++[⟨n.next,dst,key,most⟩]) encSnt_length (by rw [List.length_append,flat_snoc];exact ho);exact Zb46
 have hNA:=HN8.kc (k:=9) (KC.of_below (below_one Z8 (.cells #[.int .i64 n.next,.int .i64 dst,.string key,.int .i64 most] 79))) (by omega);have k9:KC (newC w.heap.size 9 c) 3 (Z8.alloc (.cells #[.int .i64 n.next,.int .i64 dst,.string key,.int .i64 most] 79)) W9:=KC.grown hgr9 hNA.co;have hn9:∀x,w.heap.size≤x→newC w.heap.size 9 c x≠3:=fun x hx=>by rw [newC_new hx];omega
 have HN_9:=hide (k9.obj (obj_step HN_8 (below_one Z8 (.cells #[.int .i64 n.next,.int .i64 dst,.string key,.int .i64 most] 79))) (hn9 _ (Nat.le_refl _)));have HR_9:=hide (k9.obj (obj_step HR_8 (below_one Z8 (.cells #[.int .i64 n.next,.int .i64 dst,.string key,.int .i64 most] 79))) (hn9 _ (by omega)));have HS_9:=hide (k9.obj (obj_step HS8 (below_one Z8 (.cells #[.int .i64 n.next,.int .i64 dst,.string key,.int .i64 most] 79))) (hn9 _ (by omega)));have HB9:=hide (k9.below (B:=B) (HB8.trans ((below_one Z8 (.cells #[.int .i64 n.next,.int .i64 dst,.string key,.int .i64 most] 79)).mono (Nat.le_trans hB HB8.size))) hNA.lo (by omega) (Nat.le_trans (Nat.le_trans hB HB8.size) (below_one Z8 _).size));have hZ8:w.heap.size+1 < Z8.heap.size:=obj_lt HR_8
 have HNX:Hid (∀W',(∃F,KeepsL F W9 W'∧∀y∈F,(y=w.heap.size∨y=w.heap.size+1)∨(y < w.heap.size∧6 < c y))→NodeAt W' ⟨a_k,av,a6,a_s,a_r,a_ck,cv,c6,a_cs,a_cr⟩ ⟨n.id,n.par,n.kids,n.next+1,RL,n.out++[⟨n.next,dst,key,most⟩],n.seen,n.old,n.reqs⟩):=fun W' hkF=>by
  obtain⟨F,hk,hF⟩:=hkF
  have kF:KC (newC w.heap.size 9 c) 9 W9 W':=KC.keeps hk (fun y hy=>by
   rcases hF y hy with h1|h1
   ·exact newC_new (by omega)
   ·rw [newC_old h1.1];exact H9 y h1.2)
  have hr:=GR.own_ati (enc:=encRq) (sz:=4) (l:=n.reqs) encRq_length (kF.own (k9.own hNA.r hNA.cr (by omega)) hNA.cr (by omega))
  have hp:=GR.own_ati (enc:=encP) (sz:=4) (l:=RL) encP_length (own_keepsL (k9.own (j:=9) (GR.own_below HP8 (below_one Z8 _)) (fun x hx=>newC_new (by have:=own_lo HP8 hx;omega)) (by omega)) hk (fun y hy=>by
   have:=hF y hy
   omega))
  have ho:=GR.own_ati (enc:=encSnt) (sz:=4) (l:=n.out++[⟨n.next,dst,key,most⟩]) encSnt_length (by
   rw [List.length_append]
   exact own_blocks hown9 (fun x hx=>by
    have hx9:=own_lt hown9 hx
    refine hk.block x hx9 (fun hm=>?_)
    have hm':=hF x hm
    rcases hwh9 x hx with h1|h1
    ·exact Zb44
    ·have:=(below_one Z8 (.cells #[.int .i64 n.next,.int .i64 dst,.string key,.int .i64 most] 79)).size
     omega))
  exact NodeAt.mk (n:=⟨n.id,n.par,n.kids,n.next+1,RL,n.out++[⟨n.next,dst,key,most⟩],n.seen,n.old,n.reqs⟩) (A:=⟨a_k,av,a6,a_s,a_r,a_ck,cv,c6,a_cs,a_cr⟩) (kF.w (k9.w hNA.k hNA.ck (by omega)) hNA.ck (by omega)).at hp ho (kF.seen (k9.seen hNA.s hNA.c4 hNA.ci (by omega) (by omega)) hNA.c4 hNA.ci (by omega) (by omega)).at hr
 have HK9:=hide ((HK8.step HB8.size (below_one Z8 (.cells #[.int .i64 n.next,.int .i64 dst,.string key,.int .i64 most] 79))).grown (Nat.le_trans HB8.size (below_one Z8 _).size) hgr9 (fun x hx hlt=>by
  have h1:=hNA.co x hx
  rw [newC_old hlt] at h1
  omega))
 open Sb145 in exact Yb35):P:=h
theorem Yb46(h:P:=by
 rw [←hW] at e1 e2 e3 e4;have HN:=hide e1;have HM:=hide e2;have HR:=hide e3;have HB0:=hide e4;have HN0:=hide (HNO.kc (k:=9) (KC.of_below e4) (by omega));clear hW e1 e2 e3 e4 HNO;obtain⟨m0,m1,m2,m3,m4,m5,m6⟩:=sevenC HM;have hml:=obj_lt HM;have hnl:=obj_lt HN;go_wp2_with fail;refine(HMO W0).mono ?_;rintro e W1 ⟨rfl,hb1⟩;have HN_1:=hide (obj_step HN hb1);have HM_1:=hide (obj_step HM hb1);have HR_1:=hide (obj_step HR hb1);have HB1:=hide (HB0.trans (hb1.mono HB0.size));have HN1:=hide (HN0.kc (k:=9) (KC.of_below hb1) (by omega));clear hb1 HM HR HN HB0 HN0;clear m0 m1 m2 m3 m4 m5 m6 hml hnl HMO;obtain⟨m0,m1,m2,m3,m4,m5,m6⟩:=sevenC HM_1;exact Kb46):P:=h
theorem Sb179.Kb46(h:P:=by
 have hml:=obj_lt HM_1;have HRA:=hide (obj_step HR_1 (below_one W1 (.cells #[] 32)));have HNA:=hide (HN1.kc (k:=9) (KC.of_below (below_one W1 (.cells #[] 32))) (by omega));have HBA:=hide (HB1.trans ((below_one W1 (.cells #[] 32)).mono HB1.size));obtain⟨c0,c1,c2,c3,c4,c5,c6,c7,c8⟩:=nine HN_1;open Sb111 in exact Yb28):P:=h
theorem Sb180.Kb46(h:P:=by
 obtain⟨c0,c1,c2,c3,c4,c5,c6,c7,c8⟩:=nine HN_1;have hml:=obj_lt HM_1;have hnl:=obj_lt HN_1;go_wp2_with fail;refine(HNR W1 HN1.at.k).mono ?_;rintro e W2 ⟨rfl,hb2⟩;have HN_2:=hide (obj_step HN_1 hb2);have HM_2:=hide (obj_step HM_1 hb2);have HR_2:=hide (obj_step HR_1 hb2);have HB2:=hide (HB1.trans (hb2.mono HB1.size));have HN2:=hide (HN1.kc (k:=9) (KC.of_below hb2) (by omega));clear hb2 HM_1 HR_1 HN_1 HB1 HN1;clear m0 m1 m2 m3 m4 m5 m6 c0 c1 c2 c3 c4 c5 c6 c7 c8 hml hnl HNR;obtain⟨m0,m1,m2,m3,m4,m5,m6⟩:=sevenC HM_2;exact Kb3):P:=h
theorem Yb47(h:P:=by
 refine wp_region_mixF 3 (by kernel_rfl) ?_;show wpMixF _ _ _ _ _ 5 (Array.replicate 5 false) _ _
 refine tk [0] ?_;(refine tkF (fun K hK=>?_);go_simp;refine hK _ ?_;clear hK K)
 refine tkN ?_;clear y0 y1 y2 y3 y4 y5 y6 y7 y8;exact Kb47):P:=h
theorem Sb181.Kb47(h:P:=by
 refine wpMixF_two 1 rfl rfl (by kernel_rfl) (by rfl) (by rfl) (by decide) (fun x hx=>?_) (fun x hx=>?_)
 ·go_simp;refine⟨Below.refl _ _,?_⟩;refine wpMixF_two 2 rfl rfl (by kernel_rfl) (by rfl) (by rfl) (by decide) (fun x2 hx2=>?_) (fun x2 hx2=>?_)
  ·have q3x:=(fourC (obj_step HQ_9 (Ge.trans hx hx2))).2.2.2;open Sb252 in exact Yb75
  ·have hg3:=Ge.trans hx hx2;have q3x:=(fourC (obj_step HQ_9 hg3)).2.2.2;have HRx:=hide (obj_step HR_9 hg3);open Sb23 in exact Yb4
 ·have q3x:=(fourC (obj_step HQ_9 hx)).2.2.2;have HRx:=hide (obj_step HR_9 hx);open Sb22 in exact Yb4):P:=h
theorem Sb182.Kb47(h:P:=by
 refine wpMixF_two 1 rfl rfl (by kernel_rfl) (by rfl) (by rfl) (by decide) (fun x hx=>?_) (fun x hx=>?_)
 ·go_simp;refine⟨Below.refl _ _,?_⟩;refine wpMixF_two 2 rfl rfl (by kernel_rfl) (by rfl) (by rfl) (by decide) (fun x2 hx2=>?_) (fun x2 hx2=>?_)
  ·have q3x:=(fourC (obj_step HQ_6 (Ge.trans hx hx2))).2.2.2;open Sb251 in exact Yb75
  ·have hg3:=Ge.trans hx hx2;have q3x:=(fourC (obj_step HQ_6 hg3)).2.2.2;have HRx:=hide (obj_step HR_6 hg3);open Sb20 in exact Yb4
 ·have q3x:=(fourC (obj_step HQ_6 hx)).2.2.2;have HRx:=hide (obj_step HR_6 hx);open Sb19 in exact Yb4):P:=h
theorem Sb183.Kb47(h:P:=by
 refine wpMixF_two 1 rfl rfl (by kernel_rfl) (by rfl) (by rfl) (by decide) (fun x hx=>?_) (fun x hx=>?_)
 ·go_simp;refine⟨Below.refl _ _,?_⟩;refine wpMixF_two 2 rfl rfl (by kernel_rfl) (by rfl) (by rfl) (by decide) (fun x2 hx2=>?_) (fun x2 hx2=>?_)
  ·have q3x:=(fourC (obj_step HQ_9 (Ge.trans hx hx2))).2.2.2;open Sb250 in exact Yb75
  ·have hg3:=Ge.trans hx hx2;have q3x:=(fourC (obj_step HQ_9 hg3)).2.2.2;have HRx:=hide (obj_step HR_9 hg3);open Sb29 in exact Yb4
 ·have q3x:=(fourC (obj_step HQ_9 hx)).2.2.2;have HRx:=hide (obj_step HR_9 hx);open Sb28 in exact Yb4):P:=h
theorem Sb184.Kb47(h:P:=by
 refine wpMixF_two 1 rfl rfl (by kernel_rfl) (by rfl) (by rfl) (by decide) (fun x hx=>?_) (fun x hx=>?_)
 ·go_simp;refine⟨Below.refl _ _,?_⟩;refine wpMixF_two 2 rfl rfl (by kernel_rfl) (by rfl) (by rfl) (by decide) (fun x2 hx2=>?_) (fun x2 hx2=>?_)
  ·have q3x:=(fourC (obj_step HQ_6 (Ge.trans hx hx2))).2.2.2;open Sb249 in exact Yb75
  ·have hg3:=Ge.trans hx hx2;have q3x:=(fourC (obj_step HQ_6 hg3)).2.2.2;have HRx:=hide (obj_step HR_6 hg3);open Sb26 in exact Yb4
 ·have q3x:=(fourC (obj_step HQ_6 hx)).2.2.2;have HRx:=hide (obj_step HR_6 hx);open Sb25 in exact Yb4):P:=h
theorem Yb48(h:P:=by
 obtain⟨IH,IT,hIQ⟩:∃IH IT,IQ=IH::IT:=by
  exact Zb50
 subst hIQ;have hIT:IT.length=n.reqs.length:=by have:=unhide HLQ;simp at this;omega
 have y0:wc.cell? ⟨gv,0,none⟩=some (.int .i64 IH.no):=by
  exact Zb51
 have HTA:=hide (show ReqAt wc (some ⟨gv,1*4,none⟩) IT from GR.At.drop HL6.1 1);have hvlo:=HL6.2 gv 0 rfl;obtain⟨c0,c1,c2,c3,c4,c5,c6,c7,c8⟩:=nine HN_6;have cf:=obj_free HN_6 7;have hnl:=obj_lt HN_6;have hd30:decide ((30:Int) < ((n.reqs.length+1:Nat):Int))=true:=decide_eq_true (by omega);go_upto_region 19 with fail;refine wp_at (fun W7 hW7=>?_);have hvc1:¬vc=1:=by omega
 have hvc2:1≤vc:=by omega
 exact Kb48):P:=h
theorem Sb185.Kb48(h:P:=by
 have HN_7:Hid (W7.heap[w.heap.size]?=some (.cells #[.int .i64 n.id,.int .i64 n.par,.slice a_k n.kids.length a_ck,.int .i64 n.next,.slice av RL.length cv,.slice a_o n.out.length a_co,.slice a_s n.seen.length a_cs,.int .i64 IH.no,.slice (some ⟨gv,0,none⟩) (n.reqs.length+1) vc] 30 (0,0))):=by rw [hW7];exact blk_setO HN_6 7 _
 have HR_7:Hid (W7.heap[w.heap.size+2]?=some (.cells zc9 30 (0,0))):=by rw [hW7];exact obj_set _ (by omega) HR_6
 have HQ_7:Hid (W7.heap[W1.heap.size]?=some (.cells #[.int .i64 no,.string k,.int .i64 nn,.int .i64 0] 49 (0,0))):=by rw [hW7];exact obj_set _ (by omega) HQ_6
 open Sb364 in exact Yb124):P:=h
theorem Sb186.Kb48(h:P:=by
 have HN_7:Hid (W7.heap[w.heap.size]?=some (.cells #[.int .i64 n.id,.int .i64 n.par,.slice a_k n.kids.length a_ck,.int .i64 n.next,.slice (some ⟨gp,0,none⟩) n.pu.length a_cp,.slice a_o n.out.length a_co,.slice a_s n.seen.length a_cs,.int .i64 IH.no,.slice (some ⟨gv,0,none⟩) (n.reqs.length+1) vc] 30 (0,0))):=by rw [hW7];exact blk_setO HN_6 7 _
 have HR_7:Hid (W7.heap[w.heap.size+2]?=some (.cells zc9 30 (0,0))):=by rw [hW7];exact obj_set _ (by omega) HR_6
 have HQ_7:Hid (W7.heap[W1.heap.size]?=some (.cells #[.int .i64 no,.string k,.int .i64 nn,.int .i64 1] 49 (0,0))):=by rw [hW7];exact obj_set _ (by omega) HQ_6
 open Sb363 in exact Yb124):P:=h
theorem Yb49(h:P:=by
 rw [←hW] at e1 e2 e3 e4;have HN_0:=hide e1;have HM_0:=hide e2;have HR_0:=hide e3;have HB0:=hide e4;have HNO0:=hide (HNO.kc (k:=9) (KC.of_below e4) (by omega));clear hW e1 e2 e3 e4;obtain⟨bi,ci,eA,hgs0,⟨t0,t1,t2⟩,_,hWi⟩:=SeenW.three HNO0.s i hi;rw [hs0] at t0 t1 t2 hWi;rw [hfi] at t0;have hgsl:G.s < w.heap.size:=obj_lt_W HGS (by omega);have HWI:=hide hWi;have HT:=hide (And.intro t0 (And.intro t1 t2));clear hWi t0 t1 t2;dsimp only at eA;subst eA;obtain⟨c0,c1,c2,c3,c4,c5,c6,c7,c8⟩:=nine HN_0;obtain⟨m0,m1,m2,m3,m4,m5,m6⟩:=sevenC HM_0;have hnl:=obj_lt HN_0;have hml:=obj_lt HM_0;go_upto_block 0 with fail;exact Kb49):P:=h
theorem Sb187.Kb49(h:P:=by
 go_cut [7] from 15 (fun j wx=>j= .int .i64 (i:Nat)∧Ge W0 wx)
 case first=>
  exact Zb21
 case rest=>
  open Sb93 in exact Yb24):P:=h
theorem Sb188.Kb49(h:P:=by
 exact Kb37):P:=h
theorem Yb50(h:P:=by
 open Sb289 in exact Yb93):P:=h
theorem Sb189.Kb50(h:P:=by
 refine wpMixB_two 5 7 rfl rfl (by kernel_rfl) (by rfl) (by rfl) (by decide) (by decide) (fun x2 hx2=>?_) (fun x2 hx2=>?_)
 ·open Sb39 in exact Yb9
 ·go_simp;open Sb310 in exact Yb102):P:=h
theorem Sb190.Kb50(h:P:=by
 refine wpMixB_two 5 7 rfl rfl (by kernel_rfl) (by rfl) (by rfl) (by decide) (by decide) (fun x2 hx2=>?_) (fun x2 hx2=>?_)
 ·open Sb40 in exact Yb9
 ·go_simp;open Sb309 in exact Yb102):P:=h
theorem Yb51(h:P:=by
 have hnl:=obj_lt HNX;have hol:=obj_lt HOX;go_wp2_with fail;refine(HCL X A1 HPR.1 HNO5.at.p).mono ?_;rintro e W5 ⟨v,rfl,_,hown,hb5⟩;obtain⟨pa,pc,rfl,_⟩:=GR.own_at (enc:=encP) encP_length hown;have HN_6:=hide (obj_step HNX hb5);have HR_6:=hide (obj_step HRX hb5);have HB6:=hide (HBX.trans (hb5.mono HBX.size));have HNO6:=hide (HNO5.kc (k:=9) (KC.of_below hb5) (by omega));have HPO:=hide hown;have hxr:=obj_lt HRX;clear hown hb5 c0 c1 c2 c3 c4 c5 c6 c7 c8 p0 p1 p2 p3 p4 p5 p6 p7 p8 p9 p10 hnl hol HCL HNX HOX HRX HNO5 HPR HBX;obtain⟨c0,c1,c2,c3,c4,c5,c6,c7,c8⟩:=nine HN_6;have hnl:=obj_lt HN_6;exact Kb51):P:=h
theorem Sb191.Kb51(h:P:=by
 go_upto_region 9 with fail;open Sb261 in exact Yb80):P:=h
theorem Sb192.Kb51(h:P:=by
 have f4:=obj_free HN_6 4;go_upto_region 11 with fail;refine wp_at (fun Y hY=>?_)
 have hky:KeepsL [w.heap.size] W5 Y:=by
  rw [hY];exact KeepsL.set _
 have HN_7:Hid (Y.heap[w.heap.size]?=some (.cells #[.int .i64 n.id,.int .i64 n.par,.slice A1.k n.kids.length A1.ck,.int .i64 n.next,.slice pa RL.length pc,.slice A1.o n.out.length A1.co,.slice A1.s n.seen.length A1.cs,.int .i64 n.old,.slice A1.r n.reqs.length A1.cr] 30 (0,0))):=by
  rw [hY];exact blk_setO HN_6 4 (.slice pa RL.length pc)
 have HR_7:=hide (hky.obj HR_6 (by simp));have HB7:=hide (HB6.trans (hky.below (B:=w.heap.size) (fun x hx=>by have:x=w.heap.size:=(by simpa using hx);omega) HB6.size));have HNO7:=hide (HNO6.kc (k:=9) (KC.keeps hky (fun x hx=>by have:x=w.heap.size:=(by simpa using hx);rw [this];exact HC0)) (by omega));have HPO7:=hide (own_keepsL HPO hky (fun x hx=>by have:x=w.heap.size:=(by simpa using hx);omega));clear hY hky f4 c0 c1 c2 c3 c4 c5 c6 c7 c8 hnl HN_6 HR_6 HB6 HNO6 HPO;obtain⟨c0,c1,c2,c3,c4,c5,c6,c7,c8⟩:=nine HN_7;have hnl:=obj_lt HN_7;open Sb292 in exact Yb94):P:=h
theorem Yb52(h:P:=by
 have HAT:=hide (fun W'' (ho:Out c w W' W'')=>(HNA.kc (k:=9) ((KC.keeps hkf (fun x hx=>by have:x=w.heap.size+2:=(by simpa using hx);rw [this];exact newC_new (by omega))).trans (KC.out H9 ho)) (by omega)).at);have HBF:Hid (Below B w W'):=(HBA.mono hB).trans (hkf.below (fun x hx=>by have:x=w.heap.size+2:=(by simpa using hx);omega) (Nat.le_trans hB (HBA.mono hB).size));have HKF:=hide (Apart.keeps (c:=c) (Apart.of_below HBA) (HBA.mono hB).size hkf (fun x hx=>by have:x=w.heap.size+2:=(by simpa using hx);omega));obtain⟨x0,x1,x2,x3,x4,x5,x6,x7,x8⟩:=nine e4;clear hW' e4 hkf;exact Kb52):P:=h
theorem Sb193.Kb52(h:P:=by
 exact Kb17):P:=h
theorem Sb194.Kb52(h:P:=by
 exact bodyPost_ret (v:= .tuple #[.agg #[.int .i64 n.id,.int .i64 n.par,.slice A.k n.kids.length A.ck,.int .i64 n.next,.slice A.p n.pu.length A.cp,.slice A.o n.out.length A.co,.slice A.s n.seen.length A.cs,.int .i64 n.old,.slice A.r n.reqs.length A.cr],.slice (some ⟨W1.heap.size,0,none⟩) 0 0,.int .i64 3]) (by simp[results,Tryz.results62,go_sem,x0,x1,x2,x3,x4,x5,x6,x7,x8]) rfl ⟨A,some ⟨W1.heap.size,0,none⟩,0,rfl,HAT,fun W'' _ i hi=>by simp at hi,HBF,HKF⟩):P:=h
theorem Yb53(h:P:=by
 have HAT:=hide (fun W'' (ho:Out c w W' W'')=>(HN1.kc (k:=9) ((KC.keeps hkf (fun x hx=>by have:x=w.heap.size+1:=(by simpa using hx);rw [this];exact newC_new (by omega))).trans (KC.out H9 ho)) (by omega)).at);have HBF:Hid (Below B w W'):=(HB1.mono hB).trans (hkf.below (fun x hx=>by have:x=w.heap.size+1:=(by simpa using hx);omega) (Nat.le_trans hB (HB1.mono hB).size));have HKF:=hide (Apart.keeps (c:=c) (Apart.of_below (HB1)) (HB1.mono hB).size hkf (fun x hx=>by have:x=w.heap.size+1:=(by simpa using hx);omega));obtain⟨x0,x1,x2,x3,x4,x5,x6,x7,x8⟩:=nine e4;exact Kb53):P:=h
theorem Sb195.Kb53(h:P:=by
 clear hW' e4 hkf;exact bodyPost_ret (v:= .tuple #[.agg #[.int .i64 n.id,.int .i64 n.par,.slice A.k n.kids.length A.ck,.int .i64 n.next,.slice A.p n.pu.length A.cp,.slice A.o n.out.length A.co,.slice A.s n.seen.length A.cs,.int .i64 n.old,.slice A.r n.reqs.length A.cr],.int .i64 1]) (by simp[results,Tryz.results60,go_sem,x0,x1,x2,x3,x4,x5,x6,x7,x8]) rfl ⟨A,rfl,HAT,HBF,HKF⟩):P:=h
theorem Sb196.Kb53(h:P:=by
 exact Kb6):P:=h
theorem Yb54(h:P:=by
 rw [←hW] at e1 e2 e3;have HN:=hide e1;have HR:=hide e2;have HB0:=hide e3;have HN0:=hide (HNO.kc (k:=9) (KC.of_below e3) (by omega));clear hW e1 e2 e3 HNO hbw0;obtain⟨c0,c1,c2,c3,c4,c5,c6,c7,c8⟩:=nine HN;have hnl:=obj_lt HN;go_wp2_with fail;refine(HPO W0 HN0.at.p).mono ?_;open Sb355 in exact Yb121):P:=h
theorem Sb197.Kb54(h:P:=by
 have HI:=hide (And.intro hi (And.intro hz0 (And.intro hz1 hz2)));clear hi hz0 hz1 hz2;obtain⟨c0,c1,c2,c3,c4,c5,c6,c7,c8⟩:=nine HN_1;have hnl:=obj_lt HN_1;have hrl:=obj_lt HRX;go_wp2_with fail;rw [fieldFree];go_upto_region 6 with fail;go_wp2_with fail;refine(HPT W1 HN1.at.p).mono ?_;rintro e W2 ⟨v,rfl,hne,hrow,hb2⟩;obtain⟨av,cv,rfl,_⟩:=GR.own_at (enc:=encP) (sz:=4) encP_length hrow;have HN_2:=hide (obj_step HN_1 hb2);have HR_2:=hide (obj_step HRX hb2);have HB2:=hide (HB1.trans (hb2.mono HB1.size));have HN2:=hide (HN1.kc (k:=9) (KC.of_below hb2) (by omega));have HP2:=hide hrow;have hbs:w.heap.size+1 < W1.heap.size:=hrl;generalize W1.heap.size=bs at *;clear hb2 hne hrow c0 c1 c2 c3 c4 c5 c6 c7 c8 hnl hrl HPT HN_1 HRX HB1 HN1;have f4n:=obj_free HN_2 4;have c4n:=(nine HN_2).2.2.2.2.1;have hn2:=obj_lt HN_2;go_upto_region 7 with fail;refine wp_at (fun Z6 hZ=>?_);have HN_6:Hid (Z6.heap[w.heap.size]?=some (.cells #[.int .i64 n.id,.int .i64 n.par,.slice a_k n.kids.length a_ck,.int .i64 n.next,.slice av RL.length cv,.slice a_o n.out.length a_co,.slice a_s n.seen.length a_cs,.int .i64 n.old,.slice a_r n.reqs.length a_cr] 30 (0,0))):=by rw [hZ];exact setN9 HN_2
 have HR_6:Hid (Z6.heap[w.heap.size+1]?=some (.cells zc9 30 (0,0))):=by rw [hZ];exact oth_set HR_2 (by omega)
 have HN6:Hid (NO Z6 B n (⟨a_k,(some ⟨gp,0,none⟩),a_o,a_s,a_r,a_ck,a_cp,a_co,a_cs,a_cr⟩:Ads) G (newC w.heap.size 9 c)):=by rw [hZ];exact HN2.kc (k:=9) (KC.set (newC_new (Nat.le_refl _))) (by omega)
 have HP6:Hid (Z6.ownsRow bs 141 4 (.slice av RL.length cv) RL.length (GR.flat encP RL)):=by rw [hZ];exact own_keepsL HP2 (KeepsL.set _) (fun y hy=>by have:y=w.heap.size:=(by simpa using hy);omega)
 have HB6:Hid (Below B w Z6):=by rw [hZ];exact(HB2.mono hB).setCell (p:=⟨w.heap.size,4,none⟩) hB _
 have HK6:Hid (Apart c w Z6):=by rw [hZ];exact(Apart.of_below HB2).keeps HB2.size (KeepsL.set _) (fun y hy=>by have:y=w.heap.size:=(by simpa using hy);omega)
 clear hZ HN_2 HR_2 HN2 HP2 HB2 f4n c4n hn2;have c3n:=(nine HN_6).2.2.2.1;exact Kb5):P:=h
theorem Sb198.Kb54(h:P:=by
 have HRA:=hide (obj_step HRX (below_one W1 (.cells #[] 32)));obtain⟨c0,c1,c2,c3,c4,c5,c6,c7,c8⟩:=nine HN_1;open Sb116 in exact Yb28):P:=h
theorem Yb55(h:P:=by
 go_simp;have HGx1:=hide (HG0.trans (hx1.mono HG0.size));have hsx1:W10.heap.size≤x1.heap.size:=HGx1.size;clear hx1;refine⟨(below_one x1 _).mono hsx1,?_⟩;exact Kb55):P:=h
theorem Sb199.Kb55(h:P:=by
 have hby1:=below_one x1 (.cells #[.int .i64 mI] 3);have HQy1:=hide (heap_alloc_new x1 (.cells #[.int .i64 mI] 3));have HGy1:=hide (HGx1.trans (hby1.mono HGx1.size));clear hby1;generalize hyy1:x1.alloc (.cells #[.int .i64 mI] 3)=y1 at *;clear hyy1;refine wpMixB_one 0 rfl (by kernel_rfl) (by rfl) (by decide) (fun x2 hx2=>?_);go_simp;have HGx2:=hide (HGy1.trans (hx2.mono HGy1.size));have hsx2:W10.heap.size≤x2.heap.size:=HGx2.size;have HQx2:=hide (obj_step HQy1 hx2);clear hx2;refine⟨(below_one x2 _).mono hsx2,?_⟩;have hby2:=below_one x2 (.cells #[] 3);have HVy2:=hide (show(x2.alloc (.cells #[] 3)).ownsRow W10.heap.size 3 1 (.slice (some ⟨x2.heap.size,0,none⟩) 0 0) 0 (GR.flat encNum []) from World.ownsRow_lit (base:=W10.heap.size) (e:=3) (size:=1) x2 #[] 0 hsx2 (by unfold maxLen;omega) (by simp));open Sb285 in exact Yb91):P:=h
theorem Sb200.Kb55(h:P:=by
 have hby1:=below_one x1 (.cells #[] 3);have HVy1:=hide (show(x1.alloc (.cells #[] 3)).ownsRow W10.heap.size 3 1 (.slice (some ⟨x1.heap.size,0,none⟩) 0 0) 0 (GR.flat encNum []) from World.ownsRow_lit (base:=W10.heap.size) (e:=3) (size:=1) x1 #[] 0 hsx1 (by unfold maxLen;omega) (by simp));have HGy1:=hide (HGx1.trans (hby1.mono HGx1.size));clear hby1;generalize hyy1:x1.alloc (.cells #[] 3)=y1 at *;clear hyy1;refine wpMixB_two 4 7 rfl rfl (by kernel_rfl) (by rfl) (by rfl) (by decide) (by decide) (fun x2 hx2=>?_) (fun x2 hx2=>?_)
 ·have HGx2:=hide (HGy1.trans (hx2.mono HGy1.size));have hsx2:W10.heap.size≤x2.heap.size:=HGx2.size;have HVx2:=hide (GR.own_below HVy1 hx2);clear hx2;obtain⟨v2,y2,hry2,hoy2,hgy2,hwy2⟩:=run_append_row encNum_length (by omega) x2 W10.heap.size 24 24 3 i0 (.int .i64 0) 8 Tryz.underlying24 hi0 hz0 hz1' hz2 rfl (.slice (some ⟨x1.heap.size,0,none⟩) 0 0) 0 (GR.flat encNum ([])) HVx2 (some ⟨gi,0,none⟩) ((idsS s0 mL).take pos) ccp (GR.At.below HTL HGx2) (flatNum_one _) (by unfold maxLen;omega) (by omega) hsx2;rw [hlt1] at hry2 hoy2;refine Lib.wp_append_run x2 (.tmp 127) (.tmp 130) 24 24 rfl _ _ (by simp[Act.eval]) (by simp[Act.eval]) v2 y2 hry2 ?_;refine⟨(Below.refl _ _).grown hgy2 hsx2 (fun b hb=>(HVx2.lt b hb).1),?_⟩;go_simp;have HGy2:=hide (HGx2.grown hgy2 hsx2 (fun b hb=>(HVx2.lt b hb).1));have HVy2:Hid (y2.ownsRow W10.heap.size 3 1 v2 (pos) (GR.flat encNum ((idsS s0 mL).take pos))):=hide (by simpa [GR.flat_nil] using hoy2);obtain⟨avR,cvR,hsly2,_⟩:=GR.own_at (enc:=encNum) (sz:=1) (l:=(idsS s0 mL).take pos) encNum_length (by rw [hlt1];exact HVy2);open Sb346 in exact Yb117
 ·go_simp;have HGx2:=hide (HGy1.trans (hx2.mono HGy1.size));have hsx2:W10.heap.size≤x2.heap.size:=HGx2.size;have HVx2:=hide (GR.own_below HVy1 hx2);clear hx2;refine⟨(below_one x2 _).mono hsx2,?_⟩;have hby2:=below_one x2 (.cells #[.int .i64 mI] 3);have HQy2:=hide (heap_alloc_new x2 (.cells #[.int .i64 mI] 3));open Sb213 in exact Yb60):P:=h
theorem Yb56(h:P:=by
 obtain⟨⟨p0,p1,p2,p3,p4,p5,p6,p7,p8,p9,p10⟩,_⟩:=eleven_at HO_2;have hol:=obj_lt HO_2;go_wp2_with fail;refine(HOP W2).mono ?_;rintro e W4 ⟨rfl,hb4⟩;have HN_5:=hide (obj_step HN_2 hb4);have HO_5:=hide (obj_step HO_2 hb4);have HR_5:=hide (obj_step HR_2 hb4);have HB5:=hide (HB2.trans (hb4.mono HB2.size));clear hb4 p0 p1 p2 p3 p4 p5 p6 p7 p8 p9 p10 hol HOP HN_2 HO_2 HR_2 HB2;obtain⟨c0,c1,c2,c3,c4,c5,c6,c7,c8⟩:=nine HN_5;have hnl:=obj_lt HN_5;go_wp2_with fail;refine(HCP W4 HB5).mono ?_;exact Kb56):P:=h
theorem Sb201.Kb56(h:P:=by
 rintro e W3 ⟨A1,G1,cc,rfl,hNO,hb3,_,_⟩;have HR_3:=hide (obj_step HR_5 hb3);have HB3:=hide (HB5.trans (hb3.mono HB5.size));have HNO:=hide hNO;have hrs:=obj_lt HR_5;clear hb3 hNO c0 c1 c2 c3 c4 c5 c6 c7 c8 hnl HCP HN_5 HO_5 HR_5;exact Zb18):P:=h
theorem Sb202.Kb56(h:P:=by
 rintro e W3 ⟨A1,G1,cc,rfl,hNO,hb3,hP1,hP2,hR1,hR2⟩;have HR_3:=hide (obj_step HR_5 hb3);have HN_3:=hide (obj_step HN_5 hb3);have HO_3:=hide (obj_step HO_5 hb3);have HB3:=hide (HB5.trans (hb3.mono HB5.size));have HPR:=hide (And.intro (And.intro hP1 hP2) (And.intro hR1 hR2));have HNO:=hide (hNO.flat (b:=0) (Nat.zero_le _));have HC9:=hide (fun x (hx:x < w.heap.size+3)=>flatC_own (b:=0) (Nat.zero_le _) (hNO.lo x (by have:=obj_lt HR_5;omega)));have hrs:=obj_lt HR_5;have H9:=hide (flatC_h9 0 cc);generalize flatC 0 cc=c at *;have HC2:=hide (HC9 (w.heap.size+2) (by omega));have HC0:=hide (HC9 w.heap.size (by omega));clear hb3 hNO hP1 hP2 hR1 hR2 c0 c1 c2 c3 c4 c5 c6 c7 c8 hnl HCP HN_5 HO_5 HR_5;obtain⟨d0,d1,d2,d3,d4,d5,d6,d7,d8⟩:=nine HN_3;have f0:=obj_free HN_3 0;have f1:=obj_free HN_3 1;have f2:=obj_free HN_3 2;have f3:=obj_free HN_3 3;have f4:=obj_free HN_3 4;have f5:=obj_free HN_3 5;have f6:=obj_free HN_3 6;have f7:=obj_free HN_3 7;have f8:=obj_free HN_3 8;obtain⟨⟨p0,p1,p2,p3,p4,p5,p6,p7,p8,p9,p10⟩,_⟩:=eleven_at HO_3;have hnl:=obj_lt HN_3;have hol:=obj_lt HO_3;go_upto_region 5 with fail;refine wp_at (fun X hX=>?_)
 have e5:X.heap[w.heap.size]?=some (.cells #[.int .i64 n.id,.int .i64 n.par,.slice A1.k n.kids.length A1.ck,.int .i64 n.next,.slice A1.p n.pu.length A1.cp,.slice A1.o n.out.length A1.co,.slice A1.s n.seen.length A1.cs,.int .i64 n.old,.slice A1.r n.reqs.length A1.cr] 30 (0,0)):=by
  exact Zb40
 have hkx:KeepsL [w.heap.size] W3 X:=by
  exact Zb42
 have HNX:=hide e5;have HOX:=hide ((hkx.block _ (obj_lt HO_3) (by simp)).trans HO_3);have HRX:=hide ((hkx.block _ (obj_lt HR_3) (by simp)).trans HR_3);have HBX:=hide (HB3.trans (hkx.below (B:=w.heap.size) (fun x hx=>by have:x=w.heap.size:=(by simpa using hx);omega) HB3.size));have HNO5:=hide (HNO.kc (k:=9) (KC.keeps hkx (fun x hx=>by have:x=w.heap.size:=(by simpa using hx);rw [this];exact HC0)) (by omega));clear e5 hkx hX d0 d1 d2 d3 d4 d5 d6 d7 d8 f0 f1 f2 f3 f4 f5 f6 f7 f8 p0 p1 p2 p3 p4 p5 p6 p7 p8 p9 p10 hnl hol HN_3 HO_3 HR_3 HB3 HNO HB5;obtain⟨c0,c1,c2,c3,c4,c5,c6,c7,c8⟩:=nine HNX;obtain⟨⟨p0,p1,p2,p3,p4,p5,p6,p7,p8,p9,p10⟩,_⟩:=eleven_at HOX;exact Kb0):P:=h
theorem Yb57(h:P:=by
 (refine tkB hwb2 (fun K hK=>?_);go_simp;first|refine hK _ ?_|(apply Exists.intro;refine⟨fun _=>?_,hK _ ?_⟩;rfl);clear hK K)
 refine tkN ?_;refine wpMixB_leave (by kernel_rfl) (fun z hz=>?_);have HGz:=hide (HGy5.trans (hz.mono HGy5.size));have HVz:=hide (GR.own_below HVy5 hz);exact Kb57):P:=h
theorem Sb203.Kb57(h:P:=by
 have hsz:W10.heap.size≤z.heap.size:=HGz.size;clear hz;have HSz:=hide (show z.heap[sb]?=some (.cells #[.int .i64 mF,.int .i64 (lowS s0 mL),.slice (some ⟨gi,0,none⟩) (idsS s0 mL).length ccp] 81 (0,0)) by rw [(unhide HGz).block _ hsl10];exact HS_10);obtain⟨_,_,kc⟩:=threeC HSz;have kf:=obj_free HSz 2;refine wpAny_one 14 rfl (by kernel_rfl) (by rfl) ?_;go_simp;refine wpAny_done (by kernel_rfl) ?_;go_simp;go_wp2_with fail;go_meet
 case rel=>
  rcases HVz.2 with⟨_,hn⟩|⟨g,cap,cur,hv,hbg,_⟩
  ·omega
  ·simp only[Value.slice.injEq] at hv;obtain⟨rfl,_,_⟩:=hv;have h2:=unhide HVz;rw [show pos+1+((idsS s0 mL).length - pos)=(idsS s0 mL).length+1 by omega] at h2;refine⟨g,cvT,hbg,?_,?_,(KeepsL.of_below HGz).trans (KeepsL.set _)⟩
   ·rw [unhide HIN];rw [List.append_assoc] at h2;refine own_keep h2 (KeepsL.set _) (fun x hx hm=>?_);simp[Value.ownBlock] at hx;simp at hm;omega
   ·have h:=blk_setO HSz 2 (.slice (some ⟨g,0,none⟩) (pos+1+((idsS s0 mL).length - pos)) cvT);rw [show pos+1+((idsS s0 mL).length - pos)=(idsS s0 mL).length+1 by omega] at h ⊢;exact h):P:=h
theorem Sb204.Kb57(h:P:=by
 have hsz:wc.heap.size≤z.heap.size:=HGz.size;clear hz;have HNz:Hid (z.heap[w.heap.size]?=some (.cells #[.int .i64 n.id,.int .i64 n.par,.slice a_k n.kids.length a_ck,.int .i64 n.next,.slice (some ⟨gp,0,none⟩) n.pu.length a_cp,.slice a_o n.out.length a_co,.slice a_s n.seen.length a_cs,.int .i64 n.old,.slice (some ⟨gr,0,none⟩) n.reqs.length a_cr] 30 (0,0))):=by unfold Hid;rw [(unhide HGz).block _ hnl];exact HN_5
 have HRz:Hid (z.heap[w.heap.size+2]?=some (.cells zc9 30 (0,0))):=by unfold Hid;rw [(unhide HGz).block _ (obj_lt (unhide HR_5))];exact HR_5
 have HQz:Hid (z.heap[W1.heap.size]?=some (.cells #[.int .i64 no,.string k,.int .i64 nn,.int .i64 1] 49 (0,0))):=by unfold Hid;rw [(unhide HGz).block _ hql5];exact HQ_5
 open Sb366 in exact Yb125):P:=h
theorem Sb205.Kb57(h:P:=by
 have hsz:wc.heap.size≤z.heap.size:=HGz.size;clear hz;have HNz:Hid (z.heap[w.heap.size]?=some (.cells #[.int .i64 n.id,.int .i64 n.par,.slice a_k n.kids.length a_ck,.int .i64 n.next,.slice av RL.length cv,.slice a_o n.out.length a_co,.slice a_s n.seen.length a_cs,.int .i64 n.old,.slice (some ⟨gr,0,none⟩) n.reqs.length a_cr] 30 (0,0))):=by unfold Hid;rw [(unhide HGz).block _ hnl];exact HN_5
 have HRz:Hid (z.heap[w.heap.size+2]?=some (.cells zc9 30 (0,0))):=by unfold Hid;rw [(unhide HGz).block _ (obj_lt (unhide HR_5))];exact HR_5
 have HQz:Hid (z.heap[W1.heap.size]?=some (.cells #[.int .i64 no,.string k,.int .i64 nn,.int .i64 0] 49 (0,0))):=by unfold Hid;rw [(unhide HGz).block _ hql5];exact HQ_5
 open Sb365 in exact Yb125):P:=h
theorem Yb58(h:P:=by
 have hTi:∀j,j < 3→∃u,wc.cell? ⟨G.s,i*3+j,none⟩=some u∧wc.frozen? ⟨G.s,i*3+j,none⟩=false:=fun j hj=>⟨_,(hcT j hj).1.trans (List.getElem?_eq_getElem (by rw [encR3_length];exact hj)),(hcT j hj).2⟩
 obtain⟨v0,y0,x0⟩:=hTi 0 (by omega);obtain⟨v1,y1,x1⟩:=hTi 1 (by omega);obtain⟨v2,y2,x2⟩:=hTi 2 (by omega);rw [Nat.add_zero] at y0 x0;exact Kb58):P:=h
theorem Sb206.Kb58(h:P:=by
 clear hTi hcT hrT hT hlT T hs11 hk11 hown2 HN_10 HM_10 HR_10 HS_10 HA_10 HIW10 HNW10 HBB10 HKA10 HP10;have hgsl3:G.s < wc.heap.size:=by omega
 obtain⟨c0,c1,c2,c3,c4,c5,c6,c7,c8⟩:=nine HN_11;obtain⟨s40,s41,s42⟩:=threeC HS_11;have hnl:=obj_lt HN_11;have hsl11:=obj_lt HS_11;have hIns2:Hid ((insI (idsS s0 mL) mI).length=(idsS s0 mL).length+1):=hIns;clear hIns;go_upto_region 27 with fail;refine wp_at (fun W12 hW12=>?_)
 have HNW12:Hid (NO W12 B (setSeen (setSeen n (n.seen.set i ⟨mF,lowS s0 mL,idsS s0 mL⟩)) ((n.seen.set i ⟨mF,lowS s0 mL,idsS s0 mL⟩).set i ⟨mF,lowS s0 mL,insI (idsS s0 mL) mI⟩)) (⟨a_k,(some ⟨gp,0,none⟩),a_o,(some ⟨G.s,0,none⟩),a_r,a_ck,a_cp,a_co,a_cs,a_cr⟩:Ads) ⟨G.k,G.p,G.o,G.s,G.r,setI (setI G.i i gi) i g2⟩ (col5 g2 (insI (idsS s0 mL) mI) (col5 gi (idsS s0 mL) (newC w.heap.size 9 c)))):=by
  rw [hW12,←unhide hIns2];exact HNP
 have hk12:KeepsL [G.s] wc W12:=by
  rw [hW12];exact setW_keeps [.int .i64 mF,.int .i64 (lowS s0 mL),.slice (some ⟨g2,0,none⟩) ((idsS s0 mL).length+1) cq2] wc (i*3)
 have HN_12:=hide (hk12.obj HN_11 (fun hx=>by simp at hx;omega));have HR_12:=hide (hk12.obj HR_11 (fun hx=>by simp at hx;omega));have HA_12:=hide (hk12.obj HA_11 (fun hx=>by simp at hx;omega));have HBB12:=hide (HBB11.trans (hk12.below (B:=B) (fun x hx=>by simp at hx;omega) (by omega)));have HKA12:=hide (Apart.keeps (c:=c) HKA11 (by omega) hk12 (fun x hx=>by have:x=G.s:=(by simpa using hx);rw [this];right;omega));have HP12:=hide (HP11.keeps hk12 (fun x hx=>by simp at hx;omega));have HCO2:Hid (∀x,x < w.heap.size→6 < c x→col5 g2 (insI (idsS s0 mL) mI) (col5 gi (idsS s0 mL) (newC w.heap.size 9 c)) x=9):=fun x hx h=>by rw [col5_out (fun hm=>by have:=(of_fp hm).1;omega)];exact HCO x hx h
 have HCN2:Hid (∀x,w.heap.size≤x→x≠gi→x≠g2→col5 g2 (insI (idsS s0 mL) mI) (col5 gi (idsS s0 mL) (newC w.heap.size 9 c)) x=9):=fun x hx h h'=>by rw [col5_out (fun hm=>h' (of_fp hm).1)];exact HCN x hx h
 clear hW12 hk12 HNP y0 y1 y2 x0 x1 x2 s40 s41 s42 c0 c1 c2 c3 c4 c5 c6 c7 c8 hnl hsl11 HN_11 HR_11 HA_11 HBB11 HKA11 HP11 HS_11 HNW11 HW2;obtain⟨c0,c1,c2,c3,c4,c5,c6,c7,c8⟩:=nine HN_12;obtain⟨d0,d1,d2,d3,d4,d5,d6,d7,d8⟩:=nine HR_12;have f0:=obj_free HR_12 0;have f1:=obj_free HR_12 1;have f2:=obj_free HR_12 2;have f3:=obj_free HR_12 3;have f4:=obj_free HR_12 4;have f5:=obj_free HR_12 5;have f6:=obj_free HR_12 6;have f7:=obj_free HR_12 7;have f8:=obj_free HR_12 8;have hnl:=obj_lt HN_12;have hrl:=obj_lt HR_12;go_wp2_with fail;refine bodyPost_atN (fun W' hW'=>?_)
 have e4:W'.heap[w.heap.size+2]?=some (.cells #[.int .i64 n.id,.int .i64 n.par,.slice a_k n.kids.length a_ck,.int .i64 n.next,.slice av RL.length cv,.slice a_o n.out.length a_co,.slice (some ⟨G.s,0,none⟩) n.seen.length a_cs,.int .i64 n.old,.slice a_r n.reqs.length a_cr] 30 (0,0)):=by
  rw [hW'];exact GR.setW_blk [.int .i64 n.id,.int .i64 n.par,.slice a_k n.kids.length a_ck,.int .i64 n.next,.slice av RL.length cv,.slice a_o n.out.length a_co,.slice (some ⟨G.s,0,none⟩) n.seen.length a_cs,.int .i64 n.old,.slice a_r n.reqs.length a_cr] (o:=0) (xs:=[.int .i64 0,.int .i64 0,.slice none 0 0,.int .i64 0,.slice none 0 0,.slice none 0 0,.slice none 0 0,.int .i64 0,.slice none 0 0]) HR_12
 have hkf:KeepsL [w.heap.size+2] W12 W':=by
  rw [hW'];exact setW_keeps [.int .i64 n.id,.int .i64 n.par,.slice a_k n.kids.length a_ck,.int .i64 n.next,.slice av RL.length cv,.slice a_o n.out.length a_co,.slice (some ⟨G.s,0,none⟩) n.seen.length a_cs,.int .i64 n.old,.slice a_r n.reqs.length a_cr] W12 0
 have hrne:w.heap.size+2≠gi:=by omega
 have HNF:=hide (HNW12.kc (k:=9) (KC.keeps hkf (fun x hx=>by have:x=w.heap.size+2:=(by simpa using hx);rw [this];exact HCN2 _ (by omega) hrne (by omega))) (by omega))
 have HAT:Hid (∀W'',Out c w W' W''→NodeAt W'' (⟨a_k,av,a_o,(some ⟨G.s,0,none⟩),a_r,a_ck,cv,a_co,a_cs,a_cr⟩:Ads) (setSeen (setPu n RL) (n.seen.set i ⟨mF,lowS s0 mL,insI (idsS s0 mL) mI⟩))):=fun W'' ho=>by
  obtain⟨F,hk,hF⟩:=ho
  have hold:=(HNF.kc (k:=9) (KC.keeps hk (fun x hx=>HCO2 x (hF x hx).1 (hF x hx).2)) (by omega)).at
  have ho:Out c w W' W'':=⟨F,hk,hF⟩
  exact⟨hold.k,(HP12.keeps hkf (fun x hx=>by simp at hx;omega)).out (by omega) ho,hold.o,by have h:=hold.s;simp only[setSeen,List.set_set] at h;exact h,hold.r⟩
 have HAM:Hid (∀W'',Out c w W' W''→GR.At encM 7 W'' (some ⟨ab,0,none⟩) [⟨2,n.id,mF,mI,0,ByteArray.empty,0⟩]):=fun W'' ho j hj=>ack_at (hkf.obj HA_12 (fun hm=>by simp at hm;omega)) ho (by omega) j hj
 have HBF:Hid (Below B w W'):=HBB12.trans (hkf.below (fun x hx=>by have:x=w.heap.size+2:=(by simpa using hx);omega) (by have h1:=obj_lt HR_12;omega));have HKF:=hide (Apart.keeps (c:=c) HKA12 (by have h1:=obj_lt HR_12;omega) hkf (fun x hx=>by have:x=w.heap.size+2:=(by simpa using hx);omega));obtain⟨x0,x1,x2,x3,x4,x5,x6,x7,x8⟩:=nine e4;clear hW' e4 hkf
 first
  |exact bodyPost_ret (v:= .tuple #[.agg #[.int .i64 n.id,.int .i64 n.par,.slice a_k n.kids.length a_ck,.int .i64 n.next,.slice av RL.length cv,.slice a_o n.out.length a_co,.slice (some ⟨G.s,0,none⟩) n.seen.length a_cs,.int .i64 n.old,.slice a_r n.reqs.length a_cr],.slice (some ⟨ab,0,none⟩) 1 1,.int .i64 0]) (by simp[results,Tryz.results135,go_sem,x0,x1,x2,x3,x4,x5,x6,x7,x8]) rfl ⟨(⟨a_k,av,a_o,(some ⟨G.s,0,none⟩),a_r,a_ck,cv,a_co,a_cs,a_cr⟩:Ads),(some ⟨ab,0,none⟩),⟨1,by simp[ndv,ndc,setSeen,setPu]⟩,HAT,HAM,HBF,HKF⟩
  |exact bodyPost_ret (v:= .tuple #[.agg #[.int .i64 n.id,.int .i64 n.par,.slice a_k n.kids.length a_ck,.int .i64 n.next,.slice av RL.length cv,.slice a_o n.out.length a_co,.slice (some ⟨G.s,0,none⟩) n.seen.length a_cs,.int .i64 n.old,.slice a_r n.reqs.length a_cr],.slice (some ⟨ab,0,none⟩) 1 1,.int .i64 0]) (by simp[results,Tryz.results135,go_sem,x0,x1,x2,x3,x4,x5,x6,x7,x8]) rfl ⟨(⟨a_k,av,a_o,(some ⟨G.s,0,none⟩),a_r,a_ck,cv,a_co,a_cs,a_cr⟩:Ads),(some ⟨ab,0,none⟩),1,by simp[ndv,ndc,setSeen,setPu],HAT,HAM,HBF,HKF⟩):P:=h
theorem Sb207.Kb58(h:P:=by
 clear hTi hcT hrT hT hlT T hown4 hb4 HNO4 HN_3 HM_3 HR_3 HB3 HNO3 HWI3 HS_3;have hgsl2:G.s < wc.heap.size:=by omega
 obtain⟨c0,c1,c2,c3,c4,c5,c6,c7,c8⟩:=nine HN_4;obtain⟨s40,s41,s42⟩:=threeC HS_4;have sf:=obj_free HS_4 2;have hnl:=obj_lt HN_4;have hne1:sb≠G.s:=by omega
 have hne2:G.s≠sb:=by omega
 go_upto_region 15 with fail;refine wp_at (fun W6 hW6=>?_);exact Kb12):P:=h
theorem Yb59(h:P:=by
 go_wp2_with fail;refine H.mono ?_;rintro e w1 ⟨v,rfl,hv,hown,hb⟩;have HV:=hide hv;have HO:=hide hown;have HB:=hide hb;clear hown hb hv;go_wp2_with fail;exact Kb59):P:=h
theorem Sb208.Kb59(h:P:=by
 exact bodyPost_ret (v:= .tuple #[v,.bool r.2]) (by simp[results,Tryz.results133,go_sem]) rfl ⟨v,rfl,HV,HO,HB⟩):P:=h
theorem Sb209.Kb59(h:P:=by
 exact bodyPost_ret (v:= .tuple #[v,.bool r.2]) (by simp[results,Tryz.results132,go_sem]) rfl ⟨v,rfl,HV,HO,HB⟩):P:=h
theorem Sb210.Kb59(h:P:=by
 exact bodyPost_ret (v:= .tuple #[v,.bool r.2]) (by simp[results,Tryz.results137,go_sem]) rfl ⟨v,rfl,HV,HO,HB⟩):P:=h
theorem Sb211.Kb59(h:P:=by
 exact bodyPost_ret (v:= .tuple #[v,.bool r.2]) (by simp[results,Tryz.results89,go_sem]) rfl ⟨v,rfl,HV,HO,HB⟩):P:=h
theorem Sb212.Kb59(h:P:=by
 exact bodyPost_ret (v:= .tuple #[v,.bool r.2]) (by simp[results,Tryz.results58,go_sem]) rfl ⟨v,rfl,HV,HO,HB⟩):P:=h
theorem Yb60(h:P:=by
 have HVy2:=hide (GR.own_below HVx2 hby2);have HEy2:=hide (show∀b,((.slice (some ⟨x1.heap.size,0,none⟩) 0 0:Value)).ownBlock=some b→b≠x2.heap.size from fun b hb=>by have:=(HVx2.lt b hb).2;omega);have HGy2:=hide (HGx2.trans (hby2.mono HGx2.size));clear hby2;exact Kb60):P:=h
theorem Sb213.Kb60(h:P:=by
 generalize hyy2:x2.alloc (.cells #[.int .i64 mI] 3)=y2 at *;open Sb297 in exact Yb96):P:=h
theorem Sb214.Kb60(h:P:=by
 generalize hyy2:x2.alloc (.cells #[.int .i64 no,.string k,.int .i64 nn,.int .i64 0] 49)=y2 at *;open Sb152 in exact Yb38):P:=h
theorem Sb215.Kb60(h:P:=by
 generalize hyy2:x2.alloc (.cells #[.int .i64 no,.string k,.int .i64 nn,.int .i64 1] 49)=y2 at *;open Sb151 in exact Yb38):P:=h
theorem Yb61(h:P:=by
 refine wpAny_one 3 rfl (by kernel_rfl) (by rfl) ?_;go_simp;refine wpAny_one 4 rfl (by kernel_rfl) (by rfl) ?_;go_simp;refine wpAny_done (by kernel_rfl) ?_;go_simp;go_wp2_with fail;exact Kb61):P:=h
theorem Sb216.Kb61(h:P:=by
 go_meet
 case rel=>exact⟨rfl,GR.setW_blk [.int .i64 n.id,.int .i64 n.par,.slice a_k n.kids.length a_ck,.int .i64 n.next,.slice av RL.length cv,.slice a_o n.out.length a_co,.slice a_s n.seen.length a_cs,.int .i64 IH.no,.slice (some ⟨g8,0,none⟩) n.reqs.length c8'] (o:=0) (xs:=[.int .i64 0,.int .i64 0,.slice none 0 0,.int .i64 0,.slice none 0 0,.slice none 0 0,.slice none 0 0,.int .i64 0,.slice none 0 0]) HRx,(KeepsL.of_below hg3).trans (setW_keeps [.int .i64 n.id,.int .i64 n.par,.slice a_k n.kids.length a_ck,.int .i64 n.next,.slice av RL.length cv,.slice a_o n.out.length a_co,.slice a_s n.seen.length a_cs,.int .i64 IH.no,.slice (some ⟨g8,0,none⟩) n.reqs.length c8'] x3 0)⟩):P:=h
theorem Sb217.Kb61(h:P:=by
 go_meet
 case rel=>exact⟨rfl,GR.setW_blk [.int .i64 n.id,.int .i64 n.par,.slice a_k n.kids.length a_ck,.int .i64 n.next,.slice av RL.length cv,.slice a_o n.out.length a_co,.slice a_s n.seen.length a_cs,.int .i64 n.old,.slice (some ⟨gv,0,none⟩) (n.reqs.length+1) vc] (o:=0) (xs:=[.int .i64 0,.int .i64 0,.slice none 0 0,.int .i64 0,.slice none 0 0,.slice none 0 0,.slice none 0 0,.int .i64 0,.slice none 0 0]) HRx,(KeepsL.of_below hg3).trans (setW_keeps [.int .i64 n.id,.int .i64 n.par,.slice a_k n.kids.length a_ck,.int .i64 n.next,.slice av RL.length cv,.slice a_o n.out.length a_co,.slice a_s n.seen.length a_cs,.int .i64 n.old,.slice (some ⟨gv,0,none⟩) (n.reqs.length+1) vc] x3 0)⟩):P:=h
theorem Sb218.Kb61(h:P:=by
 go_meet
 case rel=>exact⟨rfl,GR.setW_blk [.int .i64 n.id,.int .i64 n.par,.slice a_k n.kids.length a_ck,.int .i64 n.next,.slice (some ⟨gp,0,none⟩) n.pu.length a_cp,.slice a_o n.out.length a_co,.slice a_s n.seen.length a_cs,.int .i64 IH.no,.slice (some ⟨g8,0,none⟩) n.reqs.length c8'] (o:=0) (xs:=[.int .i64 0,.int .i64 0,.slice none 0 0,.int .i64 0,.slice none 0 0,.slice none 0 0,.slice none 0 0,.int .i64 0,.slice none 0 0]) HRx,(KeepsL.of_below hg3).trans (setW_keeps [.int .i64 n.id,.int .i64 n.par,.slice a_k n.kids.length a_ck,.int .i64 n.next,.slice (some ⟨gp,0,none⟩) n.pu.length a_cp,.slice a_o n.out.length a_co,.slice a_s n.seen.length a_cs,.int .i64 IH.no,.slice (some ⟨g8,0,none⟩) n.reqs.length c8'] x3 0)⟩):P:=h
theorem Sb219.Kb61(h:P:=by
 go_meet
 case rel=>exact⟨rfl,GR.setW_blk [.int .i64 n.id,.int .i64 n.par,.slice a_k n.kids.length a_ck,.int .i64 n.next,.slice (some ⟨gp,0,none⟩) n.pu.length a_cp,.slice a_o n.out.length a_co,.slice a_s n.seen.length a_cs,.int .i64 n.old,.slice (some ⟨gv,0,none⟩) (n.reqs.length+1) vc] (o:=0) (xs:=[.int .i64 0,.int .i64 0,.slice none 0 0,.int .i64 0,.slice none 0 0,.slice none 0 0,.slice none 0 0,.int .i64 0,.slice none 0 0]) HRx,(KeepsL.of_below hg3).trans (setW_keeps [.int .i64 n.id,.int .i64 n.par,.slice a_k n.kids.length a_ck,.int .i64 n.next,.slice (some ⟨gp,0,none⟩) n.pu.length a_cp,.slice a_o n.out.length a_co,.slice a_s n.seen.length a_cs,.int .i64 n.old,.slice (some ⟨gv,0,none⟩) (n.reqs.length+1) vc] x3 0)⟩):P:=h
theorem Yb62(h:P:=by
 have HVy3:=hide (GR.own_below HVx3 hby3);have HEy3:=hide (show∀b,((.slice avR (pos) cvR:Value)).ownBlock=some b→b≠x3.heap.size from fun b hb=>by have:=(HVx3.lt b hb).2;omega);have HGy3:=hide (HGx3.trans (hby3.mono HGx3.size));clear hby3;exact Kb62):P:=h
theorem Sb220.Kb62(h:P:=by
 generalize hyy3:x3.alloc (.cells #[.int .i64 mI] 3)=y3 at *;clear hyy3;generalize x3.heap.size=rb at *;exact Zb3):P:=h
theorem Sb221.Kb62(h:P:=by
 generalize hyy3:x3.alloc (.cells #[.int .i64 no,.string k,.int .i64 nn,.int .i64 0] 49)=y3 at *;clear hyy3;generalize x3.heap.size=rb at *;exact Zb1):P:=h
theorem Sb222.Kb62(h:P:=by
 generalize hyy3:x3.alloc (.cells #[.int .i64 no,.string k,.int .i64 nn,.int .i64 1] 49)=y3 at *;clear hyy3;generalize x3.heap.size=rb at *;exact Zb2):P:=h
theorem Yb63(h:P:=by
 obtain⟨c0,c1,c2,c3,c4,c5,c6,c7,c8⟩:=nine HN_6;have hnl:=obj_lt HN_6;have hd30:decide ((30:Int) < ((n.reqs.length+1:Nat):Int))=false:=decide_eq_false (by omega);have hIT:IQ.length=n.reqs.length+1:=unhide HLQ;clear HLQ;have hITn:=hide hIT;clear hIT;go_upto_region 20 with fail;clear c0 c1 c2 c3 c4 c5 c6 c7 c8 hnl;obtain⟨c0,c1,c2,c3,c4,c5,c6,c7,c8⟩:=nine HN_6;exact Kb63):P:=h
theorem Sb223.Kb63(h:P:=by
 open Sb94 in exact Yb25):P:=h
theorem Sb224.Kb63(h:P:=by
 open Sb96 in exact Yb25):P:=h
theorem Yb64(h:P:=by
 rw [hlt1] at hry3 hoy3;refine Lib.wp_append_run x3 (.tmp 93) (.tmp 97) 28 28 rfl _ _ (by simp[Act.eval]) (by simp[Act.eval]) v3 y3 hry3 ?_;refine⟨(Below.refl _ _).grown hgy3 hsx3 (fun b hb=>(HVx3.lt b hb).1),?_⟩;go_simp;have HGy3:=hide (HGx3.grown hgy3 hsx3 (fun b hb=>(HVx3.lt b hb).1));have HVy3:Hid (y3.ownsRow wc.heap.size 49 4 v3 (pos) (GR.flat encRq (n.reqs.take pos))):=hide (by simpa [GR.flat_nil] using hoy3);exact Kb64):P:=h
theorem Sb225.Kb64(h:P:=by
 exact Kb38):P:=h
theorem Sb226.Kb64(h:P:=by
 exact Kb8):P:=h
theorem Yb65(h:P:=by
 obtain⟨avR,cvR,hsly3,_⟩:=GR.own_at (enc:=encRq) (sz:=4) (l:=n.reqs.take pos) encRq_length (by rw [hlt1];exact HVy3);rw [hlt1] at hsly3;subst hsly3;clear hry3 hoy3 hgy3 hwy3;exact Kb65):P:=h
theorem Sb227.Kb65(h:P:=by
 generalize x2.heap.size=rb at *;exact Zb1):P:=h
theorem Sb228.Kb65(h:P:=by
 generalize x2.heap.size=rb at *;exact Zb2):P:=h
theorem Sb229.Kb65(h:P:=by
 generalize x1.heap.size=rb at *;exact Zb1):P:=h
theorem Sb230.Kb65(h:P:=by
 generalize x1.heap.size=rb at *;exact Zb2):P:=h
theorem Yb66(h:P:=by
 have HGg:=hide (Ge.trans HGf hxf);have HQg:=hide (obj_step HQf hxf);have HDg:=hide (Ge.trans HDf hxf);clear hxf;obtain⟨d0,d1,d2,d3,d4,d5,d6,d7,d8⟩:=nine HQg;have f0:=obj_free HQg 0;have f1:=obj_free HQg 1;have f2:=obj_free HQg 2;have f3:=obj_free HQg 3;have f4:=obj_free HQg 4;have f5:=obj_free HQg 5;have f6:=obj_free HQg 6;have f7:=obj_free HQg 7;have f8:=obj_free HQg 8;have hrl:=obj_lt HQg;go_simp;exact Kb66):P:=h
theorem Sb231.Kb66(h:P:=by
 have hkq:KeepsL [qf] xf (GR.setW xf (qf) 0 [.int .i64 N1.id,.int .i64 N1.par,.slice A6.k N1.kids.length A6.ck,.int .i64 N1.next,.slice A6.p N1.pu.length A6.cp,.slice A6.o N1.out.length A6.co,.slice A6.s N1.seen.length A6.cs,.int .i64 N1.old,.slice A6.r N1.reqs.length A6.cr]):=setW_keeps [.int .i64 N1.id,.int .i64 N1.par,.slice A6.k N1.kids.length A6.ck,.int .i64 N1.next,.slice A6.p N1.pu.length A6.cp,.slice A6.o N1.out.length A6.co,.slice A6.s N1.seen.length A6.cs,.int .i64 N1.old,.slice A6.r N1.reqs.length A6.cr] xf 0;refine⟨hkq.below (fun x hx=>by have:x=qf:=(by simpa using hx);omega) HGg.size,?_⟩;have HBQ:=hide (GR.setW_blk [.int .i64 N1.id,.int .i64 N1.par,.slice A6.k N1.kids.length A6.ck,.int .i64 N1.next,.slice A6.p N1.pu.length A6.cp,.slice A6.o N1.out.length A6.co,.slice A6.s N1.seen.length A6.cs,.int .i64 N1.old,.slice A6.r N1.reqs.length A6.cr] (o:=0) (xs:=[.int .i64 0,.int .i64 0,.slice none 0 0,.int .i64 0,.slice none 0 0,.slice none 0 0,.slice none 0 0,.int .i64 0,.slice none 0 0]) HQg);have HKD:=hide (KeepsL.trans (F:=[qf]) (KeepsL.of_below HDg) hkq);exact Kb18):P:=h
theorem Sb232.Kb66(h:P:=by
 have hkq:KeepsL [qf] xf (GR.setW xf (qf) 0 [.int .i64 N1.id,.int .i64 N1.par,.slice A3.k N1.kids.length A3.ck,.int .i64 N1.next,.slice A3.p N1.pu.length A3.cp,.slice A3.o N1.out.length A3.co,.slice A3.s N1.seen.length A3.cs,.int .i64 N1.old,.slice A3.r N1.reqs.length A3.cr]):=setW_keeps [.int .i64 N1.id,.int .i64 N1.par,.slice A3.k N1.kids.length A3.ck,.int .i64 N1.next,.slice A3.p N1.pu.length A3.cp,.slice A3.o N1.out.length A3.co,.slice A3.s N1.seen.length A3.cs,.int .i64 N1.old,.slice A3.r N1.reqs.length A3.cr] xf 0;refine⟨hkq.below (fun x hx=>by have:x=qf:=(by simpa using hx);omega) HGg.size,?_⟩;have HBQ:=hide (GR.setW_blk [.int .i64 N1.id,.int .i64 N1.par,.slice A3.k N1.kids.length A3.ck,.int .i64 N1.next,.slice A3.p N1.pu.length A3.cp,.slice A3.o N1.out.length A3.co,.slice A3.s N1.seen.length A3.cs,.int .i64 N1.old,.slice A3.r N1.reqs.length A3.cr] (o:=0) (xs:=[.int .i64 0,.int .i64 0,.slice none 0 0,.int .i64 0,.slice none 0 0,.slice none 0 0,.slice none 0 0,.int .i64 0,.slice none 0 0]) HQg);have HKD:=hide (KeepsL.trans (F:=[qf]) (KeepsL.of_below HDg) hkq);have HBV:=hide (Below.trans HGg (hkq.below (B:=w2.heap.size) (fun x hx=>by have:x=qf:=(by simpa using hx);omega) HGg.size));clear hkq d0 d1 d2 d3 d4 d5 d6 d7 d8 f0 f1 f2 f3 f4 f5 f6 f7 f8 hrl;have hwp:w2.heap.size≤(GR.setW xf (qf) 0 [.int .i64 N1.id,.int .i64 N1.par,.slice A3.k N1.kids.length A3.ck,.int .i64 N1.next,.slice A3.p N1.pu.length A3.cp,.slice A3.o N1.out.length A3.co,.slice A3.s N1.seen.length A3.cs,.int .i64 N1.old,.slice A3.r N1.reqs.length A3.cr]).heap.size:=HBV.size;refine tk [11] ?_;open Sb174 in exact Yb43):P:=h
theorem Yb67(h:P:=by
 rintro e W3 ⟨A1,ma,mc,rfl,hat,hmt,hb3,hap⟩;have HR_3:=hide ((hap _ (obj_lt HR_2) (by rw [newC_new (by omega)];omega)).trans HR_2);have HAT1:=hide hat;have HMT1:=hide hmt;have HB3:=hide ((HB2.mono hB).trans hb3);have HK3:Hid (Apart c w W3):=fun x hx hc=>(hap x (Nat.lt_of_lt_of_le hx HB2.size) (by rw [newC_old hx];exact hc)).trans (HB2.block x hx)
 have h23:=hb3.size;have h02:=HB2.size;have h2r:=obj_lt HR_2;exact Kb67):P:=h
theorem Sb233.Kb67(h:P:=by
 clear hat hmt hb3 hap c0 c1 c2 c3 c4 c5 c6 c7 c8 m0 m1 m2 m3 m4 m5 m6 hml hnl HTK HN_2 HM_2 HR_2 HN2;open Sb259 in exact Yb79):P:=h
theorem Sb234.Kb67(h:P:=by
 clear hat hmt hb3 hap c0 c1 c2 c3 c4 c5 c6 c7 c8 m0 m1 m2 m3 m4 m5 m6 hml hnl HGV HN_2 HM_2 HR_2 HN2;obtain⟨A1,hA1⟩:∃A2,A2=A1:=⟨_,rfl⟩;subst hA1;have HNA:=hide (heap_alloc_new W3 (.cells #[.int .i64 N1.id,.int .i64 N1.par,.slice A1.k N1.kids.length A1.ck,.int .i64 N1.next,.slice A1.p N1.pu.length A1.cp,.slice A1.o N1.out.length A1.co,.slice A1.s N1.seen.length A1.cs,.int .i64 N1.old,.slice A1.r N1.reqs.length A1.cr] 30));have HRA:=hide (obj_step HR_3 (below_one W3 (.cells #[.int .i64 N1.id,.int .i64 N1.par,.slice A1.k N1.kids.length A1.ck,.int .i64 N1.next,.slice A1.p N1.pu.length A1.cp,.slice A1.o N1.out.length A1.co,.slice A1.s N1.seen.length A1.cs,.int .i64 N1.old,.slice A1.r N1.reqs.length A1.cr] 30)));have HBA:=hide (HB3.trans ((below_one W3 (.cells #[.int .i64 N1.id,.int .i64 N1.par,.slice A1.k N1.kids.length A1.ck,.int .i64 N1.next,.slice A1.p N1.pu.length A1.cp,.slice A1.o N1.out.length A1.co,.slice A1.s N1.seen.length A1.cs,.int .i64 N1.old,.slice A1.r N1.reqs.length A1.cr] 30)).mono (Nat.le_trans hB HB3.size)));have HKA:=hide (HK3.step HB3.size (below_one W3 (.cells #[.int .i64 N1.id,.int .i64 N1.par,.slice A1.k N1.kids.length A1.ck,.int .i64 N1.next,.slice A1.p N1.pu.length A1.cp,.slice A1.o N1.out.length A1.co,.slice A1.s N1.seen.length A1.cs,.int .i64 N1.old,.slice A1.r N1.reqs.length A1.cr] 30)));obtain⟨c0,c1,c2,c3,c4,c5,c6,c7,c8⟩:=nine HNA;open Sb114 in exact Yb28):P:=h
theorem Yb68(h:P:=by
 have q3s:=far9 (g:=w.heap.size+2) (i:=3) (b0:= .int .i64 n.id) (b1:= .int .i64 n.par) (b2:= .slice a_k n.kids.length a_ck) (b3:= .int .i64 n.next) (b4:= .slice (some ⟨gp,0,none⟩) n.pu.length a_cp) (b5:= .slice a_o n.out.length a_co) (b6:= .slice a_s n.seen.length a_cs) (b7:= .int .i64 n.old) (b8:= .slice (some ⟨gv,0,none⟩) (n.reqs.length+1) vc) (show w.heap.size+2≠W1.heap.size by omega) q3x;exact Kb68):P:=h
theorem Sb235.Kb68(h:P:=by
 open Sb127 in exact Yb30):P:=h
theorem Sb236.Kb68(h:P:=by
 go_simp;refine wpAny_one 1 rfl (by kernel_rfl) (by rfl) ?_;open Sb128 in exact Yb30):P:=h
theorem Yb69(h:P:=by
 have q3s:=far9 (g:=w.heap.size+2) (i:=3) (b0:= .int .i64 n.id) (b1:= .int .i64 n.par) (b2:= .slice a_k n.kids.length a_ck) (b3:= .int .i64 n.next) (b4:= .slice (some ⟨gp,0,none⟩) n.pu.length a_cp) (b5:= .slice a_o n.out.length a_co) (b6:= .slice a_s n.seen.length a_cs) (b7:= .int .i64 IH.no) (b8:= .slice (some ⟨g8,0,none⟩) n.reqs.length c8') (show w.heap.size+2≠W1.heap.size by omega) q3x;exact Kb69):P:=h
theorem Sb237.Kb69(h:P:=by
 open Sb125 in exact Yb30):P:=h
theorem Sb238.Kb69(h:P:=by
 go_simp;refine wpAny_one 1 rfl (by kernel_rfl) (by rfl) ?_;open Sb126 in exact Yb30):P:=h
theorem Yb70(h:P:=by
 obtain⟨⟨p0,p1,p2,p3,p4,p5,p6,p7,p8,p9,p10⟩,_⟩:=eleven_at HO;obtain⟨c0,c1,c2,c3,c4,c5,c6,c7,c8⟩:=nine HN;have hol:=obj_lt HO;have hnl:=obj_lt HN;go_wp2_with fail;refine(HRQ W0 HN0.at.r).mono ?_;rintro e W1 ⟨rfl,hb1⟩;have HN_1:=hide (obj_step HN hb1);have HO_1:=hide (obj_step HO hb1);have HR_1:=hide (obj_step HR hb1);have HB1:=hide (HB0.trans (hb1.mono HB0.size));exact Kb70):P:=h
theorem Sb239.Kb70(h:P:=by
 clear hb1 c0 c1 c2 c3 c4 c5 c6 c7 c8 p0 p1 p2 p3 p4 p5 p6 p7 p8 p9 p10 hnl hol HRQ HN HO HR HN0 HB0;obtain⟨⟨p0,p1,p2,p3,p4,p5,p6,p7,p8,p9,p10⟩,_⟩:=eleven_at HO_1;obtain⟨c0,c1,c2,c3,c4,c5,c6,c7,c8⟩:=nine HN_1;have hol:=obj_lt HO_1;have hnl:=obj_lt HN_1;have hrl:=obj_lt HR_1;go_upto_region 9 with fail;refine wp_at (fun W2 hW2=>?_);have hbw2:=below_one W1 (.cells #[.int .i64 no,.string k,.int .i64 nn,.int .i64 1] 49);have hq2:=heap_alloc_new W1 (.cells #[.int .i64 no,.string k,.int .i64 nn,.int .i64 1] 49);rw [←hW2] at hbw2 hq2;have HN_2:=hide (obj_step HN_1 hbw2);have HO_2:=hide (obj_step HO_1 hbw2);have HR_2:=hide (obj_step HR_1 hbw2);have HQ_2:=hide hq2;have HB2:=hide (HB1.trans (hbw2.mono HB1.size));have hqb:w.heap.size+2 < W1.heap.size:=hrl;clear hW2 hbw2 hq2 c0 c1 c2 c3 c4 c5 c6 c7 c8 p0 p1 p2 p3 p4 p5 p6 p7 p8 p9 p10 HN_1 HO_1 HR_1 HB1 hnl hol hrl;obtain⟨⟨p0,p1,p2,p3,p4,p5,p6,p7,p8,p9,p10⟩,_⟩:=eleven_at HO_2;obtain⟨c0,c1,c2,c3,c4,c5,c6,c7,c8⟩:=nine HN_2;have hol:=obj_lt HO_2;have hnl:=obj_lt HN_2;have hql:=obj_lt HQ_2;go_wp2_with fail;refine(HSP W2 (HNO.kc (k:=9) (KC.of_below HB2) (by omega)).at.p).mono ?_;rintro e W3 ⟨v3,rfl,hne3,hrow3,hb3⟩;obtain⟨av,cv,rfl,_⟩:=GR.own_at (enc:=encP) (sz:=4) encP_length hrow3;have HRW:=hide (Lies.own encP_length hrow3);have HN_3:=hide (obj_step HN_2 hb3);have HO_3:=hide (obj_step HO_2 hb3);have HR_3:=hide (obj_step HR_2 hb3);have HQ_3:=hide (obj_step HQ_2 hb3);have HB3:=hide (HB2.trans (hb3.mono HB2.size));clear hb3 hne3 hrow3 HSP HN_2 HO_2 HR_2 HQ_2 HB2 c0 c1 c2 c3 c4 c5 c6 c7 c8 p0 p1 p2 p3 p4 p5 p6 p7 p8 p9 p10 hnl hol;obtain⟨c0,c1,c2,c3,c4,c5,c6,c7,c8⟩:=nine HN_3;obtain⟨q0,q1,q2,q3⟩:=fourC HQ_3;have cf:=obj_free HN_3 4;have qf:=obj_free HQ_3 3;exact Kb14):P:=h
theorem Sb240.Kb70(h:P:=by
 have HN1:=hide (HN0.kc (k:=9) (KC.of_below hb1) (by omega));clear hb1 c0 c1 c2 c3 c4 c5 c6 c7 c8 p0 p1 p2 p3 p4 p5 p6 p7 p8 p9 p10 hnl hol HRQ HN HO HR HN0 HB0;obtain⟨g,off,e0,hg,q0,q1,q2,q3⟩:=ReqAt.four HN1.at.r i hi;rw [unhide HRQ0] at q0 q1 q2 q3;clear HRQ0;obtain⟨rno,rk,rn,rs⟩:=rq;exact Kb2):P:=h
theorem Yb71(h:P:=by
 have q3s:=far9 (g:=w.heap.size+2) (i:=3) (b0:= .int .i64 n.id) (b1:= .int .i64 n.par) (b2:= .slice a_k n.kids.length a_ck) (b3:= .int .i64 n.next) (b4:= .slice av RL.length cv) (b5:= .slice a_o n.out.length a_co) (b6:= .slice a_s n.seen.length a_cs) (b7:= .int .i64 n.old) (b8:= .slice (some ⟨gv,0,none⟩) (n.reqs.length+1) vc) (show w.heap.size+2≠W1.heap.size by omega) q3x;exact Kb71):P:=h
theorem Sb241.Kb71(h:P:=by
 open Sb123 in exact Yb30):P:=h
theorem Sb242.Kb71(h:P:=by
 go_simp;refine wpAny_one 1 rfl (by kernel_rfl) (by rfl) ?_;open Sb124 in exact Yb30):P:=h
theorem Yb72(h:P:=by
 rw [hlt1] at hry3 hoy3;refine Lib.wp_append_run x3 (.tmp 127) (.tmp 130) 24 24 rfl _ _ (by simp[Act.eval]) (by simp[Act.eval]) v3 y3 hry3 ?_;refine⟨(Below.refl _ _).grown hgy3 hsx3 (fun b hb=>(HVx3.lt b hb).1),?_⟩;go_simp;have HGy3:=hide (HGx3.grown hgy3 hsx3 (fun b hb=>(HVx3.lt b hb).1));have HVy3:Hid (y3.ownsRow W10.heap.size 3 1 v3 (pos) (GR.flat encNum ((idsS s0 mL).take pos))):=hide (by simpa [GR.flat_nil] using hoy3);exact Kb72):P:=h
theorem Sb243.Kb72(h:P:=by
 have HQy3:=hide (show y3.heap[x2.heap.size]?=some (.cells #[.int .i64 mI] 3 (0,0)) from by rw [hgy3.block _ (obj_lt (unhide HQx3)) (fun hm=>unhide HEy2 _ hm.symm rfl)];exact HQx3);open Sb321 in exact Yb106):P:=h
theorem Sb244.Kb72(h:P:=by
 have HQy3:=hide (show y3.heap[x1.heap.size]?=some (.cells #[.int .i64 mI] 3 (0,0)) from by rw [hgy3.block _ (obj_lt (unhide HQx3)) (fun hm=>unhide HEy2 _ hm.symm rfl)];exact HQx3);open Sb318 in exact Yb105):P:=h
theorem Yb73(h:P:=by
 clear hW4 HRW;clear c0 c1 c2 c3 c4 c5 c6 c7 c8 q0 q1 q2 q3 cf qf HN_3 HO_3 HR_3 HQ_3 HB3;have HA4:=hide (HNO.kc (k:=9) (KC.of_below HB4) (by omega)).at.r;obtain⟨c0,c1,c2,c3,c4,c5,c6,c7,c8⟩:=nine HN_4;obtain⟨⟨p0,p1,p2,p3,p4,p5,p6,p7,p8,p9,p10⟩,_⟩:=eleven_at HO_4;have hnl:=obj_lt HN_4;have hol:=obj_lt HO_4;have hile:=reqI_le n.reqs no;go_upto_block 0 with fail;exact Kb73):P:=h
theorem Sb245.Kb73(h:P:=by
 go_cut [10] from 11 (fun i wx=>i= .int .i64 (reqI n.reqs no:Nat)∧Ge W4 wx)
 case first=>
  exact Zb20
 case rest=>
  open Sb333 in exact Yb111):P:=h
theorem Sb246.Kb73(h:P:=by
 go_cut [10] from 11 (fun i wx=>i= .int .i64 (reqI n.reqs no:Nat)∧Ge W4 wx)
 case first=>
  exact Zb20
 case rest=>
  open Sb332 in exact Yb111):P:=h
theorem Yb74(h:P:=by
 have q3s:=far9 (g:=w.heap.size+2) (i:=3) (b0:= .int .i64 n.id) (b1:= .int .i64 n.par) (b2:= .slice a_k n.kids.length a_ck) (b3:= .int .i64 n.next) (b4:= .slice av RL.length cv) (b5:= .slice a_o n.out.length a_co) (b6:= .slice a_s n.seen.length a_cs) (b7:= .int .i64 IH.no) (b8:= .slice (some ⟨g8,0,none⟩) n.reqs.length c8') (show w.heap.size+2≠W1.heap.size by omega) q3x;exact Kb74):P:=h
theorem Sb247.Kb74(h:P:=by
 open Sb121 in exact Yb30):P:=h
theorem Sb248.Kb74(h:P:=by
 go_simp;refine wpAny_one 1 rfl (by kernel_rfl) (by rfl) ?_;open Sb122 in exact Yb30):P:=h
theorem Yb75(h:P:=by
 go_simp;refine⟨Below.refl _ _,?_⟩;refine wpMixF_leave (by kernel_rfl) (fun x3 hx3=>?_);have hg3:=Ge.trans (Ge.trans hx hx2) hx3;clear q3x;exact Kb75):P:=h
theorem Sb249.Kb75(h:P:=by
 have HRx:=hide (obj_step HR_6 hg3);open Sb27 in exact Yb4):P:=h
theorem Sb250.Kb75(h:P:=by
 have HRx:=hide (obj_step HR_9 hg3);open Sb30 in exact Yb4):P:=h
theorem Sb251.Kb75(h:P:=by
 have HRx:=hide (obj_step HR_6 hg3);open Sb21 in exact Yb4):P:=h
theorem Sb252.Kb75(h:P:=by
 have HRx:=hide (obj_step HR_9 hg3);open Sb24 in exact Yb4):P:=h
theorem Yb76(h:P:=by
 obtain⟨d0,d1,d2,d3,d4,d5,d6,d7,d8⟩:=nine HRZ2;have f0:=obj_free HRZ2 0;have f1:=obj_free HRZ2 1;have f2:=obj_free HRZ2 2;have f3:=obj_free HRZ2 3;have f4:=obj_free HRZ2 4;have f5:=obj_free HRZ2 5;have f6:=obj_free HRZ2 6;have f7:=obj_free HRZ2 7;have f8:=obj_free HRZ2 8;have hrl:=obj_lt HRZ2;exact Kb76):P:=h
theorem Sb253.Kb76(h:P:=by
 go_simp;refine wpAny_one 4 rfl (by kernel_rfl) (by rfl) ?_;go_simp;refine wpAny_one 6 rfl (by kernel_rfl) (by rfl) ?_;go_simp;refine wpAny_one 7 rfl (by kernel_rfl) (by rfl) ?_;go_simp;refine wpAny_done (by kernel_rfl) ?_;go_simp;clear d0 d1 d2 d3 d4 d5 d6 d7 d8 f0 f1 f2 f3 f4 f5 f6 f7 f8;go_wp2_with fail;refine bodyPost_atN (fun W' hW'=>?_)
 obtain⟨SW,hSW,hsz,hk0,e3⟩:∃SW:World,W'=SW.alloc (.cells #[.int .i64 qK,.int .i64 qF,.int .i64 qT,.int .i64 qI,.int .i64 qL,.string qk,.int .i64 qN] 32)∧SW.heap.size=z.heap.size∧KeepsL [w.heap.size+1] z SW∧SW.heap[w.heap.size+1]?=some (.cells #[.int .i64 n.id,.int .i64 n.par,.slice a_k n.kids.length a_ck,.int .i64 (n.next+1),.slice av RL.length cv,.slice a6 (n.out.length+1) c6,.slice a_s n.seen.length a_cs,.int .i64 n.old,.slice a_r n.reqs.length a_cr] 30 (0,0)):=
  ⟨GR.setW z (w.heap.size+1) 0 [.int .i64 n.id,.int .i64 n.par,.slice a_k n.kids.length a_ck,.int .i64 (n.next+1),.slice av RL.length cv,.slice a6 (n.out.length+1) c6,.slice a_s n.seen.length a_cs,.int .i64 n.old,.slice a_r n.reqs.length a_cr],hW',by simp[GR.setW],setW_keeps [.int .i64 n.id,.int .i64 n.par,.slice a_k n.kids.length a_ck,.int .i64 (n.next+1),.slice av RL.length cv,.slice a6 (n.out.length+1) c6,.slice a_s n.seen.length a_cs,.int .i64 n.old,.slice a_r n.reqs.length a_cr] z 0,GR.setW_blk [.int .i64 n.id,.int .i64 n.par,.slice a_k n.kids.length a_ck,.int .i64 (n.next+1),.slice av RL.length cv,.slice a6 (n.out.length+1) c6,.slice a_s n.seen.length a_cs,.int .i64 n.old,.slice a_r n.reqs.length a_cr] (o:=0) (xs:=[.int .i64 0,.int .i64 0,.slice none 0 0,.int .i64 0,.slice none 0 0,.slice none 0 0,.slice none 0 0,.int .i64 0,.slice none 0 0]) HRZ2⟩
 have e4:W'.heap[w.heap.size+1]?=some (.cells #[.int .i64 n.id,.int .i64 n.par,.slice a_k n.kids.length a_ck,.int .i64 (n.next+1),.slice av RL.length cv,.slice a6 (n.out.length+1) c6,.slice a_s n.seen.length a_cs,.int .i64 n.old,.slice a_r n.reqs.length a_cr] 30 (0,0)):=by rw [hSW];exact obj_step e3 (below_one SW _)
 have hkf:KeepsL [w.heap.size+1] z W':=by rw [hSW];exact hk0.trans (KeepsL.of_below (below_one SW _))
 have hm:W'.heap[z.heap.size]?=some (.cells #[.int .i64 qK,.int .i64 qF,.int .i64 qT,.int .i64 qI,.int .i64 qL,.string qk,.int .i64 qN] 32 (0,0)):=by rw [hSW,←hsz];exact heap_alloc_new SW _
 have HFI:=hide (HFIN W' z.heap.size ((KeepsL.of_below HZ).trans hkf) hm (by have:=obj_lt HRZ2;omega));obtain⟨x0,x1,x2,x3,x4,x5,x6,x7,x8⟩:=nine e4;clear hW' e4 hkf hm hSW hsz hk0 e3;exact bodyPost_ret (v:= .tuple #[.agg #[.int .i64 n.id,.int .i64 n.par,.slice a_k n.kids.length a_ck,.int .i64 (n.next+1),.slice av RL.length cv,.slice a6 (n.out.length+1) c6,.slice a_s n.seen.length a_cs,.int .i64 n.old,.slice a_r n.reqs.length a_cr],.slice (some ⟨z.heap.size,0,none⟩) 1 1,.int .i64 0]) (by simp[results,Tryz.results63,go_sem,x0,x1,x2,x3,x4,x5,x6,x7,x8]) rfl ⟨⟨a_k,av,a6,a_s,a_r,a_ck,cv,c6,a_cs,a_cr⟩,some ⟨z.heap.size,0,none⟩,1,by rw [unhide HNV],HFI.1,HFI.2.1,HFI.2.2.1,HFI.2.2.2⟩):P:=h
theorem Sb254.Kb76(h:P:=by
 refine wpAny_one 5 rfl (by kernel_rfl) (by rfl) ?_;go_simp;refine wpAny_one 6 rfl (by kernel_rfl) (by rfl) ?_;go_simp;refine wpAny_one 7 rfl (by kernel_rfl) (by rfl) ?_;go_simp;refine wpAny_done (by kernel_rfl) ?_;go_simp;clear d0 d1 d2 d3 d4 d5 d6 d7 d8 f0 f1 f2 f3 f4 f5 f6 f7 f8 hrl;go_wp2_with fail;refine bodyPost_atN (fun W' hW'=>?_)
 have e4:W'.heap[w.heap.size+1]?=some (.cells #[.int .i64 n.id,.int .i64 n.par,.slice a_k n.kids.length a_ck,.int .i64 (n.next+1),.slice av RL.length cv,.slice a6 (n.out.length+1) c6,.slice a_s n.seen.length a_cs,.int .i64 n.old,.slice a_r n.reqs.length a_cr] 30 (0,0)):=by
  rw [hW'];exact GR.setW_blk [.int .i64 n.id,.int .i64 n.par,.slice a_k n.kids.length a_ck,.int .i64 (n.next+1),.slice av RL.length cv,.slice a6 (n.out.length+1) c6,.slice a_s n.seen.length a_cs,.int .i64 n.old,.slice a_r n.reqs.length a_cr] (o:=0) (xs:=[.int .i64 0,.int .i64 0,.slice none 0 0,.int .i64 0,.slice none 0 0,.slice none 0 0,.slice none 0 0,.int .i64 0,.slice none 0 0]) HRZ2
 have hkf:KeepsL [w.heap.size+1] z2 W':=by
  rw [hW'];exact setW_keeps [.int .i64 n.id,.int .i64 n.par,.slice a_k n.kids.length a_ck,.int .i64 (n.next+1),.slice av RL.length cv,.slice a6 (n.out.length+1) c6,.slice a_s n.seen.length a_cs,.int .i64 n.old,.slice a_r n.reqs.length a_cr] z2 0
 have HFI:=hide (HFIN W' z.heap.size ((KeepsL.of_below HZ2).trans hkf) (hkf.obj HM2 (fun hm=>by have:z.heap.size=w.heap.size+1:=(by simpa using hm);omega)) (by omega));obtain⟨x0,x1,x2,x3,x4,x5,x6,x7,x8⟩:=nine e4;clear hW' e4 hkf;exact bodyPost_ret (v:= .tuple #[.agg #[.int .i64 n.id,.int .i64 n.par,.slice a_k n.kids.length a_ck,.int .i64 (n.next+1),.slice av RL.length cv,.slice a6 (n.out.length+1) c6,.slice a_s n.seen.length a_cs,.int .i64 n.old,.slice a_r n.reqs.length a_cr],.slice (some ⟨z.heap.size,0,none⟩) 1 1,.int .i64 0]) (by simp[results,Tryz.results63,go_sem,x0,x1,x2,x3,x4,x5,x6,x7,x8]) rfl ⟨⟨a_k,av,a6,a_s,a_r,a_ck,cv,c6,a_cs,a_cr⟩,some ⟨z.heap.size,0,none⟩,1,by rw [unhide HNV],HFI.1,HFI.2.1,HFI.2.2.1,HFI.2.2.2⟩):P:=h
theorem Yb77(h:P:=by
 have hrl:=obj_lt HRA;go_wp2_with fail;refine bodyPost_atN (fun W' hW'=>?_)
 have e4:W'.heap[w.heap.size+2]?=some (.cells #[.int .i64 n.id,.int .i64 n.par,.slice A.k n.kids.length A.ck,.int .i64 n.next,.slice A.p n.pu.length A.cp,.slice A.o n.out.length A.co,.slice A.s n.seen.length A.cs,.int .i64 n.old,.slice A.r n.reqs.length A.cr] 30 (0,0)):=by
  exact Zb41
 exact Kb77):P:=h
theorem Sb255.Kb77(h:P:=by
 have hkf:KeepsL [w.heap.size+2] (W2.alloc (.cells #[] 32)) W':=by
  exact Zb29
 open Sb193 in exact Yb52):P:=h
theorem Sb256.Kb77(h:P:=by
 have hkf:KeepsL [w.heap.size+2] (W1.alloc (.cells #[] 32)) W':=by
  rw [hW'];exact setW_keeps [.int .i64 n.id,.int .i64 n.par,.slice A.k n.kids.length A.ck,.int .i64 n.next,.slice A.p n.pu.length A.cp,.slice A.o n.out.length A.co,.slice A.s n.seen.length A.cs,.int .i64 n.old,.slice A.r n.reqs.length A.cr] (W1.alloc (.cells #[] 32)) 0
 open Sb194 in exact Yb52):P:=h
theorem Yb78(h:P:=by
 have hrl:=obj_lt HRX;go_wp2_with fail;refine bodyPost_atN (fun W' hW'=>?_)
 have e4:W'.heap[w.heap.size+1]?=some (.cells #[.int .i64 n.id,.int .i64 n.par,.slice A.k n.kids.length A.ck,.int .i64 n.next,.slice A.p n.pu.length A.cp,.slice A.o n.out.length A.co,.slice A.s n.seen.length A.cs,.int .i64 n.old,.slice A.r n.reqs.length A.cr] 30 (0,0)):=by
  exact Zb25
 exact Kb78):P:=h
theorem Sb257.Kb78(h:P:=by
 have hkf:KeepsL [w.heap.size+1] W1 W':=by
  rw [hW'];exact setW_keeps [.int .i64 n.id,.int .i64 n.par,.slice A.k n.kids.length A.ck,.int .i64 n.next,.slice A.p n.pu.length A.cp,.slice A.o n.out.length A.co,.slice A.s n.seen.length A.cs,.int .i64 n.old,.slice A.r n.reqs.length A.cr] W1 0
 open Sb195 in exact Yb53):P:=h
theorem Sb258.Kb78(h:P:=by
 have hkf:KeepsL [w.heap.size+1] W0 W':=by
  exact Zb32
 have HAT:=hide (fun W'' (ho:Out c w W' W'')=>(HN0.kc (k:=9) ((KC.keeps hkf (fun x hx=>by have:x=w.heap.size+1:=(by simpa using hx);rw [this];exact newC_new (by omega))).trans (KC.out H9 ho)) (by omega)).at);have HBF:Hid (Below B w W'):=(HB0.mono hB).trans (hkf.below (fun x hx=>by have:x=w.heap.size+1:=(by simpa using hx);omega) (Nat.le_trans hB (HB0.mono hB).size));have HKF:=hide (Apart.keeps (c:=c) (Apart.of_below (HB0)) (HB0.mono hB).size hkf (fun x hx=>by have:x=w.heap.size+1:=(by simpa using hx);omega));obtain⟨x0,x1,x2,x3,x4,x5,x6,x7,x8⟩:=nine e4;clear hW' e4 hkf;exact bodyPost_ret (v:= .tuple #[.agg #[.int .i64 n.id,.int .i64 n.par,.slice A.k n.kids.length A.ck,.int .i64 n.next,.slice A.p n.pu.length A.cp,.slice A.o n.out.length A.co,.slice A.s n.seen.length A.cs,.int .i64 n.old,.slice A.r n.reqs.length A.cr],.int .i64 2]) (by simp[results,Tryz.results60,go_sem,x0,x1,x2,x3,x4,x5,x6,x7,x8]) rfl ⟨A,rfl,HAT,HBF,HKF⟩):P:=h
theorem Yb79(h:P:=by
 obtain⟨d0,d1,d2,d3,d4,d5,d6,d7,d8⟩:=nine HR_3;have f0:=obj_free HR_3 0;have f1:=obj_free HR_3 1;have f2:=obj_free HR_3 2;have f3:=obj_free HR_3 3;have f4:=obj_free HR_3 4;have f5:=obj_free HR_3 5;have f6:=obj_free HR_3 6;have f7:=obj_free HR_3 7;have f8:=obj_free HR_3 8;have hrl:=obj_lt HR_3;go_wp2_with fail;refine bodyPost_atN (fun W' hW'=>?_);exact Kb79):P:=h
theorem Sb259.Kb79(h:P:=by
 have e4:W'.heap[w.heap.size+2]?=some (.cells #[.int .i64 N1.id,.int .i64 N1.par,.slice A1.k N1.kids.length A1.ck,.int .i64 N1.next,.slice A1.p N1.pu.length A1.cp,.slice A1.o N1.out.length A1.co,.slice A1.s N1.seen.length A1.cs,.int .i64 N1.old,.slice A1.r N1.reqs.length A1.cr] 30 (0,0)):=by
  rw [hW'];exact GR.setW_blk [.int .i64 N1.id,.int .i64 N1.par,.slice A1.k N1.kids.length A1.ck,.int .i64 N1.next,.slice A1.p N1.pu.length A1.cp,.slice A1.o N1.out.length A1.co,.slice A1.s N1.seen.length A1.cs,.int .i64 N1.old,.slice A1.r N1.reqs.length A1.cr] (o:=0) (xs:=[.int .i64 0,.int .i64 0,.slice none 0 0,.int .i64 0,.slice none 0 0,.slice none 0 0,.slice none 0 0,.int .i64 0,.slice none 0 0]) HR_3
 have hkf:KeepsL [w.heap.size+2] W3 W':=by
  rw [hW'];exact setW_keeps [.int .i64 N1.id,.int .i64 N1.par,.slice A1.k N1.kids.length A1.ck,.int .i64 N1.next,.slice A1.p N1.pu.length A1.cp,.slice A1.o N1.out.length A1.co,.slice A1.s N1.seen.length A1.cs,.int .i64 N1.old,.slice A1.r N1.reqs.length A1.cr] W3 0
 have HAT:=hide (fun W'' (ho:Out c w W' W'')=>(show NodeAt W'' A1 N1 from(by
  obtain⟨F,hk,hF⟩:=ho
  exact HAT1 _ ⟨(w.heap.size+2)::F,KeepsL.trans (b:=W') (hkf.mono (fun x hx=>by simp at hx;simp[hx])) (hk.mono (fun x hx=>by simp[hx])),fun y hy=>by
   rcases List.mem_cons.1 hy with h1|h1
   ·exact Zb47
   ·exact⟨Nat.lt_of_lt_of_le (hF y h1).1 h02,by rw [newC_old (hF y h1).1];exact(hF y h1).2⟩⟩)))
 have HMT:=hide (fun W'' (ho:Out c w W' W'')=>(show GR.At encM 7 W'' ma L1 from(by
  obtain⟨F,hk,hF⟩:=ho
  exact HMT1 _ ⟨(w.heap.size+2)::F,KeepsL.trans (b:=W') (hkf.mono (fun x hx=>by simp at hx;simp[hx])) (hk.mono (fun x hx=>by simp[hx])),fun y hy=>by
   rcases List.mem_cons.1 hy with h1|h1
   ·exact Zb47
   ·exact⟨Nat.lt_of_lt_of_le (hF y h1).1 h02,by rw [newC_old (hF y h1).1];exact(hF y h1).2⟩⟩)))
 have HBF:Hid (Below B w W'):=HB3.trans (hkf.below (fun x hx=>by have:x=w.heap.size+2:=(by simpa using hx);omega) (Nat.le_trans hB HB3.size));have HKF:=hide (Apart.keeps (c:=c) HK3 HB3.size hkf (fun x hx=>by have:x=w.heap.size+2:=(by simpa using hx);omega));obtain⟨x0,x1,x2,x3,x4,x5,x6,x7,x8⟩:=nine e4;clear hW' e4 hkf;exact bodyPost_ret (v:= .tuple #[.agg #[.int .i64 N1.id,.int .i64 N1.par,.slice A1.k N1.kids.length A1.ck,.int .i64 N1.next,.slice A1.p N1.pu.length A1.cp,.slice A1.o N1.out.length A1.co,.slice A1.s N1.seen.length A1.cs,.int .i64 N1.old,.slice A1.r N1.reqs.length A1.cr],.slice ma L1.length mc,.int .i64 code1]) (by simp[results,Tryz.results62,go_sem,x0,x1,x2,x3,x4,x5,x6,x7,x8]) rfl ⟨A1,ma,mc,rfl,HAT,HMT,HBF,HKF⟩):P:=h
theorem Sb260.Kb79(h:P:=by
 have e4:W'.heap[w.heap.size+2]?=some (.cells #[.int .i64 n.id,.int .i64 n.par,.slice A1.k n.kids.length A1.ck,.int .i64 n.next,.slice A1.p n.pu.length A1.cp,.slice A1.o n.out.length A1.co,.slice A1.s n.seen.length A1.cs,.int .i64 n.old,.slice A1.r n.reqs.length A1.cr] 30 (0,0)):=by
  rw [hW'];exact GR.setW_blk [.int .i64 n.id,.int .i64 n.par,.slice A1.k n.kids.length A1.ck,.int .i64 n.next,.slice A1.p n.pu.length A1.cp,.slice A1.o n.out.length A1.co,.slice A1.s n.seen.length A1.cs,.int .i64 n.old,.slice A1.r n.reqs.length A1.cr] (o:=0) (xs:=[.int .i64 0,.int .i64 0,.slice none 0 0,.int .i64 0,.slice none 0 0,.slice none 0 0,.slice none 0 0,.int .i64 0,.slice none 0 0]) HR_3
 have hkc:KC cc 0 W3 W':=by
  rw [hW'];exact KC.setW (o:=0) [.int .i64 n.id,.int .i64 n.par,.slice A1.k n.kids.length A1.ck,.int .i64 n.next,.slice A1.p n.pu.length A1.cp,.slice A1.o n.out.length A1.co,.slice A1.s n.seen.length A1.cs,.int .i64 n.old,.slice A1.r n.reqs.length A1.cr] (HNO.lo _ hrs)
 have HAT:=hide (fun W'' (ho:Aft w W' W'')=>((HNO.kc0 hkc).kc0 (ho.kc (fun x hx=>HNO.lo x (by omega)))).at)
 have HBF:Hid (Below w.heap.size w W'):=by
  rw [hW'];exact GR.setW_below (by omega) [.int .i64 n.id,.int .i64 n.par,.slice A1.k n.kids.length A1.ck,.int .i64 n.next,.slice A1.p n.pu.length A1.cp,.slice A1.o n.out.length A1.co,.slice A1.s n.seen.length A1.cs,.int .i64 n.old,.slice A1.r n.reqs.length A1.cr] (o:=0) HB3
 obtain⟨x0,x1,x2,x3,x4,x5,x6,x7,x8⟩:=nine e4;clear hW' e4 hkc;exact bodyPost_ret (v:= .tuple #[.agg #[.int .i64 n.id,.int .i64 n.par,.slice A1.k n.kids.length A1.ck,.int .i64 n.next,.slice A1.p n.pu.length A1.cp,.slice A1.o n.out.length A1.co,.slice A1.s n.seen.length A1.cs,.int .i64 n.old,.slice A1.r n.reqs.length A1.cr],.slice (some ⟨W0.heap.size,0,none⟩) 0 0,.int .i64 3]) (by simp[results,Tryz.results19,go_sem,x0,x1,x2,x3,x4,x5,x6,x7,x8]) rfl ⟨A1,some ⟨W0.heap.size,0,none⟩,0,rfl,HAT,fun W'' _ i hi=>by simp at hi,HBF⟩):P:=h
theorem Yb80(h:P:=by
 obtain⟨d0,d1,d2,d3,d4,d5,d6,d7,d8⟩:=nine HR_6;have f0:=obj_free HR_6 0;have f1:=obj_free HR_6 1;have f2:=obj_free HR_6 2;have f3:=obj_free HR_6 3;have f4:=obj_free HR_6 4;have f5:=obj_free HR_6 5;have f6:=obj_free HR_6 6;have f7:=obj_free HR_6 7;have f8:=obj_free HR_6 8;have hrl:=obj_lt HR_6;go_wp2_with fail;refine bodyPost_atN (fun W' hW'=>?_);exact Kb80):P:=h
theorem Sb261.Kb80(h:P:=by
 have e4:W'.heap[w.heap.size+2]?=some (.cells #[.int .i64 n.id,.int .i64 n.par,.slice A1.k n.kids.length A1.ck,.int .i64 n.next,.slice A1.p n.pu.length A1.cp,.slice A1.o n.out.length A1.co,.slice A1.s n.seen.length A1.cs,.int .i64 n.old,.slice A1.r n.reqs.length A1.cr] 30 (0,0)):=by
  rw [hW'];exact GR.setW_blk [.int .i64 n.id,.int .i64 n.par,.slice A1.k n.kids.length A1.ck,.int .i64 n.next,.slice A1.p n.pu.length A1.cp,.slice A1.o n.out.length A1.co,.slice A1.s n.seen.length A1.cs,.int .i64 n.old,.slice A1.r n.reqs.length A1.cr] (o:=0) (xs:=[.int .i64 0,.int .i64 0,.slice none 0 0,.int .i64 0,.slice none 0 0,.slice none 0 0,.slice none 0 0,.int .i64 0,.slice none 0 0]) HR_6
 have hkf:KeepsL [w.heap.size+2] W5 W':=by
  rw [hW'];exact setW_keeps [.int .i64 n.id,.int .i64 n.par,.slice A1.k n.kids.length A1.ck,.int .i64 n.next,.slice A1.p n.pu.length A1.cp,.slice A1.o n.out.length A1.co,.slice A1.s n.seen.length A1.cs,.int .i64 n.old,.slice A1.r n.reqs.length A1.cr] W5 0
 have HAT:=hide (fun W'' (ho:Aft w W' W'')=>((HNO6.kc (k:=9) (KC.keeps hkf (fun x hx=>by have:x=w.heap.size+2:=(by simpa using hx);rw [this];exact HC2)) (by omega)).kc (k:=9) (ho.kc (fun x hx=>HC9 x (by omega))) (by omega)).at);open Sb350 in exact Yb119):P:=h
end Go.Proofs.YtppmcficiphgdaaGreatDoor
