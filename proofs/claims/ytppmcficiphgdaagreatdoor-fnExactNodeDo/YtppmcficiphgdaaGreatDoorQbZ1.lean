/-
  Parts of proofs that stand more than once, each said once.
-/
import Derived.Test.YtppmcficiphgdaaGreatDoorRows
import Derived.Laws.OwnMore
import Derived.Laws.AppendOwnNone
import Derived.Deep.RegionLaw
import Derived.Deep.QuietTactic
import Derived.BigQuiet
import Derived.Deep.RegionHeldLaw
import Derived.Deep.AppendLies
import Derived.Deep.DeepCutAuto
import Derived.Deep.CutBlock
import Derived.Deep.SlicePairs
import Derived.ProofKit
import Derived.Stop.LaidTwo
import Derived.LaidLaws
import Derived.LaidHandle
import Derived.OpenVars
import Derived.WalkKit
import Derived.OpenShut
import Derived.ShutString
import Derived.ChangeOld
import Derived.Below
import Derived.LaidMore
import Derived.Stop.Joined
namespace Go.Proofs.YtppmcficiphgdaaGreatDoor
set_option maxRecDepth 100000
variable{P:Prop}
theorem Zb41(h:P:=by
 rw [hW'];exact GR.setW_blk [.int .i64 n.id,.int .i64 n.par,.slice A.k n.kids.length A.ck,.int .i64 n.next,.slice A.p n.pu.length A.cp,.slice A.o n.out.length A.co,.slice A.s n.seen.length A.cs,.int .i64 n.old,.slice A.r n.reqs.length A.cr] (o:=0) (xs:=[.int .i64 0,.int .i64 0,.slice none 0 0,.int .i64 0,.slice none 0 0,.slice none 0 0,.slice none 0 0,.int .i64 0,.slice none 0 0]) HRA):P:=h
theorem Zb0(h:P:=by
 unfold GivesT;have H9:=hide h9;clear h9;have HPO:=hide (fun W (ha:PursesAt W A.p n.pu)=>specPurseOf A.p A.cp n.pu key W hl ha);rw [hpp] at HPO;unfold puv at HPO;clear hpp;have hbw0:=below_one w (.cells (ndc n A) 30);have HNO:=hide (h.nine hB);clear h;go_enter Tryz.func63,Tryz.ntmps63
 go_upto_region 1 with fail;refine wp_at (fun W0 hW=>?_);obtain⟨e1,e2,e3⟩:=allocsE2 w (.cells (ndc n A) 30) (.cells zc9 30);open Sb198 in exact Yb54):P:=h
theorem Zb1(h:P:=by
 open Sb327 in exact Yb108):P:=h
theorem Zb2(h:P:=by
 open Sb326 in exact Yb108):P:=h
theorem Zb3(h:P:=by
 refine wpMixB_one 8 rfl (by kernel_rfl) (by rfl) (by decide) (fun x4 hx4=>?_);have HGx4:=hide (HGy3.trans (hx4.mono HGy3.size));have hsx4:W10.heap.size≤x4.heap.size:=HGx4.size;have HVx4:=hide (GR.own_below HVy3 hx4);have HQx4:=hide (obj_step HQy3 hx4);clear hx4;obtain⟨v4,y4,hry4,hoy4,hgy4,hwy4⟩:=run_append_where x4 W10.heap.size 24 24 3 i0 (.int .i64 0) 1 8 Tryz.underlying24 hi0 hz0 hz1' hz2 rfl (by decide) (.slice avR (pos) cvR) (pos) (GR.flat encNum ((idsS s0 mL).take pos)) HVx4 ⟨rb,0,none⟩ 1 1 (encNum mI) rfl (World.news_of_block HQx4) (by intro u hu;simp at hu;subst hu;rfl) (by unfold maxLen;omega) (by omega) hsx4;refine Lib.wp_append_run x4 (.tmp 131) (.tmp 134) 24 24 rfl _ _ (by simp[Act.eval]) (by simp[Act.eval]) v4 y4 hry4 ?_;refine⟨(Below.refl _ _).grown hgy4 hsx4 (fun b hb=>(HVx4.lt b hb).1),?_⟩;go_simp;have HGy4:=hide (HGx4.grown hgy4 hsx4 (fun b hb=>(HVx4.lt b hb).1));have HVy4:Hid (y4.ownsRow W10.heap.size 3 1 v4 (pos+1) (GR.flat encNum ((idsS s0 mL).take pos++[mI]))):=hide (by rw [GR.flat_append,GR.flat_one];exact hoy4);have HQy4:=hide (show y4.heap[rb]?=some (.cells #[.int .i64 mI] 3 (0,0)) from by rw [hgy4.block _ (obj_lt (unhide HQx4)) (fun hm=>unhide HEy3 _ hm.symm rfl)];exact HQx4);open Sb340 in exact Yb114):P:=h
theorem Zb4(h:P:=by
 refine wpMixB_one 10 rfl (by kernel_rfl) (by rfl) (by decide) (fun xf hxf=>?_);open Sb70 in exact Yb18):P:=h
theorem Zb5(h:P:=by
 refine wpMixB_one 10 rfl (by kernel_rfl) (by rfl) (by decide) (fun xf hxf=>?_);open Sb232 in exact Yb66):P:=h
theorem Zb40(h:P:=by
 rw [hX];exact GR.setW_blk [.int .i64 n.id,.int .i64 n.par,.slice A1.k n.kids.length A1.ck,.int .i64 n.next,.slice A1.p n.pu.length A1.cp,.slice A1.o n.out.length A1.co,.slice A1.s n.seen.length A1.cs,.int .i64 n.old,.slice A1.r n.reqs.length A1.cr] (o:=0) (xs:=[.int .i64 n.id,.int .i64 n.par,.slice A.k n.kids.length A.ck,.int .i64 n.next,.slice A.p n.pu.length A.cp,.slice A.o n.out.length A.co,.slice A.s n.seen.length A.cs,.int .i64 n.old,.slice A.r n.reqs.length A.cr]) HN_3):P:=h
theorem Zb42(h:P:=by
 rw [hX];exact setW_keeps [.int .i64 n.id,.int .i64 n.par,.slice A1.k n.kids.length A1.ck,.int .i64 n.next,.slice A1.p n.pu.length A1.cp,.slice A1.o n.out.length A1.co,.slice A1.s n.seen.length A1.cs,.int .i64 n.old,.slice A1.r n.reqs.length A1.cr] W3 0):P:=h
theorem Zb6(h:P:=by
 open Sb60 in exact Yb13):P:=h
theorem Zb7(h:P:=by
 clear hu;unfold GivesO at HCL;have HOP:=hide (fun W=>specOpOk ⟨0,no,k,nn,⟨mK,mF,mT,mI,mL,mk,mN⟩⟩ W (by unfold maxLen;dsimp only;omega) (by unfold maxLen;dsimp only;omega));open Sb108 in exact Yb26):P:=h
theorem Zb8(h:P:=by
 clear HNZ HBZ HKZ HPM;obtain⟨c0,c1,c2,c3,c4,c5,c6,c7,c8⟩:=nine HN_Z;obtain⟨s0,s1,s2,s3⟩:=fourC HS_Z;open Sb99 in exact Yb25):P:=h
theorem Zb9(h:P:=by
 open Sb58 in exact Yb13):P:=h
theorem Zb10(h:P:=by
 refine wpMixB_one 9 rfl (by kernel_rfl) (by rfl) (by decide) (fun xf hxf=>?_);open Sb69 in exact Yb18):P:=h
theorem Zb11(h:P:=by
 open Sb57 in exact Yb13):P:=h
theorem Zb12(h:P:=by
 go_wp2_with fail;go_loopw [9,10] (fun v j wr=>∃k g cp:Nat,k≤s0.ids.length∧j= .int .i64 k∧v= .slice (some ⟨g,0,none⟩) (idsTo s0 mL k).length cp∧wr.ownsRow W3.heap.size 3 1 v (idsTo s0 mL k).length (GR.flat encNum (idsTo s0 mL k))∧Below W3.heap.size W3 wr) (fun _ j _=>s0.ids.length - (intOf j).toNat)
 case atStart=>exact⟨0,_,_,Nat.zero_le _,rfl,rfl,World.ownsRow_lit _ #[] 0 (Nat.le_refl _) (by decide) rfl,below_one _ _⟩
 case round=>
  obtain⟨k,g,cp,hk,rfl,rfl,hown,hbel⟩:=hrel;have HBL:=hide hbel;obtain⟨_,s31,s32⟩:=threeC (obj_step HS_3 hbel);clear hbel;by_cases hlt:k < s0.ids.length
  ·obtain⟨eb,hgb,hcell⟩:=(HWI3.below HBL) k hlt;open Sb313 in exact Yb103
  ·have hke:k=s0.ids.length:=by omega
   subst hke;have hd:decide ((s0.ids.length:Int) < (s0.ids.length:Int))=false:=by simp
   rw [idsTo_all] at hown;have hsl':(Value.slice (some ⟨g,0,none⟩) (idsTo s0 mL s0.ids.length).length cp)= .slice (some ⟨g,0,none⟩) (idsS s0 mL).length cp:=by rw [idsTo_all]
   rw [idsTo_all];go_wp2_with fail;go_meet
   case rel=>exact⟨g,cp,rfl,hown,HBL⟩):P:=h
theorem Zb13(h:P:=by
 open Sb64 in exact Yb15):P:=h
theorem Zb14(h:P:=by
 rw [hR];have HR:=hide hR;clear hR;cases hk:keyOk k.data.toList
 ·have HK:=hide (fun w1=>specKeyB k false w1 hs hk);cases hn:smB n
  ·have HN:=hide (fun w1=>l04Some n false w1 hn);have HP:=hide (show R=(decide (no=0)&&false&&false&&zmB ⟨mK,mF,mT,mI,mL,mk,mN⟩) by rw [←unhide HR];simp[opOk,hk,hn]);clear HR;clear hk hn;go_enter Tryz.func57,Tryz.ntmps57
   go_wp2_with (first|(go_at_call_of 50 k;refine(HK _).mono ?_;rintro e w1 ⟨rfl,rfl⟩)|(go_at_call_of 46 n;refine(HN _).mono ?_;rintro e w1 ⟨rfl,rfl⟩))
   all_goals
    go_ret
    refine⟨ret_bool ?_,below_one w _⟩
    rw [unhide HP]
    simp[zmB, *]
  ·have HN:=hide (fun w1=>l04Some n true w1 hn);have HP:=hide (show R=(decide (no=0)&&false&&true&&zmB ⟨mK,mF,mT,mI,mL,mk,mN⟩) by rw [←unhide HR];simp[opOk,hk,hn]);clear HR;clear hk hn;go_enter Tryz.func57,Tryz.ntmps57
   go_wp2_with (first|(go_at_call_of 50 k;refine(HK _).mono ?_;rintro e w1 ⟨rfl,rfl⟩)|(go_at_call_of 46 n;refine(HN _).mono ?_;rintro e w1 ⟨rfl,rfl⟩))
   all_goals
    go_ret
    refine⟨ret_bool ?_,below_one w _⟩
    rw [unhide HP]
    simp[zmB, *]
 ·have HK:=hide (fun w1=>specKeyB k true w1 hs hk);cases hn:smB n
  ·have HN:=hide (fun w1=>l04Some n false w1 hn);have HP:=hide (show R=(decide (no=0)&&true&&false&&zmB ⟨mK,mF,mT,mI,mL,mk,mN⟩) by rw [←unhide HR];simp[opOk,hk,hn]);clear HR;clear hk hn;go_enter Tryz.func57,Tryz.ntmps57
   go_wp2_with (first|(go_at_call_of 50 k;refine(HK _).mono ?_;rintro e w1 ⟨rfl,rfl⟩)|(go_at_call_of 46 n;refine(HN _).mono ?_;rintro e w1 ⟨rfl,rfl⟩))
   all_goals
    go_ret
    refine⟨ret_bool ?_,below_one w _⟩
    rw [unhide HP]
    simp[zmB, *]
  ·have HN:=hide (fun w1=>l04Some n true w1 hn);have HP:=hide (show R=(decide (no=0)&&true&&true&&zmB ⟨mK,mF,mT,mI,mL,mk,mN⟩) by rw [←unhide HR];simp[opOk,hk,hn]);clear HR;clear hk hn;go_enter Tryz.func57,Tryz.ntmps57
   go_wp2_with (first|(go_at_call_of 50 k;refine(HK _).mono ?_;rintro e w1 ⟨rfl,rfl⟩)|(go_at_call_of 46 n;refine(HN _).mono ?_;rintro e w1 ⟨rfl,rfl⟩))
   all_goals
    go_ret
    refine⟨ret_bool ?_,below_one w _⟩
    rw [unhide HP]
    simp[zmB, *]):P:=h
theorem Zb15(h:P:=by
 go_wp2_with fail;refine bodyPost_atN (fun W' hW'=>?_)
 have e4:W'.heap[w.heap.size+2]?=some (.cells #[.int .i64 n.id,.int .i64 n.par,.slice a_k n.kids.length a_ck,.int .i64 n.next,.slice (some ⟨gp,0,none⟩) n.pu.length a_cp,.slice a_o n.out.length a_co,.slice (some ⟨G.s,0,none⟩) n.seen.length a_cs,.int .i64 n.old,.slice a_r n.reqs.length a_cr] 30 (0,0)):=by
  rw [hW'];exact GR.setW_blk [.int .i64 n.id,.int .i64 n.par,.slice a_k n.kids.length a_ck,.int .i64 n.next,.slice (some ⟨gp,0,none⟩) n.pu.length a_cp,.slice a_o n.out.length a_co,.slice (some ⟨G.s,0,none⟩) n.seen.length a_cs,.int .i64 n.old,.slice a_r n.reqs.length a_cr] (o:=0) (xs:=[.int .i64 0,.int .i64 0,.slice none 0 0,.int .i64 0,.slice none 0 0,.slice none 0 0,.slice none 0 0,.int .i64 0,.slice none 0 0]) HR_9
 have hkf:KeepsL [w.heap.size+2] (W8.alloc (.cells #[] 32)) W':=by
  rw [hW'];exact setW_keeps [.int .i64 n.id,.int .i64 n.par,.slice a_k n.kids.length a_ck,.int .i64 n.next,.slice (some ⟨gp,0,none⟩) n.pu.length a_cp,.slice a_o n.out.length a_co,.slice (some ⟨G.s,0,none⟩) n.seen.length a_cs,.int .i64 n.old,.slice a_r n.reqs.length a_cr] (W8.alloc (.cells #[] 32)) 0
 have hrne:w.heap.size+2≠gi:=by omega
 have HNF:=hide (HNW9.kc (k:=9) (KC.keeps hkf (fun x hx=>by have:x=w.heap.size+2:=(by simpa using hx);rw [this];exact HCN _ (by omega) hrne)) (by omega))
 have HAT:Hid (∀W'',Out c w W' W''→NodeAt W'' (⟨a_k,(some ⟨gp,0,none⟩),a_o,(some ⟨G.s,0,none⟩),a_r,a_ck,a_cp,a_co,a_cs,a_cr⟩:Ads) (setSeen n (n.seen.set i ⟨mF,lowS s0 mL,idsS s0 mL⟩))):=fun W'' ho=>by
  obtain⟨F,hk,hF⟩:=ho
  have hold:=(HNF.kc (k:=9) (KC.keeps hk (fun x hx=>HCO x (hF x hx).1 (hF x hx).2)) (by omega)).at
  have ho:Out c w W' W'':=⟨F,hk,hF⟩
  exact hold
 have HAM:Hid (∀W'',Out c w W' W''→GR.At encM 7 W'' (some ⟨W8.heap.size,0,none⟩) []):=fun W'' ho j hj=>(by simp at hj)
 have HBF:Hid (Below B w W'):=HBB9.trans (hkf.below (fun x hx=>by have:x=w.heap.size+2:=(by simpa using hx);omega) (by have h1:=obj_lt HR_9;omega));have HKF:=hide (Apart.keeps (c:=c) HKA9 (by have h1:=obj_lt HR_9;omega) hkf (fun x hx=>by have:x=w.heap.size+2:=(by simpa using hx);omega));obtain⟨x0,x1,x2,x3,x4,x5,x6,x7,x8⟩:=nine e4;clear hW' e4 hkf
 first
  |exact bodyPost_ret (v:= .tuple #[.agg #[.int .i64 n.id,.int .i64 n.par,.slice a_k n.kids.length a_ck,.int .i64 n.next,.slice (some ⟨gp,0,none⟩) n.pu.length a_cp,.slice a_o n.out.length a_co,.slice (some ⟨G.s,0,none⟩) n.seen.length a_cs,.int .i64 n.old,.slice a_r n.reqs.length a_cr],.slice (some ⟨W8.heap.size,0,none⟩) 0 0,.int .i64 1]) (by simp[results,Tryz.results135,go_sem,x0,x1,x2,x3,x4,x5,x6,x7,x8]) rfl ⟨(⟨a_k,(some ⟨gp,0,none⟩),a_o,(some ⟨G.s,0,none⟩),a_r,a_ck,a_cp,a_co,a_cs,a_cr⟩:Ads),(some ⟨W8.heap.size,0,none⟩),⟨0,by simp[ndv,ndc,setSeen]⟩,HAT,HAM,HBF,HKF⟩
  |exact bodyPost_ret (v:= .tuple #[.agg #[.int .i64 n.id,.int .i64 n.par,.slice a_k n.kids.length a_ck,.int .i64 n.next,.slice (some ⟨gp,0,none⟩) n.pu.length a_cp,.slice a_o n.out.length a_co,.slice (some ⟨G.s,0,none⟩) n.seen.length a_cs,.int .i64 n.old,.slice a_r n.reqs.length a_cr],.slice (some ⟨W8.heap.size,0,none⟩) 0 0,.int .i64 1]) (by simp[results,Tryz.results135,go_sem,x0,x1,x2,x3,x4,x5,x6,x7,x8]) rfl ⟨(⟨a_k,(some ⟨gp,0,none⟩),a_o,(some ⟨G.s,0,none⟩),a_r,a_ck,a_cp,a_co,a_cs,a_cr⟩:Ads),(some ⟨W8.heap.size,0,none⟩),0,by simp[ndv,ndc,setSeen],HAT,HAM,HBF,HKF⟩):P:=h
theorem Zb16(h:P:=by
 refine bodyPost_atN (fun W' hW'=>?_)
 have e4:W'.heap[w.heap.size+2]?=some (.cells #[.int .i64 n.id,.int .i64 n.par,.slice a_k n.kids.length a_ck,.int .i64 n.next,.slice a_p n.pu.length a_cp,.slice a_o n.out.length a_co,.slice (some ⟨G.s,0,none⟩) n.seen.length a_cs,.int .i64 n.old,.slice a_r n.reqs.length a_cr] 30 (0,0)):=by
  rw [hW'];exact GR.setW_blk [.int .i64 n.id,.int .i64 n.par,.slice a_k n.kids.length a_ck,.int .i64 n.next,.slice a_p n.pu.length a_cp,.slice a_o n.out.length a_co,.slice (some ⟨G.s,0,none⟩) n.seen.length a_cs,.int .i64 n.old,.slice a_r n.reqs.length a_cr] (o:=0) (xs:=[.int .i64 0,.int .i64 0,.slice none 0 0,.int .i64 0,.slice none 0 0,.slice none 0 0,.slice none 0 0,.int .i64 0,.slice none 0 0]) HR_7
 have hkf:KeepsL [w.heap.size+2] W7 W':=by
  rw [hW'];exact setW_keeps [.int .i64 n.id,.int .i64 n.par,.slice a_k n.kids.length a_ck,.int .i64 n.next,.slice a_p n.pu.length a_cp,.slice a_o n.out.length a_co,.slice (some ⟨G.s,0,none⟩) n.seen.length a_cs,.int .i64 n.old,.slice a_r n.reqs.length a_cr] W7 0
 have hrne:w.heap.size+2≠gi:=by omega
 have HNF:=hide (HNW7.kc (k:=9) (KC.keeps hkf (fun x hx=>by have:x=w.heap.size+2:=(by simpa using hx);rw [this];exact HCN _ (by omega) hrne)) (by omega))
 have HAT:Hid (∀W'',Out c w W' W''→NodeAt W'' (⟨a_k,a_p,a_o,(some ⟨G.s,0,none⟩),a_r,a_ck,a_cp,a_co,a_cs,a_cr⟩:Ads) (setSeen n (n.seen.set i ⟨mF,lowS s0 mL,idsS s0 mL⟩))):=fun W'' ho=>by
  obtain⟨F,hk,hF⟩:=ho
  have hold:=(HNF.kc (k:=9) (KC.keeps hk (fun x hx=>HCO x (hF x hx).1 (hF x hx).2)) (by omega)).at
  have ho:Out c w W' W'':=⟨F,hk,hF⟩
  exact hold
 have HAM:Hid (∀W'',Out c w W' W''→GR.At encM 7 W'' (some ⟨ab,0,none⟩) [⟨2,n.id,mF,mI,0,ByteArray.empty,0⟩]):=fun W'' ho j hj=>ack_at (hkf.obj HA_7 (fun hm=>by simp at hm;omega)) ho (by omega) j hj
 have HBF:Hid (Below B w W'):=HBB7.trans (hkf.below (fun x hx=>by have:x=w.heap.size+2:=(by simpa using hx);omega) (by have h1:=obj_lt HR_7;omega));have HKF:=hide (Apart.keeps (c:=c) HKA7 (by have h1:=obj_lt HR_7;omega) hkf (fun x hx=>by have:x=w.heap.size+2:=(by simpa using hx);omega));obtain⟨x0,x1,x2,x3,x4,x5,x6,x7,x8⟩:=nine e4;clear hW' e4 hkf
 first
  |exact bodyPost_ret (v:= .tuple #[.agg #[.int .i64 n.id,.int .i64 n.par,.slice a_k n.kids.length a_ck,.int .i64 n.next,.slice a_p n.pu.length a_cp,.slice a_o n.out.length a_co,.slice (some ⟨G.s,0,none⟩) n.seen.length a_cs,.int .i64 n.old,.slice a_r n.reqs.length a_cr],.slice (some ⟨ab,0,none⟩) 1 1,.int .i64 0]) (by simp[results,Tryz.results135,go_sem,x0,x1,x2,x3,x4,x5,x6,x7,x8]) rfl ⟨(⟨a_k,a_p,a_o,(some ⟨G.s,0,none⟩),a_r,a_ck,a_cp,a_co,a_cs,a_cr⟩:Ads),(some ⟨ab,0,none⟩),⟨1,by simp[ndv,ndc,setSeen]⟩,HAT,HAM,HBF,HKF⟩
  |exact bodyPost_ret (v:= .tuple #[.agg #[.int .i64 n.id,.int .i64 n.par,.slice a_k n.kids.length a_ck,.int .i64 n.next,.slice a_p n.pu.length a_cp,.slice a_o n.out.length a_co,.slice (some ⟨G.s,0,none⟩) n.seen.length a_cs,.int .i64 n.old,.slice a_r n.reqs.length a_cr],.slice (some ⟨ab,0,none⟩) 1 1,.int .i64 0]) (by simp[results,Tryz.results135,go_sem,x0,x1,x2,x3,x4,x5,x6,x7,x8]) rfl ⟨(⟨a_k,a_p,a_o,(some ⟨G.s,0,none⟩),a_r,a_ck,a_cp,a_co,a_cs,a_cr⟩:Ads),(some ⟨ab,0,none⟩),1,by simp[ndv,ndc,setSeen],HAT,HAM,HBF,HKF⟩):P:=h
theorem Zb17(h:P:=by
 clear HR;clear hk hn ho;go_enter Tryz.func57,Tryz.ntmps57
 go_wp2_with (first|(go_at_call_of 50 k;refine(HK _).mono ?_;rintro e w1 ⟨rfl,rfl⟩)|(go_at_call_of 46 n;refine(HN _).mono ?_;rintro e w1 ⟨rfl,rfl⟩)|(go_at_call_of 46 no;refine(HO _).mono ?_;rintro e w1 ⟨rfl,rfl⟩))
 all_goals
  go_ret
  refine⟨ret_bool ?_,below_one w _⟩
  rw [unhide HP]
  simp[zmB, *]):P:=h
theorem Zb18(h:P:=by
 open Sb260 in exact Yb79):P:=h
theorem Zb19(h:P:=by
 go_wp2_with fail;go_quiet (fail);have hownd:(wr.drewN nq).ownsRow W2.heap.size 79 4 (.slice a (FL k).length cp) (FL k).length (GR.flat encSnt (FL k)):=unhide HO;have hnk:=unhide HNK;obtain⟨hi,hz0,hz1,hz2⟩:=unhide HI;have hwb:W2.heap.size≤wr.heap.size:=HBW.size;go_wp2_with (at_builtin;refine wpList_append_own _ rfl _ _ 26 rfl W2.heap.size 79 i0 (.agg #[.int .i64 0,.int .i64 0,.string ByteArray.empty,.int .i64 0]) 4 40 Tryz.underlying26 hi hz0 hz1 hz2 rfl (by decide) _ _ _ rfl (hownd.alloc _) ⟨wr.heap.size,0,none⟩ 1 1 (encSnt ⟨si,st,sk,sn⟩) rfl rfl ?c1 ?c2 ?c3 ?c4 ?c5 ?_)
 case c1=>exact World.news_of_block (heap_alloc_new (wr.drewN nq) _)
 case c2=>exact encSnt_one _
 case c3=>unfold maxLen;omega
 case c4=>omega
 case c5=>exact Nat.le_trans hwb (below_one (wr.drewN nq) _).size
 intro v' w5 hown' hgrow _;obtain⟨an,cn,hv,_⟩:=GR.own_at (enc:=encSnt) (sz:=4) (l:=FL k++[⟨si,st,sk,sn⟩]) encSnt_length (by rw [List.length_append,flat_snoc];exact hown');rw [List.length_append] at hv;have hv':v'= .slice an ((FL k).length+1) cn:=hv;clear hv;subst hv'
 have HO5:Hid (w5.ownsRow W2.heap.size 79 4 (.slice an FK.length cn) FK.length (GR.flat encSnt FK)):=by
  unfold Hid;rw [unhide HX,List.length_append,flat_snoc];exact hown'
 have HB5:Hid (Below W2.heap.size W2 w5):=(HBW.trans (Below.trans (b:=wr.drewN nq) ⟨rfl,rfl,rfl,Nat.le_refl _,fun _ _=>rfl⟩ ((below_one (wr.drewN nq) (.cells #[.int .i64 si,.int .i64 st,.string sk,.int .i64 sn] 79)).mono hwb))).trans ⟨hgrow.os,hgrow.tape,hgrow.output,hgrow.size,fun x hx=>hgrow.block x (Nat.lt_of_lt_of_le hx (Nat.le_trans hwb (below_one (wr.drewN nq) _).size)) (fun e=>by have:=own_lo hownd e.symm;omega)⟩;clear hown' hgrow hownd hi hz0 hz1 hz2 c0 c1 c2 c3 c4 c5 c6 c7 c8 m0 m1 m2 m3 m4 m5 m6 s0 s1 s2 s3;go_wp2_with fail;go_roundw
 case rel=>exact⟨k+1,an,cn,by omega,by rw [unhide HX0,unhide HX,List.length_append];rfl,by go_num,by rw [unhide HX0];exact HO5,HB5⟩
 case measure=>simp[intOf];omega):P:=h
theorem Zb20(h:P:=by
 go_wp2_with fail;go_loopw [10] (fun i wr=>∃j q:Nat,j≤n.reqs.length∧i= .int .i64 j∧(∀x (hx:x < n.reqs.length),x < j→n.reqs[x].no < no)∧wr=W4.drewN q) (fun i _=>n.reqs.length - (intOf i).toNat)
 case atStart=>exact⟨0,0,Nat.zero_le _,rfl,fun x hx h=>(by omega),rfl⟩
 case round=>
  obtain⟨j,q,hj,rfl,hlo,rfl⟩:=hrel;have HLO:=hide hlo;clear hlo;by_cases hlt:j < n.reqs.length
  ·obtain⟨g',off',e0,hg',y0,_,_,_⟩:=ReqAt.four HA4 j hlt;cases e0
   rw [Nat.zero_add] at y0
   have HUP:=hide (fun(h:no≤n.reqs[j].no)=>reqI_at (l:=n.reqs) (no:=no) HPW (i:=j) hj HLO (fun x hx hjx=>by
    rcases Nat.lt_or_eq_of_le hjx with h1|h1
    ·have:=List.pairwise_iff_getElem.1 HPW j x hlt hx h1;omega
    ·subst h1;exact h))
   have HMORE:=hide (fun(h:n.reqs[j].no < no)=>show∀x (hx:x < n.reqs.length),x < j+1→n.reqs[x].no < no from fun x hx h2=>by
    by_cases e:x=j
    ·subst e;exact h
    ·exact HLO x hx (by omega))
   generalize n.reqs[j].no=rn at *;by_cases hcmp:rn < no
   ·go_wp2_with fail;go_quiet (fail);go_wp2_with fail;go_roundw
    case rel=>exact⟨j+1,_,by omega,by go_num,HMORE hcmp,rfl⟩
    case measure=>simp[intOf];omega
   ·have hcmp':decide (rn < no)=false:=decide_eq_false hcmp;have HJ:=hide (HUP (by omega));go_wp2_with fail;go_quiet (fail);go_wp2_with fail;go_meet
    case rel=>exact⟨by rw [unhide HJ],⟨rfl,rfl,rfl,Nat.le_refl _,fun _ _=>rfl⟩⟩
  ·have hje:j=n.reqs.length:=by omega
   subst hje;have HJ:=hide (reqI_at (l:=n.reqs) (no:=no) HPW (i:=n.reqs.length) (Nat.le_refl _) HLO (fun x hx hjx=>by omega));have hcmp':decide ((n.reqs.length:Int) < (n.reqs.length:Int))=false:=by simp
   go_wp2_with fail;go_quiet (fail);go_wp2_with fail;go_meet
   case rel=>exact⟨by rw [unhide HJ],⟨rfl,rfl,rfl,Nat.le_refl _,fun _ _=>rfl⟩⟩):P:=h
theorem Zb21(h:P:=by
 go_wp2_with fail;go_loopw [7] (fun j wr=>∃x q:Nat,x≤i∧j= .int .i64 x∧wr=W0.drewN q) (fun j _=>i - (intOf j).toNat)
 case atStart=>exact⟨0,0,Nat.zero_le _,rfl,rfl⟩
 case round=>
  obtain⟨x,q,hx,rfl,rfl⟩:=hrel;have hxl:x < n.seen.length:=by omega
  obtain⟨b',c',e',hg',⟨u0,_,_⟩,_,_⟩:=SeenW.three HNO0.s x hxl;by_cases hxi:x=i
  ·subst hxi;rw [hs0,hfi] at u0;have hnn:(mF != mF)=false:=by simp
   go_wp2_with fail;go_quiet (fail);go_wp2_with fail;go_meet
   case rel=>exact⟨rfl,⟨rfl,rfl,rfl,Nat.le_refl _,fun _ _=>rfl⟩⟩
  ·have hne:=hbef x hxl (by omega);generalize n.seen[x].f=fx at *;have hnn:(fx != mF)=true:=by simpa using hne
   go_wp2_with fail;go_quiet (fail);go_wp2_with fail;go_roundw
   case rel=>exact⟨x+1,_,by omega,by go_num,rfl⟩
   case measure=>simp[intOf];omega):P:=h
theorem Zb22(h:P:=by
 by_cases hlow:s0.l < mL
 ·have hd:decide (s0.l < mL)=true:=decide_eq_true hlow;have HLW:=hide (show lowS s0 mL=mL from if_pos hlow);go_wp2_with fail;go_meet
  case rel=>exact⟨rfl,by rw [unhide HLW];exact blk_setO HS_2 1 _,KeepsL.set _⟩
 ·have hd:decide (s0.l < mL)=false:=decide_eq_false hlow;have HLW:=hide (show lowS s0 mL=s0.l from if_neg hlow);go_wp2_with fail;go_meet
  case rel=>exact⟨rfl,by rw [unhide HLW];exact HS_2,KeepsL.refl _ _⟩):P:=h
theorem Zb23(h:P:=by
 rw [hW'];exact GR.setW_blk [.int .i64 n.id,.int .i64 n.par,.slice a_k n.kids.length a_ck,.int .i64 n.next,.slice a_p n.pu.length a_cp,.slice a_o n.out.length a_co,.slice a_s n.seen.length a_cs,.int .i64 n.old,.slice (some ⟨g,off,none⟩) n.reqs.length a_cr] (o:=0) (xs:=[.int .i64 0,.int .i64 0,.slice none 0 0,.int .i64 0,.slice none 0 0,.slice none 0 0,.slice none 0 0,.int .i64 0,.slice none 0 0]) HRX):P:=h
theorem Zb24(h:P:=by
 rw [hW6];exact hW5.keeps (setW_keeps [.int .i64 mF,.int .i64 (lowS s0 mL),.slice (some ⟨gi,0,none⟩) (idsS s0 mL).length ccp] _ (i*3)) (fun x hx hm=>by have h1:=(of_fp hx).1;simp at hm;omega)):P:=h
theorem Zb25(h:P:=by
 rw [hW'];exact GR.setW_blk [.int .i64 n.id,.int .i64 n.par,.slice A.k n.kids.length A.ck,.int .i64 n.next,.slice A.p n.pu.length A.cp,.slice A.o n.out.length A.co,.slice A.s n.seen.length A.cs,.int .i64 n.old,.slice A.r n.reqs.length A.cr] (o:=0) (xs:=[.int .i64 0,.int .i64 0,.slice none 0 0,.int .i64 0,.slice none 0 0,.slice none 0 0,.slice none 0 0,.int .i64 0,.slice none 0 0]) HRX):P:=h
theorem Zb26(h:P:=by
 rw [hW6];exact((KeepsL.set _).mono (by simp)).trans ((setW_keeps [.int .i64 mF,.int .i64 (lowS s0 mL),.slice (some ⟨gi,0,none⟩) (idsS s0 mL).length ccp] _ (i*3)).mono (by simp))):P:=h
theorem Zb27(h:P:=by
 rcases Nat.lt_or_ge G.s B with h1|h1
 ·have h2:=HNO.lo G.s h1;rw [newC_old (by omega),hc4] at h2;omega
 ·exact h1):P:=h
theorem Zb28(h:P:=by
 rcases hown4.2 with⟨h1,_⟩|⟨g1,cap1,cur1,hv1,_,_,hnc1,_⟩
 ·simp at h1
 ·simp only[Value.slice.injEq] at hv1;omega):P:=h
theorem Zb29(h:P:=by
 rw [hW'];exact setW_keeps [.int .i64 n.id,.int .i64 n.par,.slice A.k n.kids.length A.ck,.int .i64 n.next,.slice A.p n.pu.length A.cp,.slice A.o n.out.length A.co,.slice A.s n.seen.length A.cs,.int .i64 n.old,.slice A.r n.reqs.length A.cr] (W2.alloc (.cells #[] 32)) 0):P:=h
theorem Zb30(h:P:=by
 rw [hW'];exact setW_keeps [.int .i64 n.id,.int .i64 n.par,.slice a_k n.kids.length a_ck,.int .i64 n.next,.slice a_p n.pu.length a_cp,.slice a_o n.out.length a_co,.slice a_s n.seen.length a_cs,.int .i64 n.old,.slice (some ⟨g,off,none⟩) n.reqs.length a_cr] W1 0):P:=h
theorem Zb31(h:P:=by
 clear HR;clear ho;go_enter Tryz.func57,Tryz.ntmps57
 go_wp2_with (first|(go_at_call_of 46 no;refine(HO _).mono ?_;rintro e w1 ⟨rfl,rfl⟩))
 all_goals
  go_ret
  refine⟨ret_bool ?_,below_one w _⟩
  rw [unhide HP]
  simp[zmB, *]):P:=h
theorem Zb32(h:P:=by
 rw [hW'];exact setW_keeps [.int .i64 n.id,.int .i64 n.par,.slice A.k n.kids.length A.ck,.int .i64 n.next,.slice A.p n.pu.length A.cp,.slice A.o n.out.length A.co,.slice A.s n.seen.length A.cs,.int .i64 n.old,.slice A.r n.reqs.length A.cr] W0 0):P:=h
theorem Zb33(h:P:=by
 by_cases hcz:a_cr=pos
 ·refine⟨_,rfl,?_⟩;rw [show n.reqs.drop pos=[] by apply List.drop_eq_nil_of_le;omega];exact GR.at_nil _ _
 ·refine⟨_,rfl,?_⟩;rw [if_neg hcz];exact GR.At.drop HA5 pos):P:=h
theorem Zb34(h:P:=by
 go_wp2_with fail;go_quiet (fail);go_wp2_with fail;go_meet
 case rel=>exact⟨by rw [←unhide HPO,unhide HJ],⟨rfl,rfl,rfl,Nat.le_refl _,fun _ _=>rfl⟩⟩):P:=h
theorem Zb35(h:P:=by
 go_ret;exact⟨ret_bool HP.symm,below_one w _⟩):P:=h
theorem Zb36(h:P:=by
 rw [hW7];exact((show Lies encRq 4 (w.heap.size+3) wc (some ⟨gv,1*4,none⟩) IT from⟨HTA,fun g off e=>by cases e;exact hvlo⟩).keeps (KeepsL.set _) (fun x hx=>by simp at hx;omega)).1):P:=h
theorem Zb37(h:P:=by
 rcases List.mem_append.1 h1 with h1|h1
 ·have:=c5 x h1;omega
 ·have:=c6 x h1;omega):P:=h
theorem Zb38(h:P:=by
 have hold:=(HNO.kc (k:=9) ((KC.of_below HBZ).trans (KC.out H9 ho)) (by omega)).at;exact⟨hold.k,(unhide HPZ).out (by omega) ho,hold.o,hold.s,(unhide HLZ).out (by omega) ho⟩):P:=h
theorem Zb39(h:P:=by
 obtain⟨g,rest,e,hb,_⟩:=own_blk HN1.r (show 0 < n.reqs.length by omega);exact⟨g,e,hb,fun x=>by rw [show a_r=some ⟨g,0,none⟩ from e];simp[Value.ownBlock,eq_comm]⟩):P:=h
theorem Zb43(h:P:=by
 have h2I:¬(40:Int)≤(n.out.length:Int):=by omega
 have q2:decide ((40:Int)≤(n.out.length:Int))=false:=by simpa using h2I
 have q3:decide ((1000000000:Int)≤n.next)=true:=by simpa using h3
 exact Zb0):P:=h
theorem Zb44(h:P:=by
 have h2:=hNA.co x h1;rcases hm' with h3|h3
 ·rw [newC_new (by omega)] at h2;cases h2
 ·rw [newC_old h3.1] at h2;omega):P:=h
theorem Zb45(h:P:=by
 have hold:=(HNO.kc (k:=9) ((KC.of_below HBZ).trans (KC.out H9 ho)) (by omega)).at;exact⟨hold.k,hold.p,hold.o,hold.s,(unhide HLZ).out (by omega) ho⟩):P:=h
theorem Zb46(h:P:=by
 rw [List.length_append] at hv6;have hv7:v'= .slice a6 (n.out.length+1) c6:=hv6;subst hv7;exact⟨a6,c6,w',hr,by rw [flat_snoc];exact ho,hg,hw⟩):P:=h
theorem Zb47(h:P:=by
 rw [h1];exact⟨h2r,by rw [newC_new (by omega)];omega⟩):P:=h
theorem Zb48(h:P:=by
 have h:=(ndOk_parts hok).1;unfold placeB at h;simp only[Bool.and_eq_true,decide_eq_true_eq] at h;exact decide_eq_false (by omega)):P:=h
theorem Zb49(h:P:=by
 have h2I:(40:Int)≤(n.out.length:Int):=by omega
 have q2:decide ((40:Int)≤(n.out.length:Int))=true:=by simpa using h2I
 exact Zb0):P:=h
theorem Zb50(h:P:=by
 cases hq:IQ with
 |nil=>have:=unhide HLQ;rw [hq] at this;simp at this
 |cons a b=>exact⟨a,b,rfl⟩):P:=h
theorem Zb51(h:P:=by
 obtain⟨g',off',e0,_,h0,_⟩:=ReqAt.four HL6.1 0 (by simp);cases e0
 simpa using h0):P:=h
theorem Zb52(h:P:=by
 rcases List.mem_cons.1 h1 with h2|h2
 ·exact .inl (.inr h2)
 ·exact .inr (hF y h2)):P:=h
theorem Zb53(h:P:=by
 rcases List.mem_append.1 h1 with h1|h1
 ·have:=c4 x h1;omega
 ·exact Zb37):P:=h
theorem Yb0(h:P:=by
 open Sb278 in exact Yb87):P:=h
theorem Sb0.Kb0(h:P:=by
 open Sb192 in exact Yb51):P:=h
theorem Sb1.Kb0(h:P:=by
 have hnl:=obj_lt HNX;have hol:=obj_lt HOX;go_upto_region 19 with fail;open Sb98 in exact Yb25):P:=h
theorem Sb2.Kb0(h:P:=by
 have hnl:=obj_lt HNX;have hol:=obj_lt HOX;go_upto_region 26 with fail;have hrx:=obj_lt HRX;have y0:=cell_und (b:=w.heap.size+2) (by omega) c0;have y1:=cell_und (b:=w.heap.size+2) (by omega) c1;have y2:=cell_und (b:=w.heap.size+2) (by omega) c2;have y3:=cell_und (b:=w.heap.size+2) (by omega) c3;have y4:=cell_und (b:=w.heap.size+2) (by omega) c4;have y5:=cell_und (b:=w.heap.size+2) (by omega) c5;have y6:=cell_und (b:=w.heap.size+2) (by omega) c6;have y7:=cell_und (b:=w.heap.size+2) (by omega) c7;have y8:=cell_und (b:=w.heap.size+2) (by omega) c8;have z2:=cell_und (b:=w.heap.size+2) (by omega) p2;have z3:=cell_und (b:=w.heap.size+2) (by omega) p3;have hwb:w.heap.size+2≤X.heap.size:=by omega
 clear c0 c1 c2 c3 c4 c5 c6 c7 c8 p0 p1 p2 p3 p4 p5 p6 p7 p8 p9 p10;refine wp_region_mixB 12 (w.heap.size+2) (by kernel_rfl) ?_;show wpMixB _ _ _ _ _ _ 14 (Array.replicate 14 false) _ _
 refine tk [0,1,2,3,4,5,6,7,8,9] ?_;iterate 10 (refine tkB hwb (fun K hK=>?_);go_simp;first|refine hK _ ?_|(apply Exists.intro;refine⟨fun _=>?_,hK _ ?_⟩;rfl);clear hK K)
 refine tkN ?_;clear y0 y1 y2 y3 y4 y5 y6 y7 y8 z2 z3 hwb hnl hol HNX HOX;refine wpMixB_two 10 11 rfl rfl (by kernel_rfl) (by rfl) (by rfl) (by decide) (by decide) (fun x hx=>?_) (fun x hx=>?_)
 ·go_simp;refine⟨(below_one x _).mono (by have:=hx.size;omega),?_⟩;have HX1:=hide (Ge.trans hx (below_one x (.cells #[.int .i64 0,.int .i64 n.id,.int .i64 n.par,.int .i64 0,.int .i64 0,.string k,.int .i64 nn] 32)));have HM1:=hide (heap_alloc_new x (.cells #[.int .i64 0,.int .i64 n.id,.int .i64 n.par,.int .i64 0,.int .i64 0,.string k,.int .i64 nn] 32));have hxs:=hx.size;clear hx;refine wpMixB_one 11 rfl (by kernel_rfl) (by rfl) (by decide) (fun y hy=>?_);have HY:=hide (Ge.trans HX1 hy);have HMY:=hide (obj_step HM1 hy);have HRY:=hide (obj_step HRX HY);clear hy HM1 HX1;open Sb266 in exact Yb82
 ·have HRY:=hide (obj_step HRX hx);have hxs:=hx.size;open Sb265 in exact Yb82):P:=h
theorem Sb3.Kb0(h:P:=by
 have hnl:=obj_lt HNX;have hol:=obj_lt HOX;go_upto_region 23 with fail;clear p0 p1 p2 p3 p4 p5 p6 p7 p8 p9 p10 hol;open Sb133 in exact Yb31):P:=h
theorem Sb4.Kb0(h:P:=by
 have hnl:=obj_lt HNX;have hol:=obj_lt HOX;go_wp2_with fail;refine(HCL X A1 G1 c (Nat.zero_le _) H9 HPR HNO5).mono ?_;rintro e W5 ⟨A2,ma,mc,rfl,hat,hmt,hb5,hap⟩;have HMT1:=hide hmt;clear hmt;open Sb303 in exact Yb99):P:=h
theorem Sb5.Kb0(h:P:=by
 open Sb191 in exact Yb51):P:=h
theorem Sb6.Kb0(h:P:=by
 have hnl:=obj_lt HNX;have hol:=obj_lt HOX;go_wp2_with fail;refine(HCL X A1 G1 c (Nat.zero_le _) H9 HPR HNO5).mono ?_;rintro e W5 ⟨A2,rfl,hat,hb5,hap⟩;open Sb302 in exact Yb99):P:=h
theorem Yb1(h:P:=by
 have hk6:KeepsL [sb,G.s] wc W6:=by
  exact Zb26
 have HIW:Hid (GR.W encNum 1 W6 (some ⟨gi,0,none⟩) gi (idsS s0 mL)):=by
  exact Zb24
 have HS_6:Hid (W6.heap[sb]?=some (.cells #[.int .i64 mF,.int .i64 (lowS s0 mL),.slice (some ⟨gi,0,none⟩) (idsS s0 mL).length ccp] 81 (0,0))):=by rw [hW6];exact obj_set _ hne1 (obj_set _ hne1 (obj_set _ hne1 (blk_setO HS_4 2 _)))
 have HN_6:=hide (hk6.obj HN_4 (fun hx=>by simp at hx;omega));have HM_6:=hide (hk6.obj HM_4 (fun hx=>by simp at hx;omega));have HR_6:=hide (hk6.obj HR_4 (fun hx=>by simp at hx;omega))
 have hBs:B≤G.s:=by
  exact Zb27
 have HBB6:=hide ((HB4.mono hB).trans (hk6.below (B:=B) (fun x hx=>by simp at hx;omega) (Nat.le_trans hB HB4.size)))
 have HKA6:=hide (Apart.keeps (c:=c) (Apart.of_below HB4) HB4.size hk6 (fun x hx=>by
  have h1:x=sb∨x=G.s:=by simpa using hx
  rcases h1 with rfl|rfl
  ·left;omega
  ·right;omega))
 have hgiw:gi < W6.heap.size:=Nat.lt_of_lt_of_le hgiu hk6.size;have hsz6:w.heap.size+3≤W6.heap.size:=by have:=obj_lt HS_6;omega
 have HCO:Hid (∀x,x < w.heap.size→6 < c x→col5 gi (idsS s0 mL) (newC w.heap.size 9 c) x=9):=fun x hx h=>by rw [col5_out (fun hm=>by have:=(of_fp hm).1;omega),newC_old hx];exact H9 x h
 have HCN:Hid (∀x,w.heap.size≤x→x≠gi→col5 gi (idsS s0 mL) (newC w.heap.size 9 c) x=9):=fun x hx h=>by rw [col5_out (fun hm=>h (of_fp hm).1)];exact newC_new hx
 clear hW6 hk6 hW5 HNO6 y0 y1 y2 x0 x1 x2 s40 s41 s42 sf c0 c1 c2 c3 c4 c5 c6 c7 c8 hnl HN_4 HM_4 HR_4 HS_4 HB4;obtain⟨c0,c1,c2,c3,c4,c5,c6,c7,c8⟩:=nine HN_6;obtain⟨m0,m1,m2,m3,m4,m5,m6⟩:=sevenC HM_6;have hnl:=obj_lt HN_6;have hml:=obj_lt HM_6;go_upto_region 16 with fail;refine wp_at (fun W7 hW7=>?_);have hb7:=below_one W6 (.cells #[.int .i64 2,.int .i64 n.id,.int .i64 mF,.int .i64 mI,.int .i64 0,.string ⟨#[]⟩,.int .i64 0] 32);have ha7:=heap_alloc_new W6 (.cells #[.int .i64 2,.int .i64 n.id,.int .i64 mF,.int .i64 mI,.int .i64 0,.string ⟨#[]⟩,.int .i64 0] 32);rw [←hW7] at hb7 ha7;have HA_7:=hide ha7;have HN_7:=hide (obj_step HN_6 hb7);have HM_7:=hide (obj_step HM_6 hb7);have HR_7:=hide (obj_step HR_6 hb7);have HS_7:=hide (obj_step HS_6 hb7);have HIW7:=hide (HIW.below hb7);have HNW7:=hide (HNW.kc (k:=9) (KC.of_below hb7) (by omega));have HBB7:=hide (HBB6.trans (hb7.mono (Nat.le_trans hB (by omega))));have HKA7:=hide (HKA6.step (by omega) hb7);obtain⟨ab,hab⟩:∃ab,W6.heap.size=ab:=⟨_,rfl⟩;have hab3:w.heap.size+3≤ab:=by omega
 have habs:sb < ab:=by have:=obj_lt HS_6;omega
 have hagi:gi < ab:=by omega
 rw [hab] at HA_7;rw [hab] at *;have hz7:=obj_lt HA_7;clear hW7 hb7 ha7 c0 c1 c2 c3 c4 c5 c6 c7 c8 m0 m1 m2 m3 m4 m5 m6 hnl hml HN_6 HM_6 HR_6 HS_6 HIW HNW HBB6 HKA6;obtain⟨m0,m1,m2,m3,m4,m5,m6⟩:=sevenC HM_7;obtain⟨s70,s71,s72⟩:=threeC HS_7;have hml:=obj_lt HM_7;have hsl7:=obj_lt HS_7;have HHAS:=hide (fun W (ha:IntsAt W (some ⟨gi,0,none⟩) (idsS s0 mL))=>specHas (some ⟨gi,0,none⟩) ccp (idsS s0 mL) mI W (by omega) ha);exact Kb1):P:=h
theorem Sb7.Kb1(h:P:=by
 open Sb83 in exact Yb20):P:=h
theorem Sb8.Kb1(h:P:=by
 open Sb82 in exact Yb20):P:=h
theorem Sb9.Kb1(h:P:=by
 obtain⟨c0,c1,c2,c3,c4,c5,c6,c7,c8⟩:=nine HN_7;open Sb293 in exact Yb94):P:=h
theorem Yb2(h:P:=by
 have hiI:(i:Int) < (n.reqs.length:Int):=by omega
 have HRQ0:=hide hrq;clear hrq;have hp:=reqs_asc hok;have HRQ:=hide (fun W1 (ha:ReqAt W1 a_r n.reqs)=>specReq n (⟨a_k,a_p,a_o,a_s,a_r,a_ck,a_cp,a_co,a_cs,a_cr⟩:Ads) no W1 (by omega) hp.1 ha);rw [hJ] at HRQ;clear hp hok hJ;unfold GivesR;have H9:=hide h9;clear h9;have HNO:=hide (h.nine hB);clear h;go_enter Tryz.func59,Tryz.ntmps59
 go_upto_region 1 with fail;refine wp_at (fun W0 hW=>?_);obtain⟨e1,e2,e3,e4⟩:=allocs3E w (.cells (ndc n (⟨a_k,a_p,a_o,a_s,a_r,a_ck,a_cp,a_co,a_cs,a_cr⟩:Ads)) 30) (.cells #[.int .i64 K,.int .i64 no,.string k,.int .i64 nn,.int .i64 mK,.int .i64 mF,.int .i64 mT,.int .i64 mI,.int .i64 mL,.string mk,.int .i64 mN] 34) (.cells zc9 30);open Sb308 in exact Yb101):P:=h
theorem Sb10.Kb2(h:P:=by
 dsimp only at q0 q1 q2 q3 h1 h2 h3;open Sb63 in exact Yb15):P:=h
theorem Sb11.Kb2(h:P:=by
 dsimp only at q0 q1 q2 q3 h1 h2 h3;exact Zb13):P:=h
theorem Sb12.Kb2(h:P:=by
 dsimp only at q0 q1 q2 q3 h1 h2;exact Zb13):P:=h
theorem Sb13.Kb2(h:P:=by
 dsimp only at q0 q1 q2 q3 h1;exact Zb13):P:=h
theorem Yb3(h:P:=by
 open Sb180 in exact Yb46):P:=h
theorem Sb14.Kb3(h:P:=by
 obtain⟨c0,c1,c2,c3,c4,c5,c6,c7,c8⟩:=nine HN_2;have hml:=obj_lt HM_2;have hnl:=obj_lt HN_2;go_wp2_with fail;refine(HGV W2 (Nat.le_trans hB HB2.size) HN2).mono ?_;open Sb234 in exact Yb67):P:=h
theorem Sb15.Kb3(h:P:=by
 open Sb68 in exact Yb17):P:=h
theorem Sb16.Kb3(h:P:=by
 open Sb67 in exact Yb17):P:=h
theorem Sb17.Kb3(h:P:=by
 obtain⟨c0,c1,c2,c3,c4,c5,c6,c7,c8⟩:=nine HN_2;have hml:=obj_lt HM_2;have hnl:=obj_lt HN_2;have HL0:=hide (World.ownsRow_lit (base:=W2.heap.size) (e:=79) (size:=4) W2 #[] 0 (Nat.le_refl _) (by decide) rfl);go_wp2_with fail;clear m0 m1 m2 m3 m4 m5 m6 c0 c1 c2 c3 c4 c5 c6 c7 c8 hml hnl;go_loopw [7,8] (fun v i wr=>∃(k:Nat) (a:Option Addr) (cp:Nat),k≤n.out.length∧v= .slice a (FL k).length cp∧i= .int .i64 k∧wr.ownsRow W2.heap.size 79 4 (.slice a (FL k).length cp) (FL k).length (GR.flat encSnt (FL k))∧Below W2.heap.size W2 wr) (fun _ i _=>n.out.length - (intOf i).toNat)
 case atStart=>exact⟨0,some ⟨W2.heap.size,0,none⟩,0,Nat.zero_le _,by rw [unhide HF0];rfl,rfl,by rw [unhide HF0];exact HL0,below_one W2 _⟩
 case round=>
  obtain⟨k,a,cp,hk,rfl,rfl,hown,hbw⟩:=hrel;have HO:=hide hown;have HBW:=hide hbw;have HN_3:=hide (obj_step HN_2 hbw);have HM_3:=hide (obj_step HM_2 hbw);have HNK:=hide (HFN k);clear hown hbw;obtain⟨m0,m1,m2,m3,m4,m5,m6⟩:=sevenC HM_3;obtain⟨c0,c1,c2,c3,c4,c5,c6,c7,c8⟩:=nine HN_3;have hml:=obj_lt HM_3;have hnl:=obj_lt HN_3;by_cases hlt:k < n.out.length
  ·have hltI:(k:Int) < (n.out.length:Int):=by omega
   have HFK:=hide (HFS k hlt);obtain⟨g,off,e0,hg,s0,s1,s2,s3⟩:=SentAt.four (GR.At.below HN2.at.o HBW) k hlt;rw [e0] at c5;clear e0;generalize n.out[k]=sk at *;obtain⟨si,st,sk,sn⟩:=sk;dsimp only at s0 s1 s2 s3 HFK;obtain⟨FK,hFK⟩:∃FK,FL (k+1)=FK:=⟨_,rfl⟩;have HX0:=hide hFK;rw [hFK] at HFK;clear hFK;by_cases hA:si=mI
   ·by_cases hB2:st=mF
    ·have HX:Hid (FK=FL k):=by unfold Hid;rw [unhide HFK,if_pos ⟨hA,hB2⟩]
     have x0:(si != mI)=false:=by simp[hA]
     have x1:(st != mF)=false:=by simp[hB2]
     clear hA hB2 HFK;go_wp2_with fail;go_quiet (fail);go_wp2_with fail;go_roundw
     case rel=>exact⟨k+1,a,cp,by omega,by rw [unhide HX0,unhide HX],by go_num,by rw [unhide HX0,unhide HX];exact HO,HBW.trans (Below.mono (B:=(wr.drewN nq).heap.size) ⟨rfl,rfl,rfl,Nat.le_refl _,fun _ _=>rfl⟩ HBW.size)⟩
     case measure=>simp[intOf];omega
    ·have HX:Hid (FK=FL k++[⟨si,st,sk,sn⟩]):=by unfold Hid;rw [unhide HFK,if_neg (fun e=>hB2 e.2)]
     have x0:(si != mI)=false:=by simp[hA]
     have x1:(st != mF)=true:=by simpa using hB2
     clear hA hB2 HFK;exact Zb19
   ·have HX:Hid (FK=FL k++[⟨si,st,sk,sn⟩]):=by unfold Hid;rw [unhide HFK,if_neg (fun e=>hA e.1)]
    have x0:(si != mI)=true:=by simpa using hA
    clear hA HFK;exact Zb19
  ·have hke:k=n.out.length:=by omega
   subst hke;have hnlt:decide ((n.out.length:Int) < (n.out.length:Int))=false:=by simp
   have HR_3:=hide (obj_step HR_2 HBW);have HN3:=hide (HN2.kc (k:=9) (KC.of_below HBW) (by omega));have HB3:=hide (HB2.trans (HBW.mono HB2.size));have h2r:=obj_lt HR_2;clear hlt hk HNK HFS HFN HF0 HL0 HBW HN_2 HM_2 HR_2 HN2 HB2;have f5n:=obj_free HN_3 5;go_upto_region 14 with fail;refine wp_at (fun Z hZ=>?_);have HN_4:Hid (Z.heap[w.heap.size]?=some (.cells #[.int .i64 n.id,.int .i64 n.par,.slice A.k n.kids.length A.ck,.int .i64 n.next,.slice A.p n.pu.length A.cp,.slice a (FL n.out.length).length cp,.slice A.s n.seen.length A.cs,.int .i64 n.old,.slice A.r n.reqs.length A.cr] 30 (0,0))):=by rw [hZ];exact setN9 HN_3
   have HR_4:Hid (Z.heap[w.heap.size+2]?=some (.cells zc9 30 (0,0))):=by rw [hZ];exact oth_set HR_3 (by omega)
   have HN4:Hid (NO Z B n A G (newC w.heap.size 9 c)):=by rw [hZ];exact HN3.kc (k:=9) (KC.set (newC_new (Nat.le_refl _))) (by omega)
   have HO4:Hid (Z.ownsRow W2.heap.size 79 4 (.slice a (FL n.out.length).length cp) (FL n.out.length).length (GR.flat encSnt (FL n.out.length))):=by rw [hZ];exact own_keepsL HO (KeepsL.set _) (fun y hy=>by have:y=w.heap.size:=(by simpa using hy);omega)
   have HB4:Hid (Below B w Z):=by rw [hZ];exact(HB3.mono hB).setCell (p:=⟨w.heap.size,5,none⟩) hB _
   have HK4:Hid (Apart c w Z):=by rw [hZ];exact(Apart.of_below HB3).keeps HB3.size (KeepsL.set _) (fun y hy=>by have:y=w.heap.size:=(by simpa using hy);omega)
   clear hZ f5n c0 c1 c2 c3 c4 c5 c6 c7 c8 m0 m1 m2 m3 m4 m5 m6 hml hnl HN_3 HM_3 HR_3 HN3 HB3 HO;have HRA:=hide (obj_step HR_4 (below_one Z (.cells #[] 32)));have HBA:=hide (HB4.trans ((below_one Z (.cells #[] 32)).mono (Nat.le_trans hB HB4.size)));have HKA:=hide (HK4.step HB4.size (below_one Z (.cells #[] 32)));have HNA:=hide (HN4.kc (k:=9) (KC.of_below (below_one Z (.cells #[] 32))) (by omega));have HOA:=hide (GR.own_below HO4 (below_one Z (.cells #[] 32)));obtain⟨c0,c1,c2,c3,c4,c5,c6,c7,c8⟩:=nine HN_4;open Sb113 in exact Yb28):P:=h
theorem Sb18.Kb3(h:P:=by
 obtain⟨c0,c1,c2,c3,c4,c5,c6,c7,c8⟩:=nine HN_2;have hml:=obj_lt HM_2;have hnl:=obj_lt HN_2;go_wp2_with fail;refine(HTK W2 (Nat.le_trans hB HB2.size) HN2).mono ?_;open Sb233 in exact Yb67):P:=h
theorem Yb4(h:P:=by
 obtain⟨d0,d1,d2,d3,d4,d5,d6,d7,d8⟩:=nine HRx;have f0:=obj_free HRx 0;have f1:=obj_free HRx 1;have f2:=obj_free HRx 2;have f3:=obj_free HRx 3;have f4:=obj_free HRx 4;have f5:=obj_free HRx 5;have f6:=obj_free HRx 6;have f7:=obj_free HRx 7;have f8:=obj_free HRx 8;have hrl:=obj_lt HRx;exact Kb4):P:=h
theorem Sb19.Kb4(h:P:=by
 open Sb236 in exact Yb68):P:=h
theorem Sb20.Kb4(h:P:=by
 open Sb235 in exact Yb68):P:=h
theorem Sb21.Kb4(h:P:=by
 open Sb219 in exact Yb61):P:=h
theorem Sb22.Kb4(h:P:=by
 open Sb238 in exact Yb69):P:=h
theorem Sb23.Kb4(h:P:=by
 open Sb237 in exact Yb69):P:=h
theorem Sb24.Kb4(h:P:=by
 open Sb218 in exact Yb61):P:=h
theorem Sb25.Kb4(h:P:=by
 open Sb242 in exact Yb71):P:=h
theorem Sb26.Kb4(h:P:=by
 open Sb241 in exact Yb71):P:=h
theorem Sb27.Kb4(h:P:=by
 open Sb217 in exact Yb61):P:=h
theorem Sb28.Kb4(h:P:=by
 open Sb248 in exact Yb74):P:=h
theorem Sb29.Kb4(h:P:=by
 open Sb247 in exact Yb74):P:=h
theorem Sb30.Kb4(h:P:=by
 open Sb216 in exact Yb61):P:=h
theorem Yb5(h:P:=by
 have HPO:=hide (fun W (ha:PursesAt W (some ⟨gp,0,none⟩) n.pu)=>specPurseOf (some ⟨gp,0,none⟩) a_cp n.pu key W hl ha);rw [hpp] at HPO;unfold puv at HPO;clear hpp;have hbw0:=below_one w (.cells (ndc n (⟨a_k,(some ⟨gp,0,none⟩),a_o,a_s,a_r,a_ck,a_cp,a_co,a_cs,a_cr⟩:Ads)) 30);have HNO:=hide (h.nine hB);clear h;go_enter Tryz.func63,Tryz.ntmps63
 go_upto_region 1 with fail;refine wp_at (fun W0 hW=>?_);obtain⟨e1,e2,e3⟩:=allocsE2 w (.cells (ndc n (⟨a_k,(some ⟨gp,0,none⟩),a_o,a_s,a_r,a_ck,a_cp,a_co,a_cs,a_cr⟩:Ads)) 30) (.cells zc9 30);open Sb197 in exact Yb54):P:=h
theorem Sb31.Kb5(h:P:=by
 have hn6:=obj_lt HN_6;go_upto_region 8 with fail;refine wp_at (fun Z7 hZ=>?_)
 have HS7:Hid (Z7.heap[Z6.heap.size]?=some (.cells #[.int .i64 n.next,.int .i64 dst,.string key,.int .i64 pf] 79 (0,0))):=by
  rw [hZ];exact heap_alloc_new Z6 _
 open Sb90 in exact Yb23):P:=h
theorem Sb32.Kb5(h:P:=by
 have hn6:=obj_lt HN_6;go_upto_region 8 with fail;refine wp_at (fun Z7 hZ=>?_)
 have HS7:Hid (Z7.heap[Z6.heap.size]?=some (.cells #[.int .i64 n.next,.int .i64 dst,.string key,.int .i64 most] 79 (0,0))):=by
  rw [hZ];exact heap_alloc_new Z6 _
 open Sb89 in exact Yb23):P:=h
theorem Yb6(h:P:=by
 have hiI:(i:Int) < (n.reqs.length:Int):=by omega
 have HST:=hide hst;clear hR hst;have hp:=reqs_asc hok;have HRQ:=hide (fun W1 (ha:ReqAt W1 a_r n.reqs)=>specReq n (⟨a_k,a_p,a_o,a_s,a_r,a_ck,a_cp,a_co,a_cs,a_cr⟩:Ads) no W1 (by omega) hp.1 ha);rw [hJ] at HRQ;clear hp hok;unfold GivesR;have H9:=hide h9;clear h9;have hbw0:=below_one w (.cells (ndc n (⟨a_k,a_p,a_o,a_s,a_r,a_ck,a_cp,a_co,a_cs,a_cr⟩:Ads)) 30);open Sb272 in exact Yb84):P:=h
theorem Sb33.Kb6(h:P:=by
 clear hW' e4 hkf;exact bodyPost_ret (v:= .tuple #[.agg #[.int .i64 n.id,.int .i64 n.par,.slice a_k n.kids.length a_ck,.int .i64 n.next,.slice a_p n.pu.length a_cp,.slice a_o n.out.length a_co,.slice a_s n.seen.length a_cs,.int .i64 n.old,.slice (some ⟨g,off,none⟩) n.reqs.length a_cr],.int .i64 0]) (by simp[results,Tryz.results60,go_sem,x0,x1,x2,x3,x4,x5,x6,x7,x8]) rfl ⟨(⟨a_k,a_p,a_o,a_s,(some ⟨g,off,none⟩),a_ck,a_cp,a_co,a_cs,a_cr⟩:Ads),rfl,HAT,HBF,HKF⟩):P:=h
theorem Sb34.Kb6(h:P:=by
 clear hW' e4 hkf;exact bodyPost_ret (v:= .tuple #[.agg #[.int .i64 n.id,.int .i64 n.par,.slice a_k n.kids.length a_ck,.int .i64 n.next,.slice a_p n.pu.length a_cp,.slice a_o n.out.length a_co,.slice a_s n.seen.length a_cs,.int .i64 n.old,.slice (some ⟨g,off,none⟩) n.reqs.length a_cr],.int .i64 1]) (by simp[results,Tryz.results60,go_sem,x0,x1,x2,x3,x4,x5,x6,x7,x8]) rfl ⟨(⟨a_k,a_p,a_o,a_s,(some ⟨g,off,none⟩),a_ck,a_cp,a_co,a_cs,a_cr⟩:Ads),rfl,HAT,HBF,HKF⟩):P:=h
theorem Yb7(h:P:=by
 have HUN:=hide (fun W (ha:PursesAt W (some ⟨gp,0,none⟩) n.pu)=>specUnspend gp 0 a_cp n.pu n.reqs[i].k n.reqs[i].n W (Nat.le_trans hz.p (by omega)) hPc hz.pk (hz.rk _ (List.getElem_mem hi)) ha);unfold GivesO at HUN;rw [hu] at HUN;clear hR hst hz hPc hu;have hp:=reqs_asc hok;have HRQ:=hide (fun W1 (ha:ReqAt W1 a_r n.reqs)=>specReq n (⟨a_k,(some ⟨gp,0,none⟩),a_o,a_s,a_r,a_ck,a_cp,a_co,a_cs,a_cr⟩:Ads) no W1 (by omega) hp.1 ha);rw [hJ] at HRQ;clear hp hok;unfold GivesR;have H9:=hide h9;clear h9;have hbw0:=below_one w (.cells (ndc n (⟨a_k,(some ⟨gp,0,none⟩),a_o,a_s,a_r,a_ck,a_cp,a_co,a_cs,a_cr⟩:Ads)) 30);open Sb271 in exact Yb84):P:=h
theorem Sb35.Kb7(h:P:=by
 open Sb66 in exact Yb16):P:=h
theorem Sb36.Kb7(h:P:=by
 open Sb65 in exact Yb16):P:=h
theorem Yb8(h:P:=by
 clear hyy1;refine wpMixB_one 0 rfl (by kernel_rfl) (by rfl) (by decide) (fun x2 hx2=>?_);go_simp;have HGx2:=hide (HGy1.trans (hx2.mono HGy1.size));have hsx2:wc.heap.size≤x2.heap.size:=HGx2.size;have HQx2:=hide (obj_step HQy1 hx2);clear hx2;refine⟨(below_one x2 _).mono hsx2,?_⟩;have hby2:=below_one x2 (.cells #[] 49);have HVy2:=hide (show(x2.alloc (.cells #[] 49)).ownsRow wc.heap.size 49 4 (.slice (some ⟨x2.heap.size,0,none⟩) 0 0) 0 (GR.flat encRq []) from World.ownsRow_lit (base:=wc.heap.size) (e:=49) (size:=4) x2 #[] 0 hsx2 (by unfold maxLen;omega) (by simp));open Sb286 in exact Yb91):P:=h
theorem Sb37.Kb8(h:P:=by
 have HQy3:=hide (show y3.heap[x1.heap.size]?=some (.cells #[.int .i64 no,.string k,.int .i64 nn,.int .i64 1] 49 (0,0)) from by rw [hgy3.block _ (obj_lt (unhide HQx3)) (fun hm=>unhide HEy2 _ hm.symm rfl)];exact HQx3);open Sb320 in exact Yb105):P:=h
theorem Sb38.Kb8(h:P:=by
 have HQy3:=hide (show y3.heap[x1.heap.size]?=some (.cells #[.int .i64 no,.string k,.int .i64 nn,.int .i64 0] 49 (0,0)) from by rw [hgy3.block _ (obj_lt (unhide HQx3)) (fun hm=>unhide HEy2 _ hm.symm rfl)];exact HQx3);open Sb319 in exact Yb105):P:=h
theorem Yb9(h:P:=by
 open Sb311 in exact Yb102):P:=h
theorem Sb39.Kb9(h:P:=by
 have hby3:=below_one x3 (.cells #[.int .i64 no,.string k,.int .i64 nn,.int .i64 1] 49);have HQy3:=hide (heap_alloc_new x3 (.cells #[.int .i64 no,.string k,.int .i64 nn,.int .i64 1] 49));open Sb222 in exact Yb62):P:=h
theorem Sb40.Kb9(h:P:=by
 have hby3:=below_one x3 (.cells #[.int .i64 no,.string k,.int .i64 nn,.int .i64 0] 49);have HQy3:=hide (heap_alloc_new x3 (.cells #[.int .i64 no,.string k,.int .i64 nn,.int .i64 0] 49));open Sb221 in exact Yb62):P:=h
theorem Yb10(h:P:=by
 open Sb357 in exact Yb122):P:=h
theorem Sb41.Kb10(h:P:=by
 open Sb201 in exact Yb56):P:=h
theorem Sb42.Kb10(h:P:=by
 obtain⟨c0,c1,c2,c3,c4,c5,c6,c7,c8⟩:=nine HN_2;have hnl:=obj_lt HN_2;go_wp2_with fail;refine(HCP W2 HB2).mono ?_;rintro e W3 ⟨A1,G1,cc,rfl,hNO,hb3,_,_⟩;have HR_3:=hide (obj_step HR_2 hb3);have HB3:=hide (HB2.trans (hb3.mono HB2.size));have HNO:=hide hNO;have hrs:=obj_lt HR_2;clear hb3 hNO c0 c1 c2 c3 c4 c5 c6 c7 c8 hnl HCP HN_2 HO_2 HR_2;exact Zb18):P:=h
theorem Yb11(h:P:=by
 obtain⟨G6,hNW,hsep,hcol⟩:=hNO.full;obtain⟨ma,mc,g6,rfl,hMW,hmr,hmo⟩:=GR.W.of_own (enc:=encM) encM_length hown;have HNW:=hide hNW;have HSEP:=hide hsep;have HMW:=hide hMW;exact Kb11):P:=h
theorem Sb43.Kb11(h:P:=by
 have HMR2:=hide hmr;have HMA:=hide (msgs_apart hc7 hmo hcol);have hqd:x70.heap.size < x93.heap.size∨y94.heap.size≤x70.heap.size:= .inl (obj_lt HQ93);have hyd:x93.heap.size≤y94.heap.size:=hb94.size;have hxd:U.heap.size≤x93.heap.size:=HG93.size;have HG94:=hide (Ge.trans HG93 hb94);have HQ94:=hide (obj_step HQ93 hb94);have HD94:=hide (Below.refl y94.heap.size y94);clear hx93 hb94 hNO hown hc7 hNW hsep hcol hMW hmr hmo;have hwp:U.heap.size≤y94.heap.size:=HG94.size;refine tk [5,6,7,8] ?_;open Sb81 in exact Yb19):P:=h
theorem Sb44.Kb11(h:P:=by
 have HMR2:=hide hmr;have HMA:=hide (msgs_apart hc7 hmo hcol);have hqd:x74.heap.size < x87.heap.size∨y88.heap.size≤x74.heap.size:= .inl (obj_lt HQ87);have hyd:x87.heap.size≤y88.heap.size:=hb88.size;have hxd:U.heap.size≤x87.heap.size:=HG87.size;have HG88:=hide (Ge.trans HG87 hb88);have HQ88:=hide (obj_step HQ87 hb88);have HD88:=hide (Below.refl y88.heap.size y88);clear hx87 hb88 hNO hown hc7 hNW hsep hcol hMW hmr hmo;have hwp:U.heap.size≤y88.heap.size:=HG88.size;refine tk [5,6,7,8] ?_;open Sb80 in exact Yb19):P:=h
theorem Sb45.Kb11(h:P:=by
 have HMR2:=hide hmr;have HMA:=hide (msgs_apart hc7 hmo hcol);have hqd:x78.heap.size < x83.heap.size∨y84.heap.size≤x78.heap.size:= .inl (obj_lt HQ83);have hyd:x83.heap.size≤y84.heap.size:=hb84.size;have hxd:U.heap.size≤x83.heap.size:=HG83.size;have HG84:=hide (Ge.trans HG83 hb84);have HQ84:=hide (obj_step HQ83 hb84);have HD84:=hide (Below.refl y84.heap.size y84);clear hx83 hb84 hNO hown hc7 hNW hsep hcol hMW hmr hmo;have hwp:U.heap.size≤y84.heap.size:=HG84.size;refine tk [5,6,7,8] ?_;open Sb79 in exact Yb19):P:=h
theorem Sb46.Kb11(h:P:=by
 have HMR2:=hide hmr;have HMA:=hide (msgs_apart hc7 hmo hcol);have hyd:x77.heap.size≤y79.heap.size:=hb79.size;have hxd:U.heap.size≤x77.heap.size:=HG77.size;have HG79:=hide (Ge.trans HG77 hb79);have HD79:=hide (Below.refl y79.heap.size y79);clear hx77 hb79 hNO hown hc7 hNW hsep hcol hMW hmr hmo;have hwp:U.heap.size≤y79.heap.size:=HG79.size;refine tk [5,6,7,8] ?_;open Sb78 in exact Yb19):P:=h
theorem Sb47.Kb11(h:P:=by
 have HMR:=hide hmr;have HMA:=hide (msgs_apart hc7 hmo hcol);have hqd:x54.heap.size < x67.heap.size∨y68.heap.size≤x54.heap.size:= .inl (obj_lt HQ67);have hyd:x67.heap.size≤y68.heap.size:=hb68.size;have hxd:V.heap.size≤x67.heap.size:=HG67.size;have HG68:=hide (Ge.trans HG67 hb68);have HQ68:=hide (obj_step HQ67 hb68);have HD68:=hide (Below.refl y68.heap.size y68);clear hx67 hb68 hNO hown hc7 hNW hsep hcol hMW hmr hmo;have hwp:V.heap.size≤y68.heap.size:=HG68.size;refine tk [4,5,6,7] ?_;open Sb77 in exact Yb19):P:=h
theorem Sb48.Kb11(h:P:=by
 have HMR:=hide hmr;have HMA:=hide (msgs_apart hc7 hmo hcol);have hqd:x58.heap.size < x63.heap.size∨y64.heap.size≤x58.heap.size:= .inl (obj_lt HQ63);have hyd:x63.heap.size≤y64.heap.size:=hb64.size;have hxd:V.heap.size≤x63.heap.size:=HG63.size;have HG64:=hide (Ge.trans HG63 hb64);have HQ64:=hide (obj_step HQ63 hb64);have HD64:=hide (Below.refl y64.heap.size y64);clear hx63 hb64 hNO hown hc7 hNW hsep hcol hMW hmr hmo;have hwp:V.heap.size≤y64.heap.size:=HG64.size;refine tk [4,5,6,7] ?_;open Sb76 in exact Yb19):P:=h
theorem Sb49.Kb11(h:P:=by
 have HMR:=hide hmr;have HMA:=hide (msgs_apart hc7 hmo hcol);have hyd:x57.heap.size≤y59.heap.size:=hb59.size;have hxd:V.heap.size≤x57.heap.size:=HG57.size;have HG59:=hide (Ge.trans HG57 hb59);have HD59:=hide (Below.refl y59.heap.size y59);clear hx57 hb59 hNO hown hc7 hNW hsep hcol hMW hmr hmo;have hwp:V.heap.size≤y59.heap.size:=HG59.size;refine tk [4,5,6,7] ?_;open Sb75 in exact Yb19):P:=h
theorem Yb12(h:P:=by
 obtain⟨gi,ccp,rfl,hown4,hb4⟩:=hcut;have HS_4:=hide (obj_step HS_3 hb4);have HN_4:=hide (obj_step HN_3 hb4);have HM_4:=hide (obj_step HM_3 hb4);have HR_4:=hide (obj_step HR_3 hb4);have HB4:=hide (HB3.trans (hb4.mono HB3.size));have HNO4:=hide (HNO3.kc (k:=9) (KC.of_below hb4) (by omega));have hgi:W3.heap.size≤gi:=(hown4.lt gi rfl).1;have hgiu:gi < wc.heap.size:=(hown4.lt gi rfl).2
 have hccp:(idsS s0 mL).length≤ccp:=by
  exact Zb28
 have hsb4:=obj_lt HS_4;have hIL:(idsS s0 mL).length≤1000:=Nat.le_trans (List.length_filter_le _ _) hil;have hW5:GR.W encNum 1 (wc.setCell ⟨sb,2,none⟩ (.slice (some ⟨gi,0,none⟩) (idsS s0 mL).length ccp)) (some ⟨gi,0,none⟩) gi (idsS s0 mL):=(W_own encNum_length hown4).keeps (KeepsL.set _) (fun x hx hm=>by have h1:=(of_fp hx).1;simp at hm;omega);have HNO5:=hide (HNO4.kc (k:=9) (w':=wc.setCell ⟨sb,2,none⟩ (.slice (some ⟨gi,0,none⟩) (idsS s0 mL).length ccp)) (KC.set (newC_new (by omega))) (by omega));have HNO6:=hide (HNO5.seenPut i hi ⟨mF,lowS s0 mL,idsS s0 mL⟩ (some ⟨gi,0,none⟩) ccp gi hW5 (fun x hx=>by rw [(of_fp hx).1];exact newC_new (by omega)));have hgsn:G.s≠w.heap.size:=by omega
 obtain⟨T,hT,hlT,hrT⟩:=HNO4.s;obtain⟨_,_,hcT⟩:=hT i (by omega);open Sb207 in exact Yb58):P:=h
theorem Sb50.Kb12(h:P:=by
 open Sb288 in exact Yb92):P:=h
theorem Sb51.Kb12(h:P:=by
 open Sb287 in exact Yb92):P:=h
theorem Sb52.Kb12(h:P:=by
 have HNW:Hid (NO W6 B (setSeen n (n.seen.set i ⟨mF,lowS s0 mL,idsS s0 mL⟩)) (⟨a_k,a_p,a_o,(some ⟨G.s,0,none⟩),a_r,a_ck,a_cp,a_co,a_cs,a_cr⟩:Ads) ⟨G.k,G.p,G.o,G.s,G.r,setI G.i i gi⟩ (col5 gi (idsS s0 mL) (newC w.heap.size 9 c))):=by rw [hW6];exact HNO6
 open Sb9 in exact Yb1):P:=h
theorem Yb13(h:P:=by
 have hb:=below_one W0 (.cells #[] 32);have hW1:W1=W0.alloc (.cells #[] 32):=by rw [hW,←hW0]
 rw [←hW1] at hb;have HN:=hide (obj_step e1 hb);have HO:=hide (obj_step e2 hb);have HR:=hide (obj_step e3 hb);have HB1:=hide (e4.trans (hb.mono e4.size));clear hW hW0 hW1 e1 e2 e3 e4 hb;obtain⟨c0,c1,c2,c3,c4,c5,c6,c7,c8⟩:=nine HN;obtain⟨⟨p0,p1,p2,p3,p4,p5,p6,p7,p8,p9,p10⟩,_⟩:=eleven_at HO;have hnl:=obj_lt HN;have hol:=obj_lt HO;go_wp2_with fail;exact Kb13):P:=h
theorem Sb53.Kb13(h:P:=by
 open Sb0 in exact Yb0):P:=h
theorem Sb54.Kb13(h:P:=by
 open Sb1 in exact Yb0):P:=h
theorem Sb55.Kb13(h:P:=by
 open Sb2 in exact Yb0):P:=h
theorem Sb56.Kb13(h:P:=by
 open Sb277 in exact Yb87):P:=h
theorem Sb57.Kb13(h:P:=by
 open Sb3 in exact Yb0):P:=h
theorem Sb58.Kb13(h:P:=by
 open Sb4 in exact Yb0):P:=h
theorem Sb59.Kb13(h:P:=by
 open Sb5 in exact Yb0):P:=h
theorem Sb60.Kb13(h:P:=by
 open Sb6 in exact Yb0):P:=h
theorem Yb14(h:P:=by
 go_enter Tryz.func59,Tryz.ntmps59
 go_upto_region 1 with fail;refine wp_at (fun W0 hW=>?_);obtain⟨e1,e2,e3,e4⟩:=allocs3E w (.cells (ndc n (⟨a_k,(some ⟨gp,0,none⟩),a_o,a_s,(some ⟨gr,0,none⟩),a_ck,a_cp,a_co,a_cs,a_cr⟩:Ads)) 30) (.cells #[.int .i64 K,.int .i64 no,.string k,.int .i64 nn,.int .i64 mK,.int .i64 mF,.int .i64 mT,.int .i64 mI,.int .i64 mL,.string mk,.int .i64 mN] 34) (.cells zc9 30);open Sb307 in exact Yb101):P:=h
theorem Sb61.Kb14(h:P:=by
 have hnl:=obj_lt HN_3;have hql3:=obj_lt HQ_3;go_upto_region 13 with fail;refine wp_at (fun W4 hW4=>?_);have HN_4:Hid (W4.heap[w.heap.size]?=some (.cells #[.int .i64 n.id,.int .i64 n.par,.slice a_k n.kids.length a_ck,.int .i64 n.next,.slice (some ⟨gp,0,none⟩) n.pu.length a_cp,.slice a_o n.out.length a_co,.slice a_s n.seen.length a_cs,.int .i64 n.old,.slice (some ⟨gr,0,none⟩) n.reqs.length a_cr] 30 (0,0))):=by rw [hW4];exact HN_3
 have HQ_4:Hid (W4.heap[W1.heap.size]?=some (.cells #[.int .i64 no,.string k,.int .i64 nn,.int .i64 1] 49 (0,0))):=by rw [hW4];exact HQ_3
 have HO_4:Hid (W4.heap[w.heap.size+1]?=some (.cells #[.int .i64 K,.int .i64 no,.string k,.int .i64 nn,.int .i64 mK,.int .i64 mF,.int .i64 mT,.int .i64 mI,.int .i64 mL,.string mk,.int .i64 mN] 34 (0,0))):=by rw [hW4];exact HO_3
 have HR_4:Hid (W4.heap[w.heap.size+2]?=some (.cells zc9 30 (0,0))):=by rw [hW4];exact HR_3
 have HB4:Hid (Below w.heap.size w W4):=by rw [hW4];exact HB3
 open Sb246 in exact Yb73):P:=h
theorem Sb62.Kb14(h:P:=by
 have hnl:=obj_lt HN_3;have hql3:=obj_lt HQ_3;go_upto_region 13 with fail;refine wp_at (fun W4 hW4=>?_);have hne1:w.heap.size≠W1.heap.size:=by omega
 have HN_4:Hid (W4.heap[w.heap.size]?=some (.cells #[.int .i64 n.id,.int .i64 n.par,.slice a_k n.kids.length a_ck,.int .i64 n.next,.slice av RL.length cv,.slice a_o n.out.length a_co,.slice a_s n.seen.length a_cs,.int .i64 n.old,.slice (some ⟨gr,0,none⟩) n.reqs.length a_cr] 30 (0,0))):=by rw [hW4];exact obj_set _ hne1 (blk_setO HN_3 4 _)
 have HQ_4:Hid (W4.heap[W1.heap.size]?=some (.cells #[.int .i64 no,.string k,.int .i64 nn,.int .i64 0] 49 (0,0))):=by rw [hW4];exact blk_setO (obj_set _ hne1.symm HQ_3) 3 _
 have HO_4:Hid (W4.heap[w.heap.size+1]?=some (.cells #[.int .i64 K,.int .i64 no,.string k,.int .i64 nn,.int .i64 mK,.int .i64 mF,.int .i64 mT,.int .i64 mI,.int .i64 mL,.string mk,.int .i64 mN] 34 (0,0))):=by rw [hW4];exact obj_set _ (by omega) (obj_set _ (by omega) HO_3)
 have HR_4:Hid (W4.heap[w.heap.size+2]?=some (.cells zc9 30 (0,0))):=by rw [hW4];exact obj_set _ (by omega) (obj_set _ (by omega) HR_3)
 have HB4:Hid (Below w.heap.size w W4):=by rw [hW4];exact(HB3.setCell (p:=⟨w.heap.size,4,none⟩) (Nat.le_refl _) _).setCell (p:=⟨W1.heap.size,3,none⟩) (by simp;omega) _
 have HP4:Hid (Lies encP 4 (w.heap.size+3) W4 av RL):=by
  rw [hW4];have hk:KeepsL [w.heap.size,W1.heap.size] W3 ((W3.setCell ⟨w.heap.size,4,none⟩ (.slice av RL.length cv)).setCell ⟨W1.heap.size,3,none⟩ (.int .i64 0)):=((KeepsL.set _).mono (by simp)).trans ((KeepsL.set _).mono (by simp));exact(HRW.keeps hk (fun x hx=>by simp at hx;omega)).lower (by omega)
 open Sb245 in exact Yb73):P:=h
theorem Yb15(h:P:=by
 obtain⟨⟨p0,p1,p2,p3,p4,p5,p6,p7,p8,p9,p10⟩,_⟩:=eleven_at HO_1;have hol:=obj_lt HO_1;obtain⟨c0,c1,c2,c3,c4,c5,c6,c7,c8⟩:=nine HN_1;obtain⟨d0,d1,d2,d3,d4,d5,d6,d7,d8⟩:=nine HR_1;have f0:=obj_free HR_1 0;have f1:=obj_free HR_1 1;have f2:=obj_free HR_1 2;have f3:=obj_free HR_1 3;have f4:=obj_free HR_1 4;have f5:=obj_free HR_1 5;have f6:=obj_free HR_1 6;have f7:=obj_free HR_1 7;have f8:=obj_free HR_1 8;have hnl:=obj_lt HN_1;have hrl:=obj_lt HR_1;clear q0;dsimp only at e0;subst e0;go_wp2_with fail;go_quiet (fail);go_wp2_with fail;refine bodyPost_atN (fun W' hW'=>?_)
 have e4:W'.heap[w.heap.size+2]?=some (.cells #[.int .i64 n.id,.int .i64 n.par,.slice a_k n.kids.length a_ck,.int .i64 n.next,.slice a_p n.pu.length a_cp,.slice a_o n.out.length a_co,.slice a_s n.seen.length a_cs,.int .i64 n.old,.slice (some ⟨g,off,none⟩) n.reqs.length a_cr] 30 (0,0)):=by
  rw [hW'];exact GR.setW_blk [.int .i64 n.id,.int .i64 n.par,.slice a_k n.kids.length a_ck,.int .i64 n.next,.slice a_p n.pu.length a_cp,.slice a_o n.out.length a_co,.slice a_s n.seen.length a_cs,.int .i64 n.old,.slice (some ⟨g,off,none⟩) n.reqs.length a_cr] (o:=0) (xs:=[.int .i64 0,.int .i64 0,.slice none 0 0,.int .i64 0,.slice none 0 0,.slice none 0 0,.slice none 0 0,.int .i64 0,.slice none 0 0]) HR_1
 have hkf:KeepsL [w.heap.size+2] W1 W':=by
  rw [hW'];exact KeepsL.trans (b:=W1.drewN nq) ⟨rfl,rfl,rfl,Nat.le_refl _,fun _ _ _=>rfl⟩ (setW_keeps [.int .i64 n.id,.int .i64 n.par,.slice a_k n.kids.length a_ck,.int .i64 n.next,.slice a_p n.pu.length a_cp,.slice a_o n.out.length a_co,.slice a_s n.seen.length a_cs,.int .i64 n.old,.slice (some ⟨g,off,none⟩) n.reqs.length a_cr] (W1.drewN nq) 0)
 have HAT:=hide (fun W'' (ho:Out c w W' W'')=>(HN1.kc (k:=9) ((KC.keeps hkf (fun x hx=>by have:x=w.heap.size+2:=(by simpa using hx);rw [this];exact newC_new (by omega))).trans (KC.out H9 ho)) (by omega)).at);have HBF:Hid (Below B w W'):=(HB1.mono hB).trans (hkf.below (fun x hx=>by have:x=w.heap.size+2:=(by simpa using hx);omega) (Nat.le_trans hB (HB1.mono hB).size));have HKF:=hide (Apart.keeps (c:=c) (Apart.of_below (HB1)) (HB1.mono hB).size hkf (fun x hx=>by have:x=w.heap.size+2:=(by simpa using hx);omega));obtain⟨x0,x1,x2,x3,x4,x5,x6,x7,x8⟩:=nine e4;clear hW' e4 hkf;exact Kb15):P:=h
theorem Sb63.Kb15(h:P:=by
 exact bodyPost_ret (v:= .tuple #[.agg #[.int .i64 n.id,.int .i64 n.par,.slice a_k n.kids.length a_ck,.int .i64 n.next,.slice a_p n.pu.length a_cp,.slice a_o n.out.length a_co,.slice a_s n.seen.length a_cs,.int .i64 n.old,.slice (some ⟨g,off,none⟩) n.reqs.length a_cr],.int .i64 0]) (by simp[results,Tryz.results59,go_sem,x0,x1,x2,x3,x4,x5,x6,x7,x8]) rfl ⟨(⟨a_k,a_p,a_o,a_s,(some ⟨g,off,none⟩),a_ck,a_cp,a_co,a_cs,a_cr⟩:Ads),rfl,HAT,HBF,HKF⟩):P:=h
theorem Sb64.Kb15(h:P:=by
 exact bodyPost_ret (v:= .tuple #[.agg #[.int .i64 n.id,.int .i64 n.par,.slice a_k n.kids.length a_ck,.int .i64 n.next,.slice a_p n.pu.length a_cp,.slice a_o n.out.length a_co,.slice a_s n.seen.length a_cs,.int .i64 n.old,.slice (some ⟨g,off,none⟩) n.reqs.length a_cr],.int .i64 1]) (by simp[results,Tryz.results59,go_sem,x0,x1,x2,x3,x4,x5,x6,x7,x8]) rfl ⟨(⟨a_k,a_p,a_o,a_s,(some ⟨g,off,none⟩),a_ck,a_cp,a_co,a_cs,a_cr⟩:Ads),rfl,HAT,HBF,HKF⟩):P:=h
theorem Yb16(h:P:=by
 generalize n.reqs[i].n=qn at *;go_upto_region 8 with fail;have y4:=cell_regrown c4;have y8:=cell_regrown c8;have z1:=cell_regrown q1;have z2:=cell_regrown q2;clear c0 c1 c2 c3 c4 c5 c6 c7 c8 d0 d1 d2 d3 d4 d5 d6 d7 d8 f0 f1 f2 f3 f4 f5 f6 f7 f8 q0 q1 q2 q3;refine wp_region_mix (by kernel_rfl) ?_;show wpMix _ _ _ _ 20 (Array.replicate 20 false) _ _
 refine tk [0,1,2,3,4,5,6,7,8,9,10,11,12,13] ?_;iterate 14 (refine tk0 (fun K hK=>?_);go_simp;refine hK _ ?_;clear hK K)
 refine tkN ?_;clear y4 y8 z1 z2;refine wpMix_one 14 rfl (by kernel_rfl) (by rfl) (fun x hx=>?_);go_simp;refine(HUN x (GR.At.below HN1.at.p hx)).mono ?_;rintro e y ⟨v,rfl,hne,hrow,hby⟩;refine⟨hby,?_⟩;obtain⟨av,cv,rfl,_⟩:=GR.own_at (enc:=encP) (sz:=4) encP_length hrow;have HRW:=hide hrow;have HXY:=hide (Ge.trans hx hby);have hxs:=hx.size;clear hx hby hne hrow HUN;refine tk [15,16,17,18,19] ?_;iterate 5 (refine tk0 (fun K hK=>?_);go_simp;refine hK _ ?_;clear hK K)
 refine tkN ?_;refine wpMix_done (by kernel_rfl) (fun z hz=>?_);have HZ:=hide (Ge.trans HXY hz);have HRZ:=hide (GR.own_below HRW hz);have HN_Z:=hide (obj_step HN_1 HZ);have HRX2:=hide (obj_step HRX HZ);have HNZ:=hide (HN1.kc (k:=9) (KC.of_below HZ) (by omega));have HBZ:=hide (HB1.trans (HZ.mono HB1.size));have hgz:g < z.heap.size:=Nat.lt_of_lt_of_le hg HZ.size;clear hz HXY HRW;go_simp;obtain⟨c0,c1,c2,c3,c4,c5,c6,c7,c8⟩:=nine HN_Z;obtain⟨d0,d1,d2,d3,d4,d5,d6,d7,d8⟩:=nine HRX2;have f0:=obj_free HRX2 0;have f1:=obj_free HRX2 1;have f2:=obj_free HRX2 2;have f3:=obj_free HRX2 3;have f4:=obj_free HRX2 4;have f5:=obj_free HRX2 5;have f6:=obj_free HRX2 6;have f7:=obj_free HRX2 7;have f8:=obj_free HRX2 8;have hnl:=obj_lt HN_Z;have hrl:=obj_lt HRX2;exact Kb16):P:=h
theorem Sb65.Kb16(h:P:=by
 go_wp2_with fail;refine bodyPost_atN (fun W' hW'=>?_)
 have e4:W'.heap[w.heap.size+1]?=some (.cells #[.int .i64 n.id,.int .i64 n.par,.slice a_k n.kids.length a_ck,.int .i64 n.next,.slice (some ⟨gp,0,none⟩) n.pu.length a_cp,.slice a_o n.out.length a_co,.slice a_s n.seen.length a_cs,.int .i64 n.old,.slice (some ⟨g,0,none⟩) n.reqs.length a_cr] 30 (0,0)):=by
  rw [hW'];exact GR.setW_blk [.int .i64 n.id,.int .i64 n.par,.slice a_k n.kids.length a_ck,.int .i64 n.next,.slice (some ⟨gp,0,none⟩) n.pu.length a_cp,.slice a_o n.out.length a_co,.slice a_s n.seen.length a_cs,.int .i64 n.old,.slice (some ⟨g,0,none⟩) n.reqs.length a_cr] (o:=0) (xs:=[.int .i64 0,.int .i64 0,.slice none 0 0,.int .i64 0,.slice none 0 0,.slice none 0 0,.slice none 0 0,.int .i64 0,.slice none 0 0]) HRX2
 have hkf:KeepsL [w.heap.size+1] z W':=by
  rw [hW'];exact setW_keeps [.int .i64 n.id,.int .i64 n.par,.slice a_k n.kids.length a_ck,.int .i64 n.next,.slice (some ⟨gp,0,none⟩) n.pu.length a_cp,.slice a_o n.out.length a_co,.slice a_s n.seen.length a_cs,.int .i64 n.old,.slice (some ⟨g,0,none⟩) n.reqs.length a_cr] z 0
 have HAT:=hide (fun W'' (ho:Out c w W' W'')=>(HNZ.kc (k:=9) ((KC.keeps hkf (fun x hx=>by have:x=w.heap.size+1:=(by simpa using hx);rw [this];exact newC_new (by omega))).trans (KC.out H9 ho)) (by omega)).at);have HBF:Hid (Below B w W'):=(HBZ.mono hB).trans (hkf.below (fun x hx=>by have:x=w.heap.size+1:=(by simpa using hx);omega) (Nat.le_trans hB (HBZ.mono hB).size));have HKF:=hide (Apart.keeps (c:=c) (Apart.of_below HBZ) (HBZ.mono hB).size hkf (fun x hx=>by have:x=w.heap.size+1:=(by simpa using hx);omega));obtain⟨x0,x1,x2,x3,x4,x5,x6,x7,x8⟩:=nine e4;clear hW' e4 hkf;exact bodyPost_ret (v:= .tuple #[.agg #[.int .i64 n.id,.int .i64 n.par,.slice a_k n.kids.length a_ck,.int .i64 n.next,.slice (some ⟨gp,0,none⟩) n.pu.length a_cp,.slice a_o n.out.length a_co,.slice a_s n.seen.length a_cs,.int .i64 n.old,.slice (some ⟨g,0,none⟩) n.reqs.length a_cr],.int .i64 1]) (by simp[results,Tryz.results60,go_sem,x0,x1,x2,x3,x4,x5,x6,x7,x8]) rfl ⟨(⟨a_k,(some ⟨gp,0,none⟩),a_o,a_s,(some ⟨g,0,none⟩),a_ck,a_cp,a_co,a_cs,a_cr⟩:Ads),rfl,HAT,HBF,HKF⟩):P:=h
theorem Sb66.Kb16(h:P:=by
 have q3z:z.cell? ⟨g,i*4+3,none⟩=some (.int .i64 0):=(HZ.cell (p:=⟨g,i*4+3,none⟩) hg).trans HQ3
 have g3:z.frozen? ⟨g,i*4+3,none⟩=false:=by
  obtain⟨g',rest,e',_,hb'⟩:=own_blk HNZ.r (show 0 < n.reqs.length by omega);simp only[Option.some.injEq,Addr.mk.injEq,and_true] at e';obtain rfl:=e';exact obj_free hb' _
 have f4n:=obj_free HN_Z 4
 have hgn:g≠w.heap.size:=fun e=>by
  have h1:=HNZ.cr g ((hgb g).2 rfl)
  rw [e] at h1
  have h2:newC w.heap.size 9 c w.heap.size=9:=newC_new (Nat.le_refl _)
  rw [h2] at h1
  cases h1
 have hgr2:g≠w.heap.size+1:=fun e=>by
  have h1:=HNZ.cr g ((hgb g).2 rfl)
  rw [e] at h1
  have h2:newC w.heap.size 9 c (w.heap.size+1)=9:=newC_new (by omega)
  rw [h2] at h1
  cases h1
 go_upto_region 13 with fail;refine wp_at (fun Z2 hZ=>?_);have HN_2:Hid (Z2.heap[w.heap.size]?=some (.cells #[.int .i64 n.id,.int .i64 n.par,.slice a_k n.kids.length a_ck,.int .i64 n.next,.slice av RL.length cv,.slice a_o n.out.length a_co,.slice a_s n.seen.length a_cs,.int .i64 n.old,.slice (some ⟨g,0,none⟩) n.reqs.length a_cr] 30 (0,0))):=by rw [hZ];exact(Below.heap_setCell _ _ _ _ (Ne.symm hgn)).trans (setN9 HN_Z)
 have HR_2:Hid (Z2.heap[w.heap.size+1]?=some (.cells zc9 30 (0,0))):=by rw [hZ];exact((Below.heap_setCell _ _ _ _ (Ne.symm hgr2)).trans (Below.heap_setCell _ _ _ _ (show w.heap.size+1≠w.heap.size by omega))).trans HRX2
 have hNA:=HNZ.kc (k:=9) (KC.set (g:=w.heap.size) (i:=4) (v:= .slice av RL.length cv) (newC_new (Nat.le_refl _))) (by omega);have kB:KC (newC w.heap.size 9 c) 6 (z.setCell ⟨w.heap.size,4,none⟩ (.slice av RL.length cv)) Z2:=by rw [hZ];exact KC.set (hNA.cr g ((hgb g).2 rfl))
 have hwx:w.heap.size < x.heap.size∧g < x.heap.size:=by
  have:=obj_lt HN_1;omega
 have hpz:Z2.ownsRow x.heap.size 141 4 (.slice av RL.length cv) RL.length (GR.flat encP RL):=by
  rw [hZ];exact own_keepsL (own_keepsL HRZ (KeepsL.set _) (fun y hy=>by have:y=w.heap.size:=(by simpa using hy);omega)) (KeepsL.set _) (fun y hy=>by have:y=g:=(by simpa using hy);omega)
 have hrz:=(hNA.r.stored (i*4+3) (.int .i64 2)).1;rw [flat_rel 2 n.reqs i hi,←hZ] at hrz;have HRW2:=hide (And.intro (kB.w hNA.k hNA.ck (by omega)) (And.intro hpz (And.intro (kB.own hNA.o hNA.co (by omega)) (And.intro (kB.seen hNA.s hNA.c4 hNA.ci (by omega) (by omega)) hrz))));have HCL:=hide (And.intro hNA.ck (And.intro hNA.co (And.intro hNA.c4 (And.intro hNA.ci hNA.cr))))
 have HBZ2:Hid (Below B w Z2):=by
  have hg0:B≤g:=hBg;rw [hZ];exact((HBZ.mono hB).setCell (p:=⟨w.heap.size,4,none⟩) hB _).setCell (p:=⟨g,i*4+3,none⟩) hg0 _
 have HKZ2:Hid (Apart c w Z2):=fun x hx hc=>by
  have hxg:x≠g:=fun e=>by
   have h1:=HNZ.cr g ((hgb g).2 rfl)
   rw [←e,newC_old hx] at h1
   omega
  rw [hZ]
  exact(Below.heap_setCell _ _ _ _ hxg).trans ((Below.heap_setCell _ _ _ _ (Nat.ne_of_lt hx)).trans (HBZ.block x hx))
 clear hZ hNA kB hpz hrz q3z g3 f4n c0 c1 c2 c3 c4 c5 c6 c7 c8 d0 d1 d2 d3 d4 d5 d6 d7 d8 f0 f1 f2 f3 f4 f5 f6 f7 f8 hnl hrl;obtain⟨c0,c1,c2,c3,c4,c5,c6,c7,c8⟩:=nine HN_2;obtain⟨d0,d1,d2,d3,d4,d5,d6,d7,d8⟩:=nine HR_2;have f0:=obj_free HR_2 0;have f1:=obj_free HR_2 1;have f2:=obj_free HR_2 2;have f3:=obj_free HR_2 3;have f4:=obj_free HR_2 4;have f5:=obj_free HR_2 5;have f6:=obj_free HR_2 6;have f7:=obj_free HR_2 7;have f8:=obj_free HR_2 8;have hnl:=obj_lt HN_2;have hrl:=obj_lt HR_2;go_wp2_with fail;refine bodyPost_atN (fun W' hW'=>?_)
 have e4:W'.heap[w.heap.size+1]?=some (.cells #[.int .i64 n.id,.int .i64 n.par,.slice a_k n.kids.length a_ck,.int .i64 n.next,.slice av RL.length cv,.slice a_o n.out.length a_co,.slice a_s n.seen.length a_cs,.int .i64 n.old,.slice (some ⟨g,0,none⟩) n.reqs.length a_cr] 30 (0,0)):=by
  rw [hW'];exact GR.setW_blk [.int .i64 n.id,.int .i64 n.par,.slice a_k n.kids.length a_ck,.int .i64 n.next,.slice av RL.length cv,.slice a_o n.out.length a_co,.slice a_s n.seen.length a_cs,.int .i64 n.old,.slice (some ⟨g,0,none⟩) n.reqs.length a_cr] (o:=0) (xs:=[.int .i64 0,.int .i64 0,.slice none 0 0,.int .i64 0,.slice none 0 0,.slice none 0 0,.slice none 0 0,.int .i64 0,.slice none 0 0]) HR_2
 have hkf:KeepsL [w.heap.size+1] Z2 W':=by
  rw [hW'];exact setW_keeps [.int .i64 n.id,.int .i64 n.par,.slice a_k n.kids.length a_ck,.int .i64 n.next,.slice av RL.length cv,.slice a_o n.out.length a_co,.slice a_s n.seen.length a_cs,.int .i64 n.old,.slice (some ⟨g,0,none⟩) n.reqs.length a_cr] Z2 0
 have HAT:=hide (fun W'' (ho:Out c w W' W'')=>(show NodeAt W'' ⟨a_k,av,a_o,a_s,(some ⟨g,0,none⟩),a_ck,cv,a_co,a_cs,a_cr⟩ (setReqs (setPu n RL) (n.reqs.set i (relQ n.reqs[i]))) from by
  have kF:KC (newC w.heap.size 9 c) 9 Z2 W'':=(KC.keeps hkf (fun y hy=>by have:y=w.heap.size+1:=(by simpa using hy);rw [this];exact newC_new (by omega))).trans (KC.out H9 ho)
  have hpF:PursesAt W'' av RL:=by
   obtain⟨F,hk,hF⟩:=ho;exact GR.own_ati encP_length (own_keepsL (own_keepsL HRW2.2.1 hkf (fun y hy=>by have:y=w.heap.size+1:=(by simpa using hy);have:=obj_lt HRX;omega)) hk (fun y hy=>by have:=(hF y hy).1;have:=obj_lt HRX;omega))
  have hoF:=GR.own_ati (enc:=encSnt) (sz:=4) (l:=n.out) encSnt_length (kF.own HRW2.2.2.1 HCL.2.1 (by omega))
  have hrF:=GR.own_ati (enc:=encRq) (sz:=4) (l:=n.reqs.set i (relQ n.reqs[i])) (a:=(some ⟨g,0,none⟩)) (c:=a_cr) encRq_length (by
   rw [List.length_set]
   exact kF.own HRW2.2.2.2.2 HCL.2.2.2.2 (by omega))
  exact NodeAt.mk (n:=setReqs (setPu n RL) (n.reqs.set i (relQ n.reqs[i]))) (A:=⟨a_k,av,a_o,a_s,(some ⟨g,0,none⟩),a_ck,cv,a_co,a_cs,a_cr⟩) (kF.w HRW2.1 HCL.1 (by omega)).at hpF hoF (kF.seen HRW2.2.2.2.1 HCL.2.2.1 HCL.2.2.2.1 (by omega) (by omega)).at hrF))
 have HBF:Hid (Below B w W'):=HBZ2.trans (hkf.below (fun x hx=>by have:x=w.heap.size+1:=(by simpa using hx);omega) (Nat.le_trans hB HBZ2.size));have HKF:=hide (Apart.keeps (c:=c) HKZ2 HBZ2.size hkf (fun x hx=>by have:x=w.heap.size+1:=(by simpa using hx);omega));obtain⟨x0,x1,x2,x3,x4,x5,x6,x7,x8⟩:=nine e4;clear hW' e4 hkf;exact bodyPost_ret (v:= .tuple #[.agg #[.int .i64 n.id,.int .i64 n.par,.slice a_k n.kids.length a_ck,.int .i64 n.next,.slice av RL.length cv,.slice a_o n.out.length a_co,.slice a_s n.seen.length a_cs,.int .i64 n.old,.slice (some ⟨g,0,none⟩) n.reqs.length a_cr],.int .i64 0]) (by simp[results,Tryz.results60,go_sem,x0,x1,x2,x3,x4,x5,x6,x7,x8]) rfl ⟨⟨a_k,av,a_o,a_s,(some ⟨g,0,none⟩),a_ck,cv,a_co,a_cs,a_cr⟩,by rw [show ndv (setReqs (setPu n RL) (n.reqs.set i (relQ n.reqs[i]))) ⟨a_k,av,a_o,a_s,(some ⟨g,0,none⟩),a_ck,cv,a_co,a_cs,a_cr⟩= .agg #[.int .i64 n.id,.int .i64 n.par,.slice a_k n.kids.length a_ck,.int .i64 n.next,.slice av RL.length cv,.slice a_o n.out.length a_co,.slice a_s n.seen.length a_cs,.int .i64 n.old,.slice (some ⟨g,0,none⟩) n.reqs.length a_cr] from by simp[ndv,ndc,setReqs,setPu]],HAT,HBF,HKF⟩):P:=h
theorem Yb17(h:P:=by
 have hml:=obj_lt HM_2;have HRA:=hide (obj_step HR_2 (below_one W2 (.cells #[] 32)));have HNA:=hide (HN2.kc (k:=9) (KC.of_below (below_one W2 (.cells #[] 32))) (by omega));have HBA:=hide (HB2.trans ((below_one W2 (.cells #[] 32)).mono HB2.size));obtain⟨c0,c1,c2,c3,c4,c5,c6,c7,c8⟩:=nine HN_2;open Sb112 in exact Yb28):P:=h
theorem Sb67.Kb17(h:P:=by
 exact bodyPost_ret (v:= .tuple #[.agg #[.int .i64 n.id,.int .i64 n.par,.slice A.k n.kids.length A.ck,.int .i64 n.next,.slice A.p n.pu.length A.cp,.slice A.o n.out.length A.co,.slice A.s n.seen.length A.cs,.int .i64 n.old,.slice A.r n.reqs.length A.cr],.slice (some ⟨W2.heap.size,0,none⟩) 0 0,.int .i64 3]) (by simp[results,Tryz.results62,go_sem,x0,x1,x2,x3,x4,x5,x6,x7,x8]) rfl ⟨A,some ⟨W2.heap.size,0,none⟩,0,rfl,HAT,fun W'' _ i hi=>by simp at hi,HBF,HKF⟩):P:=h
theorem Sb68.Kb17(h:P:=by
 exact bodyPost_ret (v:= .tuple #[.agg #[.int .i64 n.id,.int .i64 n.par,.slice A.k n.kids.length A.ck,.int .i64 n.next,.slice A.p n.pu.length A.cp,.slice A.o n.out.length A.co,.slice A.s n.seen.length A.cs,.int .i64 n.old,.slice A.r n.reqs.length A.cr],.slice (some ⟨W2.heap.size,0,none⟩) 0 0,.int .i64 1]) (by simp[results,Tryz.results62,go_sem,x0,x1,x2,x3,x4,x5,x6,x7,x8]) rfl ⟨A,some ⟨W2.heap.size,0,none⟩,0,rfl,HAT,fun W'' _ i hi=>by simp at hi,HBF,HKF⟩):P:=h
theorem Yb18(h:P:=by
 open Sb231 in exact Yb66):P:=h
theorem Sb69.Kb18(h:P:=by
 have HBV:=hide (Below.trans HGg (hkq.below (B:=V.heap.size) (fun x hx=>by have:x=qf:=(by simpa using hx);omega) HGg.size));clear hkq d0 d1 d2 d3 d4 d5 d6 d7 d8 f0 f1 f2 f3 f4 f5 f6 f7 f8 hrl;have hwp:V.heap.size≤(GR.setW xf (qf) 0 [.int .i64 N1.id,.int .i64 N1.par,.slice A6.k N1.kids.length A6.ck,.int .i64 N1.next,.slice A6.p N1.pu.length A6.cp,.slice A6.o N1.out.length A6.co,.slice A6.s N1.seen.length A6.cs,.int .i64 N1.old,.slice A6.r N1.reqs.length A6.cr]).heap.size:=HBV.size;refine tk [10] ?_;open Sb173 in exact Yb43):P:=h
theorem Sb70.Kb18(h:P:=by
 have HBV:=hide (Below.trans HGg (hkq.below (B:=U.heap.size) (fun x hx=>by have:x=qf:=(by simpa using hx);omega) HGg.size));clear hkq d0 d1 d2 d3 d4 d5 d6 d7 d8 f0 f1 f2 f3 f4 f5 f6 f7 f8 hrl;have hwp:U.heap.size≤(GR.setW xf (qf) 0 [.int .i64 N1.id,.int .i64 N1.par,.slice A6.k N1.kids.length A6.ck,.int .i64 N1.next,.slice A6.p N1.pu.length A6.cp,.slice A6.o N1.out.length A6.co,.slice A6.s N1.seen.length A6.cs,.int .i64 N1.old,.slice A6.r N1.reqs.length A6.cr]).heap.size:=HBV.size;refine tk [11] ?_;open Sb172 in exact Yb43):P:=h
theorem Yb19(h:P:=by
 iterate 4 (refine tkB hwp (fun K hK=>?_);go_simp;first|refine hK _ ?_|(apply Exists.intro;refine⟨fun _=>?_,hK _ ?_⟩;rfl);clear hK K)
 refine tkN ?_;clear hwp;exact Kb19):P:=h
theorem Sb71.Kb19(h:P:=by
 have HGf:=HG52;have HQf:=HQ52;have HDf:=HD52;generalize x28.heap.size=qf at *;exact Zb5):P:=h
theorem Sb72.Kb19(h:P:=by
 have HGf:=HG46;have HQf:=HQ46;have HDf:=HD46;generalize x32.heap.size=qf at *;exact Zb5):P:=h
theorem Sb73.Kb19(h:P:=by
 have HGf:=HG42;have HQf:=HQ42;have HDf:=HD42;generalize x36.heap.size=qf at *;exact Zb5):P:=h
theorem Sb74.Kb19(h:P:=by
 refine wpMixB_one 9 rfl (by kernel_rfl) (by rfl) (by decide) (fun x39 hx39=>?_);have HG39:=hide (Ge.trans HG37 hx39);have HD39:=hide (Ge.trans HD37 hx39);go_simp;refine⟨(below_one x39 _).mono HG39.size,?_⟩;have hqd:x39.heap.size < x35.heap.size∨y37.heap.size≤x39.heap.size:= .inr HD39.size;have hqV:w2.heap.size≤x39.heap.size:=HG39.size;have HG40:=hide (Ge.trans HG39 (below_one x39 (.cells zc9 30)));have HD40:=hide (Ge.trans HD39 (below_one x39 (.cells zc9 30)));have HQ40:=hide (heap_alloc_new x39 (.cells zc9 30));clear hx39;have HGf:=HG40;have HQf:=HQ40;have HDf:=HD40;generalize x39.heap.size=qf at *;exact Zb5):P:=h
theorem Sb75.Kb19(h:P:=by
 refine wpMixB_one 8 rfl (by kernel_rfl) (by rfl) (by decide) (fun x61 hx61=>?_);have HG61:=hide (Ge.trans HG59 hx61);have HD61:=hide (Ge.trans HD59 hx61);go_simp;refine⟨(below_one x61 _).mono HG61.size,?_⟩;have hqd:x61.heap.size < x57.heap.size∨y59.heap.size≤x61.heap.size:= .inr HD61.size;have hqV:V.heap.size≤x61.heap.size:=HG61.size;have HG62:=hide (Ge.trans HG61 (below_one x61 (.cells zc9 30)));have HD62:=hide (Ge.trans HD61 (below_one x61 (.cells zc9 30)));have HQ62:=hide (heap_alloc_new x61 (.cells zc9 30));clear hx61;have HGf:=HG62;have HQf:=HQ62;have HDf:=HD62;generalize x61.heap.size=qf at *;exact Zb10):P:=h
theorem Sb76.Kb19(h:P:=by
 have HGf:=HG64;have HQf:=HQ64;have HDf:=HD64;generalize x58.heap.size=qf at *;exact Zb10):P:=h
theorem Sb77.Kb19(h:P:=by
 have HGf:=HG68;have HQf:=HQ68;have HDf:=HD68;generalize x54.heap.size=qf at *;exact Zb10):P:=h
theorem Sb78.Kb19(h:P:=by
 refine wpMixB_one 9 rfl (by kernel_rfl) (by rfl) (by decide) (fun x81 hx81=>?_);have HG81:=hide (Ge.trans HG79 hx81);have HD81:=hide (Ge.trans HD79 hx81);go_simp;refine⟨(below_one x81 _).mono HG81.size,?_⟩;have hqd:x81.heap.size < x77.heap.size∨y79.heap.size≤x81.heap.size:= .inr HD81.size;have hqV:U.heap.size≤x81.heap.size:=HG81.size;have HG82:=hide (Ge.trans HG81 (below_one x81 (.cells zc9 30)));have HD82:=hide (Ge.trans HD81 (below_one x81 (.cells zc9 30)));have HQ82:=hide (heap_alloc_new x81 (.cells zc9 30));clear hx81;have HGf:=HG82;have HQf:=HQ82;have HDf:=HD82;generalize x81.heap.size=qf at *;exact Zb4):P:=h
theorem Sb79.Kb19(h:P:=by
 have HGf:=HG84;have HQf:=HQ84;have HDf:=HD84;generalize x78.heap.size=qf at *;exact Zb4):P:=h
theorem Sb80.Kb19(h:P:=by
 have HGf:=HG88;have HQf:=HQ88;have HDf:=HD88;generalize x74.heap.size=qf at *;exact Zb4):P:=h
theorem Sb81.Kb19(h:P:=by
 have HGf:=HG94;have HQf:=HQ94;have HDf:=HD94;generalize x70.heap.size=qf at *;exact Zb4):P:=h
theorem Yb20(h:P:=by
 have hm1:¬mI < lowS s0 mL:=fun h=>by unfold hasS at hhas;rw [decide_eq_true h] at hhas;simp at hhas
 have hd:decide (mI < lowS s0 mL)=false:=decide_eq_false hm1;have hb:hasB (idsS s0 mL) mI=false:=by unfold hasS at hhas;rw [hd] at hhas;simpa using hhas
 rw [hb] at HHAS;obtain⟨c0,c1,c2,c3,c4,c5,c6,c7,c8⟩:=nine HN_7;have hnl:=obj_lt HN_7;go_wp2_with (go_at_call 124;refine(HHAS _ HIW7.at).mono ?_;rintro e wh ⟨rfl,rfl⟩)
 refine(HSP W7 HNW7.at.p).mono ?_;rintro e W8 ⟨v8,rfl,hne8,hrow8,hb8⟩;obtain⟨av,cv,rfl,_⟩:=GR.own_at (enc:=encP) (sz:=4) encP_length hrow8;have HRW:=hide (Lies.own encP_length hrow8);have HA_8:=hide (obj_step HA_7 hb8);have HN_8:=hide (obj_step HN_7 hb8);have HM_8:=hide (obj_step HM_7 hb8);have HR_8:=hide (obj_step HR_7 hb8);have HS_8:=hide (obj_step HS_7 hb8);have HIW8:=hide (HIW7.below hb8);have HNW8:=hide (HNW7.kc (k:=9) (KC.of_below hb8) (by omega));have HBB8:=hide (HBB7.trans (hb8.mono (by omega)));have HKA8:=hide (HKA7.step (by omega) hb8);have hz8:W7.heap.size≤W8.heap.size:=hb8.size;clear hb8 hne8 hrow8 HSP HHAS c0 c1 c2 c3 c4 c5 c6 c7 c8 m0 m1 m2 m3 m4 m5 m6 s70 s71 s72 hnl hml hsl7 HA_7 HN_7 HM_7 HR_7 HS_7 HIW7 HNW7 HBB7 HKA7;exact Kb20):P:=h
theorem Sb82.Kb20(h:P:=by
 have hb9:=below_one W8 (.cells #[] 32);have HN_9:=hide (obj_step HN_8 hb9);have HR_9:=hide (obj_step HR_8 hb9);have HNW9:=hide (HNW8.kc (k:=9) (KC.of_below hb9) (by omega));have HBB9:=hide (HBB8.trans (hb9.mono (by omega)));have HKA9:=hide (HKA8.step (by omega) hb9);have hz9:(W8.alloc (.cells #[] 32)).heap.size=W8.heap.size+1:=by simp
 clear hb9;obtain⟨c0,c1,c2,c3,c4,c5,c6,c7,c8⟩:=nine HN_8;obtain⟨d0,d1,d2,d3,d4,d5,d6,d7,d8⟩:=nine HR_9;have f0:=obj_free HR_9 0;have f1:=obj_free HR_9 1;have f2:=obj_free HR_9 2;have f3:=obj_free HR_9 3;have f4:=obj_free HR_9 4;have f5:=obj_free HR_9 5;have f6:=obj_free HR_9 6;have f7:=obj_free HR_9 7;have f8:=obj_free HR_9 8;have hnl:=obj_lt HN_8;have hrl:=obj_lt HR_9;cases ok
 ·exact Zb15
 ·have h40:40≤(idsS s0 mL).length:=by
   rcases hgn with h|h
   ·cases h
   ·exact h
  have hd40:decide ((40:Int)≤((idsS s0 mL).length:Int))=true:=decide_eq_true (by omega);exact Zb15):P:=h
theorem Sb83.Kb20(h:P:=by
 obtain⟨c0,c1,c2,c3,c4,c5,c6,c7,c8⟩:=nine HN_8;have cf:=obj_free HN_8 4;have hnl:=obj_lt HN_8;have hd40:decide ((40:Int)≤((idsS s0 mL).length:Int))=false:=decide_eq_false (by omega);go_upto_region 22 with fail;refine wp_at (fun W9 hW9=>?_);have hnb:w.heap.size≠gi:=by omega
 have hk9:KeepsL [w.heap.size] W8 W9:=by rw [hW9];exact KeepsL.set _
 have HN_9:Hid (W9.heap[w.heap.size]?=some (.cells #[.int .i64 n.id,.int .i64 n.par,.slice a_k n.kids.length a_ck,.int .i64 n.next,.slice av RL.length cv,.slice a_o n.out.length a_co,.slice (some ⟨G.s,0,none⟩) n.seen.length a_cs,.int .i64 n.old,.slice a_r n.reqs.length a_cr] 30 (0,0))):=by rw [hW9];exact blk_setO HN_8 4 _
 have HM_9:=hide (hk9.obj HM_8 (fun hx=>by simp at hx));have HR_9:=hide (hk9.obj HR_8 (fun hx=>by simp at hx));have HS_9:=hide (hk9.obj HS_8 (fun hx=>by simp at hx;omega));have HA_9:=hide (hk9.obj HA_8 (fun hx=>by simp at hx;omega));have HIW9:=hide (HIW8.keeps hk9 (fun x hx hm=>by have h1:=(of_fp hx).1;simp at hm;omega));have HNW9:=hide (HNW8.kc (k:=9) (KC.keeps hk9 (fun x hx=>by have:x=w.heap.size:=(by simpa using hx);rw [this];exact HCN _ (Nat.le_refl _) hnb)) (by omega));have HBB9:=hide (HBB8.trans (hk9.below (B:=B) (fun x hx=>by simp at hx;omega) (by omega)));have HKA9:=hide (Apart.keeps (c:=c) HKA8 (by omega) hk9 (fun x hx=>by have:x=w.heap.size:=(by simpa using hx);omega));have HP9:=hide (HRW.keeps hk9 (fun x hx=>by simp at hx;omega));have hz9:W8.heap.size≤W9.heap.size:=hk9.size;clear hW9 hk9 HRW HN_8 HM_8 HR_8 HS_8 HA_8 HIW8 HNW8 HBB8 HKA8 c0 c1 c2 c3 c4 c5 c6 c7 c8 cf hnl;obtain⟨m0,m1,m2,m3,m4,m5,m6⟩:=sevenC HM_9;have hml:=obj_lt HM_9;obtain⟨pos,hpos⟩:∃pos,((idsS s0 mL).takeWhile (fun y=>decide (y < mI))).length=pos:=⟨_,rfl⟩;have HIN:=hide (show insI (idsS s0 mL) mI=(idsS s0 mL).take pos++([mI]++(idsS s0 mL).drop pos) by rw [←hpos];exact insI_pos _ _);have hpl:pos≤(idsS s0 mL).length:=by rw [←hpos];exact tw_le _ _
 have HPO:=hide hpos;clear hpos;go_upto_block 4 with fail;go_cut [14] from 15 (fun j wx=>j= .int .i64 (pos:Nat)∧Ge W9 wx)
 case first=>
  go_wp2_with fail;go_loopw [14] (fun j wr=>∃x q:Nat,x≤(idsS s0 mL).length∧j= .int .i64 x∧(∀y (hy:y < (idsS s0 mL).length),y < x→(idsS s0 mL)[y] < mI)∧wr=W9.drewN q) (fun j _=>(idsS s0 mL).length - (intOf j).toNat)
  case atStart=>exact⟨0,0,Nat.zero_le _,rfl,fun y hy h=>(by omega),rfl⟩
  case round=>
   obtain⟨x,q,hx,rfl,hlo,rfl⟩:=hrel;have HLO:=hide hlo;clear hlo;by_cases hlt:x < (idsS s0 mL).length
   ·obtain⟨_,hgb,hcell⟩:=(unhide HIW9) x hlt;open Sb312 in exact Yb103
   ·have hje:x=(idsS s0 mL).length:=by omega
    subst hje;have HJ:=hide (tw_len (l:=idsS s0 mL) (x:=mI) (Nat.le_refl _) HLO (fun h=>absurd h (Nat.lt_irrefl _)));have hcmp':decide (((idsS s0 mL).length:Int) < ((idsS s0 mL).length:Int))=false:=by simp
    exact Zb34
 case rest=>
  obtain⟨rfl,hge⟩:=hcut;clear m0 m1 m2 m3 m4 m5 m6 hml;go_upto_region 25 with fail;refine wp_at (fun W10 hW10=>?_);subst hW10;have HN_10:=hide (obj_step HN_9 hge);have HM_10:=hide (obj_step HM_9 hge);have HR_10:=hide (obj_step HR_9 hge);have HS_10:=hide (obj_step HS_9 hge);have HA_10:=hide (obj_step HA_9 hge);have HIW10:=hide (HIW9.below hge);have HNW10:=hide (HNW9.kc (k:=9) (KC.of_below hge) (by omega));have HBB10:=hide (HBB9.trans (hge.mono (by omega)));have HKA10:=hide (HKA9.step (by omega) hge);have HP10:=hide (HP9.below hge);have hz10:W9.heap.size≤W10.heap.size:=hge.size;clear hge HN_9 HM_9 HR_9 HS_9 HA_9 HIW9 HNW9 HBB9 HKA9 HP9;have hsl10:=obj_lt HS_10;have hgil:∀x∈fp gi (idsS s0 mL),x < W10.heap.size:=W_lt HIW10;go_cut [14] from 15 (fun _ wx=>∃g2 cq2,W10.heap.size≤g2∧wx.ownsRow W10.heap.size 3 1 (.slice (some ⟨g2,0,none⟩) ((idsS s0 mL).length+1) cq2) ((idsS s0 mL).length+1) (GR.flat encNum (insI (idsS s0 mL) mI))∧wx.heap[sb]?=some (.cells #[.int .i64 mF,.int .i64 (lowS s0 mL),.slice (some ⟨g2,0,none⟩) ((idsS s0 mL).length+1) cq2] 81 (0,0))∧KeepsL [sb] W10 wx)
  case first=>
   obtain⟨m0,m1,m2,m3,m4,m5,m6⟩:=sevenC HM_10;have hml:=obj_lt HM_10;have hwb:W10.heap.size≤W10.heap.size:=Nat.le_refl _;have y3:=cell_und hml m3;clear m0 m1 m2 m3 m4 m5 m6;have hpc:pos≤ccp:=by omega
   have HTL:=hide (show IntsAt W10 (some ⟨gi,0,none⟩) ((idsS s0 mL).take pos) from GR.At.take HIW10.at pos)
   obtain⟨AD,hAD,hDR⟩:∃AD,(if ccp=pos then some (⟨gi,0,none⟩:Addr) else some ⟨gi,pos,none⟩)=AD∧IntsAt W10 AD ((idsS s0 mL).drop pos):=by
    by_cases hcz:ccp=pos
    ·refine⟨_,rfl,?_⟩;rw [show(idsS s0 mL).drop pos=[] by apply List.drop_eq_nil_of_le;omega];exact GR.at_nil _ _
    ·refine⟨_,rfl,?_⟩;rw [if_neg hcz];have h:=GR.At.drop HIW10.at pos;rw [Nat.mul_one] at h;exact h
   have HDR:=hide hDR;clear hDR;refine wp_region_mixB 14 W10.heap.size (by kernel_rfl) ?_;show wpMixB _ _ _ _ _ _ 15 (Array.replicate 15 false) _ _
   refine tk [1,2,3,5,6,9,10,11] ?_;iterate 8 (refine tkB hwb (fun K hK=>?_);go_simp;first|refine hK _ ?_|(apply Exists.intro;refine⟨fun _=>?_,hK _ ?_⟩;rfl);clear hK K)
   refine tkN ?_;clear y3;have hlt1:((idsS s0 mL).take pos).length=pos:=by rw [List.length_take];omega
   have hld1:((idsS s0 mL).drop pos).length=(idsS s0 mL).length - pos:=by rw [List.length_drop]
   have hL1:((idsS s0 mL).take pos++[mI]).length=pos+1:=by rw [List.length_append,hlt1];rfl
   have hL2:((idsS s0 mL).take pos++[mI]++(idsS s0 mL).drop pos).length=pos+1+((idsS s0 mL).length - pos):=by rw [List.length_append,hL1,hld1]
   have HG0:=hide (Below.refl W10.heap.size W10);refine wpMixB_two 0 7 rfl rfl (by kernel_rfl) (by rfl) (by rfl) (by decide) (by decide) (fun x1 hx1=>?_) (fun x1 hx1=>?_)
   ·open Sb200 in exact Yb55
   ·open Sb199 in exact Yb55
  case rest=>
   obtain⟨g2,cq2,hg2,hown2,hs11,hk11⟩:=hcut;have HS_11:=hide hs11;have HN_11:=hide (hk11.obj HN_10 (fun hx=>by simp at hx;omega));have HR_11:=hide (hk11.obj HR_10 (fun hx=>by simp at hx;omega));have HA_11:=hide (hk11.obj HA_10 (fun hx=>by simp at hx;omega));have HNW11:=hide (HNW10.kc (k:=9) (KC.keeps hk11 (fun x hx=>by have:x=sb:=(by simpa using hx);rw [this];exact HCN _ (by omega) (by omega))) (by omega));have HBB11:=hide (HBB10.trans (hk11.below (B:=B) (fun x hx=>by simp at hx;omega) (by omega)));have HKA11:=hide (Apart.keeps (c:=c) HKA10 (by omega) hk11 (fun x hx=>by have:x=sb:=(by simpa using hx);omega));have HP11:=hide (HP10.keeps hk11 (fun x hx=>by simp at hx;omega));have hz11:W10.heap.size≤wc.heap.size:=hk11.size;have hIns:(insI (idsS s0 mL) mI).length=(idsS s0 mL).length+1:=by rw [unhide HIN];simp;omega
   have HW2:=hide (W_own (l:=insI (idsS s0 mL) mI) encNum_length (by rw [hIns];exact hown2));have hg2l:g2 < wc.heap.size:=(hown2.lt g2 rfl).2;have hne3:g2≠gi:=by omega
   have hi11:i < (n.seen.set i ⟨mF,lowS s0 mL,idsS s0 mL⟩).length:=by rw [List.length_set];exact hi
   have HNP:=hide (HNW11.seenPut i hi11 ⟨mF,lowS s0 mL,insI (idsS s0 mL) mI⟩ (some ⟨g2,0,none⟩) cq2 g2 HW2 (fun x hx=>by rw [(of_fp hx).1];exact HCN _ (by omega) hne3));obtain⟨T,hT,hlT,hrT⟩:=HNW11.s;obtain⟨_,_,hcT⟩:=hT i (by rw [hlT];exact hi11);open Sb206 in exact Yb58):P:=h
theorem Yb21(h:P:=by
 have HOP:=hide (fun W=>specOpOk ⟨4,no,k,nn,⟨mK,mF,mT,mI,mL,mk,mN⟩⟩ W (by unfold maxLen;dsimp only;omega) (by unfold maxLen;dsimp only;omega));open Sb107 in exact Yb26):P:=h
theorem Sb84.Kb21(h:P:=by
 exact Zb9):P:=h
theorem Sb85.Kb21(h:P:=by
 exact Zb11):P:=h
theorem Yb22(h:P:=by
 open Sb329 in exact Yb109):P:=h
theorem Sb86.Kb22(h:P:=by
 obtain⟨c0,c1,c2,c3,c4,c5,c6,c7,c8⟩:=nine HN_1;open Sb132 in exact Yb31):P:=h
theorem Sb87.Kb22(h:P:=by
 obtain⟨g,e0,hBg,hgb⟩:∃g,a_r=some ⟨g,0,none⟩∧B≤g∧(∀x,(Value.slice a_r n.reqs.length a_cr).ownBlock=some x↔x=g):=by
  exact Zb39
 obtain⟨g',off,e0',hg,q0,q1,q2,q3⟩:=ReqAt.four HN1.at.r i hi;rw [e0] at e0';simp only[Option.some.injEq,Addr.mk.injEq,and_true] at e0';obtain⟨rfl,rfl⟩:=e0';rw [Nat.zero_add] at q0 q1 q2 q3;rw [unhide HST] at q3;obtain⟨c0,c1,c2,c3,c4,c5,c6,c7,c8⟩:=nine HN_1;open Sb131 in exact Yb31):P:=h
theorem Sb88.Kb22(h:P:=by
 obtain⟨g,off,e0,hg,q0,q1,q2,q3⟩:=ReqAt.four HN1.at.r i hi;rw [unhide HST] at q3;obtain⟨c0,c1,c2,c3,c4,c5,c6,c7,c8⟩:=nine HN_1;open Sb130 in exact Yb31):P:=h
theorem Yb23(h:P:=by
 have hb7:Below Z6.heap.size Z6 Z7:=by
  rw [hZ];exact below_one Z6 _
 have HN_7:=hide (obj_step HN_6 hb7);have HR_7:=hide (obj_step HR_6 hb7);have HN7:=hide (HN6.kc (k:=9) (KC.of_below hb7) (by omega));have HP7:=hide (GR.own_below HP6 hb7);have HB7:=hide (HB6.trans (hb7.mono (Nat.le_trans hB HB6.size)));have HK7:=hide (HK6.step HB6.size hb7);have hsb:w.heap.size+1 < Z6.heap.size:=obj_lt HR_6;generalize Z6.heap.size=sb at *;clear hZ hb7 HN_6 HR_6 HN6 HP6 HB6 HK6 c3n hn6;have c3n:=(nine HN_7).2.2.2.1;have f3n:=obj_free HN_7 3;have hn7:=obj_lt HN_7;go_upto_region 9 with fail;refine wp_at (fun Z8 hZ=>?_);have HN_8:Hid (Z8.heap[w.heap.size]?=some (.cells #[.int .i64 n.id,.int .i64 n.par,.slice a_k n.kids.length a_ck,.int .i64 (n.next+1),.slice av RL.length cv,.slice a_o n.out.length a_co,.slice a_s n.seen.length a_cs,.int .i64 n.old,.slice a_r n.reqs.length a_cr] 30 (0,0))):=by rw [hZ];exact setN9 HN_7
 have HR_8:Hid (Z8.heap[w.heap.size+1]?=some (.cells zc9 30 (0,0))):=by rw [hZ];exact oth_set HR_7 (by omega)
 exact Kb23):P:=h
theorem Sb89.Kb23(h:P:=by
 have HS8:Hid (Z8.heap[sb]?=some (.cells #[.int .i64 n.next,.int .i64 dst,.string key,.int .i64 most] 79 (0,0))):=by rw [hZ];exact oth_set HS7 (by omega)
 open Sb178 in exact Yb45):P:=h
theorem Sb90.Kb23(h:P:=by
 have HS8:Hid (Z8.heap[sb]?=some (.cells #[.int .i64 n.next,.int .i64 dst,.string key,.int .i64 pf] 79 (0,0))):=by rw [hZ];exact oth_set HS7 (by omega)
 open Sb177 in exact Yb45):P:=h
theorem Yb24(h:P:=by
 obtain⟨rfl,hge⟩:=hcut;have HN_1:=hide (obj_step HN_0 hge);have HM_1:=hide (obj_step HM_0 hge);have HR_1:=hide (obj_step HR_0 hge);have HB1:=hide (HB0.trans (hge.mono HB0.size));have HNO1:=hide (HNO0.kc (k:=9) (KC.of_below hge) (by omega));have HWI1:=hide (HWI.below hge);have hz1:w.heap.size+3≤wc.heap.size:=by have:=obj_lt HR_1;omega
 obtain⟨t0,t1,t2⟩:=unhide HT;have u0:=(hge.cell (p:=⟨G.s,i*3,none⟩) hgs0).trans t0;have u1:=(hge.cell (p:=⟨G.s,i*3+1,none⟩) hgs0).trans t1;have u2:=(hge.cell (p:=⟨G.s,i*3+2,none⟩) hgs0).trans t2;clear t0 t1 t2 hge c0 c1 c2 c3 c4 c5 c6 c7 c8 m0 m1 m2 m3 m4 m5 m6 hnl hml HN_0 HM_0 HR_0 HB0 HNO0 HWI HT;obtain⟨c0,c1,c2,c3,c4,c5,c6,c7,c8⟩:=nine HN_1;have hnl:=obj_lt HN_1;have hisl:(i:Int) < (n.seen.length:Int):=by omega
 go_upto_region 5 with fail;refine wp_at (fun W2 hW2=>?_);have hb2:=below_one wc (.cells #[.int .i64 mF,.int .i64 s0.l,.slice bi s0.ids.length ci] 81);have hs2:=heap_alloc_new wc (.cells #[.int .i64 mF,.int .i64 s0.l,.slice bi s0.ids.length ci] 81);rw [←hW2] at hb2 hs2;obtain⟨sb,hsb⟩:∃sb,wc.heap.size=sb:=⟨_,rfl⟩;rw [hsb] at hs2 hz1;have HS_2:=hide hs2;have HN_2:=hide (obj_step HN_1 hb2);have HM_2:=hide (obj_step HM_1 hb2);have HR_2:=hide (obj_step HR_1 hb2);have HB2:=hide (HB1.trans (hb2.mono HB1.size));have HNO2:=hide (HNO1.kc (k:=9) (KC.of_below hb2) (by omega));have HWI2:=hide (HWI1.below hb2);have hilt:∀x∈fp (G.i i) s0.ids,x < sb:=fun x hx=>by rw [←hsb];exact W_lt HWI1 x hx
 rw [hsb] at *;clear hW2 hb2 hs2 u0 u1 u2 c0 c1 c2 c3 c4 c5 c6 c7 c8 hnl HN_1 HM_1 HR_1 HB1 HNO1 HWI1;obtain⟨m0,m1,m2,m3,m4,m5,m6⟩:=sevenC HM_2;obtain⟨s00,s01,s02⟩:=threeC HS_2;have sf:=obj_free HS_2 1;have hml:=obj_lt HM_2;have hsl2:=obj_lt HS_2;go_upto_if 35 with fail;exact Kb24):P:=h
theorem Sb91.Kb24(h:P:=by
 go_cut [8] from 15 (fun p wx=>p= .pointer (some ⟨sb,0,none⟩)∧wx.heap[sb]?=some (.cells #[.int .i64 mF,.int .i64 (lowS s0 mL),.slice bi s0.ids.length ci] 81 (0,0))∧KeepsL [sb] W2 wx)
 case first=>
  exact Zb22
 case rest=>
  open Sb148 in exact Yb36):P:=h
theorem Sb92.Kb24(h:P:=by
 go_cut [8] from 15 (fun p wx=>p= .pointer (some ⟨sb,0,none⟩)∧wx.heap[sb]?=some (.cells #[.int .i64 mF,.int .i64 (lowS s0 mL),.slice bi s0.ids.length ci] 81 (0,0))∧KeepsL [sb] W2 wx)
 case first=>
  exact Zb22
 case rest=>
  open Sb147 in exact Yb36):P:=h
theorem Sb93.Kb24(h:P:=by
 go_cut [8] from 15 (fun p wx=>p= .pointer (some ⟨sb,0,none⟩)∧wx.heap[sb]?=some (.cells #[.int .i64 mF,.int .i64 (lowS s0 mL),.slice bi s0.ids.length ci] 81 (0,0))∧KeepsL [sb] W2 wx)
 case first=>
  exact Zb22
 case rest=>
  open Sb146 in exact Yb36):P:=h
theorem Yb25(h:P:=by
 have y0:=cell_regrown c0;have y1:=cell_regrown c1;have y2:=cell_regrown c2;have y3:=cell_regrown c3;have y4:=cell_regrown c4;have y5:=cell_regrown c5;have y6:=cell_regrown c6;have y7:=cell_regrown c7;have y8:=cell_regrown c8;exact Kb25):P:=h
theorem Sb94.Kb25(h:P:=by
 have hnl:=obj_lt HN_6;have hnr:=obj_lt HR_6;have hnq:=obj_lt HQ_6;clear c0 c1 c2 c3 c4 c5 c6 c7 c8;go_cut [5] from 11 (fun cd wx=>cd= .int .i64 0∧wx.heap[w.heap.size+2]?=some (.cells #[.int .i64 n.id,.int .i64 n.par,.slice a_k n.kids.length a_ck,.int .i64 n.next,.slice av RL.length cv,.slice a_o n.out.length a_co,.slice a_s n.seen.length a_cs,.int .i64 n.old,.slice (some ⟨gv,0,none⟩) (n.reqs.length+1) vc] 30 (0,0))∧KeepsL [w.heap.size+2] wc wx)
 case first=>
  open Sb184 in exact Yb47
 case rest=>
  open Sb335 in exact Yb112):P:=h
theorem Sb95.Kb25(h:P:=by
 have hnl:=obj_lt HN_9;have hnr:=obj_lt HR_9;have hnq:=obj_lt HQ_9;clear c0 c1 c2 c3 c4 c5 c6 c7 c8;go_cut [5] from 11 (fun cd wx=>cd= .int .i64 0∧wx.heap[w.heap.size+2]?=some (.cells #[.int .i64 n.id,.int .i64 n.par,.slice a_k n.kids.length a_ck,.int .i64 n.next,.slice av RL.length cv,.slice a_o n.out.length a_co,.slice a_s n.seen.length a_cs,.int .i64 IH.no,.slice (some ⟨g8,0,none⟩) n.reqs.length c8'] 30 (0,0))∧KeepsL [w.heap.size+2] W9 wx)
 case first=>
  open Sb183 in exact Yb47
 case rest=>
  open Sb337 in exact Yb113):P:=h
theorem Sb96.Kb25(h:P:=by
 have hnl:=obj_lt HN_6;have hnr:=obj_lt HR_6;have hnq:=obj_lt HQ_6;clear c0 c1 c2 c3 c4 c5 c6 c7 c8;go_cut [5] from 11 (fun cd wx=>cd= .int .i64 1∧wx.heap[w.heap.size+2]?=some (.cells #[.int .i64 n.id,.int .i64 n.par,.slice a_k n.kids.length a_ck,.int .i64 n.next,.slice (some ⟨gp,0,none⟩) n.pu.length a_cp,.slice a_o n.out.length a_co,.slice a_s n.seen.length a_cs,.int .i64 n.old,.slice (some ⟨gv,0,none⟩) (n.reqs.length+1) vc] 30 (0,0))∧KeepsL [w.heap.size+2] wc wx)
 case first=>
  open Sb182 in exact Yb47
 case rest=>
  open Sb334 in exact Yb112):P:=h
theorem Sb97.Kb25(h:P:=by
 have hnl:=obj_lt HN_9;have hnr:=obj_lt HR_9;have hnq:=obj_lt HQ_9;clear c0 c1 c2 c3 c4 c5 c6 c7 c8;go_cut [5] from 11 (fun cd wx=>cd= .int .i64 1∧wx.heap[w.heap.size+2]?=some (.cells #[.int .i64 n.id,.int .i64 n.par,.slice a_k n.kids.length a_ck,.int .i64 n.next,.slice (some ⟨gp,0,none⟩) n.pu.length a_cp,.slice a_o n.out.length a_co,.slice a_s n.seen.length a_cs,.int .i64 IH.no,.slice (some ⟨g8,0,none⟩) n.reqs.length c8'] 30 (0,0))∧KeepsL [w.heap.size+2] W9 wx)
 case first=>
  open Sb181 in exact Yb47
 case rest=>
  open Sb336 in exact Yb113):P:=h
theorem Sb98.Kb25(h:P:=by
 clear c0 c1 c2 c3 c4 c5 c6 c7 c8;refine wp_region_mixE 3 (by kernel_rfl) ?_;show wpMixE _ _ _ _ _ 6 (Array.replicate 6 false) _ _
 refine tk [0,1] ?_;iterate 2 (refine tkE (fun K hK=>?_);go_simp;refine hK _ ?_;clear hK K)
 refine tkN ?_;clear y0 y1 y2 y3 y4 y5 y6 y7 y8;refine wpMixE_one 2 rfl (by kernel_rfl) (by rfl) (fun x hx=>?_);go_simp;refine(HCL x A1 (HNO5.at.below hx)).mono ?_;rintro e y ⟨ma,mc,rfl,g,hmw,hml,hby⟩;refine⟨hby,?_⟩;have HY:=hide (Ge.trans hx hby);have hxs:=hx.size;clear hx hby HCL HNX HOX p0 p1 p2 p3 p4 p5 p6 p7 p8 p9 p10 hnl hol;refine wpMixE_leave (by kernel_rfl) (fun z hz=>?_);have HZ:=hide (Ge.trans HY hz);have HRZ:=hide (obj_step HRX HZ);have HBZ:=hide (HBX.trans (HZ.mono HBX.size));have HNZ:=hide (HNO5.kc (k:=9) (KC.of_below HZ) (by omega));have hcol:∀x'∈fp g L1,(fun q=>if q≤w.heap.size+2 then 9 else 0) x'=0:=fun x' hx'=>if_neg (by have:=(hml x' hx').1;have:=obj_lt HRX;omega)
 have HMW:=hide ((KC.of_below (c:=fun q=>if q≤w.heap.size+2 then 9 else 0) (k:=9) hz).w hmw hcol (by omega));have HCOL:=hide hcol;clear hz hcol hmw hml HY HZ HNO5 HBX HRX;obtain⟨d0,d1,d2,d3,d4,d5,d6,d7,d8⟩:=nine HRZ;have f0:=obj_free HRZ 0;have f1:=obj_free HRZ 1;have f2:=obj_free HRZ 2;have f3:=obj_free HRZ 3;have f4:=obj_free HRZ 4;have f5:=obj_free HRZ 5;have f6:=obj_free HRZ 6;have f7:=obj_free HRZ 7;have f8:=obj_free HRZ 8;have hrl:=obj_lt HRZ;refine wpAny_one 3 rfl (by kernel_rfl) (by rfl) ?_;go_simp;refine wpAny_one 4 rfl (by kernel_rfl) (by rfl) ?_;go_simp;refine wpAny_one 5 rfl (by kernel_rfl) (by rfl) ?_;go_simp;refine wpAny_done (by kernel_rfl) ?_;go_simp;clear d0 d1 d2 d3 d4 d5 d6 d7 d8 f0 f1 f2 f3 f4 f5 f6 f7 f8 hrl;go_wp2_with fail;refine bodyPost_atN (fun W' hW'=>?_)
 have e4:W'.heap[w.heap.size+2]?=some (.cells #[.int .i64 n.id,.int .i64 n.par,.slice A1.k n.kids.length A1.ck,.int .i64 n.next,.slice A1.p n.pu.length A1.cp,.slice A1.o n.out.length A1.co,.slice A1.s n.seen.length A1.cs,.int .i64 n.old,.slice A1.r n.reqs.length A1.cr] 30 (0,0)):=by
  rw [hW'];exact GR.setW_blk [.int .i64 n.id,.int .i64 n.par,.slice A1.k n.kids.length A1.ck,.int .i64 n.next,.slice A1.p n.pu.length A1.cp,.slice A1.o n.out.length A1.co,.slice A1.s n.seen.length A1.cs,.int .i64 n.old,.slice A1.r n.reqs.length A1.cr] (o:=0) (xs:=[.int .i64 0,.int .i64 0,.slice none 0 0,.int .i64 0,.slice none 0 0,.slice none 0 0,.slice none 0 0,.int .i64 0,.slice none 0 0]) HRZ
 have hkf:KeepsL [w.heap.size+2] z W':=by
  rw [hW'];exact setW_keeps [.int .i64 n.id,.int .i64 n.par,.slice A1.k n.kids.length A1.ck,.int .i64 n.next,.slice A1.p n.pu.length A1.cp,.slice A1.o n.out.length A1.co,.slice A1.s n.seen.length A1.cs,.int .i64 n.old,.slice A1.r n.reqs.length A1.cr] z 0
 have HMT:=hide ((KC.keeps (c:=fun q=>if q≤w.heap.size+2 then 9 else 0) (k:=9) hkf (fun x hx=>if_pos (by have:x=w.heap.size+2:=(by simpa using hx);omega))).w HMW HCOL (by omega));have HAT:=hide (fun W'' (ho:Aft w W' W'')=>((HNZ.kc (k:=9) (KC.keeps hkf (fun x hx=>by have:x=w.heap.size+2:=(by simpa using hx);rw [this];exact HC2)) (by omega)).kc (k:=9) (ho.kc (fun x hx=>HC9 x (by omega))) (by omega)).at);have HBF:Hid (Below w.heap.size w W'):=HBZ.trans (hkf.below (fun x hx=>by have:x=w.heap.size+2:=(by simpa using hx);omega) HBZ.size);obtain⟨x0,x1,x2,x3,x4,x5,x6,x7,x8⟩:=nine e4;clear hW' e4 hkf;exact bodyPost_ret (v:= .tuple #[.agg #[.int .i64 n.id,.int .i64 n.par,.slice A1.k n.kids.length A1.ck,.int .i64 n.next,.slice A1.p n.pu.length A1.cp,.slice A1.o n.out.length A1.co,.slice A1.s n.seen.length A1.cs,.int .i64 n.old,.slice A1.r n.reqs.length A1.cr],.slice ma L1.length mc,.int .i64 0]) (by simp[results,Tryz.results19,go_sem,x0,x1,x2,x3,x4,x5,x6,x7,x8]) rfl ⟨A1,ma,⟨mc,rfl⟩,HAT,fun W'' ho=>((ho.kc (c:=fun q=>if q≤w.heap.size+2 then 9 else 0) (k:=9) (fun x hx=>if_pos (by omega))).w HMT HCOL (by omega)).at,HBF⟩):P:=h
theorem Sb99.Kb25(h:P:=by
 have x0:=cell_regrown s0;have x1:=cell_regrown s1;have x2:=cell_regrown s2;have x3:=cell_regrown s3;have hnz:=obj_lt HN_Z;have hsz:=obj_lt HS_Z;clear c0 c1 c2 c3 c4 c5 c6 c7 c8 s0 s1 s2 s3;refine wp_region_mixF 5 (by kernel_rfl) ?_;show wpMixF _ _ _ _ _ 8 (Array.replicate 8 false) _ _
 refine tk [0,1,2] ?_;iterate 3 (refine tkF (fun K hK=>?_);go_simp;refine hK _ ?_;clear hK K)
 refine tkN ?_;clear y0 y1 y2 y3 y4 y5 y6 y7 y8 x0 x1 x2 x3 hnz hsz HN_Z HS_Z;refine wpMixF_one 3 rfl (by kernel_rfl) (by rfl) (by decide) (fun x hx=>?_);go_simp;refine(HPY x hx).mono ?_;rintro e y ⟨rfl,hby⟩;refine⟨hby,?_⟩;have HY:=hide (Ge.trans hx hby);clear hx hby HPY;refine wpMixF_two 4 rfl rfl (by kernel_rfl) (by rfl) (by rfl) (by decide) (fun z hz=>?_) (fun z hz=>?_)
 ·have HZ:=hide (Ge.trans HY hz);clear hz HY;go_simp;refine⟨below_one z _,?_⟩;refine wpMixF_leave (by kernel_rfl) (fun z2 hz2=>?_);have HZ2:=hide (Ge.trans HZ (Ge.trans (below_one z _) hz2));have HM2:=hide (obj_step (heap_alloc_new z (.cells #[.int .i64 qK,.int .i64 qF,.int .i64 qT,.int .i64 qI,.int .i64 qL,.string qk,.int .i64 qN] 32)) hz2);have HRZ2:=hide (obj_step HR_Z HZ2);have hmz:w.heap.size+1 < z.heap.size:=Nat.lt_of_lt_of_le (obj_lt HR_Z) HZ.size;clear hz2;open Sb254 in exact Yb76
 ·have HZ:=hide (Ge.trans HY hz);have HRZ2:=hide (obj_step HR_Z HZ);clear hz HY;open Sb253 in exact Yb76):P:=h
theorem Yb26(h:P:=by
 rw [hop] at HOP;unfold opw at HOP;clear hop;open Sb356 in exact Yb122):P:=h
theorem Sb100.Kb26(h:P:=by
 obtain⟨e1,e2,e3,e4⟩:=allocs3E w (.cells (ndc n A) 30) (.cells #[.int .i64 2,.int .i64 no,.string k,.int .i64 nn,.int .i64 mK,.int .i64 mF,.int .i64 mT,.int .i64 mI,.int .i64 mL,.string mk,.int .i64 mN] 34) (.cells zc9 30);have hsz:(((w.alloc (.cells (ndc n A) 30)).alloc (.cells #[.int .i64 2,.int .i64 no,.string k,.int .i64 nn,.int .i64 mK,.int .i64 mF,.int .i64 mT,.int .i64 mI,.int .i64 mL,.string mk,.int .i64 mN] 34)).alloc (.cells zc9 30)).heap.size=w.heap.size+3:=by simp
 generalize hW0:((w.alloc (.cells (ndc n A) 30)).alloc (.cells #[.int .i64 2,.int .i64 no,.string k,.int .i64 nn,.int .i64 mK,.int .i64 mF,.int .i64 mT,.int .i64 mI,.int .i64 mL,.string mk,.int .i64 mN] 34)).alloc (.cells zc9 30)=W0 at *;exact Zb6):P:=h
theorem Sb101.Kb26(h:P:=by
 obtain⟨e1,e2,e3,e4⟩:=allocs3E w (.cells (ndc n A) 30) (.cells #[.int .i64 1,.int .i64 no,.string k,.int .i64 nn,.int .i64 mK,.int .i64 mF,.int .i64 mT,.int .i64 mI,.int .i64 mL,.string mk,.int .i64 mN] 34) (.cells zc9 30);have hsz:(((w.alloc (.cells (ndc n A) 30)).alloc (.cells #[.int .i64 1,.int .i64 no,.string k,.int .i64 nn,.int .i64 mK,.int .i64 mF,.int .i64 mT,.int .i64 mI,.int .i64 mL,.string mk,.int .i64 mN] 34)).alloc (.cells zc9 30)).heap.size=w.heap.size+3:=by simp
 generalize hW0:((w.alloc (.cells (ndc n A) 30)).alloc (.cells #[.int .i64 1,.int .i64 no,.string k,.int .i64 nn,.int .i64 mK,.int .i64 mF,.int .i64 mT,.int .i64 mI,.int .i64 mL,.string mk,.int .i64 mN] 34)).alloc (.cells zc9 30)=W0 at *;exact Zb6):P:=h
theorem Sb102.Kb26(h:P:=by
 obtain⟨e1,e2,e3,e4⟩:=allocs3E w (.cells (ndc n A) 30) (.cells #[.int .i64 6,.int .i64 no,.string k,.int .i64 nn,.int .i64 mK,.int .i64 mF,.int .i64 mT,.int .i64 mI,.int .i64 mL,.string mk,.int .i64 mN] 34) (.cells zc9 30);have hsz:(((w.alloc (.cells (ndc n A) 30)).alloc (.cells #[.int .i64 6,.int .i64 no,.string k,.int .i64 nn,.int .i64 mK,.int .i64 mF,.int .i64 mT,.int .i64 mI,.int .i64 mL,.string mk,.int .i64 mN] 34)).alloc (.cells zc9 30)).heap.size=w.heap.size+3:=by simp
 generalize hW0:((w.alloc (.cells (ndc n A) 30)).alloc (.cells #[.int .i64 6,.int .i64 no,.string k,.int .i64 nn,.int .i64 mK,.int .i64 mF,.int .i64 mT,.int .i64 mI,.int .i64 mL,.string mk,.int .i64 mN] 34)).alloc (.cells zc9 30)=W0 at *;exact Zb9):P:=h
theorem Sb103.Kb26(h:P:=by
 open Sb169 in exact Yb41):P:=h
theorem Sb104.Kb26(h:P:=by
 open Sb171 in exact Yb42):P:=h
theorem Sb105.Kb26(h:P:=by
 obtain⟨e1,e2,e3,e4⟩:=allocs3E w (.cells (ndc n A) 30) (.cells #[.int .i64 5,.int .i64 no,.string k,.int .i64 nn,.int .i64 mK,.int .i64 mF,.int .i64 mT,.int .i64 mI,.int .i64 mL,.string mk,.int .i64 mN] 34) (.cells zc9 30);have hsz:(((w.alloc (.cells (ndc n A) 30)).alloc (.cells #[.int .i64 5,.int .i64 no,.string k,.int .i64 nn,.int .i64 mK,.int .i64 mF,.int .i64 mT,.int .i64 mI,.int .i64 mL,.string mk,.int .i64 mN] 34)).alloc (.cells zc9 30)).heap.size=w.heap.size+3:=by simp
 generalize hW0:((w.alloc (.cells (ndc n A) 30)).alloc (.cells #[.int .i64 5,.int .i64 no,.string k,.int .i64 nn,.int .i64 mK,.int .i64 mF,.int .i64 mT,.int .i64 mI,.int .i64 mL,.string mk,.int .i64 mN] 34)).alloc (.cells zc9 30)=W0 at *;open Sb54 in exact Yb13):P:=h
theorem Sb106.Kb26(h:P:=by
 open Sb168 in exact Yb41):P:=h
theorem Sb107.Kb26(h:P:=by
 obtain⟨e1,e2,e3,e4⟩:=allocs3E w (.cells (ndc n A) 30) (.cells #[.int .i64 4,.int .i64 no,.string k,.int .i64 nn,.int .i64 mK,.int .i64 mF,.int .i64 mT,.int .i64 mI,.int .i64 mL,.string mk,.int .i64 mN] 34) (.cells zc9 30);have hsz:(((w.alloc (.cells (ndc n A) 30)).alloc (.cells #[.int .i64 4,.int .i64 no,.string k,.int .i64 nn,.int .i64 mK,.int .i64 mF,.int .i64 mT,.int .i64 mI,.int .i64 mL,.string mk,.int .i64 mN] 34)).alloc (.cells zc9 30)).heap.size=w.heap.size+3:=by simp
 generalize hW0:((w.alloc (.cells (ndc n A) 30)).alloc (.cells #[.int .i64 4,.int .i64 no,.string k,.int .i64 nn,.int .i64 mK,.int .i64 mF,.int .i64 mT,.int .i64 mI,.int .i64 mL,.string mk,.int .i64 mN] 34)).alloc (.cells zc9 30)=W0 at *;exact Kb21):P:=h
theorem Sb108.Kb26(h:P:=by
 open Sb170 in exact Yb42):P:=h
theorem Yb27(h:P:=by
 have hwb:wc.heap.size≤wc.heap.size:=Nat.le_refl _;have y8:=cell_und hnl c8;have z0:=cell_und hql5 q0;have z1:=cell_und hql5 q1;have z2:=cell_und hql5 q2;have z3:=cell_und hql5 q3;clear c0 c1 c2 c3 c4 c5 c6 c7 c8 q0 q1 q2 q3;have hpc:pos≤a_cr:=by omega
 have HTL:=hide (show ReqAt wc (some ⟨gr,0,none⟩) (n.reqs.take pos) from GR.At.take HA5 pos)
 obtain⟨AD,hAD,hDR⟩:∃AD,(if a_cr=pos then some (⟨gr,0,none⟩:Addr) else some ⟨gr,pos*4,none⟩)=AD∧ReqAt wc AD (n.reqs.drop pos):=by
  exact Zb33
 have HDR:=hide hDR;clear hDR;refine wp_region_mixB 15 wc.heap.size (by kernel_rfl) ?_;show wpMixB _ _ _ _ _ _ 16 (Array.replicate 16 false) _ _
 refine tk [1,2,3,4,6,9,10,11,12] ?_;iterate 9 (refine tkB hwb (fun K hK=>?_);go_simp;first|refine hK _ ?_|(apply Exists.intro;refine⟨fun _=>?_,hK _ ?_⟩;rfl);clear hK K)
 refine tkN ?_;clear y8 z0 z1 z2 z3;have hlt1:(n.reqs.take pos).length=pos:=by rw [List.length_take];omega
 have hld1:(n.reqs.drop pos).length=n.reqs.length - pos:=by rw [List.length_drop]
 exact Kb27):P:=h
theorem Sb109.Kb27(h:P:=by
 have hL1:(n.reqs.take pos++[(⟨no,k,nn,0⟩:Rq)]).length=pos+1:=by rw [List.length_append,hlt1];rfl
 have hL2:(n.reqs.take pos++[(⟨no,k,nn,0⟩:Rq)]++n.reqs.drop pos).length=pos+1+(n.reqs.length - pos):=by rw [List.length_append,hL1,hld1]
 obtain⟨i0,hi,hz0,hz1,hz2⟩:=info_parts infoReq;have HG0:=hide (Below.refl wc.heap.size wc);refine wpMixB_two 0 7 rfl rfl (by kernel_rfl) (by rfl) (by rfl) (by decide) (by decide) (fun x1 hx1=>?_) (fun x1 hx1=>?_)
 ·open Sb190 in exact Yb50
 ·open Sb291 in exact Yb93):P:=h
theorem Sb110.Kb27(h:P:=by
 have hL1:(n.reqs.take pos++[(⟨no,k,nn,1⟩:Rq)]).length=pos+1:=by rw [List.length_append,hlt1];rfl
 have hL2:(n.reqs.take pos++[(⟨no,k,nn,1⟩:Rq)]++n.reqs.drop pos).length=pos+1+(n.reqs.length - pos):=by rw [List.length_append,hL1,hld1]
 obtain⟨i0,hi,hz0,hz1,hz2⟩:=info_parts infoReq;have HG0:=hide (Below.refl wc.heap.size wc);refine wpMixB_two 0 7 rfl rfl (by kernel_rfl) (by rfl) (by rfl) (by decide) (by decide) (fun x1 hx1=>?_) (fun x1 hx1=>?_)
 ·open Sb189 in exact Yb50
 ·open Sb290 in exact Yb93):P:=h
theorem Yb28(h:P:=by
 obtain⟨d0,d1,d2,d3,d4,d5,d6,d7,d8⟩:=nine HRA;have f0:=obj_free HRA 0;have f1:=obj_free HRA 1;have f2:=obj_free HRA 2;have f3:=obj_free HRA 3;have f4:=obj_free HRA 4;have f5:=obj_free HRA 5;have f6:=obj_free HRA 6;have f7:=obj_free HRA 7;have f8:=obj_free HRA 8;exact Kb28):P:=h
theorem Sb111.Kb28(h:P:=by
 have hnl:=obj_lt HN_1;open Sb256 in exact Yb77):P:=h
theorem Sb112.Kb28(h:P:=by
 have hnl:=obj_lt HN_2;open Sb255 in exact Yb77):P:=h
theorem Sb113.Kb28(h:P:=by
 have hnl:=obj_lt HN_4;have hrl:=obj_lt HRA;go_wp2_with fail;refine bodyPost_atN (fun W' hW'=>?_)
 have e4:W'.heap[w.heap.size+2]?=some (.cells #[.int .i64 n.id,.int .i64 n.par,.slice A.k n.kids.length A.ck,.int .i64 n.next,.slice A.p n.pu.length A.cp,.slice a (FL n.out.length).length cp,.slice A.s n.seen.length A.cs,.int .i64 n.old,.slice A.r n.reqs.length A.cr] 30 (0,0)):=by
  rw [hW'];exact GR.setW_blk [.int .i64 n.id,.int .i64 n.par,.slice A.k n.kids.length A.ck,.int .i64 n.next,.slice A.p n.pu.length A.cp,.slice a (FL n.out.length).length cp,.slice A.s n.seen.length A.cs,.int .i64 n.old,.slice A.r n.reqs.length A.cr] (o:=0) (xs:=[.int .i64 0,.int .i64 0,.slice none 0 0,.int .i64 0,.slice none 0 0,.slice none 0 0,.slice none 0 0,.int .i64 0,.slice none 0 0]) HRA
 have hkf:KeepsL [w.heap.size+2] (Z.alloc (.cells #[] 32)) W':=by
  rw [hW'];exact setW_keeps [.int .i64 n.id,.int .i64 n.par,.slice A.k n.kids.length A.ck,.int .i64 n.next,.slice A.p n.pu.length A.cp,.slice a (FL n.out.length).length cp,.slice A.s n.seen.length A.cs,.int .i64 n.old,.slice A.r n.reqs.length A.cr] (Z.alloc (.cells #[] 32)) 0
 have HAT:=hide (fun W'' (ho:Out c w W' W'')=>(show NodeAt W'' ⟨A.k,A.p,a,A.s,A.r,A.ck,A.cp,cp,A.cs,A.cr⟩ (setOut n (FL n.out.length)) from by
  have kF:KC (newC w.heap.size 9 c) 9 (Z.alloc (.cells #[] 32)) W'':=(KC.keeps hkf (fun y hy=>by have:y=w.heap.size+2:=(by simpa using hy);rw [this];exact newC_new (by omega))).trans (KC.out H9 ho)
  have hoF:SentAt W'' a (FL n.out.length):=by
   obtain⟨F,hk,hF⟩:=ho;exact GR.own_ati encSnt_length (own_keepsL (own_keepsL HOA hkf (fun y hy=>by have:y=w.heap.size+2:=(by simpa using hy);omega)) hk (fun y hy=>by have:=(hF y hy).1;omega))
  have h5:=HNA.kc (k:=9) kF (by omega)
  exact NodeAt.mk (n:=setOut n (FL n.out.length)) (A:=⟨A.k,A.p,a,A.s,A.r,A.ck,A.cp,cp,A.cs,A.cr⟩) h5.at.k h5.at.p hoF h5.at.s h5.at.r))
 open Sb276 in exact Yb86):P:=h
theorem Sb114.Kb28(h:P:=by
 have hnl:=obj_lt HNA;have hrl:=obj_lt HRA;go_wp2_with fail;refine bodyPost_atN (fun W' hW'=>?_)
 have e4:W'.heap[w.heap.size+2]?=some (.cells #[.int .i64 N1.id,.int .i64 N1.par,.slice A1.k N1.kids.length A1.ck,.int .i64 N1.next,.slice A1.p N1.pu.length A1.cp,.slice A1.o N1.out.length A1.co,.slice A1.s N1.seen.length A1.cs,.int .i64 N1.old,.slice A1.r N1.reqs.length A1.cr] 30 (0,0)):=by
  rw [hW'];exact GR.setW_blk [.int .i64 N1.id,.int .i64 N1.par,.slice A1.k N1.kids.length A1.ck,.int .i64 N1.next,.slice A1.p N1.pu.length A1.cp,.slice A1.o N1.out.length A1.co,.slice A1.s N1.seen.length A1.cs,.int .i64 N1.old,.slice A1.r N1.reqs.length A1.cr] (o:=0) (xs:=[.int .i64 0,.int .i64 0,.slice none 0 0,.int .i64 0,.slice none 0 0,.slice none 0 0,.slice none 0 0,.int .i64 0,.slice none 0 0]) HRA
 have hkf:KeepsL [w.heap.size+2] (W3.alloc (.cells #[.int .i64 N1.id,.int .i64 N1.par,.slice A1.k N1.kids.length A1.ck,.int .i64 N1.next,.slice A1.p N1.pu.length A1.cp,.slice A1.o N1.out.length A1.co,.slice A1.s N1.seen.length A1.cs,.int .i64 N1.old,.slice A1.r N1.reqs.length A1.cr] 30)) W':=by
  rw [hW'];exact setW_keeps [.int .i64 N1.id,.int .i64 N1.par,.slice A1.k N1.kids.length A1.ck,.int .i64 N1.next,.slice A1.p N1.pu.length A1.cp,.slice A1.o N1.out.length A1.co,.slice A1.s N1.seen.length A1.cs,.int .i64 N1.old,.slice A1.r N1.reqs.length A1.cr] (W3.alloc (.cells #[.int .i64 N1.id,.int .i64 N1.par,.slice A1.k N1.kids.length A1.ck,.int .i64 N1.next,.slice A1.p N1.pu.length A1.cp,.slice A1.o N1.out.length A1.co,.slice A1.s N1.seen.length A1.cs,.int .i64 N1.old,.slice A1.r N1.reqs.length A1.cr] 30)) 0
 have HAT:=hide (fun W'' (ho:Out c w W' W'')=>(show NodeAt W'' A1 N1 from(by
  obtain⟨F,hk,hF⟩:=ho
  exact HAT1 _ ⟨(w.heap.size+2)::F,KeepsL.trans (b:=W') ((KeepsL.of_below (below_one W3 (.cells #[.int .i64 N1.id,.int .i64 N1.par,.slice A1.k N1.kids.length A1.ck,.int .i64 N1.next,.slice A1.p N1.pu.length A1.cp,.slice A1.o N1.out.length A1.co,.slice A1.s N1.seen.length A1.cs,.int .i64 N1.old,.slice A1.r N1.reqs.length A1.cr] 30))).trans (hkf.mono (fun x hx=>by simp at hx;simp[hx]))) (hk.mono (fun x hx=>by simp[hx])),fun y hy=>by
   rcases List.mem_cons.1 hy with h1|h1
   ·exact Zb47
   ·exact⟨Nat.lt_of_lt_of_le (hF y h1).1 h02,by rw [newC_old (hF y h1).1];exact(hF y h1).2⟩⟩)))
 have HMT:=hide (fun W'' (ho:Out c w W' W'')=>(show GR.At encM 7 W'' ma L1 from(by
  obtain⟨F,hk,hF⟩:=ho
  exact HMT1 _ ⟨(w.heap.size+2)::F,KeepsL.trans (b:=W') ((KeepsL.of_below (below_one W3 (.cells #[.int .i64 N1.id,.int .i64 N1.par,.slice A1.k N1.kids.length A1.ck,.int .i64 N1.next,.slice A1.p N1.pu.length A1.cp,.slice A1.o N1.out.length A1.co,.slice A1.s N1.seen.length A1.cs,.int .i64 N1.old,.slice A1.r N1.reqs.length A1.cr] 30))).trans (hkf.mono (fun x hx=>by simp at hx;simp[hx]))) (hk.mono (fun x hx=>by simp[hx])),fun y hy=>by
   rcases List.mem_cons.1 hy with h1|h1
   ·exact Zb47
   ·exact⟨Nat.lt_of_lt_of_le (hF y h1).1 h02,by rw [newC_old (hF y h1).1];exact(hF y h1).2⟩⟩)))
 open Sb275 in exact Yb86):P:=h
theorem Sb115.Kb28(h:P:=by
 have hrl:=obj_lt HRA;go_wp2_with fail;refine bodyPost_atN (fun W' hW'=>?_)
 have e4:W'.heap[w.heap.size+2]?=some (.cells #[.int .i64 N1.id,.int .i64 N1.par,.slice A2.k N1.kids.length A2.ck,.int .i64 N1.next,.slice A2.p N1.pu.length A2.cp,.slice A2.o N1.out.length A2.co,.slice A2.s N1.seen.length A2.cs,.int .i64 N1.old,.slice A2.r N1.reqs.length A2.cr] 30 (0,0)):=by
  rw [hW'];exact GR.setW_blk [.int .i64 N1.id,.int .i64 N1.par,.slice A2.k N1.kids.length A2.ck,.int .i64 N1.next,.slice A2.p N1.pu.length A2.cp,.slice A2.o N1.out.length A2.co,.slice A2.s N1.seen.length A2.cs,.int .i64 N1.old,.slice A2.r N1.reqs.length A2.cr] (o:=0) (xs:=[.int .i64 0,.int .i64 0,.slice none 0 0,.int .i64 0,.slice none 0 0,.slice none 0 0,.slice none 0 0,.int .i64 0,.slice none 0 0]) HRA
 have hkf:KeepsL [w.heap.size+2] (W5.alloc (.cells #[.int .i64 N1.id,.int .i64 N1.par,.slice A2.k N1.kids.length A2.ck,.int .i64 N1.next,.slice A2.p N1.pu.length A2.cp,.slice A2.o N1.out.length A2.co,.slice A2.s N1.seen.length A2.cs,.int .i64 N1.old,.slice A2.r N1.reqs.length A2.cr] 30)) W':=by
  rw [hW'];exact setW_keeps [.int .i64 N1.id,.int .i64 N1.par,.slice A2.k N1.kids.length A2.ck,.int .i64 N1.next,.slice A2.p N1.pu.length A2.cp,.slice A2.o N1.out.length A2.co,.slice A2.s N1.seen.length A2.cs,.int .i64 N1.old,.slice A2.r N1.reqs.length A2.cr] (W5.alloc (.cells #[.int .i64 N1.id,.int .i64 N1.par,.slice A2.k N1.kids.length A2.ck,.int .i64 N1.next,.slice A2.p N1.pu.length A2.cp,.slice A2.o N1.out.length A2.co,.slice A2.s N1.seen.length A2.cs,.int .i64 N1.old,.slice A2.r N1.reqs.length A2.cr] 30)) 0
 have HAT:=hide (fun W'' (ho:Aft w W' W'')=>HAT1 W'' (ho.out (c:=c) ((KeepsL.of_below (below_one W5 (.cells #[.int .i64 N1.id,.int .i64 N1.par,.slice A2.k N1.kids.length A2.ck,.int .i64 N1.next,.slice A2.p N1.pu.length A2.cp,.slice A2.o N1.out.length A2.co,.slice A2.s N1.seen.length A2.cs,.int .i64 N1.old,.slice A2.r N1.reqs.length A2.cr] 30))).trans hkf) hrx HC9));have HBF:Hid (Below w.heap.size w W'):=HBA.trans (hkf.below (fun x hx=>by have:x=w.heap.size+2:=(by simpa using hx);omega) HBA.size);obtain⟨x0,x1,x2,x3,x4,x5,x6,x7,x8⟩:=nine e4;clear hW' e4 hkf;exact bodyPost_ret (v:= .tuple #[.agg #[.int .i64 N1.id,.int .i64 N1.par,.slice A2.k N1.kids.length A2.ck,.int .i64 N1.next,.slice A2.p N1.pu.length A2.cp,.slice A2.o N1.out.length A2.co,.slice A2.s N1.seen.length A2.cs,.int .i64 N1.old,.slice A2.r N1.reqs.length A2.cr],.slice (some ⟨W0.heap.size,0,none⟩) 0 0,.int .i64 code1]) (by simp[results,Tryz.results19,go_sem,x0,x1,x2,x3,x4,x5,x6,x7,x8]) rfl ⟨A2,some ⟨W0.heap.size,0,none⟩,0,rfl,HAT,fun W'' _ i hi=>by simp at hi,HBF⟩):P:=h
theorem Sb116.Kb28(h:P:=by
 have hnl:=obj_lt HN_1;have hrl:=obj_lt HRA;go_wp2_with fail;rw [fieldFree];go_upto_region 5 with fail;go_wp2_with fail;have HNA:=hide (HN1.kc (k:=9) (KC.of_below (below_one W1 (.cells #[] 32))) (by omega));have HBA:=hide (HB1.trans ((below_one W1 (.cells #[] 32)).mono HB1.size));refine bodyPost_atN (fun W' hW'=>?_)
 have e4:W'.heap[w.heap.size+1]?=some (.cells #[.int .i64 n.id,.int .i64 n.par,.slice A.k n.kids.length A.ck,.int .i64 n.next,.slice A.p n.pu.length A.cp,.slice A.o n.out.length A.co,.slice A.s n.seen.length A.cs,.int .i64 n.old,.slice A.r n.reqs.length A.cr] 30 (0,0)):=by
  exact Zb41
 have hkf:KeepsL [w.heap.size+1] (W1.alloc (.cells #[] 32)) W':=by
  rw [hW'];exact setW_keeps [.int .i64 n.id,.int .i64 n.par,.slice A.k n.kids.length A.ck,.int .i64 n.next,.slice A.p n.pu.length A.cp,.slice A.o n.out.length A.co,.slice A.s n.seen.length A.cs,.int .i64 n.old,.slice A.r n.reqs.length A.cr] (W1.alloc (.cells #[] 32)) 0
 have HAT:=hide (fun W'' (ho:Out c w W' W'')=>(HNA.kc (k:=9) ((KC.keeps hkf (fun x hx=>by have:x=w.heap.size+1:=(by simpa using hx);rw [this];exact newC_new (by omega))).trans (KC.out H9 ho)) (by omega)).at);have HBF:Hid (Below B w W'):=(HBA.mono hB).trans (hkf.below (fun x hx=>by have:x=w.heap.size+1:=(by simpa using hx);omega) (Nat.le_trans hB (HBA.mono hB).size));have HKF:=hide (Apart.keeps (c:=c) (Apart.of_below HBA) (HBA.mono hB).size hkf (fun x hx=>by have:x=w.heap.size+1:=(by simpa using hx);omega));obtain⟨x0,x1,x2,x3,x4,x5,x6,x7,x8⟩:=nine e4;clear hW' e4 hkf;exact bodyPost_ret (v:= .tuple #[.agg #[.int .i64 n.id,.int .i64 n.par,.slice A.k n.kids.length A.ck,.int .i64 n.next,.slice A.p n.pu.length A.cp,.slice A.o n.out.length A.co,.slice A.s n.seen.length A.cs,.int .i64 n.old,.slice A.r n.reqs.length A.cr],.slice (some ⟨W1.heap.size,0,none⟩) 0 0,.int .i64 1]) (by simp[results,Tryz.results63,go_sem,x0,x1,x2,x3,x4,x5,x6,x7,x8]) rfl ⟨A,some ⟨W1.heap.size,0,none⟩,0,rfl,HAT,fun W'' _ i hi=>by simp at hi,HBF,HKF⟩):P:=h
theorem Yb29(h:P:=by
 have h1:ndB F=true:=by unfold rtB at hr;simp only[Bool.and_eq_true] at hr;exact hr.1.1
 have h2:ndB T=true:=by unfold rtB at hr;simp only[Bool.and_eq_true] at hr;exact hr.1.2
 have hft:¬F=T:=by unfold rtB at hr;simp only[Bool.and_eq_true,decide_eq_true_iff] at hr;exact hr.2
 have H1:=hide (fun w1=>l04Node F true w1 h1);have H2:=hide (fun w1=>l04Node T true w1 h2);clear h1 h2;exact Kb29):P:=h
theorem Sb117.Kb29(h:P:=by
 have HP:=hide (show mgOk ⟨K,F,T,I,L,k,N⟩=false by simp[mgOk,hr,k0,k1,k2]);clear hr;go_enter Tryz.func129,Tryz.ntmps129
 go_wp2_with (first|(go_at_call_of 123 F;refine(H1 _).mono ?_;rintro e w1 ⟨rfl,rfl⟩)|(go_at_call_of 123 T;refine(H2 _).mono ?_;rintro e w1 ⟨rfl,rfl⟩))
 exact Zb35):P:=h
theorem Sb118.Kb29(h:P:=by
 cases hc2:smB I
 case' false=>
  have HP:=hide (show mgOk ⟨2,F,T,I,L,k,N⟩=false by simp[mgOk,hr,hc2])
  have HC2:=hide (fun w1=>l04Some I false w1 hc2)
  clear hr hc2
  go_enter Tryz.func129,Tryz.ntmps129
  go_wp2_with (first|(go_at_call_of 123 F;refine(H1 _).mono ?_;rintro e w1 ⟨rfl,rfl⟩)|(go_at_call_of 123 T;refine(H2 _).mono ?_;rintro e w1 ⟨rfl,rfl⟩)|(go_at_call_of 46 I;refine(HC2 _).mono ?_;rintro e w1 ⟨rfl,rfl⟩))
  go_ret
  exact⟨ret_bool HP.symm,below_one w _⟩
 have HC2:=hide (fun w1=>l04Some I true w1 hc2);by_cases hz:k.size=0
 case' neg=>
  have hne:k.toList.isEmpty=false:=not_empty k (by omega)
  have HP:=hide (show mgOk ⟨2,F,T,I,L,k,N⟩=false by simp[mgOk,hr,hc2,hz])
  clear hr hc2
  go_enter Tryz.func129,Tryz.ntmps129
  go_wp2_with (first|(go_at_call_of 123 F;refine(H1 _).mono ?_;rintro e w1 ⟨rfl,rfl⟩)|(go_at_call_of 123 T;refine(H2 _).mono ?_;rintro e w1 ⟨rfl,rfl⟩)|(go_at_call_of 46 I;refine(HC2 _).mono ?_;rintro e w1 ⟨rfl,rfl⟩))
  go_ret
  exact⟨ret_bool HP.symm,below_one w _⟩
 obtain rfl:=eq_empty k hz;by_cases hzN:N=0
 case' neg=>
  have HP:=hide (show mgOk ⟨2,F,T,I,L,ByteArray.empty,N⟩=false by simp[mgOk,hr,hc2,hz,hzN])
  have he:(N == 0)=false:=by simp[hzN]
  clear hr hc2
  go_enter Tryz.func129,Tryz.ntmps129
  go_wp2_with (first|(go_at_call_of 123 F;refine(H1 _).mono ?_;rintro e w1 ⟨rfl,rfl⟩)|(go_at_call_of 123 T;refine(H2 _).mono ?_;rintro e w1 ⟨rfl,rfl⟩)|(go_at_call_of 46 I;refine(HC2 _).mono ?_;rintro e w1 ⟨rfl,rfl⟩))
  go_ret
  exact⟨ret_bool (by first|exact HP.symm|exact he.trans HP.symm),below_one w _⟩
 subst hzN;by_cases hzL:L=0
 case' neg=>
  have HP:=hide (show mgOk ⟨2,F,T,I,L,ByteArray.empty,0⟩=false by simp[mgOk,hr,hc2,hz,hzL])
  have he:(L == 0)=false:=by simp[hzL]
  clear hr hc2
  go_enter Tryz.func129,Tryz.ntmps129
  go_wp2_with (first|(go_at_call_of 123 F;refine(H1 _).mono ?_;rintro e w1 ⟨rfl,rfl⟩)|(go_at_call_of 123 T;refine(H2 _).mono ?_;rintro e w1 ⟨rfl,rfl⟩)|(go_at_call_of 46 I;refine(HC2 _).mono ?_;rintro e w1 ⟨rfl,rfl⟩))
  go_ret
  exact⟨ret_bool (by first|exact HP.symm|exact he.trans HP.symm),below_one w _⟩
 subst hzL;have HP:=hide (show mgOk ⟨2,F,T,I,0,ByteArray.empty,0⟩=true by simp[mgOk,hr,hc2,hz]);clear hr hc2;go_enter Tryz.func129,Tryz.ntmps129
 go_wp2_with (first|(go_at_call_of 123 F;refine(H1 _).mono ?_;rintro e w1 ⟨rfl,rfl⟩)|(go_at_call_of 123 T;refine(H2 _).mono ?_;rintro e w1 ⟨rfl,rfl⟩)|(go_at_call_of 46 I;refine(HC2 _).mono ?_;rintro e w1 ⟨rfl,rfl⟩))
 exact Zb35):P:=h
theorem Sb119.Kb29(h:P:=by
 cases hc2:keyOk k.data.toList
 case' false=>
  have HP:=hide (show mgOk ⟨1,F,T,I,L,k,N⟩=false by simp[mgOk,hr,hc2])
  have HC2:=hide (fun w1=>specKeyB k false w1 hs hc2)
  clear hr hc2
  go_enter Tryz.func129,Tryz.ntmps129
  go_wp2_with (first|(go_at_call_of 123 F;refine(H1 _).mono ?_;rintro e w1 ⟨rfl,rfl⟩)|(go_at_call_of 123 T;refine(H2 _).mono ?_;rintro e w1 ⟨rfl,rfl⟩)|(go_at_call_of 50 k;refine(HC2 _).mono ?_;rintro e w1 ⟨rfl,rfl⟩))
  go_ret
  exact⟨ret_bool HP.symm,below_one w _⟩
 have HC2:=hide (fun w1=>specKeyB k true w1 hs hc2);cases hc3:smB N
 case' false=>
  have HP:=hide (show mgOk ⟨1,F,T,I,L,k,N⟩=false by simp[mgOk,hr,hc2,hc3])
  have HC3:=hide (fun w1=>l04Some N false w1 hc3)
  clear hr hc2 hc3
  go_enter Tryz.func129,Tryz.ntmps129
  go_wp2_with (first|(go_at_call_of 123 F;refine(H1 _).mono ?_;rintro e w1 ⟨rfl,rfl⟩)|(go_at_call_of 123 T;refine(H2 _).mono ?_;rintro e w1 ⟨rfl,rfl⟩)|(go_at_call_of 50 k;refine(HC2 _).mono ?_;rintro e w1 ⟨rfl,rfl⟩)|(go_at_call_of 46 N;refine(HC3 _).mono ?_;rintro e w1 ⟨rfl,rfl⟩))
  go_ret
  exact⟨ret_bool HP.symm,below_one w _⟩
 have HC3:=hide (fun w1=>l04Some N true w1 hc3);cases hc4:smB I
 case' false=>
  have HP:=hide (show mgOk ⟨1,F,T,I,L,k,N⟩=false by simp[mgOk,hr,hc2,hc3,hc4])
  have HC4:=hide (fun w1=>l04Some I false w1 hc4)
  clear hr hc2 hc3 hc4
  go_enter Tryz.func129,Tryz.ntmps129
  go_wp2_with (first|(go_at_call_of 123 F;refine(H1 _).mono ?_;rintro e w1 ⟨rfl,rfl⟩)|(go_at_call_of 123 T;refine(H2 _).mono ?_;rintro e w1 ⟨rfl,rfl⟩)|(go_at_call_of 50 k;refine(HC2 _).mono ?_;rintro e w1 ⟨rfl,rfl⟩)|(go_at_call_of 46 N;refine(HC3 _).mono ?_;rintro e w1 ⟨rfl,rfl⟩)|(go_at_call_of 46 I;refine(HC4 _).mono ?_;rintro e w1 ⟨rfl,rfl⟩))
  go_ret
  exact⟨ret_bool HP.symm,below_one w _⟩
 have HC4:=hide (fun w1=>l04Some I true w1 hc4);cases hc5:decide (1≤L∧L≤I)
 case' false=>
  have HP:=hide (show mgOk ⟨1,F,T,I,L,k,N⟩=false by simp[mgOk,hr,hc2,hc3,hc4,hc5])
  have HC5:=hide (fun w1=>l01InR L 1 I false w1 hc5)
  clear hr hc2 hc3 hc4 hc5
  go_enter Tryz.func129,Tryz.ntmps129
  go_wp2_with (first|(go_at_call_of 123 F;refine(H1 _).mono ?_;rintro e w1 ⟨rfl,rfl⟩)|(go_at_call_of 123 T;refine(H2 _).mono ?_;rintro e w1 ⟨rfl,rfl⟩)|(go_at_call_of 50 k;refine(HC2 _).mono ?_;rintro e w1 ⟨rfl,rfl⟩)|(go_at_call_of 46 N;refine(HC3 _).mono ?_;rintro e w1 ⟨rfl,rfl⟩)|(go_at_call_of 46 I;refine(HC4 _).mono ?_;rintro e w1 ⟨rfl,rfl⟩)|(go_at_call 48;refine(HC5 _).mono ?_;rintro e w1 ⟨rfl,rfl⟩))
  go_ret
  exact⟨ret_bool HP.symm,below_one w _⟩
 have HC5:=hide (fun w1=>l01InR L 1 I true w1 hc5);have HP:=hide (show mgOk ⟨1,F,T,I,L,k,N⟩=true by simp[mgOk,hr,hc2,hc3,hc4,hc5]);clear hr hc2 hc3 hc4 hc5;go_enter Tryz.func129,Tryz.ntmps129
 go_wp2_with (first|(go_at_call_of 123 F;refine(H1 _).mono ?_;rintro e w1 ⟨rfl,rfl⟩)|(go_at_call_of 123 T;refine(H2 _).mono ?_;rintro e w1 ⟨rfl,rfl⟩)|(go_at_call_of 50 k;refine(HC2 _).mono ?_;rintro e w1 ⟨rfl,rfl⟩)|(go_at_call_of 46 N;refine(HC3 _).mono ?_;rintro e w1 ⟨rfl,rfl⟩)|(go_at_call_of 46 I;refine(HC4 _).mono ?_;rintro e w1 ⟨rfl,rfl⟩)|(go_at_call 48;refine(HC5 _).mono ?_;rintro e w1 ⟨rfl,rfl⟩))
 exact Zb35):P:=h
end Go.Proofs.YtppmcficiphgdaaGreatDoor
