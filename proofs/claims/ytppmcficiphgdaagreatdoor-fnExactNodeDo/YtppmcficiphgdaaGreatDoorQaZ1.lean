/-
  Parts of proofs that stand more than once, each said once.
-/
import Derived.Test.YtppmcficiphgdaaGreatDoorRows
import Derived.WalkKit
import Derived.WalkSpells
import Derived.ShutString
import Derived.OrdersHeld
import Derived.Lib.QuietBelow
import Derived.OneCell
import Derived.Laws.MakeOwn
import Derived.Deep.RegionHeld
import Derived.Deep.QuietTactic
import Derived.Deep.RegionWith
import Derived.BigQuiet
import Derived.Laws.Cover1
import Derived.Laws.IdiomStrings
import Derived.Laws.BytesString
import Derived.Laws.AppendOwnNone
import Derived.Maps.AppendAt
import Derived.Laws.OwnMore
import Derived.Deep.DeepCutAuto
import Derived.Deep.CutBlock
import Derived.Deep.RegionHeldLaw
import Derived.Deep.AppendLies
import Derived.Lib.Strings
import Derived.Lib.BufferWrite
import Derived.Lib.UnsafeStr
import Derived.Laws.CopyOwn
import Derived.Deep.RegionLaw
import Derived.Lib.ItoaNum
import Derived.Lib.ItoaLen
import Derived.Laws.DeepStrings4
import Derived.Deep.Draws
import Derived.Sort.Walk0
import Derived.LaidEql
import Derived.Stop.Asserts
import Derived.RowKitTokens
import Derived.Below
import Derived.Maps.OwnSet
import Derived.Maps.OwnOps
import Derived.Shelf.Spec.SearchS
import Derived.Shelf.Spec.SlicesInsert
import Derived.Shelf.Spec.SlicesInsertGrow
import Derived.Laws.AppendOwn
import Derived.Lib.AppendZeros
import Derived.Laws.CopyRow
import Derived.Lib.Overlaps
import Derived.Lib.AppendZerosOnto
import Derived.Laws.Externs
import Derived.Shelf.SortM.Plain
import Derived.Shelf.SortM.SortNone
import Derived.Shelf.SlicesE.Clone
import Derived.Shelf.SlGeneric
import Derived.Sort.OwnSortedInts
import Derived.Maps.RangeWalk
import Derived.Maps.Ext
import Derived.Lib.SlMapFilter
import Derived.Lib.SlKeysI
import Derived.Laws.IdiomRangeMap
import Derived.Deep.LoopGhost
import Derived.Shelf.Abstract
import Derived.Shelf.SlIterI.Nil
import Derived.Shelf.SlIterI.Sorted
import Derived.Laws.NewBlocks
import Derived.RegionTactic
import Derived.Laws.EntriesVeiled
namespace Go.Proofs.YtppmcficiphgdaaGreatDoor
set_option maxRecDepth 100000
variable{P:Prop}
theorem Za0(h:P:=by
 have hnl:=obj_lt e1;clear hW e1 e2 p0 p1 p2 p3 p4 p5 p6 p7 p8 p9 p10;obtain⟨⟨p0,p1,p2,p3,p4,p5,p6,p7,p8,p9,p10⟩,_⟩:=eleven_at HP4;have hpl4:=obj_lt HP4;have y0:=cell_regrown c0;have z0:=cell_regrown p0;have z1:=cell_regrown p1;have z2:=cell_regrown p2;have z3:=cell_regrown p3;have z4:=cell_regrown p4;have z5:=cell_regrown p5;have z6:=cell_regrown p6;have z7:=cell_regrown p7;have z8:=cell_regrown p8;have z9:=cell_regrown p9;have z10:=cell_regrown p10;clear p0 p1 p2 p3 p4 p5 p6 p7 p8 p9 p10 c0;refine wp_region_mixE 5 (by kernel_rfl) ?_;show wpMixE _ _ _ _ _ 7 (Array.replicate 7 false) _ _
 refine tk [0,1,2,3,4] ?_;iterate 5 (refine tkE (fun K hK=>?_);go_simp;refine hK _ ?_;clear hK K)
 refine tkN ?_;clear y0 z0 z1 z2 z3 z4 z5 z6 z7 z8 z9 z10;refine wpMixE_leave (by kernel_rfl) (fun x hx=>?_);have HXX:=hide (HX x (HW4.step hx));clear hx;refine wpAny_one 5 rfl (by kernel_rfl) (by rfl) ?_;go_simp;refine HXX.mono ?_;rintro e y ⟨rfl,A',G',c',v',hY⟩;have HY:=hide hY;clear hY HXX;refine wpAny_one 6 rfl (by kernel_rfl) (by rfl) ?_;go_simp;refine wpAny_done (by kernel_rfl) ?_;go_simp;go_wp2_with fail;go_ret;exact⟨rfl,A',G',c',v',HY⟩):P:=h
theorem Za1(h:P:=by
 by_cases hmK:mK=0
 case' neg=>
  have hmK':¬(0:Int)=mK:=fun e=>hmK e.symm
  go_wp2_with fail
  go_ret
  exact⟨ret_bool (by rw [unhide HP];simp[zmB,hmK]),HBW⟩
 subst hmK;by_cases hmF:mF=0
 case' neg=>
  have hmF':¬(0:Int)=mF:=fun e=>hmF e.symm
  go_wp2_with fail
  go_ret
  exact⟨ret_bool (by rw [unhide HP];simp[zmB,hmF]),HBW⟩
 subst hmF;by_cases hmT:mT=0
 case' neg=>
  have hmT':¬(0:Int)=mT:=fun e=>hmT e.symm
  go_wp2_with fail
  go_ret
  exact⟨ret_bool (by rw [unhide HP];simp[zmB,hmT]),HBW⟩
 subst hmT;by_cases hmI:mI=0
 case' neg=>
  have hmI':¬(0:Int)=mI:=fun e=>hmI e.symm
  go_wp2_with fail
  go_ret
  exact⟨ret_bool (by rw [unhide HP];simp[zmB,hmI]),HBW⟩
 subst hmI;by_cases hmL:mL=0
 case' neg=>
  have hmL':¬(0:Int)=mL:=fun e=>hmL e.symm
  go_wp2_with fail
  go_ret
  exact⟨ret_bool (by rw [unhide HP];simp[zmB,hmL]),HBW⟩
 subst hmL;by_cases hmk:mk.toList=[]
 case' neg=>
  go_wp2_with fail
  go_ret
  exact⟨ret_bool (by rw [unhide HP];simp[zmB,hmk]),HBW⟩
 by_cases hmN:mN=0
 case' neg=>
  have hmN':¬(0:Int)=mN:=fun e=>hmN e.symm
  go_wp2_with fail
  go_ret
  exact⟨ret_bool (by rw [unhide HP];simp[zmB,hmk,hmN]),HBW⟩
 subst hmN;go_wp2_with fail;go_ret;exact⟨ret_bool (by rw [unhide HP];simp[zmB,hmk]),HBW⟩):P:=h
theorem Za2(h:P:=by
 go_wp2_with fail;refine wp_region_quiet_lit (by kernel_rfl) (by kernel_rfl) ?_;repeat (first|go_big_quiet_step ((first|(go_at_call 50;exact qKey _ _ hks hkb' _ _)|(go_at_call_of 47 (IntKind.i64.wrap (pf+ps));exact qAm _ _ g4 _ _)|(go_at_call_of 47 (pf+ps);exact qAm _ _ g5 _ _)|(go_at_call_of 47 pm;exact qAm _ _ g1 _ _)|(go_at_call_of 47 pf;exact qAm _ _ g2 _ _)|(go_at_call_of 47 ps;exact qAm _ _ g3 _ _)))|quiet_step ((first|(go_at_call 50;exact qKey _ _ hks hkb' _ _)|(go_at_call_of 47 (IntKind.i64.wrap (pf+ps));exact qAm _ _ g4 _ _)|(go_at_call_of 47 (pf+ps);exact qAm _ _ g5 _ _)|(go_at_call_of 47 pm;exact qAm _ _ g1 _ _)|(go_at_call_of 47 pf;exact qAm _ _ g2 _ _)|(go_at_call_of 47 ps;exact qAm _ _ g3 _ _))))
 refine wpQuiet_nil ?_;intro _ hw';obtain⟨nq,hw''⟩:=hw';subst hw'';go_wp2_with fail;go_ret;exact⟨ret_bool HBAD.symm,(HBL.alloc HBL.size _).trans ⟨rfl,rfl,rfl,Nat.le_refl _,fun _ _=>rfl⟩⟩):P:=h
theorem Za3(h:P:=by
 open Sa304 in exact Ya85):P:=h
theorem Za4(h:P:=by
 rw [hR];have hd:decide (o.no≤n.old)=false:=decide_eq_false hc;open Sa221 in exact Ya55):P:=h
theorem Za5(h:P:=by
 open Sa214 in exact Ya53):P:=h
theorem Za6(h:P:=by
 dsimp only at q0 q1 q2 q3 hkk;have hkm:pk.size≤maxLen:=hkk;unfold maxLen at hkk;go_wp2_with fail;refine(HSZ _).mono ?_;rintro e w5 ⟨rfl,hb5⟩;have HBL5:=hide (HBL.trans (hb5.mono HBL.size));clear hb5 q0 q1 q2 q3;dsimp only;by_cases hc:(pk.size:Int)≤z
 ·rw [if_pos hc];have hn2:decide (z - (pk.size:Int) < 0)=false:=decide_eq_false (by omega);go_wp2_with fail;go_roundw
  case rel=>
   refine⟨k+1,z - pk.size,by omega,by go_num,rfl,by omega,by omega,?_,HBL5⟩;intro p hp;rw [unhide HT] at hp;rcases List.mem_append.1 hp with h|h
   ·exact HALL p h
   ·rw [List.mem_singleton] at h;subst h;show pk.size≤1048576
    omega
  case measure=>simp[intOf];omega
 ·rw [if_neg hc];go_wp2_with fail;go_ret;exact⟨-1,rfl,HBL5,.inl rfl⟩):P:=h
theorem Za7(h:P:=by
 by_cases hk:k.toList=[]
 case' neg=>
  go_wp2_with fail
  go_ret
  exact⟨ret_bool (by rw [unhide HP];simp[zmB,hk]),HBW⟩
 by_cases hn:n=0
 case' neg=>
  have hn':¬(0:Int)=n:=fun e=>hn e.symm
  go_wp2_with fail
  go_ret
  exact⟨ret_bool (by rw [unhide HP];simp[zmB,hk,hn]),HBW⟩
 subst hn;by_cases hmK:mK=0
 case' neg=>
  have hmK':¬(0:Int)=mK:=fun e=>hmK e.symm
  go_wp2_with fail
  go_ret
  exact⟨ret_bool (by rw [unhide HP];simp[zmB,hk,hmK]),HBW⟩
 subst hmK;by_cases hmF:mF=0
 case' neg=>
  have hmF':¬(0:Int)=mF:=fun e=>hmF e.symm
  go_wp2_with fail
  go_ret
  exact⟨ret_bool (by rw [unhide HP];simp[zmB,hk,hmF]),HBW⟩
 subst hmF;by_cases hmT:mT=0
 case' neg=>
  have hmT':¬(0:Int)=mT:=fun e=>hmT e.symm
  go_wp2_with fail
  go_ret
  exact⟨ret_bool (by rw [unhide HP];simp[zmB,hk,hmT]),HBW⟩
 subst hmT;by_cases hmI:mI=0
 case' neg=>
  have hmI':¬(0:Int)=mI:=fun e=>hmI e.symm
  go_wp2_with fail
  go_ret
  exact⟨ret_bool (by rw [unhide HP];simp[zmB,hk,hmI]),HBW⟩
 subst hmI;by_cases hmL:mL=0
 case' neg=>
  have hmL':¬(0:Int)=mL:=fun e=>hmL e.symm
  go_wp2_with fail
  go_ret
  exact⟨ret_bool (by rw [unhide HP];simp[zmB,hk,hmL]),HBW⟩
 subst hmL;by_cases hmk:mk.toList=[]
 case' neg=>
  go_wp2_with fail
  go_ret
  exact⟨ret_bool (by rw [unhide HP];simp[zmB,hk,hmk]),HBW⟩
 by_cases hmN:mN=0
 case' neg=>
  have hmN':¬(0:Int)=mN:=fun e=>hmN e.symm
  go_wp2_with fail
  go_ret
  exact⟨ret_bool (by rw [unhide HP];simp[zmB,hk,hmk,hmN]),HBW⟩
 subst hmN;go_wp2_with fail;go_ret;exact⟨ret_bool (by rw [unhide HP];simp[zmB,hk,hmk]),HBW⟩):P:=h
theorem Za8(h:P:=by
 clear hm;have e1:(m:Int)+1+1=m+2:=by omega
 have e3:(m:Int)+2+1=m+3:=by omega
 go_wp2_with fail;go_region_with (go_at_call 81;refine(HMT _ _ (by omega)).mono ?_;rintro e w1 ⟨rfl,hb1⟩;have hc0:=(bcell hb1).1 g (k*4) (by simpa using hgl);have hc1:=(bcell hb1).1 g (k*4+1) (by simpa using hgl);have hc2:=(bcell hb1).1 g (k*4+2) (by simpa using hgl);have hc3:=(bcell hb1).1 g (k*4+3) (by simpa using hgl);have HBL1:=hide (HBL.trans (((Below.refl _ _).drew.trans hb1).mono HBL.size));clear hb1)
 all_goals
  go_wp2_with fail
  go_roundw
  case rel=>exact⟨k+1,m+4,by omega,by go_num,by go_num,by have:=unhide HM;omega,HBL1⟩
  case measure=>simp[intOf];omega):P:=h
theorem Za9(h:P:=by
 exact⟨by rw [unhide HV],below_regrown _ dq osq⟩):P:=h
theorem Za62(h:P:=by
 intro k ok hk hki hun hno;refine hfree k ok hk hki ?_ hno;by_cases hjk:j=k
 ·subst hjk;exact hjun
 ·rw [getD_set_ne true hjk] at hun;exact hun):P:=h
theorem Za10(h:P:=by
 open Sa68 in exact Ya16):P:=h
theorem Za11(h:P:=by
 rw [unhide HD];clear HD hT;go_enter Tryz.func105,Tryz.ntmps105
 go_upto_region 1 with fail;refine wp_region_mix (by kernel_rfl) ?_;show wpMix _ _ _ _ 18 (Array.replicate 18 false) _ _
 refine tk [0,1,2,3,4,5,6,7,8,9,10,11,12,13,14] ?_;iterate 15 (refine tk0 (fun K hK=>?_);go_simp;refine hK _ ?_;clear hK K)
 refine tkN ?_;refine wpMix_take 15 rfl (by kernel_rfl) (by kernel_rfl) (by kernel_rfl) (fun _ _ _ _ h=>h) (fun K hK=>?_);go_simp
 first
  |(refine hK _ ?_;clear hK K)
  |(apply Exists.intro
    refine⟨fun _=>?_,hK _ ?_⟩
    (exact HNB _ (HTG _))
    clear hK K)
 refine tk [16,17] ?_;iterate 2 (refine tk0 (fun K hK=>?_);go_simp;refine hK _ ?_;clear hK K)
 refine tkN ?_;refine wpMix_done (by kernel_rfl) (fun z hz=>?_);have HZ:=hide ((below_one w (.cells #[.int .i64 mK,.int .i64 mF,.int .i64 mT,.int .i64 mI,.int .i64 mL,.string mk,.int .i64 mN] 32)).trans (hz.mono (by simp)));clear hz y0 y1 y2 y3 y4 y5 y6 y7 y8 z1 z2 HTG;go_simp;go_wp2_with fail;go_ret;exact⟨rfl,HZ⟩):P:=h
theorem Za12(h:P:=by
 open Sa83 in exact Ya17):P:=h
theorem Za13(h:P:=by
 obtain⟨e,hg,hc⟩:=h i hi;exact⟨e,hg,⟨by simpa using(hc 0 (by omega)).1,by simpa using(hc 1 (by omega)).1,by simpa using(hc 2 (by omega)).1,by simpa using(hc 3 (by omega)).1⟩,by simpa using(hc 0 (by omega)).2,(hc 1 (by omega)).2,(hc 2 (by omega)).2,(hc 3 (by omega)).2⟩):P:=h
theorem Za14(h:P:=by
 rw [hW'];exact GR.setW_blk [.int .i64 n3.id,.int .i64 n3.par,.slice A2.k n3.kids.length A2.ck,.int .i64 n3.next,.slice A2.p n3.pu.length A2.cp,.slice A2.o n3.out.length A2.co,.slice A2.s n3.seen.length A2.cs,.int .i64 n3.old,.slice A2.r n3.reqs.length A2.cr] (o:=0) (xs:=[.int .i64 0,.int .i64 0,.slice none 0 0,.int .i64 0,.slice none 0 0,.slice none 0 0,.slice none 0 0,.int .i64 0,.slice none 0 0]) HR2):P:=h
theorem Za15(h:P:=by
 open Sa82 in exact Ya17):P:=h
theorem Za16(h:P:=by
 open Sa283 in exact Ya76):P:=h
theorem Za17(h:P:=by
 go_wp2_with fail;refine H.mono ?_;rintro e w1 ⟨a1,c1,g,hg,rfl,hblk,hb⟩;have HK:=hide hblk;have HB:=hide hb;clear hblk hb;go_wp2_with fail;go_ret2
 exact⟨_,_,g,hg,rfl,HK,HB⟩):P:=h
theorem Za18(h:P:=by
 have hlen:(l.take k).length=k:=by simp;omega
 rw [List.set_append_right _ _ (by omega),hlen,Nat.sub_self];have e:l.length - k=(l.length - (k+1))+1:=by omega
 rw [e,List.replicate_succ,List.take_succ_eq_append_getElem hk,List.append_assoc];rfl):P:=h
theorem Za19(h:P:=by
 open Sa81 in exact Ya17):P:=h
theorem Za20(h:P:=by
 rw [hW'];exact GR.setW_below (by omega) [.int .i64 n3.id,.int .i64 n3.par,.slice A2.k n3.kids.length A2.ck,.int .i64 n3.next,.slice A2.p n3.pu.length A2.cp,.slice A2.o n3.out.length A2.co,.slice A2.s n3.seen.length A2.cs,.int .i64 n3.old,.slice A2.r n3.reqs.length A2.cr] (o:=0) (HB.trans (HW4.keep.mono HB.size))):P:=h
theorem Za21(h:P:=by
 open Sa80 in exact Ya17):P:=h
theorem Za22(h:P:=by
 open Sa79 in exact Ya17):P:=h
theorem Za23(h:P:=by
 open Sa54 in exact Ya13):P:=h
theorem Za24(h:P:=by
 rw [hW'];exact KC.setW (o:=0) [.int .i64 n3.id,.int .i64 n3.par,.slice A2.k n3.kids.length A2.ck,.int .i64 n3.next,.slice A2.p n3.pu.length A2.cp,.slice A2.o n3.out.length A2.co,.slice A2.s n3.seen.length A2.cs,.int .i64 n3.old,.slice A2.r n3.reqs.length A2.cr] (HW4.no.lo _ (by omega))):P:=h
theorem Za25(h:P:=by
 obtain⟨s0,s1,s2,s3⟩:=puBlk.four HB5 k (by omega);open Sa256 in exact Ya68):P:=h
theorem Za26(h:P:=by
 obtain⟨g,off,e,hg,hc⟩:=h i hi;refine⟨g,off,e,hg,?_,?_,?_,?_⟩
 ·simpa using hc 0 (by omega)
 ·simpa [Nat.add_assoc] using hc 1 (by omega)
 ·simpa [Nat.add_assoc] using hc 2 (by omega)
 ·simpa [Nat.add_assoc] using hc 3 (by omega)):P:=h
theorem Za27(h:P:=by
 go_wp2_with fail;go_ret;exact⟨rfl,(Below.refl _ _).alloc (Nat.le_refl _) _⟩):P:=h
theorem Za28(h:P:=by
 constructor
 ·intro hf;have e:l=l.take i++l[i]::l.drop (i+1):=by rw [←List.drop_eq_getElem_cons hi,List.take_append_drop]
  have h2:(l.take i++l[i]::l.drop (i+1)).find? f=some l[i]:=by
   rw [List.find?_append,h,List.find?_cons,hf];rfl
  rw [←e] at h2;exact h2
 ·intro hf;rw [List.take_succ_eq_append_getElem hi,List.find?_append,h,List.find?_cons,hf];rfl):P:=h
theorem Za29(h:P:=by
 have h:=unhide HALL;rw [List.take_length] at h;exact HOK.trans h):P:=h
theorem Za30(h:P:=by
 obtain⟨T,hT,hl,_⟩:=HY3.no.s;have:=(hT i (by rw [hl,unhide HSL];exact hi)).2.2 2 (by omega);exact this.2):P:=h
theorem Za31(h:P:=by
 exact⟨0,z0 - l.length,Nat.zero_le _,rfl,by go_num,by omega,by omega,fun p hp=>by simp at hp,Below.refl _ _⟩):P:=h
theorem Za32(h:P:=by
 exact⟨0,Nat.zero_le _,rfl,Below.refl _ _⟩):P:=h
theorem Za33(h:P:=by
 go_wp2_with (go_at_call 48;first|(refine(l01In_yes _ _ _ _ ?_ ?_).mono ?_;omega;omega;rintro e w' ⟨rfl,rfl⟩)|(refine(l01In_no _ _ _ _ ?_).mono ?_;omega;rintro e w' ⟨rfl,rfl⟩))
 go_ret;exact⟨ret_bool (by rw [unhide HF];simp;omega),rfl⟩):P:=h
theorem Za34(h:P:=by
 open Sa78 in exact Ya17):P:=h
theorem Za35(h:P:=by
 obtain⟨_,_,e0,_⟩:=SeenW.three HWS.wk.no.s i (by rw [unhide HSL];exact hi);exact e0):P:=h
theorem Za36(h:P:=by
 cases fuel with
 |zero=>exact⟨h.1,fun y hy=>h.2 y (Ge.trans hx hy)⟩
 |succ fuel=>exact fun y hy=>h y (Ge.trans hx hy)):P:=h
theorem Za37(h:P:=by
 intro vs;induction vs with
 |nil=>intro w o _;rfl
 |cons v vs ih=>
  intro w o h
  rw [List.length_cons] at h
  exact(ih (w.setCell ⟨g,o,none⟩ v) (o+1) (by omega)).trans (World.cell?_setCell_other _ _ _ _ (by simp<;>omega))):P:=h
theorem Za38(h:P:=by
 exact⟨0,s,Nat.zero_le _,rfl,rfl,rfl,by rw [mks_zero];exact HA,KeepsL.refl _ _⟩):P:=h
theorem Za39(h:P:=by
 have hm:l[i]∈headP l key:=by
  rw [head_take];exact List.mem_take_iff_getElem.2 ⟨i,by omega,rfl⟩
 have:=head_lt hm;rw [e] at this;exact absurd this (List.lt_irrefl _)):P:=h
theorem Za40(h:P:=by
 have HK:=hide (fun w1=>implKeyR k false w1 hk);cases hn:smB n
 ·have HN:=hide (fun w1=>isSomeAmount n false w1 hn);have HP:=hide (show R=(decide (no=0)&&false&&false&&zmB ⟨mK,mF,mT,mI,mL,mk,mN⟩) by rw [←unhide HR];simp[opOk,hk,hn]);exact Za3
 ·have HN:=hide (fun w1=>isSomeAmount n true w1 hn);have HP:=hide (show R=(decide (no=0)&&false&&true&&zmB ⟨mK,mF,mT,mI,mL,mk,mN⟩) by rw [←unhide HR];simp[opOk,hk,hn]);exact Za3):P:=h
theorem Za41(h:P:=by
 refine wpQuiet_nil ?_;intro _ hw';obtain⟨⟨dq,osq⟩,hw''⟩:=hw';subst hw'';go_wp2_with fail;go_meet
 case rel=>exact Za9):P:=h
theorem Za42(h:P:=by
 open Sa223 in exact Ya56):P:=h
theorem Za43(h:P:=by
 have HN:=hide (fun w1=>isSomeAmount n false w1 hn);have HP:=hide (show R=(decide (no=0)&&true&&false&&zmB ⟨mK,mF,mT,mI,mL,mk,mN⟩) by rw [←unhide HR];simp[opOk,hk,hn]);exact Za3):P:=h
theorem Za44(h:P:=by
 have HP:Hid (TT=false):=unhide HBAD (by rw [unhide HVB,hbv];rfl);subst hbv;clear HBAD HNX HBB HOK HVB;go_wp2_with fail;go_ret;exact⟨ret_bool HP.symm,HBL2⟩):P:=h
theorem Za45(h:P:=by
 go_wp2_with fail;refine HKP.mono ?_;rintro e wz ⟨rfl,A5,G5,c5,hfin⟩;have HFIN:=hide hfin;clear hfin;go_wp2_with fail;go_ret;rw [unhide HAD];exact⟨rfl,A5,G5,c5,HFIN⟩):P:=h
theorem Za46(h:P:=by
 intro x hx;rw [hr];refine⟨fun h=>(by cases h),fun j hj=>?_⟩;obtain rfl:j=i:=by simpa using hj
 refine⟨fun e=>absurd e hiE,fun _=>?_⟩;unfold wpOp;simp only[hi];rw [if_pos hw];exact .inl (h x hx)):P:=h
theorem Za47(h:P:=by
 go_wp2_with fail
 all_goals
  go_ret
  exact⟨by simp[*],below_one w _⟩):P:=h
theorem Za48(h:P:=by
 subst hbv;clear HBAD HNX HBB HOK HVB;go_wp2_with fail;go_roundw
 case rel=>exact⟨k+1,by omega,by go_num,HG,HBK2,HBL2⟩
 case measure=>simp[intOf];omega):P:=h
theorem Za49(h:P:=by
 rcases Nat.lt_or_ge g w.heap.size with h'|h'
 ·exact h'
 ·rw [Array.getElem?_eq_none h'] at h;cases h):P:=h
theorem Za50(h:P:=by
 exact⟨e,Nat.lt_of_lt_of_le hg hk.size,fun j hj=>⟨(World.cell?_of_block (w:=w) (hk.block g hg hne)).trans (hc j hj).1,(World.frozen?_of_block (w:=w) (hk.block g hg hne)).trans (hc j hj).2⟩⟩):P:=h
theorem Za51(h:P:=by
 repeat (refine Below.setNew ?_ (by omega))
 exact HB1):P:=h
theorem Za52(h:P:=by
 go_wp2_with fail;go_ret;exact⟨rfl,((Below.refl _ _).alloc (Nat.le_refl _) _).alloc (by simp) _⟩):P:=h
theorem Za53(h:P:=by
 simp only[Int.toNat_natCast] at h;rw [e] at h;exact h):P:=h
theorem Za54(h:P:=by
 obtain⟨g',off',e,hg',hc⟩:=hat i hi;cases e
 refine⟨rfl,hg',fun j hj=>⟨?_,?_⟩⟩
 ·have:=hc j hj;rwa [Nat.zero_add] at this
 ·unfold World.frozen?;rw [hblk];simp):P:=h
theorem Za55(h:P:=by
 exact⟨0,s,Nat.zero_le _,rfl,rfl,rfl,Below.refl _ _⟩):P:=h
theorem Za56(h:P:=by
 go_wp2_with fail;go_ret;exact⟨-1,rfl,Below.refl _ _,.inl rfl⟩):P:=h
theorem Za57(h:P:=by
 rintro e w' ⟨rfl,A',G',c',hW'⟩;exact⟨rfl,A',G',c',v,by rw [List.append_nil];exact hW'⟩):P:=h
theorem Za58(h:P:=by
 go_wp2_with fail;go_ret;exact⟨rfl,rfl⟩):P:=h
theorem Za59(h:P:=by
 generalize l[k]=y at *;go_wp2_with fail;go_round
 case rel=>exact⟨k+1,by omega,by go_num,by rw [unhide HS,unhide HN];rfl⟩
 case measure=>simp[intOf];omega):P:=h
theorem Za60(h:P:=by
 go_ret;exact⟨ret_bool HN.symm,below_one w _⟩):P:=h
theorem Za61(h:P:=by
 exact(((Below.refl _ _).alloc (Nat.le_refl _) _).alloc (by simp) _).alloc (by simp;omega) _):P:=h
theorem Za63(h:P:=by
 rw [Below.heap_setCell _ _ _ _ hkn',hg.block k (by simp;omega) (fun e=>by have:=hvb k e.symm;omega),Below.heap_alloc _ _ _ (by omega)];exact h.keep.block k hk hkn):P:=h
theorem Za64(h:P:=by
 go_wp2_with fail;exact bodyPost_ret (v:= .tuple #[ifv ⟨0,F,T,I,L,k,N⟩,.bool false]) (by simp[results,Tryz.results184,go_sem,ifv]) rfl ⟨by rw [unhide HP],HBL5⟩):P:=h
theorem Za65(h:P:=by
 go_wp2_with fail;exact bodyPost_ret (v:= .tuple #[ifv ⟨2,F,T,I,L,k,N⟩,.bool false]) (by simp[results,Tryz.results184,go_sem,ifv]) rfl ⟨by rw [unhide HP],HBL5⟩):P:=h
theorem Za66(h:P:=by
 rw [ej,←hf,hu] at h2;injection e with e
 subst e;have ea:(⟨g,off,none⟩:Addr).add j=⟨g,off+j,none⟩:=by unfold Addr.add;split<;>simp_all
 rw [ea];exact h2):P:=h
theorem Za67(h:P:=by
 intro vs;induction vs with
 |nil=>intro w o;rfl
 |cons v vs ih=>intro w o;exact(ih (w.setCell ⟨g,o,none⟩ v) (o+1)).trans (by rw [World.frozen?_setCell])):P:=h
theorem Za68(h:P:=by
 have h:=unhide HCL k hlt;have h2:=unhide HALL;rw [←unhide HY] at h;exact h.trans (by rw [show(fun s t:Int=>ltB s t)=ltB from rfl,h2];rfl)):P:=h
theorem Za69(h:P:=by
 have:=ready_mono hj hji;rw [H.1] at this;cases this):P:=h
theorem Za70(h:P:=by
 go_enter Tryz.func127,Tryz.ntmps127
 go_wp2_with (go_at_call 51;refine(HI _).mono ?_;rintro e w1 ⟨rfl,rfl⟩)
 go_ret;exact⟨rfl,below_one w _⟩):P:=h
theorem Za71(h:P:=by
 unfold World.setCell;simp only[Array.getElem?_modify];rw [if_pos trivial,h];rfl):P:=h
theorem Za72(h:P:=by
 rw [hr];refine⟨fun h=>(by cases h),fun j hj=>?_⟩;obtain rfl:j=i:=by simpa using hj
 unfold wpOp;simp only[hi];rw [if_pos hw];exact .inl (h x hx)):P:=h
theorem Za73(h:P:=by
 intro vs;induction vs with
 |nil=>intro w o;rfl
 |cons v vs ih=>intro w o;exact(ih (w.setCell ⟨g,o,none⟩ v) (o+1)).trans (by simp[World.setCell])):P:=h
theorem Za74(h:P:=by
 rcases HPK with h|⟨j,y,h1,h2,h3⟩
 ·exact .inl h
 ·exact .inr ⟨j,y,h1,h2,(hbw.cell (p:=⟨g,off+j*4,none⟩) hgw).trans h3⟩):P:=h
theorem Za75(h:P:=by
 go_enter Tryz.func156,Tryz.ntmps156
 go_wp2
 go_ret;exact⟨rfl,rfl⟩):P:=h
theorem Za76(h:P:=by
 exact⟨0,Nat.zero_le _,rfl,by unfold puBlk GR.Blk;rw [List.take_zero,List.nil_append,Nat.sub_zero];exact heap_alloc_new w _,below_one' w _⟩):P:=h
theorem Za77(h:P:=by
 go_enter Tryz.func181,Tryz.ntmps181
 go_wp2
 go_ret;exact⟨rfl,rfl⟩):P:=h
theorem Za78(h:P:=by
 go_enter Tryz.func182,Tryz.ntmps182
 go_wp2
 go_ret;exact⟨rfl,rfl⟩):P:=h
theorem Za79(h:P:=by
 have HBAD:=hide (psOk_bad hlt (show okAt l (j+1)=false by rw [unhide HOKA];simp[hsl]));clear HOKA HNX hsl;exact Za2):P:=h
theorem Za80(h:P:=by
 clear HBB;refine wp_region_quiet_below (by kernel_rfl) (by kernel_rfl) ?_;repeat (first|go_big_quiet_step ((first|(go_at_call_of 48 si;exact a1 _ _)|(go_at_call 50;exact a2 _ _)|(go_at_call 46;exact a3 _ _)|(go_at_call_of 48 st;exact a4 _ _)))|quiet_step ((first|(go_at_call_of 48 si;exact a1 _ _)|(go_at_call 50;exact a2 _ _)|(go_at_call 46;exact a3 _ _)|(go_at_call_of 48 st;exact a4 _ _))))
 exact Za41):P:=h
theorem Za81(h:P:=by
 clear HBB;refine wp_region_quiet_below (by kernel_rfl) (by kernel_rfl) ?_;repeat (first|go_big_quiet_step ((first|(go_at_call 48;exact a1 _ _)|(go_at_call 49;exact a2 _ _)|(go_at_call 50;exact a3 _ _)|(go_at_call 46;exact a4 _ _)))|quiet_step ((first|(go_at_call 48;exact a1 _ _)|(go_at_call 49;exact a2 _ _)|(go_at_call 50;exact a3 _ _)|(go_at_call 46;exact a4 _ _))))
 exact Za41):P:=h
theorem Za82(h:P:=by
 clear HBB;refine wp_region_quiet_below (by kernel_rfl) (by kernel_rfl) ?_;repeat (first|go_big_quiet_step ((first|(go_at_call 49;exact cN _ _)|(go_at_call 46;exact cS _ _)))|quiet_step ((first|(go_at_call 49;exact cN _ _)|(go_at_call 46;exact cS _ _))))
 exact Za41):P:=h
theorem Za83(h:P:=by
 go_enter Tryz.func152,Tryz.ntmps152
 go_wp2_with (go_at_call 150;refine(HA _).mono ?_;rintro e w1 ⟨rfl,rfl⟩)
 exact Za60):P:=h
theorem Za84(h:P:=by
 unfold wpOp;simp only[hi];rw [if_pos hwi];exact .inl (h1 x hx)):P:=h
theorem Za85(h:P:=by
 unfold wpOp;simp only[hj];rw [if_pos hwj];exact .inl (h2 x hx)):P:=h
theorem Za86(h:P:=by
 go_enter Tryz.func48,Tryz.ntmps48
 go_wp2
 go_ret;exact⟨rfl,rfl⟩):P:=h
theorem Za87(h:P:=by
 subst hji;exact(hy.toG hb).wpOp hi hx fun y hy'=>⟨hy'.mono (Nat.le_trans hb hx.size),wpMixB_grow (Ge.trans hx hy') H⟩):P:=h
theorem Za88(h:P:=by
 go_enter Tryz.func49,Tryz.ntmps49
 go_wp2_with (go_at_call 124;refine HH.mono ?_;rintro e w1 ⟨rfl,rfl⟩)
 exact Za60):P:=h
theorem Za89(h:P:=by
 go_enter Tryz.func247,Tryz.ntmps247
 go_wp2
 refine wp_loop_rounds 1 ?_;rw [rounds_succ];go_wp2
 go_ret;exact⟨rfl,rfl⟩):P:=h
theorem Za90(h:P:=by
 go_wp2_with fail;go_roundw
 case rel=>exact⟨k+1,by omega,by go_num,HB1⟩
 case measure=>simp[intOf];omega):P:=h
theorem Za91(h:P:=by
 exact((Below.refl _ _).alloc (Nat.le_refl _) _).alloc (by simp) _):P:=h
theorem Za92(h:P:=by
 go_wp2_with (go_at_call 48;refine(l01InR _ _ _ r _ h).mono ?_;rintro e w1 ⟨rfl,rfl⟩)
 go_ret;exact⟨rfl,rfl⟩):P:=h
theorem Za93(h:P:=by
 obtain⟨c0,c1,c2,c3,c4,c5,c6,c7,c8,c9⟩:=tenC h.blk;clear h;go_enter Tryz.func165,Tryz.ntmps165
 exact Za58):P:=h
theorem Za94(h:P:=by
 rcases hrow.2 with⟨rfl,h0⟩|⟨g,cap,cur,rfl,_⟩
 ·exact⟨none,0,by rw [h0]⟩
 ·exact⟨_,_,rfl⟩):P:=h
theorem Za95(h:P:=by
 go_round
 case rel=>exact⟨k+1,x,by omega,by go_num,rfl,HLN.symm,HV⟩
 case measure=>simp[intOf];omega):P:=h
theorem Za96(h:P:=by
 rw [List.length_append,List.length_append,flatQ_len,List.length_take,List.length_drop,List.length_drop];omega):P:=h
theorem Za97(h:P:=by
 cases hv:v'.ownBlock with
 |none=>exact .inl rfl
 |some k=>exact .inr (fun e=>hne k hv (by injection e))):P:=h
theorem Za98(h:P:=by
 simp only[Bool.and_eq_true,decide_eq_true_eq] at h;omega):P:=h
theorem Za99(h:P:=by
 simp only[Bool.and_eq_true,decide_eq_true_eq];omega):P:=h
theorem Za100(h:P:=by
 exact hk2.seen (hk1.seen hno.s hno.c4 hno.ci (by omega) (by omega)) hno.c4 hno.ci (by omega) (by omega)):P:=h
theorem Za101(h:P:=by
 have h:=unhide HCL k hlt;have h2:=unhide HALL;rw [←unhide HY] at h;rw [h,h2];rfl):P:=h
theorem Za102(h:P:=by
 have:=of_fp hx;rw [this.1];exact fp_mem (by omega)):P:=h
theorem Za103(h:P:=by
 rw [List.length_append,List.length_append,List.length_take,List.length_drop,h1];show _+4+_=_
 omega):P:=h
theorem Za104(h:P:=by
 rcases List.mem_cons.1 (hs a (by simp)) with h|h
 ·exact absurd h hab
 ·exact h):P:=h
theorem Za105(h:P:=by
 go_enter Tryz.func153,Tryz.ntmps153
 go_wp2
 go_ret;exact⟨ret_bool HF.symm,rfl⟩):P:=h
theorem Za106(h:P:=by
 refine ndOk_setSeen hi h hf.symm ?_;have:=idsS_ok hs hL;rw [hf] at this;exact this):P:=h
theorem Za107(h:P:=by
 obtain⟨p,rfl⟩:=regrown_of_below hx;exact hv p):P:=h
theorem Za108(h:P:=by
 go_simp;go_wp2_with fail;go_ret;exact⟨rfl,A,G,c,v,by rw [List.append_nil];exact HZ⟩):P:=h
theorem Za109(h:P:=by
 rcases List.mem_cons.1 hx with h2|h2
 ·omega
 ·have:=hA'.1 x h2;omega):P:=h
theorem Za110(h:P:=by
 exact⟨0,Nat.zero_le _,rfl,rfl,Below.refl _ _⟩):P:=h
theorem Za111(h:P:=by
 cases sp with
 |nil=>simp at hspl;omega
 |cons s0 sp'=>exact⟨s0,sp',rfl⟩):P:=h
theorem Za112(h:P:=by
 go_ret;exact⟨ret_bool (HP.symm.trans HQ),hB⟩):P:=h
theorem Za113(h:P:=by
 subst hji;exact hy.wpOp hi hx fun y hy'=>⟨hy',wpMixE_grow (Ge.trans hx hy') H⟩):P:=h
theorem Za114(h:P:=by
 subst hji;exact hy.wpOp hi hx fun y hy'=>⟨hy',wpMixF_grow (Ge.trans hx hy') H⟩):P:=h
theorem Za115(h:P:=by
 obtain⟨D,⟨es,clock,h1,h2⟩,ha⟩:=h;exact⟨D,⟨es,clock,hb.trans h1,h2⟩,ha⟩):P:=h
theorem Za116(h:P:=by
 subst hji;exact hy.wpOp hi hx fun y hy'=>⟨hy',wpMix_grow (Ge.trans hx hy') H⟩):P:=h
theorem Za117(h:P:=by
 rintro e w' ⟨rfl,rfl⟩;exact⟨rfl,A,G,c,v,by rw [List.append_nil];exact h⟩):P:=h
theorem Za118(h:P:=by
 rw [Nat.add_mul,Nat.one_mul] at this;omega):P:=h
theorem Za119(h:P:=by
 exact⟨k+1,by omega,by go_num,HBW.trans ((Ge.trans HX3 HSM).mono HBW.size)⟩):P:=h
theorem Za120(h:P:=by
 show(takeN n o.m).1.id=n.id
 unfold takeN;split
 ·rfl
 ·split<;>rfl):P:=h
theorem Za121(h:P:=by
 unfold addP withP at *;split at h
 ·cases h
 ·rename_i hc
  rw [if_neg hc]):P:=h
theorem Ya0(h:P:=by
 have HX:=hide hx;have HKQ:=hide hK;clear hx hK;generalize actN n o=TT at *;open Sa218 in exact Ya54):P:=h
theorem Sa0.Ka0(h:P:=by
 have c0:W.cell? ⟨w2.heap.size,5,none⟩=some (.func (.func 111) #[.pointer (some ⟨wb,0,none⟩)] #[]):=cell_of_row W _ 5 _ _ (0,0) e1;exact Za0):P:=h
theorem Sa1.Ka0(h:P:=by
 have c0:W.cell? ⟨w2.heap.size,4,none⟩=some (.func (.func 110) #[.pointer (some ⟨wb,0,none⟩)] #[]):=cell_of_row W _ 4 _ _ (0,0) e1;exact Za0):P:=h
theorem Sa2.Ka0(h:P:=by
 have c0:W.cell? ⟨w2.heap.size,3,none⟩=some (.func (.func 109) #[.pointer (some ⟨wb,0,none⟩)] #[]):=cell_of_row W _ 3 _ _ (0,0) e1;exact Za0):P:=h
theorem Sa3.Ka0(h:P:=by
 have c0:W.cell? ⟨w2.heap.size,2,none⟩=some (.func (.func 108) #[.pointer (some ⟨wb,0,none⟩)] #[]):=cell_of_row W _ 2 _ _ (0,0) e1;exact Za0):P:=h
theorem Sa4.Ka0(h:P:=by
 have c0:W.cell? ⟨w2.heap.size,1,none⟩=some (.func (.func 107) #[.pointer (some ⟨wb,0,none⟩)] #[]):=cell_of_row W _ 1 _ _ (0,0) e1;exact Za0):P:=h
theorem Sa5.Ka0(h:P:=by
 have c0:W.cell? ⟨w2.heap.size,0,none⟩=some (.func (.func 106) #[.pointer (some ⟨wb,0,none⟩)] #[]):=cell_of_row W _ 0 _ _ (0,0) e1;exact Za0):P:=h
theorem Ya1(h:P:=by
 open Sa107 in exact Ya25):P:=h
theorem Sa6.Ka1(h:P:=by
 go_wp2_with fail;exact bodyPost_ret (v:= .tuple #[ifv ⟨2,F,T,I,0,ByteArray.empty,0⟩,.bool true]) (by simp[results,Tryz.results184,go_sem,ifv]) rfl ⟨by rw [unhide HP],HBL5⟩):P:=h
theorem Sa7.Ka1(h:P:=by
 go_wp2_with fail;exact bodyPost_ret (v:= .tuple #[ifv ⟨2,F,T,I,0,ByteArray.empty,N⟩,.bool false]) (by simp[results,Tryz.results184,go_sem,ifv]) rfl ⟨by rw [unhide HP],HBL5⟩):P:=h
theorem Sa8.Ka1(h:P:=by
 go_wp2_with fail;exact bodyPost_ret (v:= .tuple #[ifv ⟨2,F,T,I,0,k,N⟩,.bool false]) (by simp[results,Tryz.results184,go_sem,ifv]) rfl ⟨by rw [unhide HP],HBL5⟩):P:=h
theorem Sa9.Ka1(h:P:=by
 exact Za65):P:=h
theorem Ya2(h:P:=by
 have HW:=hide h;obtain⟨K,no,k,nn,⟨mK,mF,mT,mI,mL,mk,mN⟩⟩:=o;dsimp only at *;open Sa47 in exact Ya12):P:=h
theorem Sa10.Ka2(h:P:=by
 go_enter Tryz.func108,Tryz.ntmps108
 open Sa53 in exact Ya13):P:=h
theorem Sa11.Ka2(h:P:=by
 go_enter Tryz.func108,Tryz.ntmps108
 open Sa52 in exact Ya13):P:=h
theorem Sa12.Ka2(h:P:=by
 go_enter Tryz.func108,Tryz.ntmps108
 exact Za23):P:=h
theorem Sa13.Ka2(h:P:=by
 go_enter Tryz.func107,Tryz.ntmps107
 open Sa51 in exact Ya13):P:=h
theorem Sa14.Ka2(h:P:=by
 go_enter Tryz.func107,Tryz.ntmps107
 open Sa50 in exact Ya13):P:=h
theorem Sa15.Ka2(h:P:=by
 go_enter Tryz.func107,Tryz.ntmps107
 exact Za23):P:=h
theorem Sa16.Ka2(h:P:=by
 go_enter Tryz.func108,Tryz.ntmps108
 open Sa49 in exact Ya13):P:=h
theorem Ya3(h:P:=by
 cases h1:decide (old+1≤si∧si≤1000000000)
 case' false=>
  have a1:=rIn si (old+1) 1000000000 false W1 h1
  have HV:=hide (show bb=true by rw [←unhide HBB];simp[h1])
  clear HBB
  refine wp_region_quiet_below (by kernel_rfl) (by kernel_rfl) ?_
  repeat (first|go_big_quiet_step ((first|(go_at_call_of 48 si;exact a1 _ _)))|quiet_step ((first|(go_at_call_of 48 si;exact a1 _ _))))
  refine wpQuiet_nil ?_
  intro _ hw'
  obtain⟨⟨dq,osq⟩,hw''⟩:=hw'
  subst hw''
  go_wp2_with fail
  go_meet
  case rel=>exact Za9
 have a1:=rIn si (old+1) 1000000000 true W1 h1;cases h2:keyOk sx.data.toList
 case' false=>
  have a2:=rKey sx false W1 (Nat.le_trans hks (by unfold maxLen;omega)) h2
  have HV:=hide (show bb=true by rw [←unhide HBB];simp[h2])
  clear HBB
  refine wp_region_quiet_below (by kernel_rfl) (by kernel_rfl) ?_
  repeat (first|go_big_quiet_step ((first|(go_at_call_of 48 si;exact a1 _ _)|(go_at_call 50;exact a2 _ _)))|quiet_step ((first|(go_at_call_of 48 si;exact a1 _ _)|(go_at_call 50;exact a2 _ _))))
  refine wpQuiet_nil ?_
  intro _ hw'
  obtain⟨⟨dq,osq⟩,hw''⟩:=hw'
  subst hw''
  go_wp2_with fail
  go_meet
  case rel=>exact Za9
 have a2:=rKey sx true W1 (Nat.le_trans hks (by unfold maxLen;omega)) h2;cases h3:smB sn
 case' false=>
  have a3:=rSome sn false W1 h3
  have HV:=hide (show bb=true by rw [←unhide HBB];simp[h3])
  clear HBB
  refine wp_region_quiet_below (by kernel_rfl) (by kernel_rfl) ?_
  repeat (first|go_big_quiet_step ((first|(go_at_call_of 48 si;exact a1 _ _)|(go_at_call 50;exact a2 _ _)|(go_at_call 46;exact a3 _ _)))|quiet_step ((first|(go_at_call_of 48 si;exact a1 _ _)|(go_at_call 50;exact a2 _ _)|(go_at_call 46;exact a3 _ _))))
  refine wpQuiet_nil ?_
  intro _ hw'
  obtain⟨⟨dq,osq⟩,hw''⟩:=hw'
  subst hw''
  go_wp2_with fail
  go_meet
  case rel=>exact Za9
 have a3:=rSome sn true W1 h3;cases h4:decide (0≤st∧st≤2)
 case' false=>
  have a4:=rIn st 0 2 false W1 h4
  have HV:=hide (show bb=true by rw [←unhide HBB];simp[h4])
  clear HBB
  refine wp_region_quiet_below (by kernel_rfl) (by kernel_rfl) ?_
  repeat (first|go_big_quiet_step ((first|(go_at_call_of 48 si;exact a1 _ _)|(go_at_call 50;exact a2 _ _)|(go_at_call 46;exact a3 _ _)|(go_at_call_of 48 st;exact a4 _ _)))|quiet_step ((first|(go_at_call_of 48 si;exact a1 _ _)|(go_at_call 50;exact a2 _ _)|(go_at_call 46;exact a3 _ _)|(go_at_call_of 48 st;exact a4 _ _))))
  refine wpQuiet_nil ?_
  intro _ hw'
  obtain⟨⟨dq,osq⟩,hw''⟩:=hw'
  subst hw''
  go_wp2_with fail
  go_meet
  case rel=>exact Za9
 have a4:=rIn st 0 2 true W1 h4;exact Ka3):P:=h
theorem Sa17.Ka3(h:P:=by
 by_cases hp:y < si
 case' neg=>
  have hy:decide (si≤y)=true:=decide_eq_true (by omega)
  have HV:=hide (show bb=true by rw [←unhide HBB];simp[hp])
  clear HBB
  refine wp_region_quiet_below (by kernel_rfl) (by kernel_rfl) ?_
  repeat (first|go_big_quiet_step ((first|(go_at_call_of 48 si;exact a1 _ _)|(go_at_call 50;exact a2 _ _)|(go_at_call 46;exact a3 _ _)|(go_at_call_of 48 st;exact a4 _ _)))|quiet_step ((first|(go_at_call_of 48 si;exact a1 _ _)|(go_at_call 50;exact a2 _ _)|(go_at_call 46;exact a3 _ _)|(go_at_call_of 48 st;exact a4 _ _))))
  refine wpQuiet_nil ?_
  intro _ hw'
  obtain⟨⟨dq,osq⟩,hw''⟩:=hw'
  subst hw''
  go_wp2_with fail
  go_meet
  case rel=>exact Za9
 have hy:decide (si≤y)=false:=decide_eq_false (by omega);have HV:=hide (show bb=false by rw [←unhide HBB];simp[h1,h2,h3,h4,hp]);exact Za80):P:=h
theorem Sa18.Ka3(h:P:=by
 have HV:=hide (show bb=false by rw [←unhide HBB];simp[h1,h2,h3,h4]);exact Za80):P:=h
theorem Ya4(h:P:=by
 cases h1:decide (1≤si∧si≤next - 1)
 case' false=>
  have a1:=rIn si 1 (next - 1) false W1 h1
  have HV:=hide (show bb=true by rw [←unhide HBB];simp[h1])
  clear HBB
  refine wp_region_quiet_below (by kernel_rfl) (by kernel_rfl) ?_
  repeat (first|go_big_quiet_step ((first|(go_at_call 48;exact a1 _ _)))|quiet_step ((first|(go_at_call 48;exact a1 _ _))))
  refine wpQuiet_nil ?_
  intro _ hw'
  obtain⟨⟨dq,osq⟩,hw''⟩:=hw'
  subst hw''
  go_wp2_with fail
  go_meet
  case rel=>exact Za9
 have a1:=rIn si 1 (next - 1) true W1 h1;cases h2:NN st
 case' false=>
  have a2:=unhide HNR st false W1 HBL1 h2
  have HV:=hide (show bb=true by rw [←unhide HBB];simp[h2])
  clear HBB
  refine wp_region_quiet_below (by kernel_rfl) (by kernel_rfl) ?_
  repeat (first|go_big_quiet_step ((first|(go_at_call 48;exact a1 _ _)|(go_at_call 49;exact a2 _ _)))|quiet_step ((first|(go_at_call 48;exact a1 _ _)|(go_at_call 49;exact a2 _ _))))
  refine wpQuiet_nil ?_
  intro _ hw'
  obtain⟨⟨dq,osq⟩,hw''⟩:=hw'
  subst hw''
  go_wp2_with fail
  go_meet
  case rel=>exact Za9
 have a2:=unhide HNR st true W1 HBL1 h2;cases h3:keyOk sx.data.toList
 case' false=>
  have a3:=rKey sx false W1 (Nat.le_trans hks (by unfold maxLen;omega)) h3
  have HV:=hide (show bb=true by rw [←unhide HBB];simp[h3])
  clear HBB
  refine wp_region_quiet_below (by kernel_rfl) (by kernel_rfl) ?_
  repeat (first|go_big_quiet_step ((first|(go_at_call 48;exact a1 _ _)|(go_at_call 49;exact a2 _ _)|(go_at_call 50;exact a3 _ _)))|quiet_step ((first|(go_at_call 48;exact a1 _ _)|(go_at_call 49;exact a2 _ _)|(go_at_call 50;exact a3 _ _))))
  refine wpQuiet_nil ?_
  intro _ hw'
  obtain⟨⟨dq,osq⟩,hw''⟩:=hw'
  subst hw''
  go_wp2_with fail
  go_meet
  case rel=>exact Za9
 have a3:=rKey sx true W1 (Nat.le_trans hks (by unfold maxLen;omega)) h3;cases h4:smB sn
 case' false=>
  have a4:=rSome sn false W1 h4
  have HV:=hide (show bb=true by rw [←unhide HBB];simp[h4])
  clear HBB
  refine wp_region_quiet_below (by kernel_rfl) (by kernel_rfl) ?_
  repeat (first|go_big_quiet_step ((first|(go_at_call 48;exact a1 _ _)|(go_at_call 49;exact a2 _ _)|(go_at_call 50;exact a3 _ _)|(go_at_call 46;exact a4 _ _)))|quiet_step ((first|(go_at_call 48;exact a1 _ _)|(go_at_call 49;exact a2 _ _)|(go_at_call 50;exact a3 _ _)|(go_at_call 46;exact a4 _ _))))
  refine wpQuiet_nil ?_
  intro _ hw'
  obtain⟨⟨dq,osq⟩,hw''⟩:=hw'
  subst hw''
  go_wp2_with fail
  go_meet
  case rel=>exact Za9
 have a4:=rSome sn true W1 h4;exact Ka4):P:=h
theorem Sa19.Ka4(h:P:=by
 by_cases hp:y < si
 case' neg=>
  have hy:decide (si≤y)=true:=decide_eq_true (by omega)
  have HV:=hide (show bb=true by rw [←unhide HBB];simp[hp])
  clear HBB
  refine wp_region_quiet_below (by kernel_rfl) (by kernel_rfl) ?_
  repeat (first|go_big_quiet_step ((first|(go_at_call 48;exact a1 _ _)|(go_at_call 49;exact a2 _ _)|(go_at_call 50;exact a3 _ _)|(go_at_call 46;exact a4 _ _)))|quiet_step ((first|(go_at_call 48;exact a1 _ _)|(go_at_call 49;exact a2 _ _)|(go_at_call 50;exact a3 _ _)|(go_at_call 46;exact a4 _ _))))
  refine wpQuiet_nil ?_
  intro _ hw'
  obtain⟨⟨dq,osq⟩,hw''⟩:=hw'
  subst hw''
  go_wp2_with fail
  go_meet
  case rel=>exact Za9
 have hy:decide (si≤y)=false:=decide_eq_false (by omega);have HV:=hide (show bb=false by rw [←unhide HBB];simp[h1,h2,h3,h4,hp]);exact Za81):P:=h
theorem Sa20.Ka4(h:P:=by
 have HV:=hide (show bb=false by rw [←unhide HBB];simp[h1,h2,h3,h4]);exact Za81):P:=h
theorem Ya5(h:P:=by
 open Sa106 in exact Ya25):P:=h
theorem Sa21.Ka5(h:P:=by
 go_wp2_with fail;exact bodyPost_ret (v:= .tuple #[ifv ⟨0,F,T,0,0,k,N⟩,.bool true]) (by simp[results,Tryz.results184,go_sem,ifv]) rfl ⟨by rw [unhide HP],HBL5⟩):P:=h
theorem Sa22.Ka5(h:P:=by
 go_wp2_with fail;exact bodyPost_ret (v:= .tuple #[ifv ⟨0,F,T,0,L,k,N⟩,.bool false]) (by simp[results,Tryz.results184,go_sem,ifv]) rfl ⟨by rw [unhide HP],HBL5⟩):P:=h
theorem Sa23.Ka5(h:P:=by
 exact Za64):P:=h
theorem Ya6(h:P:=by
 open Sa187 in exact Ya45):P:=h
theorem Sa24.Ka6(h:P:=by
 have HPZ:=hide (obj_step HPB hz);clear hz y0 y1 y2 y3 y4 y5 y6 y7 y8 z1 HTG;go_simp;obtain⟨⟨p0,p1,p2,p3,p4,p5,p6⟩,_⟩:=seven_at HPZ;have hBz:=obj_lt HPZ;go_wp2_with fail;refine(HPY z HZ).mono ?_;rintro e y ⟨rfl,A',G',c',v',hY⟩;have HY:=hide hY;clear hY HPY p0 p1 p2 p3 p4 p5 p6;go_wp2_with fail;go_ret;exact⟨rfl,A',G',c',v',HY⟩):P:=h
theorem Sa25.Ka6(h:P:=by
 clear hz y0 y1 y2 y3 y4 y5 y6 y7 y8 z1 HTG;exact Za108):P:=h
theorem Ya7(h:P:=by
 go_upto_region 6 with fail;refine Fo.wp_at (fun V hV=>?_);open Sa251 in exact Ya66):P:=h
theorem Sa26.Ka7(h:P:=by
 open Sa184 in exact Ya44):P:=h
theorem Sa27.Ka7(h:P:=by
 open Sa183 in exact Ya44):P:=h
theorem Sa28.Ka7(h:P:=by
 open Sa333 in exact Ya98):P:=h
theorem Sa29.Ka7(h:P:=by
 clear hblk hV c0 c1 c2 c3;open Sa310 in exact Ya88):P:=h
theorem Sa30.Ka7(h:P:=by
 clear hblk hV c0 c1 c2 c3;open Sa307 in exact Ya87):P:=h
theorem Ya8(h:P:=by
 obtain⟨K,no,k,nn,⟨mK,mF,mT,mI,mL,mk,mN⟩⟩:=o;first|dsimp only at * |skip
 go_enter Tryz.func10,Tryz.ntmps10
 go_upto_region 1 with fail;refine wp_at (fun W0 hW=>?_);obtain⟨e1,e2,e3,e4⟩:=allocs3E w (.cells (ndc n A) 30) (.cells #[.int .i64 K,.int .i64 no,.string k,.int .i64 nn,.int .i64 mK,.int .i64 mF,.int .i64 mT,.int .i64 mI,.int .i64 mL,.string mk,.int .i64 mN] 34) (.cells zc9 30);rw [←hW] at e1 e2 e3 e4;have HN:=hide e1;have HO:=hide e2;have HR:=hide e3;have HB:=hide e4;clear hW e1 e2 e3 e4;obtain⟨c0,c1,c2,c3,c4,c5,c6,c7,c8⟩:=nine HN;have hl0:=obj_lt HR;go_wp2_with fail;refine(HCP W0 HB).mono ?_;rintro e y ⟨A1,G1,cc1,rfl,hNO,hby⟩;have HNO:=hide hNO;have HBY:=hide hby;clear hNO hby c0 c1 c2 c3 c4 c5 c6 c7 c8 HCP;go_upto_region 2 with fail;refine wp_at (fun W hW=>?_);have e5:W.heap[y.heap.size]?=some (.cells (wkc n A1 (.slice none 0 0)) 74 (0,0)):=by rw [hW];exact heap_alloc_new _ _
 have e6:Below y.heap.size y W:=by rw [hW];exact below_one _ _
 have HW:=hide (WK.start HBY HNO (Nat.le_refl y.heap.size) e6 e5);have HNW:=hide (obj_step HN (HBY.trans (e6.mono HBY.size)));clear hW e5 e6 HNO HN;generalize newC y.heap.size 8 cc1=cc2 at *;have hyl:=obj_lt HW.blk;generalize y.heap.size=wb at *;obtain⟨c0,c1,c2,c3,c4,c5,c6,c7,c8⟩:=nine HNW;have hnl:=obj_lt HNW;go_wp2_with fail;refine(HOK W (HB.trans (HW.keep.mono HB.size))).mono ?_;rintro e W2 ⟨rfl,hb2⟩;have HW2:=hide (HW.step hb2);clear hb2 c0 c1 c2 c3 c4 c5 c6 c7 c8 HOK HNW hyl hnl HW;exact Ka8):P:=h
theorem Sa31.Ka8(h:P:=by
 have HDO2:=hide (HDO W2 W0 wb A1 G1 cc2 _ HW2 (HE.below HB));have HO2:=hide (obj_step HO HW2.keep);obtain⟨⟨p0,p1,p2,p3,p4,p5,p6,p7,p8,p9,p10⟩,_⟩:=eleven_at HO2;have hol:=obj_lt HO2;go_wp2_with fail;refine HDO2.mono ?_;rintro e W3 ⟨rfl,A2,G2,cc3,v3,hW3⟩;have HW3:=hide hW3;clear hW3 HDO HDO2 p0 p1 p2 p3 p4 p5 p6 p7 p8 p9 p10 hol HW2 HO2
 obtain⟨a3,cp3,hv3⟩:∃a cp,v3= .slice a RR.2.1.length cp:=by
  obtain⟨a,cp,he,_⟩:=GR.own_at (enc:=encM) (sz:=7) encM_length HW3.m;exact⟨a,cp,he⟩
 subst hv3;rw [List.nil_append] at HW3;obtain⟨n3,L3,code3⟩:=RR;first|dsimp only at * |skip
 obtain⟨c0,c1,c2,c3,c4,c5,c6,c7,c8,c9⟩:=tenC HW3.blk;have hwl:=obj_lt HW3.blk;clear c0 c1 c2 c3 c4 c5 c6 c7 c8 c9;go_upto_region 5 with fail;refine wp_region_anyG (by kernel_rfl) ?_;show wpAnyG _ _ _ _ 8 (Array.replicate 8 false) _ _
 open Sa182 in exact Ya43):P:=h
theorem Sa32.Ka8(h:P:=by
 have HR2:=hide (obj_step HR HW2.keep);obtain⟨c0,c1,c2,c3,c4,c5,c6,c7,c8,c9⟩:=tenC HW2.blk;open Sa249 in exact Ya65):P:=h
theorem Ya9(h:P:=by
 cases h3:smB lo
 case' false=>
  have cS:=rSome lo false W1 h3
  have HV:=hide (show bb=true by rw [←unhide HBB];simp[h3])
  clear HBB
  refine wp_region_quiet_below (by kernel_rfl) (by kernel_rfl) ?_
  repeat (first|go_big_quiet_step ((first|(go_at_call 49;exact cN _ _)|(go_at_call 46;exact cS _ _)))|quiet_step ((first|(go_at_call 49;exact cN _ _)|(go_at_call 46;exact cS _ _))))
  refine wpQuiet_nil ?_
  intro _ hw'
  obtain⟨⟨dq,osq⟩,hw''⟩:=hw'
  subst hw''
  go_wp2_with fail
  go_meet
  case rel=>exact Za9
 have cS:=rSome lo true W1 h3;by_cases h4:ids.length≤40
 case' neg=>
  have hq:decide ((40:Int) < ids.length)=true:=decide_eq_true (by omega)
  have HV:=hide (show bb=true by rw [←unhide HBB];simp[h4])
  clear HBB
  refine wp_region_quiet_below (by kernel_rfl) (by kernel_rfl) ?_
  repeat (first|go_big_quiet_step ((first|(go_at_call 49;exact cN _ _)|(go_at_call 46;exact cS _ _)))|quiet_step ((first|(go_at_call 49;exact cN _ _)|(go_at_call 46;exact cS _ _))))
  refine wpQuiet_nil ?_
  intro _ hw'
  obtain⟨⟨dq,osq⟩,hw''⟩:=hw'
  subst hw''
  go_wp2_with fail
  go_meet
  case rel=>exact Za9
 have hq:decide ((40:Int) < ids.length)=false:=decide_eq_false (by omega);exact Ka9):P:=h
theorem Sa33.Ka9(h:P:=by
 have HV:=hide (show bb=false by rw [←unhide HBB];simp[h1,h3,h4,h2]);exact Za82):P:=h
theorem Sa34.Ka9(h:P:=by
 have HV:=hide (show bb=false by rw [←unhide HBB];simp[h1,h3,h4]);exact Za82):P:=h
theorem Ya10(h:P:=by
 have HN:=hide (fun w1=>isSomeAmount n true w1 hn);have HP:=hide (show R=(decide (no=0)&&true&&true&&zmB ⟨mK,mF,mT,mI,mL,mk,mN⟩) by rw [←unhide HR];simp[opOk,hk,hn]);open Sa303 in exact Ya85):P:=h
theorem Sa35.Ka10(h:P:=by
 have hX:W.heap[w.heap.size+1]?=some (.cells #[.int .i64 4,.int .i64 0,.string k,.int .i64 n,.int .i64 0,.int .i64 0,.int .i64 0,.int .i64 0,.int .i64 0,.string ⟨#[]⟩,.int .i64 0] 34 (0,0)):=by rw [hW];exact(allocsO w _ _).2
 have hY:W.heap[w.heap.size]?=some (.cells #[.int .i64 4,.int .i64 no,.string k,.int .i64 n,.int .i64 mK,.int .i64 mF,.int .i64 mT,.int .i64 mI,.int .i64 mL,.string mk,.int .i64 mN] 34 (0,0)):=by rw [hW];exact(allocsO w _ _).1
 exact Za42):P:=h
theorem Sa36.Ka10(h:P:=by
 have hX:W.heap[w.heap.size+1]?=some (.cells #[.int .i64 3,.int .i64 0,.string k,.int .i64 n,.int .i64 0,.int .i64 0,.int .i64 0,.int .i64 0,.int .i64 0,.string ⟨#[]⟩,.int .i64 0] 34 (0,0)):=by rw [hW];exact(allocsO w _ _).2
 have hY:W.heap[w.heap.size]?=some (.cells #[.int .i64 3,.int .i64 no,.string k,.int .i64 n,.int .i64 mK,.int .i64 mF,.int .i64 mT,.int .i64 mI,.int .i64 mL,.string mk,.int .i64 mN] 34 (0,0)):=by rw [hW];exact(allocsO w _ _).1
 exact Za42):P:=h
theorem Sa37.Ka10(h:P:=by
 have hX:W.heap[w.heap.size+1]?=some (.cells #[.int .i64 0,.int .i64 0,.string k,.int .i64 n,.int .i64 0,.int .i64 0,.int .i64 0,.int .i64 0,.int .i64 0,.string ⟨#[]⟩,.int .i64 0] 34 (0,0)):=by rw [hW];exact(allocsO w _ _).2
 have hY:W.heap[w.heap.size]?=some (.cells #[.int .i64 0,.int .i64 no,.string k,.int .i64 n,.int .i64 mK,.int .i64 mF,.int .i64 mT,.int .i64 mI,.int .i64 mL,.string mk,.int .i64 mN] 34 (0,0)):=by rw [hW];exact(allocsO w _ _).1
 exact Za42):P:=h
theorem Ya11(h:P:=by
 clear hz hok hm hL he HR hw hF hks hb HID;generalize (takeN n o.m).1=n' at *;open Sa186 in exact Ya45):P:=h
theorem Sa38.Ka11(h:P:=by
 obtain⟨c0,c1,c2,c3,c4,c5,c6,c7,c8,c9⟩:=tenC HY.blk;obtain⟨⟨p0,p1,p2,p3,p4,p5,p6⟩,_⟩:=seven_at HPY;have hwl2:=obj_lt HY.blk;have hBl2:=obj_lt HPY;go_upto_region 10 with fail;have y0:=cell_regrown c0;have z1:=cell_regrown p1;have z3:=cell_regrown p3;clear c0 c1 c2 c3 c4 c5 c6 c7 c8 c9 p0 p1 p2 p3 p4 p5 p6;refine wp_region_mixE 11 (by kernel_rfl) ?_;show wpMixE _ _ _ _ _ 12 (Array.replicate 12 false) _ _
 refine tk [0,1,2,3,4,5,6,7,8,9,10] ?_;iterate 11 (refine tkE (fun K hK=>?_);go_simp;refine hK _ ?_;clear hK K)
 refine tkN ?_;clear y0 z1 z3;refine wpMixE_leave (by kernel_rfl) (fun x hx=>?_);have HSX:=hide (HSY x A' G' c' n' (HY.step hx));clear hx;refine wpAny_one 11 rfl (by kernel_rfl) (by rfl) ?_;go_simp;refine HSX.mono ?_;rintro e z ⟨rfl,c2,v2,hZ⟩;have HZ:=hide hZ;clear hZ HSX;refine wpAny_done (by kernel_rfl) ?_;go_simp;go_wp2_with fail;go_ret;exact⟨rfl,A',G',c2,v2,HZ⟩):P:=h
theorem Sa39.Ka11(h:P:=by
 go_wp2_with fail;go_ret;exact⟨rfl,A',G',c',v,by rw [List.append_nil];exact HY⟩):P:=h
theorem Ya12(h:P:=by
 open Sa145 in exact Ya34):P:=h
theorem Sa40.Ka12(h:P:=by
 clear h he hR hz hk hpar;open Sa260 in exact Ya69):P:=h
theorem Sa41.Ka12(h:P:=by
 clear h hR hpar;obtain⟨c0,c1,c2,c3,c4,c5,c6,c7,c8,c9⟩:=tenC HW1.blk;have hwl:=obj_lt HW.blk;have hne:wb≠w.heap.size:=by omega
 go_enter Tryz.func106,Tryz.ntmps106
 go_upto_region 1 with fail;have y1:=cell_regrown c1;clear c0 c1 c2 c3 c4 c5 c6 c7 c8 c9;open Sa225 in exact Ya57):P:=h
theorem Sa42.Ka12(h:P:=by
 have hq2:(n.par == -1)=false:=by simpa using hpar
 clear h hR hpar;open Sa259 in exact Ya69):P:=h
theorem Sa43.Ka12(h:P:=by
 have hq2:(n.par == -1)=false:=by simpa using hpar
 clear h hR hpar;generalize giveN n n.par k nn=gv at *;obtain⟨gn,gl,gb⟩:=gv;dsimp only at HPY ⊢;open Sa258 in exact Ya69):P:=h
theorem Sa44.Ka12(h:P:=by
 open Sa101 in exact Ya24):P:=h
theorem Sa45.Ka12(h:P:=by
 open Sa100 in exact Ya24):P:=h
theorem Sa46.Ka12(h:P:=by
 open Sa99 in exact Ya24):P:=h
theorem Sa47.Ka12(h:P:=by
 open Sa257 in exact Ya69):P:=h
theorem Sa48.Ka12(h:P:=by
 open Sa98 in exact Ya24):P:=h
theorem Ya13(h:P:=by
 go_upto_region 1 with fail;have y7:=cell_regrown c7;have z1:=cell_regrown p1;clear c0 c1 c2 c3 c4 c5 c6 c7 c8 c9 p0 p1 p2 p3 p4 p5 p6 p7 p8 p9 p10;refine wp_region_mix (by kernel_rfl) ?_;show wpMix _ _ _ _ 8 (Array.replicate 8 false) _ _
 refine tk [0,1,2,3,4,5,6,7] ?_;iterate 8 (refine tk0 (fun K hK=>?_);go_simp;refine hK _ ?_;clear hK K)
 refine tkN ?_;refine wpMix_done (by kernel_rfl) (fun z hz=>?_);have HZ:=hide (HW1.step hz);have HPZ:=hide (obj_step HP1 hz);clear hz y7 z1 HW1 HP1;go_simp;exact Ka13):P:=h
theorem Sa49.Ka13(h:P:=by
 clear h hc;open Sa131 in exact Ya29):P:=h
theorem Sa50.Ka13(h:P:=by
 open Sa139 in exact Ya32):P:=h
theorem Sa51.Ka13(h:P:=by
 open Sa138 in exact Ya32):P:=h
theorem Sa52.Ka13(h:P:=by
 clear h hc;open Sa273 in exact Ya73):P:=h
theorem Sa53.Ka13(h:P:=by
 clear h hc he hz;open Sa130 in exact Ya29):P:=h
theorem Sa54.Ka13(h:P:=by
 clear h hc;go_wp2_with fail;go_ret;exact⟨rfl,A,G,c,HZ⟩):P:=h
theorem Ya14(h:P:=by
 refine wp_region_quiet_below (by kernel_rfl) (by kernel_rfl) ?_;repeat (first|go_big_quiet_step (exact cO _ _)|quiet_step (exact cO _ _))
 refine wpQuiet_nil ?_;intro _ hw';obtain⟨⟨dq,osq⟩,hw''⟩:=hw';subst hw'';have HBL5:=hide (HBV.trans ((below_regrown _ dq osq).mono HBV.size));exact Ka14):P:=h
theorem Sa55.Ka14(h:P:=by
 clear cO y0 y1 y2 y3 y4 y5 y6;exact Za65):P:=h
theorem Sa56.Ka14(h:P:=by
 clear cO y0 y1 y2 y3 y4 y5 y6;go_wp2_with fail;exact bodyPost_ret (v:= .tuple #[ifv ⟨1,F,T,I,L,k,N⟩,.bool false]) (by simp[results,Tryz.results184,go_sem,ifv]) rfl ⟨by rw [unhide HP],HBL5⟩):P:=h
theorem Sa57.Ka14(h:P:=by
 clear cO y0 y1 y2 y3 y4 y5 y6;exact Za64):P:=h
theorem Sa58.Ka14(h:P:=by
 clear y0 y1 y2 y3 cO
 all_goals
  go_wp2_with fail
  go_ret
  exact⟨ret_bool HBAD.symm,HBL5⟩):P:=h
theorem Sa59.Ka14(h:P:=by
 clear y0 y1 y2 y3 cO
 all_goals
  go_wp2_with fail
  go_roundw
  case rel=>exact⟨0+1,by omega,by go_num,by rw [unhide HNX,unhide HALL,unhide HGOOD];rfl,HBL5⟩
  case measure=>simp[intOf];omega):P:=h
theorem Sa60.Ka14(h:P:=by
 clear y0 y1 y2 y3 y4 cO
 all_goals
  go_wp2_with fail
  go_roundw
  case rel=>exact⟨(j+1)+1,by omega,by go_num,by rw [unhide HNX,unhide HALL,unhide HGOOD];rfl,HBL5⟩
  case measure=>simp[intOf];omega):P:=h
theorem Sa61.Ka14(h:P:=by
 clear y0 y1 y2 y3 y4 cO
 all_goals
  go_wp2_with fail
  go_ret
  exact⟨ret_bool HBAD.symm,HBL5⟩):P:=h
theorem Ya15(h:P:=by
 have hbw:Below wr.heap.size wr W1:=by rw [hW1];exact below_one wr _
 have HBK1:=hide (obj_step HBK hbw);have HBL1:=hide (HBL.trans (hbw.mono HBL.size));exact Ka15):P:=h
theorem Sa62.Ka15(h:P:=by
 have HI1:=hide (GR.At.below HI hbw);have hgw1:=hbw.size;have HKI:=hide (GR.At.below HA HBL1)
 have HPK1:Hid ((k=0∧pv=true)∨∃(j:Nat) (y:Int),k=j+1∧pv=decide (y < fr)∧W1.cell? ⟨g,off+j*3,none⟩=some (.int .i64 y)):=by
  rcases HPK with h|⟨j,y,h1,h2,h3⟩
  ·exact .inl h
  ·exact .inr ⟨j,y,h1,h2,(hbw.cell (p:=⟨g,off+j*3,none⟩) hgw).trans h3⟩
 clear hW1 hbw q0 q1 q2 c0 c1 c2 c3 c4 c5 c6 HPK HI HBK;obtain⟨d0,d1,d2⟩:=three HW1;open Sa236 in exact Ya61):P:=h
theorem Sa63.Ka15(h:P:=by
 have hgw1:=hbw.size
 have HPK1:Hid ((k=0∧pv=true)∨∃(j:Nat) (y:Int),k=j+1∧pv=decide (y < si)∧W1.cell? ⟨g,off+j*4,none⟩=some (.int .i64 y)):=by
  exact Za74
 clear hW1 hbw q0 q1 q2 q3 c0 c1 c2 c3 c4 c5 c6 c7 c8 HPK HBK;obtain⟨d0,d1,d2,d3⟩:=fourC HW1;open Sa235 in exact Ya61):P:=h
theorem Sa64.Ka15(h:P:=by
 clear hW1 hbw q0 q1 q2 q3 HBK;obtain⟨d0,d1,d2,d3⟩:=fourC HW1;go_cut [56] (fun r wx=>r= .bool bb∧wx=W1)
 case first=>
  by_cases g1:y < si
  case' neg=>
   have hb1:decide (si≤y)=true:=decide_eq_true (by omega)
   have HV:=hide (show bb=true by rw [←unhide HBB];simp[g1])
   clear HBB HVB
   go_wp2_with (fail)
   go_meet
   case rel=>exact⟨by rw [unhide HV],rfl⟩
  have hb1:decide (si≤y)=false:=decide_eq_false (by omega);cases g2:amB si
  case' false=>
   have Hg2:=hide (fun w1=>implAmB si false w1 g2)
   have HV:=hide (show bb=true by rw [←unhide HBB];simp[g2])
   clear HBB HVB
   go_wp2_with (first|(go_at_call 156;refine(Hg2 _).mono ?_;rintro e w9 ⟨rfl,rfl⟩))
   go_meet
   case rel=>exact⟨by rw [unhide HV],rfl⟩
  have Hg2:=hide (fun w1=>implAmB si true w1 g2);cases g3:keyOk sx.data.toList
  case' false=>
   have Hg3:=hide (fun w1=>implKeyR sx false w1 g3)
   have HV:=hide (show bb=true by rw [←unhide HBB];simp[g3])
   clear HBB HVB
   go_wp2_with (first|(go_at_call 156;refine(Hg2 _).mono ?_;rintro e w9 ⟨rfl,rfl⟩)|(go_at_call 153;refine(Hg3 _).mono ?_;rintro e w9 ⟨rfl,rfl⟩))
   go_meet
   case rel=>exact⟨by rw [unhide HV],rfl⟩
  have Hg3:=hide (fun w1=>implKeyR sx true w1 g3);cases g4:smB sn
  case' false=>
   have Hg4:=hide (fun w1=>isSomeAmount sn false w1 g4)
   have HV:=hide (show bb=true by rw [←unhide HBB];simp[g4])
   clear HBB HVB
   go_wp2_with (first|(go_at_call 156;refine(Hg2 _).mono ?_;rintro e w9 ⟨rfl,rfl⟩)|(go_at_call 153;refine(Hg3 _).mono ?_;rintro e w9 ⟨rfl,rfl⟩)|(go_at_call 100;refine(Hg4 _).mono ?_;rintro e w9 ⟨rfl,rfl⟩))
   go_meet
   case rel=>exact⟨by rw [unhide HV],rfl⟩
  have Hg4:=hide (fun w1=>isSomeAmount sn true w1 g4);by_cases g5:0≤st
  case' neg=>
   have hb5:decide (st < 0)=true:=decide_eq_true (by omega)
   have HV:=hide (show bb=true by rw [←unhide HBB];simp[g5])
   clear HBB HVB
   go_wp2_with (first|(go_at_call 156;refine(Hg2 _).mono ?_;rintro e w9 ⟨rfl,rfl⟩)|(go_at_call 153;refine(Hg3 _).mono ?_;rintro e w9 ⟨rfl,rfl⟩)|(go_at_call 100;refine(Hg4 _).mono ?_;rintro e w9 ⟨rfl,rfl⟩))
   go_meet
   case rel=>exact⟨by rw [unhide HV],rfl⟩
  have hb5:decide (st < 0)=false:=decide_eq_false (by omega);by_cases g6:st≤2
  case' neg=>
   have hb6:decide (2 < st)=true:=decide_eq_true (by omega)
   have HV:=hide (show bb=true by rw [←unhide HBB];simp[g6])
   clear HBB HVB
   go_wp2_with (first|(go_at_call 156;refine(Hg2 _).mono ?_;rintro e w9 ⟨rfl,rfl⟩)|(go_at_call 153;refine(Hg3 _).mono ?_;rintro e w9 ⟨rfl,rfl⟩)|(go_at_call 100;refine(Hg4 _).mono ?_;rintro e w9 ⟨rfl,rfl⟩))
   go_meet
   case rel=>exact⟨by rw [unhide HV],rfl⟩
  have hb6:decide (2 < st)=false:=decide_eq_false (by omega);have HV:=hide (show bb=false by rw [←unhide HBB];simp[g1,g2,g3,g4,g5,g6]);clear HBB HVB;go_wp2_with (first|(go_at_call 156;refine(Hg2 _).mono ?_;rintro e w9 ⟨rfl,rfl⟩)|(go_at_call 153;refine(Hg3 _).mono ?_;rintro e w9 ⟨rfl,rfl⟩)|(go_at_call 100;refine(Hg4 _).mono ?_;rintro e w9 ⟨rfl,rfl⟩))
  go_meet
  case rel=>exact⟨by rw [unhide HV],rfl⟩
 case rest=>
  obtain⟨rfl,rfl⟩:=hcut;clear HBB;cases hbv:bb
  ·have HG:=hide (show chk KB RR (reqs.take (k+1))=true by rw [unhide HVB,hbv];rfl);subst hbv;clear HBAD HVB;go_wp2_with fail;go_roundw
   case rel=>exact⟨k+1,si,by omega,by go_num,rfl,HLN.symm,HG,HBK1,HBL1⟩
   case measure=>simp[intOf];omega
  ·have HP:=hide (HBAD (by rw [unhide HVB,hbv];rfl));subst hbv;clear HBAD HVB;go_wp2_with fail;go_ret;exact⟨ret_bool HP.symm,HBL1⟩):P:=h
theorem Sa65.Ka15(h:P:=by
 clear hW1 hbw q0 q1 q2 q3 HBK;obtain⟨d0,d1,d2,d3⟩:=fourC HW1;obtain⟨c0,c1,c2,c3,c4,c5,c6,c7,c8⟩:=nine HBK1;go_cut [46] (fun r wx=>r= .bool bb∧Below W1.heap.size W1 wx)
 case first=>
  by_cases h1:y < si
  case' neg=>
   have HV:=hide (show bb=true by rw [←unhide HBB];simp[h1])
   have hb1:decide (si≤y)=true:=decide_eq_true (by omega)
   clear HBB HVB
   go_wp2_with fail
   go_meet
   case rel=>exact⟨by rw [unhide HV],Below.refl _ _⟩
  have hb1:decide (si≤y)=false:=decide_eq_false (by omega);by_cases h2:si < next
  case' neg=>
   have HV:=hide (show bb=true by rw [←unhide HBB];simp[h2])
   have hb2:decide (next≤si)=true:=decide_eq_true (by omega)
   clear HBB HVB
   go_wp2_with fail
   go_meet
   case rel=>exact⟨by rw [unhide HV],Below.refl _ _⟩
  have hb2:decide (next≤si)=false:=decide_eq_false (by omega);go_wp2_with fail;refine(HNR _ _ HBL1).mono ?_;rintro e w2 ⟨rfl,hb3⟩;have HB3:=hide hb3;have HW2:=hide (obj_step HW1 hb3);clear hb3 d0 d1 d2 d3 c0 c1 c2 c3 c4 c5 c6 c7 c8;obtain⟨d0,d1,d2,d3⟩:=fourC HW2;cases h3:NN st
  case' false=>
   have HV:=hide (show bb=true by rw [←unhide HBB];simp[h3])
   clear HBB HVB h3
   go_wp2_with fail
   go_meet
   case rel=>exact⟨by rw [unhide HV],HB3⟩
  cases h4:keyOk sx.data.toList
  case' false=>
   have HV:=hide (show bb=true by rw [←unhide HBB];simp[h4])
   have H4:=hide (fun w1=>implKeyR sx false w1 h4)
   clear HBB HVB h3 h4
   go_wp2_with (go_at_call 153;refine(H4 _).mono ?_;rintro e w9 ⟨rfl,rfl⟩)
   go_meet
   case rel=>exact⟨by rw [unhide HV],HB3⟩
  have H4:=hide (fun w1=>implKeyR sx true w1 h4);have HV:=hide (show bb= !smB sn by rw [←unhide HBB];simp[h1,h2,h3,h4]);have H5:=hide (fun w1=>isSomeAmount sn _ w1 rfl);clear HBB HVB h3 h4;go_wp2_with (first|(go_at_call 153;refine(H4 _).mono ?_;rintro e w9 ⟨rfl,rfl⟩)|(go_at_call 100;refine(H5 _).mono ?_;rintro e w9 ⟨rfl,rfl⟩))
  go_meet
  case rel=>exact⟨by rw [unhide HV],HB3⟩
 case rest=>
  obtain⟨rfl,hbx⟩:=hcut;open Sa201 in exact Ya49):P:=h
theorem Ya16(h:P:=by
 obtain⟨hjun,oj,hoj,hall⟩:=mem_ready.1 hj
 have hnot:∀e∈oj.after,Region.binds md e=true→e.on≠i:=fun e he hb heq=>by
  have h2:=hall e he hb
  have h0:=(mem_ready.1 hr).1
  rw [heq] at h2
  rcases Nat.lt_or_ge i listed.size with h'|h'
  ·simp[h'] at h0 h2;rw [h0] at h2;cases h2
  ·simp[Array.getElem?_eq_none h'] at h2
 have h2:=wpOp_past hoj (hfree j oj hoj hji hjun hnot) (fun cs b=>hsel i oi cs b hi) (fun cs b=>hsel j oj cs b hoj) hQ h1;refine wpOp_mono (fun a' y hy2=>?_) h2;obtain⟨⟨hs1,hs2⟩,hg,hm⟩:=hy2;exact Ka16):P:=h
theorem Sa66.Ka16(h:P:=by
 refine⟨hg,ih (listed.setIfInBounds j true) a' y ?_ (ready_mono hr (Ne.symm hji)) ?_ ?_⟩
 ·exact Za62
 ·unfold YieldsG at *;rw [hs1,hs2];exact hy.imp (fun⟨p,q⟩=>⟨p,fun z hz=>q z (Ge.trans (Ge.trans hx hg) hz)⟩) id
 ·rw [Array.setIfInBounds_comm _ _ hji];exact hm):P:=h
theorem Sa67.Ka16(h:P:=by
 have hwy:Below b w y:=(hx.mono hb).trans hg;refine⟨hg,ih (listed.setIfInBounds j true) a' y (Nat.le_trans hb hwy.size) (closed_set hcl hj) ?_ (ready_mono hr (Ne.symm hji)) ?_ ?_⟩
 ·exact Za62
 ·unfold YieldsB at *;rw [hs1,hs2];exact hy.imp (fun⟨p,q⟩=>⟨p,fun z hz=>q z (hwy.trans hz)⟩) id
 ·rw [Array.setIfInBounds_comm _ _ hji];exact hm):P:=h
theorem Sa68.Ka16(h:P:=by
 refine⟨hg,ih (listed.setIfInBounds j true) a' y (closed_set hcl hj) ?_ (ready_mono hr (Ne.symm hji)) ?_ ?_⟩
 ·exact Za62
 ·unfold YieldsG at *;rw [hs1,hs2];exact hy.imp (fun⟨p,q⟩=>⟨p,fun z hz=>q z (Ge.trans (Ge.trans hx hg) hz)⟩) id
 ·rw [Array.setIfInBounds_comm _ _ hji];exact hm):P:=h
theorem Ya17(h:P:=by
 have hke:k=l.length:=by omega
 subst hke;have hnlt:decide ((l.length:Int) < (l.length:Int))=false:=by simp
 exact Ka17):P:=h
theorem Sa69.Ka17(h:P:=by
 have HX:=hide (show purseOf l key=⟨key,0,0,0⟩ by
  have h:=unhide HN
  rw [List.take_length] at h
  unfold purseOf
  rw [h]
  rfl)
 go_wp2_with fail;refine bodyPost_ret (v:= .agg #[.string key,.int .i64 0,.int .i64 0,.int .i64 0]) (by simp[results,Tryz.results136,go_sem]) rfl ⟨by rw [unhide HX],?_⟩;exact(Below.refl _ _).alloc (Nat.le_refl _) _):P:=h
theorem Sa70.Ka17(h:P:=by
 have h:=unhide HN;rw [List.take_length] at h;have HF:=hide h;clear h;go_wp2_with fail;go_ret;exact⟨ret_bool HF.symm,rfl⟩):P:=h
theorem Sa71.Ka17(h:P:=by
 go_wp2_with fail;go_ret;exact⟨rfl,⟨T,I,HB,hTl,HI,HIM⟩,HBL⟩):P:=h
theorem Sa72.Ka17(h:P:=by
 have h:=unhide HM;rw [List.take_length] at h;have HME:=hide h;clear hm h;go_wp2_with fail;go_ret;exact⟨ret_int (by rw [unhide HME]),HBL⟩):P:=h
theorem Sa73.Ka17(h:P:=by
 have h:=unhide HM;rw [List.take_length] at h;have HME:=hide h;have hS:=unhide HR;rw [mSk_all] at hS;have HS:=hide hS;clear hm h hS;go_wp2_with fail;go_ret;exact⟨ret_int (by rw [unhide HME]),HS,HK⟩):P:=h
theorem Sa74.Ka17(h:P:=by
 go_wp2_with fail;go_ret2
 have h:=unhide HP;rw [List.take_length] at h;exact⟨_,_,_,rfl,h,HBL⟩):P:=h
theorem Sa75.Ka17(h:P:=by
 have HX:=hide (show purseOf l key=⟨key,0,0,0⟩ by
  have h:=unhide HN
  rw [List.take_length] at h
  unfold purseOf
  rw [h]
  rfl)
 go_wp2_with fail;refine(HCL _).mono ?_;rintro e w1 ⟨rfl,hb1⟩;have hB:w1.heap[w.heap.size]?=some (.cells #[.string ⟨#[]⟩,.int .i64 0,.int .i64 0,.int .i64 0] 141 (0,0)):=by rw [hb1.block _ hlt0];exact HBK
 have HB:=hide hB;have HB2:=hide (HBL.trans (hb1.mono HBL.size));obtain⟨⟨r0,r1,r2,r3⟩,s0,s1,s2,s3⟩:=four_at hB;clear hB hb1;go_wp2_with fail;clear r0 r1 r2 r3;refine Fo.bodyPost_at (fun W' hW'=>?_);obtain⟨⟨r0,r1,r2,r3⟩,_⟩:=four_at (show W'.heap[w.heap.size]?=some (.cells #[.string key,.int .i64 0,.int .i64 0,.int .i64 0] 141 (0,0)) by rw [hW'];exact Fo.four_set HB);have hbb:Below w.heap.size w W':=by rw [hW'];exact Fo.four_below HB2 (Nat.le_refl _)
 refine bodyPost_ret (v:= .agg #[.string key,.int .i64 0,.int .i64 0,.int .i64 0]) (by simp[results,Tryz.results190,go_sem,r0,r1,r2,r3]) rfl ⟨by rw [unhide HX],hbb⟩):P:=h
theorem Sa76.Ka17(h:P:=by
 go_wp2_with fail;go_ret;exact⟨a',c',g,hg,rfl,HB,HBL⟩):P:=h
theorem Sa77.Ka17(h:P:=by
 have h:=unhide HN;rw [List.take_length] at h;have HF:=hide h;clear h;go_wp2_with fail;go_ret;exact⟨⟨-1,rfl,by rw [unhide HF];rfl⟩,rfl⟩):P:=h
theorem Sa78.Ka17(h:P:=by
 have HF:=hide (psOk_good HALL);go_wp2_with fail;go_ret;exact⟨ret_bool (by rw [unhide HF];simp<;>omega),HBL⟩):P:=h
theorem Sa79.Ka17(h:P:=by
 clear hm;go_wp2_with fail;go_ret;exact⟨ret_int (by have:=unhide HM;omega),HBL⟩):P:=h
theorem Sa80.Ka17(h:P:=by
 clear hm;go_wp2_with fail;go_ret;exact⟨ret_int (by have:=unhide HM;omega),HR,HK⟩):P:=h
theorem Sa81.Ka17(h:P:=by
 go_wp2_with fail;go_ret;exact⟨rfl,HBL⟩):P:=h
theorem Sa82.Ka17(h:P:=by
 go_wp2_with fail;go_ret;have h:=unhide HALL;rw [List.take_length] at h;exact⟨z,rfl,HBL,.inr ⟨hz0,hz1,by omega,h⟩⟩):P:=h
theorem Sa83.Ka17(h:P:=by
 go_wp2_with fail;go_ret;have h:=unhide HB;rw [List.take_length,Nat.sub_self,List.replicate_zero,List.append_nil] at h;exact⟨rfl,h,HBL⟩):P:=h
theorem Ya18(h:P:=by
 obtain⟨pk,pm,pf,ps⟩:=p;unfold puOk at hp;simp only[Bool.and_eq_true] at hp;obtain⟨⟨⟨⟨_,a1⟩,a2⟩,a3⟩,a4⟩:=hp;have b1:0≤pm∧pm≤1000000000:=of_decide_eq_true a1;have b2:0≤pf∧pf≤1000000000:=of_decide_eq_true a2;have b3:0≤ps∧ps≤1000000000:=of_decide_eq_true a3;obtain⟨a10,a11⟩:=b1;obtain⟨a20,a21⟩:=b2;obtain⟨a30,a31⟩:=b3;obtain⟨h10,h11⟩:=h1;obtain⟨h20,h21⟩:=h2;obtain⟨h30,h31⟩:=h3;clear a1 a2 a3 a4;exact Ka18):P:=h
theorem Sa84.Ka18(h:P:=by
 dsimp only at hf;clear he;rcases hf with hf|⟨hf,hs⟩
 all_goals
  go_enter Tryz.func263,Tryz.ntmps263
  go_upto_region 5 with fail
  refine Fo.wp_at (fun V hV=>?_)
  obtain⟨_,hC,hbel⟩:=three_blocks (w:=w) (w1:=V) (by rw [hV];exact Below.refl _ _)
  have HC:=hide hC
  have HBL:=hide hbel
  have vv:=(HE.below hbel).var 3 (by omega)
  have hsz:=(show w.heap.size+1+1 < V.heap.size from Fo.lt_of_blk hC)
  obtain⟨⟨r0,r1,r2,r3⟩,s0,s1,s2,s3⟩:=four_at hC
  clear hC hbel hV
  go_region
  all_goals
   go_wp2_with fail
   refine Fo.bodyPost_at (fun W' hW'=>?_)
   obtain⟨⟨t0,t1,t2,t3⟩,_⟩:=four_at (show W'.heap[w.heap.size+1+1]?=some (.cells #[.string ⟨#[]⟩,.int .i64 0,.int .i64 0,.int .i64 0] 141 (0,0)) by rw [hW'];exact Fo.four_set (w:=V.drew) HC)
   have hbb:Below w.heap.size w W':=by rw [hW'];exact Fo.four_below (w:=V.drew) (HBL.trans ⟨rfl,rfl,rfl,Nat.le_refl _,fun _ _=>rfl⟩) (by omega)
   exact bodyPost_ret (v:= .tuple #[.agg #[.string ⟨#[]⟩,.int .i64 0,.int .i64 0,.int .i64 0],errV (E 3)]) (by simp[results,Tryz.results263,go_sem,t0,t1,t2,t3]) rfl ⟨rfl,hbb⟩):P:=h
theorem Sa85.Ka18(h:P:=by
 dsimp only at hf hs;clear hok he;open Sa337 in exact Ya100):P:=h
theorem Sa86.Ka18(h:P:=by
 dsimp only at hf hs;clear hok;open Sa336 in exact Ya100):P:=h
theorem Ya19(h:P:=by
 open Sa134 in exact Ya30):P:=h
theorem Sa87.Ka19(h:P:=by
 open Sa275 in exact Ya74):P:=h
theorem Sa88.Ka19(h:P:=by
 open Sa224 in exact Ya57):P:=h
theorem Ya20(h:P:=by
 have hat:okAt l k=(puOk l[k]&&(k == 0|| !sle l[k].k (l.getD (k - 1) default).k)):=by unfold okAt;rw [getD_at l k hlt]
 exact Ka20):P:=h
theorem Sa89.Ka20(h:P:=by
 cases k with
 |zero=>
  obtain⟨g,off,rfl,hgw,c0,c1,c2,c3⟩:=PursesAt.four (GR.At.below HA HBL) 0 hlt
  simp only[Nat.zero_mul,Nat.add_zero] at c0 c1 c2 c3
  have hgt:decide ((0:Int) < ((0:Nat):Int))=false:=rfl
  have HOKA:=hide hat
  have HNX:=hide (all_range_succ (okAt l) 0)
  clear hat
  generalize l[0]=pu at *
  obtain⟨pk,pm,pf,ps⟩:=pu
  dsimp only at c0 c1 c2 c3 hks
  cases hkb:keyOk pk.data.toList
  ·have HB:=hide hkb;have HBAD:=hide (psOk_bad hlt (show okAt l 0=false by rw [unhide HOKA];simp[puOk,unhide HB]));clear HOKA HNX;have hkb':=unhide HB;exact Za2
  have hkb':=hkb
  by_cases h1:0≤pm∧pm≤1000000000
  case' neg=>
   have hA:amB pm=false:=decide_eq_false h1
   have g1:decide (Inn pm 0 1000000000)=false:=decide_eq_false h1
   have HBAD:=hide (psOk_bad hlt (show okAt l 0=false by rw [unhide HOKA];simp[puOk,hA]))
   clear HOKA HNX hA
   go_wp2_with fail
   refine wp_region_quiet_lit (by kernel_rfl) (by kernel_rfl) ?_
   repeat (first|go_big_quiet_step ((first|(go_at_call 50;exact qKey _ _ hks hkb' _ _)|(go_at_call_of 47 (IntKind.i64.wrap (pf+ps));exact qAm _ _ g4 _ _)|(go_at_call_of 47 (pf+ps);exact qAm _ _ g5 _ _)|(go_at_call_of 47 pm;exact qAm _ _ g1 _ _)|(go_at_call_of 47 pf;exact qAm _ _ g2 _ _)|(go_at_call_of 47 ps;exact qAm _ _ g3 _ _)))|quiet_step ((first|(go_at_call 50;exact qKey _ _ hks hkb' _ _)|(go_at_call_of 47 (IntKind.i64.wrap (pf+ps));exact qAm _ _ g4 _ _)|(go_at_call_of 47 (pf+ps);exact qAm _ _ g5 _ _)|(go_at_call_of 47 pm;exact qAm _ _ g1 _ _)|(go_at_call_of 47 pf;exact qAm _ _ g2 _ _)|(go_at_call_of 47 ps;exact qAm _ _ g3 _ _))))
   refine wpQuiet_nil ?_
   intro _ hw'
   obtain⟨nq,hw''⟩:=hw'
   subst hw''
   go_wp2_with fail
   go_ret
   exact⟨ret_bool HBAD.symm,(HBL.alloc HBL.size _).trans ⟨rfl,rfl,rfl,Nat.le_refl _,fun _ _=>rfl⟩⟩
  have g1:decide (Inn pm 0 1000000000)=true:=decide_eq_true h1
  have hA1:amB pm=true:=decide_eq_true h1
  by_cases h2:0≤pf∧pf≤1000000000
  case' neg=>
   have hA:amB pf=false:=decide_eq_false h2
   have g2:decide (Inn pf 0 1000000000)=false:=decide_eq_false h2
   have HBAD:=hide (psOk_bad hlt (show okAt l 0=false by rw [unhide HOKA];simp[puOk,hA]))
   clear HOKA HNX hA
   go_wp2_with fail
   refine wp_region_quiet_lit (by kernel_rfl) (by kernel_rfl) ?_
   repeat (first|go_big_quiet_step ((first|(go_at_call 50;exact qKey _ _ hks hkb' _ _)|(go_at_call_of 47 (IntKind.i64.wrap (pf+ps));exact qAm _ _ g4 _ _)|(go_at_call_of 47 (pf+ps);exact qAm _ _ g5 _ _)|(go_at_call_of 47 pm;exact qAm _ _ g1 _ _)|(go_at_call_of 47 pf;exact qAm _ _ g2 _ _)|(go_at_call_of 47 ps;exact qAm _ _ g3 _ _)))|quiet_step ((first|(go_at_call 50;exact qKey _ _ hks hkb' _ _)|(go_at_call_of 47 (IntKind.i64.wrap (pf+ps));exact qAm _ _ g4 _ _)|(go_at_call_of 47 (pf+ps);exact qAm _ _ g5 _ _)|(go_at_call_of 47 pm;exact qAm _ _ g1 _ _)|(go_at_call_of 47 pf;exact qAm _ _ g2 _ _)|(go_at_call_of 47 ps;exact qAm _ _ g3 _ _))))
   refine wpQuiet_nil ?_
   intro _ hw'
   obtain⟨nq,hw''⟩:=hw'
   subst hw''
   go_wp2_with fail
   go_ret
   exact⟨ret_bool HBAD.symm,(HBL.alloc HBL.size _).trans ⟨rfl,rfl,rfl,Nat.le_refl _,fun _ _=>rfl⟩⟩
  have g2:decide (Inn pf 0 1000000000)=true:=decide_eq_true h2
  have hA2:amB pf=true:=decide_eq_true h2
  by_cases h3:0≤ps∧ps≤1000000000
  case' neg=>
   have hA:amB ps=false:=decide_eq_false h3
   have g3:decide (Inn ps 0 1000000000)=false:=decide_eq_false h3
   have HBAD:=hide (psOk_bad hlt (show okAt l 0=false by rw [unhide HOKA];simp[puOk,hA]))
   clear HOKA HNX hA
   go_wp2_with fail
   refine wp_region_quiet_lit (by kernel_rfl) (by kernel_rfl) ?_
   repeat (first|go_big_quiet_step ((first|(go_at_call 50;exact qKey _ _ hks hkb' _ _)|(go_at_call_of 47 (IntKind.i64.wrap (pf+ps));exact qAm _ _ g4 _ _)|(go_at_call_of 47 (pf+ps);exact qAm _ _ g5 _ _)|(go_at_call_of 47 pm;exact qAm _ _ g1 _ _)|(go_at_call_of 47 pf;exact qAm _ _ g2 _ _)|(go_at_call_of 47 ps;exact qAm _ _ g3 _ _)))|quiet_step ((first|(go_at_call 50;exact qKey _ _ hks hkb' _ _)|(go_at_call_of 47 (IntKind.i64.wrap (pf+ps));exact qAm _ _ g4 _ _)|(go_at_call_of 47 (pf+ps);exact qAm _ _ g5 _ _)|(go_at_call_of 47 pm;exact qAm _ _ g1 _ _)|(go_at_call_of 47 pf;exact qAm _ _ g2 _ _)|(go_at_call_of 47 ps;exact qAm _ _ g3 _ _))))
   refine wpQuiet_nil ?_
   intro _ hw'
   obtain⟨nq,hw''⟩:=hw'
   subst hw''
   go_wp2_with fail
   go_ret
   exact⟨ret_bool HBAD.symm,(HBL.alloc HBL.size _).trans ⟨rfl,rfl,rfl,Nat.le_refl _,fun _ _=>rfl⟩⟩
  have g3:decide (Inn ps 0 1000000000)=true:=decide_eq_true h3
  have hA3:amB ps=true:=decide_eq_true h3
  have e4:IntKind.i64.wrap (pf+ps)=pf+ps:=IntWalk.i64_in _ ⟨by omega,by omega⟩
  by_cases h4:0≤(pf+ps)∧(pf+ps)≤1000000000
  case' neg=>
   have hA:amB (pf+ps)=false:=decide_eq_false h4
   have g4:decide (Inn (pf+ps) 0 1000000000)=false:=decide_eq_false h4
   have g5:=g4
   rw [←e4] at g4
   have HBAD:=hide (psOk_bad hlt (show okAt l 0=false by rw [unhide HOKA];simp[puOk,hA]))
   clear HOKA HNX hA
   go_wp2_with fail
   refine wp_region_quiet_lit (by kernel_rfl) (by kernel_rfl) ?_
   repeat (first|go_big_quiet_step ((first|(go_at_call 50;exact qKey _ _ hks hkb' _ _)|(go_at_call_of 47 (IntKind.i64.wrap (pf+ps));exact qAm _ _ g4 _ _)|(go_at_call_of 47 (pf+ps);exact qAm _ _ g5 _ _)|(go_at_call_of 47 pm;exact qAm _ _ g1 _ _)|(go_at_call_of 47 pf;exact qAm _ _ g2 _ _)|(go_at_call_of 47 ps;exact qAm _ _ g3 _ _)))|quiet_step ((first|(go_at_call 50;exact qKey _ _ hks hkb' _ _)|(go_at_call_of 47 (IntKind.i64.wrap (pf+ps));exact qAm _ _ g4 _ _)|(go_at_call_of 47 (pf+ps);exact qAm _ _ g5 _ _)|(go_at_call_of 47 pm;exact qAm _ _ g1 _ _)|(go_at_call_of 47 pf;exact qAm _ _ g2 _ _)|(go_at_call_of 47 ps;exact qAm _ _ g3 _ _))))
   refine wpQuiet_nil ?_
   intro _ hw'
   obtain⟨nq,hw''⟩:=hw'
   subst hw''
   go_wp2_with fail
   go_ret
   exact⟨ret_bool HBAD.symm,(HBL.alloc HBL.size _).trans ⟨rfl,rfl,rfl,Nat.le_refl _,fun _ _=>rfl⟩⟩
  have g4:decide (Inn (pf+ps) 0 1000000000)=true:=decide_eq_true h4
  have hA4:amB (pf+ps)=true:=decide_eq_true h4
  have g5:=g4
  rw [←e4] at g4
  have HGOOD:=hide (show okAt l 0=true by rw [unhide HOKA];simp[puOk,hkb,hA1,hA2,hA3,hA4])
  clear HOKA hA1 hA2 hA3 hA4
  go_wp2_with fail
  refine wp_region_quiet_lit (by kernel_rfl) (by kernel_rfl) ?_
  repeat (first|go_big_quiet_step ((first|(go_at_call 50;exact qKey _ _ hks hkb' _ _)|(go_at_call_of 47 (IntKind.i64.wrap (pf+ps));exact qAm _ _ g4 _ _)|(go_at_call_of 47 (pf+ps);exact qAm _ _ g5 _ _)|(go_at_call_of 47 pm;exact qAm _ _ g1 _ _)|(go_at_call_of 47 pf;exact qAm _ _ g2 _ _)|(go_at_call_of 47 ps;exact qAm _ _ g3 _ _)))|quiet_step ((first|(go_at_call 50;exact qKey _ _ hks hkb' _ _)|(go_at_call_of 47 (IntKind.i64.wrap (pf+ps));exact qAm _ _ g4 _ _)|(go_at_call_of 47 (pf+ps);exact qAm _ _ g5 _ _)|(go_at_call_of 47 pm;exact qAm _ _ g1 _ _)|(go_at_call_of 47 pf;exact qAm _ _ g2 _ _)|(go_at_call_of 47 ps;exact qAm _ _ g3 _ _))))
  refine wpQuiet_nil ?_
  intro _ hw'
  obtain⟨nq,hw''⟩:=hw'
  subst hw''
  go_wp2_with fail
  go_roundw
  case rel=>exact⟨0+1,by omega,by go_num,by rw [unhide HNX,unhide HALL,unhide HGOOD];rfl,(HBL.alloc HBL.size _).trans ⟨rfl,rfl,rfl,Nat.le_refl _,fun _ _=>rfl⟩⟩
  case measure=>simp[intOf];omega
 |succ j=>
  obtain⟨g,off,rfl,hgw,c0,c1,c2,c3⟩:=PursesAt.four (GR.At.below HA HBL) (j+1) hlt
  obtain⟨g',off',e',_,d0,_,_,_⟩:=PursesAt.four (GR.At.below HA HBL) j (by omega)
  have eg:g=g'∧off=off':=by injection e' with e';injection e' with e1 e2;exact⟨e1,e2⟩
  obtain⟨rfl,rfl⟩:=eg
  have hgd:l.getD j default=l[j]:=getD_at l j (by omega)
  rw [show j+1 - 1=j from rfl,hgd] at hat
  have hgt:decide ((0:Int) < ((j:Int)+1))=true:=decide_eq_true (by omega)
  clear e' hgd
  generalize l[j].k=q at *
  have HOKA:=hide hat
  have HNX:=hide (all_range_succ (okAt l) (j+1))
  clear hat
  generalize l[j+1]=pu at *
  obtain⟨pk,pm,pf,ps⟩:=pu
  dsimp only at c0 c1 c2 c3 hks
  cases hkb:keyOk pk.data.toList
  ·have HB:=hide hkb;have HBAD:=hide (psOk_bad hlt (show okAt l (j+1)=false by rw [unhide HOKA];simp[puOk,unhide HB]));clear HOKA HNX;have hkb':=unhide HB;exact Za2
  have hkb':=hkb
  cases hbl:Op.bytesLess pk.toList q.toList
  case' true=>
   have hsl:sle pk q=true:=by unfold sle;rw [hbl];rfl
   cases heq:pk.toList == q.toList
   ·exact Za79
   ·exact Za79
  cases heq:pk.toList == q.toList
  case' true=>
   have hsl:sle pk q=true:=by unfold sle;rw [hbl,heq];rfl
   have HBAD:=hide (psOk_bad hlt (show okAt l (j+1)=false by rw [unhide HOKA];simp[hsl]))
   clear HOKA HNX hsl
   go_wp2_with fail
   refine wp_region_quiet_lit (by kernel_rfl) (by kernel_rfl) ?_
   repeat (first|go_big_quiet_step ((first|(go_at_call 50;exact qKey _ _ hks hkb' _ _)|(go_at_call_of 47 (IntKind.i64.wrap (pf+ps));exact qAm _ _ g4 _ _)|(go_at_call_of 47 (pf+ps);exact qAm _ _ g5 _ _)|(go_at_call_of 47 pm;exact qAm _ _ g1 _ _)|(go_at_call_of 47 pf;exact qAm _ _ g2 _ _)|(go_at_call_of 47 ps;exact qAm _ _ g3 _ _)))|quiet_step ((first|(go_at_call 50;exact qKey _ _ hks hkb' _ _)|(go_at_call_of 47 (IntKind.i64.wrap (pf+ps));exact qAm _ _ g4 _ _)|(go_at_call_of 47 (pf+ps);exact qAm _ _ g5 _ _)|(go_at_call_of 47 pm;exact qAm _ _ g1 _ _)|(go_at_call_of 47 pf;exact qAm _ _ g2 _ _)|(go_at_call_of 47 ps;exact qAm _ _ g3 _ _))))
   refine wpQuiet_nil ?_
   intro _ hw'
   obtain⟨nq,hw''⟩:=hw'
   subst hw''
   go_wp2_with fail
   go_ret
   exact⟨ret_bool HBAD.symm,(HBL.alloc HBL.size _).trans ⟨rfl,rfl,rfl,Nat.le_refl _,fun _ _=>rfl⟩⟩
  have hsl:Hid (sle pk q=false):=by unfold sle;rw [hbl,heq];rfl
  by_cases h1:0≤pm∧pm≤1000000000
  case' neg=>
   have hA:amB pm=false:=decide_eq_false h1
   have g1:decide (Inn pm 0 1000000000)=false:=decide_eq_false h1
   have HBAD:=hide (psOk_bad hlt (show okAt l (j+1)=false by rw [unhide HOKA];simp[puOk,hA]))
   clear HOKA HNX hA
   go_wp2_with fail
   refine wp_region_quiet_lit (by kernel_rfl) (by kernel_rfl) ?_
   repeat (first|go_big_quiet_step ((first|(go_at_call 50;exact qKey _ _ hks hkb' _ _)|(go_at_call_of 47 (IntKind.i64.wrap (pf+ps));exact qAm _ _ g4 _ _)|(go_at_call_of 47 (pf+ps);exact qAm _ _ g5 _ _)|(go_at_call_of 47 pm;exact qAm _ _ g1 _ _)|(go_at_call_of 47 pf;exact qAm _ _ g2 _ _)|(go_at_call_of 47 ps;exact qAm _ _ g3 _ _)))|quiet_step ((first|(go_at_call 50;exact qKey _ _ hks hkb' _ _)|(go_at_call_of 47 (IntKind.i64.wrap (pf+ps));exact qAm _ _ g4 _ _)|(go_at_call_of 47 (pf+ps);exact qAm _ _ g5 _ _)|(go_at_call_of 47 pm;exact qAm _ _ g1 _ _)|(go_at_call_of 47 pf;exact qAm _ _ g2 _ _)|(go_at_call_of 47 ps;exact qAm _ _ g3 _ _))))
   refine wpQuiet_nil ?_
   intro _ hw'
   obtain⟨nq,hw''⟩:=hw'
   subst hw''
   go_wp2_with fail
   go_ret
   exact⟨ret_bool HBAD.symm,(HBL.alloc HBL.size _).trans ⟨rfl,rfl,rfl,Nat.le_refl _,fun _ _=>rfl⟩⟩
  have g1:decide (Inn pm 0 1000000000)=true:=decide_eq_true h1
  have hA1:amB pm=true:=decide_eq_true h1
  by_cases h2:0≤pf∧pf≤1000000000
  case' neg=>
   have hA:amB pf=false:=decide_eq_false h2
   have g2:decide (Inn pf 0 1000000000)=false:=decide_eq_false h2
   have HBAD:=hide (psOk_bad hlt (show okAt l (j+1)=false by rw [unhide HOKA];simp[puOk,hA]))
   clear HOKA HNX hA
   go_wp2_with fail
   refine wp_region_quiet_lit (by kernel_rfl) (by kernel_rfl) ?_
   repeat (first|go_big_quiet_step ((first|(go_at_call 50;exact qKey _ _ hks hkb' _ _)|(go_at_call_of 47 (IntKind.i64.wrap (pf+ps));exact qAm _ _ g4 _ _)|(go_at_call_of 47 (pf+ps);exact qAm _ _ g5 _ _)|(go_at_call_of 47 pm;exact qAm _ _ g1 _ _)|(go_at_call_of 47 pf;exact qAm _ _ g2 _ _)|(go_at_call_of 47 ps;exact qAm _ _ g3 _ _)))|quiet_step ((first|(go_at_call 50;exact qKey _ _ hks hkb' _ _)|(go_at_call_of 47 (IntKind.i64.wrap (pf+ps));exact qAm _ _ g4 _ _)|(go_at_call_of 47 (pf+ps);exact qAm _ _ g5 _ _)|(go_at_call_of 47 pm;exact qAm _ _ g1 _ _)|(go_at_call_of 47 pf;exact qAm _ _ g2 _ _)|(go_at_call_of 47 ps;exact qAm _ _ g3 _ _))))
   refine wpQuiet_nil ?_
   intro _ hw'
   obtain⟨nq,hw''⟩:=hw'
   subst hw''
   go_wp2_with fail
   go_ret
   exact⟨ret_bool HBAD.symm,(HBL.alloc HBL.size _).trans ⟨rfl,rfl,rfl,Nat.le_refl _,fun _ _=>rfl⟩⟩
  have g2:decide (Inn pf 0 1000000000)=true:=decide_eq_true h2
  have hA2:amB pf=true:=decide_eq_true h2
  by_cases h3:0≤ps∧ps≤1000000000
  case' neg=>
   have hA:amB ps=false:=decide_eq_false h3
   have g3:decide (Inn ps 0 1000000000)=false:=decide_eq_false h3
   have HBAD:=hide (psOk_bad hlt (show okAt l (j+1)=false by rw [unhide HOKA];simp[puOk,hA]))
   clear HOKA HNX hA
   go_wp2_with fail
   refine wp_region_quiet_lit (by kernel_rfl) (by kernel_rfl) ?_
   repeat (first|go_big_quiet_step ((first|(go_at_call 50;exact qKey _ _ hks hkb' _ _)|(go_at_call_of 47 (IntKind.i64.wrap (pf+ps));exact qAm _ _ g4 _ _)|(go_at_call_of 47 (pf+ps);exact qAm _ _ g5 _ _)|(go_at_call_of 47 pm;exact qAm _ _ g1 _ _)|(go_at_call_of 47 pf;exact qAm _ _ g2 _ _)|(go_at_call_of 47 ps;exact qAm _ _ g3 _ _)))|quiet_step ((first|(go_at_call 50;exact qKey _ _ hks hkb' _ _)|(go_at_call_of 47 (IntKind.i64.wrap (pf+ps));exact qAm _ _ g4 _ _)|(go_at_call_of 47 (pf+ps);exact qAm _ _ g5 _ _)|(go_at_call_of 47 pm;exact qAm _ _ g1 _ _)|(go_at_call_of 47 pf;exact qAm _ _ g2 _ _)|(go_at_call_of 47 ps;exact qAm _ _ g3 _ _))))
   refine wpQuiet_nil ?_
   intro _ hw'
   obtain⟨nq,hw''⟩:=hw'
   subst hw''
   go_wp2_with fail
   go_ret
   exact⟨ret_bool HBAD.symm,(HBL.alloc HBL.size _).trans ⟨rfl,rfl,rfl,Nat.le_refl _,fun _ _=>rfl⟩⟩
  have g3:decide (Inn ps 0 1000000000)=true:=decide_eq_true h3
  have hA3:amB ps=true:=decide_eq_true h3
  have e4:IntKind.i64.wrap (pf+ps)=pf+ps:=IntWalk.i64_in _ ⟨by omega,by omega⟩
  by_cases h4:0≤(pf+ps)∧(pf+ps)≤1000000000
  case' neg=>
   have hA:amB (pf+ps)=false:=decide_eq_false h4
   have g4:decide (Inn (pf+ps) 0 1000000000)=false:=decide_eq_false h4
   have g5:=g4
   rw [←e4] at g4
   have HBAD:=hide (psOk_bad hlt (show okAt l (j+1)=false by rw [unhide HOKA];simp[puOk,hA]))
   clear HOKA HNX hA
   go_wp2_with fail
   refine wp_region_quiet_lit (by kernel_rfl) (by kernel_rfl) ?_
   repeat (first|go_big_quiet_step ((first|(go_at_call 50;exact qKey _ _ hks hkb' _ _)|(go_at_call_of 47 (IntKind.i64.wrap (pf+ps));exact qAm _ _ g4 _ _)|(go_at_call_of 47 (pf+ps);exact qAm _ _ g5 _ _)|(go_at_call_of 47 pm;exact qAm _ _ g1 _ _)|(go_at_call_of 47 pf;exact qAm _ _ g2 _ _)|(go_at_call_of 47 ps;exact qAm _ _ g3 _ _)))|quiet_step ((first|(go_at_call 50;exact qKey _ _ hks hkb' _ _)|(go_at_call_of 47 (IntKind.i64.wrap (pf+ps));exact qAm _ _ g4 _ _)|(go_at_call_of 47 (pf+ps);exact qAm _ _ g5 _ _)|(go_at_call_of 47 pm;exact qAm _ _ g1 _ _)|(go_at_call_of 47 pf;exact qAm _ _ g2 _ _)|(go_at_call_of 47 ps;exact qAm _ _ g3 _ _))))
   refine wpQuiet_nil ?_
   intro _ hw'
   obtain⟨nq,hw''⟩:=hw'
   subst hw''
   go_wp2_with fail
   go_ret
   exact⟨ret_bool HBAD.symm,(HBL.alloc HBL.size _).trans ⟨rfl,rfl,rfl,Nat.le_refl _,fun _ _=>rfl⟩⟩
  have g4:decide (Inn (pf+ps) 0 1000000000)=true:=decide_eq_true h4
  have hA4:amB (pf+ps)=true:=decide_eq_true h4
  have g5:=g4
  rw [←e4] at g4
  have HGOOD:=hide (show okAt l (j+1)=true by rw [unhide HOKA];simp[puOk,hkb,hA1,hA2,hA3,hA4,unhide hsl])
  clear HOKA hA1 hA2 hA3 hA4
  go_wp2_with fail
  refine wp_region_quiet_lit (by kernel_rfl) (by kernel_rfl) ?_
  repeat (first|go_big_quiet_step ((first|(go_at_call 50;exact qKey _ _ hks hkb' _ _)|(go_at_call_of 47 (IntKind.i64.wrap (pf+ps));exact qAm _ _ g4 _ _)|(go_at_call_of 47 (pf+ps);exact qAm _ _ g5 _ _)|(go_at_call_of 47 pm;exact qAm _ _ g1 _ _)|(go_at_call_of 47 pf;exact qAm _ _ g2 _ _)|(go_at_call_of 47 ps;exact qAm _ _ g3 _ _)))|quiet_step ((first|(go_at_call 50;exact qKey _ _ hks hkb' _ _)|(go_at_call_of 47 (IntKind.i64.wrap (pf+ps));exact qAm _ _ g4 _ _)|(go_at_call_of 47 (pf+ps);exact qAm _ _ g5 _ _)|(go_at_call_of 47 pm;exact qAm _ _ g1 _ _)|(go_at_call_of 47 pf;exact qAm _ _ g2 _ _)|(go_at_call_of 47 ps;exact qAm _ _ g3 _ _))))
  refine wpQuiet_nil ?_
  intro _ hw'
  obtain⟨nq,hw''⟩:=hw'
  subst hw''
  go_wp2_with fail
  go_roundw
  case rel=>exact⟨(j+1)+1,by omega,by go_num,by rw [unhide HNX,unhide HALL,unhide HGOOD];rfl,(HBL.alloc HBL.size _).trans ⟨rfl,rfl,rfl,Nat.le_refl _,fun _ _=>rfl⟩⟩
  case measure=>simp[intOf];omega):P:=h
theorem Sa90.Ka20(h:P:=by
 cases k with
 |zero=>
  obtain⟨g,off,rfl,hgw,c0,c1,c2,c3⟩:=PursesAt.four (GR.At.below HA HBL) 0 hlt
  simp only[Nat.zero_mul,Nat.add_zero] at c0 c1 c2 c3
  have hgt:decide ((0:Int) < ((0:Nat):Int))=false:=rfl
  have HOKA:=hide hat
  have HNX:=hide (all_range_succ (okAt l) 0)
  clear hat
  generalize l[0]=pu at *
  cases hpo:puOk pu
  ·have HO:=hide (fun w1=>implPuOkB pu false w1 hpo);have HBAD:=hide (psOk_bad hlt (show okAt l 0=false by rw [unhide HOKA,hpo];rfl));clear HOKA HNX hpo;obtain⟨pk,pm,pf,ps⟩:=pu;dsimp only at c0 c1 c2 c3;open Sa30 in exact Ya7
  ·have HO:=hide (fun w1=>implPuOkB pu true w1 hpo);have HGOOD:=hide (show okAt l 0=true by rw [unhide HOKA,hpo];rfl);clear HOKA hpo;obtain⟨pk,pm,pf,ps⟩:=pu;dsimp only at c0 c1 c2 c3;open Sa29 in exact Ya7
 |succ j=>
  have hlt2:j < l.length:=by omega
  obtain⟨g,off,rfl,hgw,c0,c1,c2,c3⟩:=PursesAt.four (GR.At.below HA HBL) (j+1) hlt
  obtain⟨g2,off2,e2,hgw2,d0,d1,d2,d3⟩:=PursesAt.four (GR.At.below HA HBL) j hlt2
  have e3:g=g2:=by injection e2 with e2;injection e2 with e2 e4
  have e4:off=off2:=by injection e2 with e2;injection e2 with e2 e4
  subst e3 e4
  clear e2 hgw2 d1 d2 d3
  have hgt:decide ((0:Int) < ((j+1:Nat):Int))=true:=decide_eq_true (by omega)
  have ej:IntKind.i64.wrap (((j+1:Nat):Int) - 1)=(j:Int):=by rw [IntWalk.i64_in _ ⟨by omega,by omega⟩];omega
  rw [show j+1 - 1=j by omega,getD_at l j hlt2] at hat
  have HOKA:=hide hat
  have HNX:=hide (all_range_succ (okAt l) (j+1))
  clear hat
  generalize l[j+1]=pu at *
  generalize l[j]=pq at *
  obtain⟨q,qm,qf,qs⟩:=pq
  dsimp only at d0
  cases hpo:puOk pu
  ·have HO:=hide (fun w1=>implPuOkB pu false w1 hpo);have HBAD:=hide (psOk_bad hlt (show okAt l (j+1)=false by rw [unhide HOKA,hpo];rfl));clear HOKA HNX hpo;obtain⟨pk,pm,pf,ps⟩:=pu;dsimp only at c0 c1 c2 c3;open Sa28 in exact Ya7
  ·have HO:=hide (fun w1=>implPuOkB pu true w1 hpo);cases hsl:Op.bytesLess q.toList pu.k.toList
   ·have HBAD:=hide (psOk_bad hlt (show okAt l (j+1)=false by rw [unhide HOKA,hpo];dsimp only;rw [←less_sle,hsl];simp));clear HOKA HNX hpo;obtain⟨pk,pm,pf,ps⟩:=pu;dsimp only at c0 c1 c2 c3 hsl;open Sa27 in exact Ya7
   ·have HGOOD:=hide (show okAt l (j+1)=true by rw [unhide HOKA,hpo];dsimp only;rw [←less_sle,hsl];simp);clear HOKA hpo;obtain⟨pk,pm,pf,ps⟩:=pu;dsimp only at c0 c1 c2 c3 hsl;open Sa26 in exact Ya7):P:=h
theorem Ya21(h:P:=by
 go_enter Tryz.func245,Tryz.ntmps245
 go_upto_region 1 with fail;refine Fo.wp_at (fun V hV=>?_);have hbV:Below w.heap.size w V:=by rw [hV];exact below_one' w _
 have hblk:V.heap[w.heap.size]?=some (.cells #[.int .i64 dm,.int .i64 df,.int .i64 ds] 213 (0,0)):=by rw [hV];exact heap_alloc_new w _
 have hlt:=Fo.lt_of_blk hblk;have c0:V.cell? ⟨w.heap.size,0,none⟩=some (.int .i64 dm):=by rw [cell_of_row V _ _ _ _ (0,0) hblk];rfl
 have c1:V.cell? ⟨w.heap.size,1,none⟩=some (.int .i64 df):=by rw [cell_of_row V _ _ _ _ (0,0) hblk];rfl
 have c2:V.cell? ⟨w.heap.size,2,none⟩=some (.int .i64 ds):=by rw [cell_of_row V _ _ _ _ (0,0) hblk];rfl
 have HBV:=hide hbV;clear hblk hV hbV;exact Ka21):P:=h
theorem Sa91.Ka21(h:P:=by
 go_cut [9,10] (fun p9 p10 wx=>∃pb:Nat,p9= .pointer (some ⟨pb,0,none⟩)∧p10= .nilIface∧Below w.heap.size w wx∧wx.heap[pb]?=some (.cells #[.string pk,.int .i64 qm,.int .i64 qf,.int .i64 qs] 141 (0,0))∧w.heap.size≤pb)
 case first=>
  have hnV:w.heap.size≠V.heap.size:=by omega
  have hmV:V.heap.size≠w.heap.size:=by omega
  go_region_held (fun w'=>w'.cell? ⟨w.heap.size,0,none⟩=some (.int .i64 dm)∧w'.cell? ⟨w.heap.size,1,none⟩=some (.int .i64 df)∧w'.cell? ⟨w.heap.size,2,none⟩=some (.int .i64 ds)) (go_keep)
   (first
    |((go_at_call 262);(refine(HGET _ (by exact HBV.trans (by exact⟨rfl,rfl,rfl,by simp,fun k hk=>by first|rfl|exact Below.heap_alloc _ _ _ (by omega)⟩))).mono ?_);(rintro e w4 ⟨rfl,hb4⟩);(have hs4:=hb4.size);(simp at hs4);(have HB4:=hide (HBV.trans (Below.trans (b:=_) (by exact⟨rfl,rfl,rfl,by simp,fun k hk=>by first|rfl|exact Below.heap_alloc _ _ _ (by omega)⟩) (hb4.mono (by first|omega|(simp<;>omega))))));(obtain⟨hc4,hf4⟩:=bcell hb4);(have d0:w4.cell? ⟨w.heap.size,0,none⟩=some (.int .i64 dm):=by rw [hc4 _ _ (by first|omega|(simp<;>omega))];first|exact c0|exact(World.cell?_alloc_lt _ _ _ hlt).trans c0);(have d1:w4.cell? ⟨w.heap.size,1,none⟩=some (.int .i64 df):=by rw [hc4 _ _ (by first|omega|(simp<;>omega))];first|exact c1|exact(World.cell?_alloc_lt _ _ _ hlt).trans c1);(have d2:w4.cell? ⟨w.heap.size,2,none⟩=some (.int .i64 ds):=by rw [hc4 _ _ (by first|omega|(simp<;>omega))];first|exact c2|exact(World.cell?_alloc_lt _ _ _ hlt).trans c2);(first|(guard_hyp hs4:V.heap.size+1≤w4.heap.size;obtain⟨⟨z0,z1,z2,z3⟩,x0,x1,x2,x3⟩:=four_at (Fo.one_block (show Below (V.alloc (.cells #[.string ⟨#[]⟩,.int .i64 0,.int .i64 0,.int .i64 0] 141)).heap.size (V.alloc (.cells #[.string ⟨#[]⟩,.int .i64 0,.int .i64 0,.int .i64 0] 141)) w4 from⟨hb4.os,hb4.tape,hb4.output,hb4.size,hb4.block⟩)).1;have hz4:V.heap.size < w4.heap.size:=World.block_lt_of_cell? _ _ z0;have HZ:=hide (Fo.one_block (show Below (V.alloc (.cells #[.string ⟨#[]⟩,.int .i64 0,.int .i64 0,.int .i64 0] 141)).heap.size (V.alloc (.cells #[.string ⟨#[]⟩,.int .i64 0,.int .i64 0,.int .i64 0] 141)) w4 from⟨hb4.os,hb4.tape,hb4.output,hb4.size,hb4.block⟩)).1)|skip);(have hlt4:w.heap.size < w4.heap.size:=by omega);(have hn4:w.heap.size≠w4.heap.size:=by omega);(have hm4:w4.heap.size≠w.heap.size:=by omega);(clear hb4 hc4 hf4))
    |((go_at_call 263);(refine(HSH _ (by exact HB4.trans (by exact⟨rfl,rfl,rfl,by simp,fun k hk=>by first|rfl|exact Below.heap_alloc _ _ _ (by omega)⟩))).mono ?_);(rintro e w5 ⟨rfl,hb5⟩);(have hs5:=hb5.size);(try simp at hs5);(have HB5:=hide (HB4.trans (Below.trans (b:=_) (by exact⟨rfl,rfl,rfl,by simp,fun k hk=>by first|rfl|exact Below.heap_alloc _ _ _ (by omega)⟩) (hb5.mono (by first|omega|(simp<;>omega))))));(obtain⟨hc5,hf5⟩:=bcell hb5);(have e0:w5.cell? ⟨w.heap.size,0,none⟩=some (.int .i64 dm):=by rw [hc5 _ _ (by first|omega|(simp<;>omega))];first|exact d0|exact(World.cell?_alloc_lt _ _ _ hlt4).trans d0);(have e1:w5.cell? ⟨w.heap.size,1,none⟩=some (.int .i64 df):=by rw [hc5 _ _ (by first|omega|(simp<;>omega))];first|exact d1|exact(World.cell?_alloc_lt _ _ _ hlt4).trans d1);(have e2:w5.cell? ⟨w.heap.size,2,none⟩=some (.int .i64 ds):=by rw [hc5 _ _ (by first|omega|(simp<;>omega))];first|exact d2|exact(World.cell?_alloc_lt _ _ _ hlt4).trans d2);(first|(guard_hyp hz4:V.heap.size < w4.heap.size;have HY:=hide ((hb5.block _ hz4).trans HZ);have y0:=(hc5 _ 0 hz4).trans z0;have y1:=(hc5 _ 1 hz4).trans z1;have y2:=(hc5 _ 2 hz4).trans z2;have y3:=(hc5 _ 3 hz4).trans z3;have v0:=(hf5 _ 0 hz4).trans x0;have v1:=(hf5 _ 1 hz4).trans x1;have v2:=(hf5 _ 2 hz4).trans x2;have v3:=(hf5 _ 3 hz4).trans x3)|(guard_hyp hs5:w4.heap.size+1≤w5.heap.size;have HY:=hide (Fo.one_block hb5).1;obtain⟨⟨y0,y1,y2,y3⟩,v0,v1,v2,v3⟩:=four_at (Fo.one_block hb5).1)|skip);(have hlt5:w.heap.size < w5.heap.size:=by omega);(have hn5:w.heap.size≠w5.heap.size:=by omega);(have hm5:w5.heap.size≠w.heap.size:=by omega);(clear hb5 hc5 hf5)))
  all_goals
   go_wp2_with fail
   go_meet
   case rel=>
    first
     |exact⟨_,rfl,rfl,Fo.four_below HB5 (by omega),Fo.four_set HY,by omega⟩
     |exact⟨_,rfl,rfl,HB5.alloc HB5.size _,heap_alloc_new w5 _,by omega⟩
 case rest=>
  obtain⟨pb,rfl,rfl,hbx,hpb,hge⟩:=hcut;obtain⟨⟨p0,p1,p2,p3⟩,_⟩:=four_at hpb;have HADX:=hide (HADD _ hbx);have HBX:=hide hbx;have HPB:=hide hpb;have hltp:=Fo.lt_of_blk hpb
  have HNE:=hide (show pb≠mp∧v.ownBlock≠some pb from⟨fun e=>by
   have:=(HPM _ hbx).blk
   rw [←e,hpb] at this
   injection this with this
   injection this with h1 h2 h3
   exact absurd h2 (by decide),own_ne (HPM _ hbx).row hpb (by decide)⟩)
  clear hbx hpb HADD HGET HSH HBV c0 c1 c2 hlt;go_wp2_with fail;refine HADX.mono ?_;rintro e w6 ⟨hb6,hfr6,hcase⟩;have HB6:=hide (Below.trans (HBX.mono hB) hb6);have hpb6:=(hfr6 pb hltp HNE.1 HNE.2).trans HPB;clear hfr6 hb6 p0 p1 p2 p3 HADX;rcases hcase with⟨hf,rfl,hPM⟩|⟨hf,h20,rfl⟩|⟨hf,h20,rfl,v',hPM⟩
  ·rw [unhide HKF hf] at hPM;open Sa141 in exact Ya33
  ·have HF:=hide hf;have H20:=hide h20;clear hf h20 hpb6;go_wp2_with fail;go_ret;exact⟨HB6,.inl ⟨HF,H20,rfl⟩⟩
  ·rw [unhide HKN hf] at hPM;open Sa140 in exact Ya33):P:=h
theorem Sa92.Ka21(h:P:=by
 have hnV:w.heap.size≠V.heap.size:=by omega
 have hmV:V.heap.size≠w.heap.size:=by omega
 go_region_held (fun w'=>w'.cell? ⟨w.heap.size,0,none⟩=some (.int .i64 dm)∧w'.cell? ⟨w.heap.size,1,none⟩=some (.int .i64 df)∧w'.cell? ⟨w.heap.size,2,none⟩=some (.int .i64 ds)) (go_keep)
  (first
   |((go_at_call 262);(refine(HGET _ (by exact HBV.trans (by exact⟨rfl,rfl,rfl,by simp,fun k hk=>by first|rfl|exact Below.heap_alloc _ _ _ (by omega)⟩))).mono ?_);(rintro e w4 ⟨rfl,hb4⟩);(have hs4:=hb4.size);(simp at hs4);(have HB4:=hide (HBV.trans (Below.trans (b:=_) (by exact⟨rfl,rfl,rfl,by simp,fun k hk=>by first|rfl|exact Below.heap_alloc _ _ _ (by omega)⟩) (hb4.mono (by first|omega|(simp<;>omega))))));(obtain⟨hc4,hf4⟩:=bcell hb4);(have d0:w4.cell? ⟨w.heap.size,0,none⟩=some (.int .i64 dm):=by rw [hc4 _ _ (by first|omega|(simp<;>omega))];first|exact c0|exact(World.cell?_alloc_lt _ _ _ hlt).trans c0);(have d1:w4.cell? ⟨w.heap.size,1,none⟩=some (.int .i64 df):=by rw [hc4 _ _ (by first|omega|(simp<;>omega))];first|exact c1|exact(World.cell?_alloc_lt _ _ _ hlt).trans c1);(have d2:w4.cell? ⟨w.heap.size,2,none⟩=some (.int .i64 ds):=by rw [hc4 _ _ (by first|omega|(simp<;>omega))];first|exact c2|exact(World.cell?_alloc_lt _ _ _ hlt).trans c2);(first|(guard_hyp hs4:V.heap.size+1≤w4.heap.size;obtain⟨⟨z0,z1,z2,z3⟩,x0,x1,x2,x3⟩:=four_at (Fo.one_block (show Below (V.alloc (.cells #[.string ⟨#[]⟩,.int .i64 0,.int .i64 0,.int .i64 0] 141)).heap.size (V.alloc (.cells #[.string ⟨#[]⟩,.int .i64 0,.int .i64 0,.int .i64 0] 141)) w4 from⟨hb4.os,hb4.tape,hb4.output,hb4.size,hb4.block⟩)).1;have hz4:V.heap.size < w4.heap.size:=World.block_lt_of_cell? _ _ z0)|skip);(have hlt4:w.heap.size < w4.heap.size:=by omega);(have hn4:w.heap.size≠w4.heap.size:=by omega);(have hm4:w4.heap.size≠w.heap.size:=by omega);(clear hb4 hc4 hf4))
   |((go_at_call 263);(refine(HSH _ (by exact HB4.trans (by exact⟨rfl,rfl,rfl,by simp,fun k hk=>by first|rfl|exact Below.heap_alloc _ _ _ (by omega)⟩))).mono ?_);(rintro e w5 ⟨ix,hix,rfl,hb5⟩);(have hs5:=hb5.size);(try simp at hs5);(have HB5:=hide (HB4.trans (Below.trans (b:=_) (by exact⟨rfl,rfl,rfl,by simp,fun k hk=>by first|rfl|exact Below.heap_alloc _ _ _ (by omega)⟩) (hb5.mono (by first|omega|(simp<;>omega))))));(obtain⟨hc5,hf5⟩:=bcell hb5);(have e0:w5.cell? ⟨w.heap.size,0,none⟩=some (.int .i64 dm):=by rw [hc5 _ _ (by first|omega|(simp<;>omega))];first|exact d0|exact(World.cell?_alloc_lt _ _ _ hlt4).trans d0);(have e1:w5.cell? ⟨w.heap.size,1,none⟩=some (.int .i64 df):=by rw [hc5 _ _ (by first|omega|(simp<;>omega))];first|exact d1|exact(World.cell?_alloc_lt _ _ _ hlt4).trans d1);(have e2:w5.cell? ⟨w.heap.size,2,none⟩=some (.int .i64 ds):=by rw [hc5 _ _ (by first|omega|(simp<;>omega))];first|exact d2|exact(World.cell?_alloc_lt _ _ _ hlt4).trans d2);(first|(guard_hyp hz4:V.heap.size < w4.heap.size;have y0:=(hc5 _ 0 hz4).trans z0;have y1:=(hc5 _ 1 hz4).trans z1;have y2:=(hc5 _ 2 hz4).trans z2;have y3:=(hc5 _ 3 hz4).trans z3;have v0:=(hf5 _ 0 hz4).trans x0;have v1:=(hf5 _ 1 hz4).trans x1;have v2:=(hf5 _ 2 hz4).trans x2;have v3:=(hf5 _ 3 hz4).trans x3)|(guard_hyp hs5:w4.heap.size+1≤w5.heap.size;obtain⟨⟨y0,y1,y2,y3⟩,v0,v1,v2,v3⟩:=four_at (Fo.one_block hb5).1)|skip);(have hlt5:w.heap.size < w5.heap.size:=by omega);(have hn5:w.heap.size≠w5.heap.size:=by omega);(have hm5:w5.heap.size≠w.heap.size:=by omega);(clear hb5 hc5 hf5)))
 all_goals
  go_wp2_with fail
  go_ret
  refine⟨ix,hix,rfl,?_⟩
  first|exact HB5.alloc HB5.size _|exact Fo.four_below HB5 (by omega)):P:=h
theorem Ya22(h:P:=by
 have HP3:=hide (obj_step HP1 hbw);have HR3:=hide (obj_step HR1 hbw);have HO3:=hide (obj_step HO1 hbw);have HB3:=hide (HB1.trans (hbw.mono HB1.size));clear hW3 hbw c0 c1 c2 c3 c4 c5 c6 c7 c8 d0 d1 d2 d3;obtain⟨c0,c1,c2,c3,c4,c5,c6,c7,c8⟩:=nine HP3;obtain⟨d0,d1,d2,d3⟩:=fourC HR3;obtain⟨r0,r1,r2,r3,r4,r5,r6⟩:=sevenC HO3;have f0:=obj_free HO3 0;have f1:=obj_free HO3 1;have f2:=obj_free HO3 2;have f3:=obj_free HO3 3;have f4:=obj_free HO3 4;have f5:=obj_free HO3 5;have f6:=obj_free HO3 6;go_wp2_with fail;refine bodyPost_atN (fun W' hW'=>?_);exact Ka22):P:=h
theorem Sa93.Ka22(h:P:=by
 have hR:=seven_setN (b0:= .int .i64 1) (b1:= .int .i64 id) (b2:= .int .i64 st) (b3:= .int .i64 LO) (b4:= .int .i64 LO) (b5:= .string sx) (b6:= .int .i64 sn) HO3;have hK:=seven_keepsN (w:=W3) (g:=w.heap.size+1+1) (b0:= .int .i64 1) (b1:= .int .i64 id) (b2:= .int .i64 st) (b3:= .int .i64 LO) (b4:= .int .i64 LO) (b5:= .string sx) (b6:= .int .i64 sn);rw [←hW'] at hR hK;obtain⟨x0,x1,x2,x3,x4,x5,x6⟩:=sevenC hR;refine bodyPost_ret (v:= .agg #[.int .i64 1,.int .i64 id,.int .i64 st,.int .i64 LO,.int .i64 LO,.string sx,.int .i64 sn]) (by simp[results,Tryz.results166,go_sem,x0,x1,x2,x3,x4,x5,x6]) rfl ⟨rfl,HB3.trans (hK.below (fun x hx=>by have:x=w.heap.size+1+1:=(by simpa using hx);omega) HB3.size)⟩):P:=h
theorem Sa94.Ka22(h:P:=by
 have hR:=seven_setN (b0:= .int .i64 1) (b1:= .int .i64 id) (b2:= .int .i64 st) (b3:= .int .i64 si) (b4:= .int .i64 LO) (b5:= .string sx) (b6:= .int .i64 sn) HO3;have hK:=seven_keepsN (w:=W3) (g:=w.heap.size+1+1) (b0:= .int .i64 1) (b1:= .int .i64 id) (b2:= .int .i64 st) (b3:= .int .i64 si) (b4:= .int .i64 LO) (b5:= .string sx) (b6:= .int .i64 sn);rw [←hW'] at hR hK;obtain⟨x0,x1,x2,x3,x4,x5,x6⟩:=sevenC hR;refine bodyPost_ret (v:= .agg #[.int .i64 1,.int .i64 id,.int .i64 st,.int .i64 si,.int .i64 LO,.string sx,.int .i64 sn]) (by simp[results,Tryz.results166,go_sem,x0,x1,x2,x3,x4,x5,x6]) rfl ⟨rfl,HB3.trans (hK.below (fun x hx=>by have:x=w.heap.size+1+1:=(by simpa using hx);omega) HB3.size)⟩):P:=h
theorem Ya23(h:P:=by
 refine wp_region_quiet_below (by kernel_rfl) (by kernel_rfl) ?_;repeat (first|go_big_quiet_step (first|exact cO _ _|exact cM _ _)|quiet_step (first|exact cO _ _|exact cM _ _))
 refine wpQuiet_nil ?_;intro _ hw';obtain⟨⟨dq,osq⟩,hw''⟩:=hw';subst hw'';have HBL5:=hide (HBV.trans ((below_regrown _ dq osq).mono HBV.size));clear cO cM y0 y1 y2 y3 y4 y5 y6;exact Ka23):P:=h
theorem Sa95.Ka23(h:P:=by
 go_wp2_with fail;exact bodyPost_ret (v:= .tuple #[ifv ⟨1,F,T,I,L,k,N⟩,.bool true]) (by simp[results,Tryz.results184,go_sem,ifv]) rfl ⟨by rw [unhide HP],HBL5⟩):P:=h
theorem Sa96.Ka23(h:P:=by
 exact Ka5):P:=h
theorem Sa97.Ka23(h:P:=by
 exact Ka1):P:=h
theorem Ya24(h:P:=by
 clear h ho;obtain⟨⟨p0,p1,p2,p3,p4,p5,p6,p7,p8,p9,p10⟩,_⟩:=eleven_at HP1;have hpl:=obj_lt HP1;go_enter Tryz.func33,Tryz.ntmps33
 go_wp2_with fail;refine(HIO _).mono ?_;rintro e w2 ⟨rfl,hb2⟩;have HW2:=hide (HW1.step hb2);have HP2:=hide (obj_step HP1 hb2);clear hb2 HW1 HP1 p0 p1 p2 p3 p4 p5 p6 p7 p8 p9 p10 HIO;exact Ka24):P:=h
theorem Sa98.Ka24(h:P:=by
 obtain rfl:=unhide HKQ;obtain⟨⟨p0,p1,p2,p3,p4,p5,p6,p7,p8,p9,p10⟩,_⟩:=eleven_at HP2;have hpl2:=obj_lt HP2;go_upto_region 4 with fail;refine wp_at (fun W hW=>?_);have e1:W.heap[w2.heap.size]?=some (.cells #[.func (.func 106) #[.pointer (some ⟨wb,0,none⟩)] #[],.func (.func 107) #[.pointer (some ⟨wb,0,none⟩)] #[],.func (.func 108) #[.pointer (some ⟨wb,0,none⟩)] #[],.func (.func 109) #[.pointer (some ⟨wb,0,none⟩)] #[],.func (.func 110) #[.pointer (some ⟨wb,0,none⟩)] #[],.func (.func 111) #[.pointer (some ⟨wb,0,none⟩)] #[],.func (.func 112) #[.pointer (some ⟨wb,0,none⟩)] #[]] 139 (0,0)):=by rw [hW];exact heap_alloc_new _ _
 have e2:=below_one w2 (.cells #[.func (.func 106) #[.pointer (some ⟨wb,0,none⟩)] #[],.func (.func 107) #[.pointer (some ⟨wb,0,none⟩)] #[],.func (.func 108) #[.pointer (some ⟨wb,0,none⟩)] #[],.func (.func 109) #[.pointer (some ⟨wb,0,none⟩)] #[],.func (.func 110) #[.pointer (some ⟨wb,0,none⟩)] #[],.func (.func 111) #[.pointer (some ⟨wb,0,none⟩)] #[],.func (.func 112) #[.pointer (some ⟨wb,0,none⟩)] #[]] 139);rw [←hW] at e2;have HW4:=hide (HW2.step e2);have HP4:=hide (obj_step HP2 e2);exact Ka0):P:=h
theorem Sa99.Ka24(h:P:=by
 go_wp2_with fail;go_ret;exact⟨rfl,A,G,c,v,by rw [List.append_nil];exact HW2⟩):P:=h
theorem Sa100.Ka24(h:P:=by
 obtain⟨⟨p0,p1,p2,p3,p4,p5,p6,p7,p8,p9,p10⟩,_⟩:=eleven_at HP2;have hpl2:=obj_lt HP2;have hK6:=unhide HK6;go_wp2_with fail;refine(HAD w2 HW2).mono ?_;rintro e w3 ⟨rfl,hb3⟩;have HW3:=hide (HW2.step hb3);clear hb3 p0 p1 p2 p3 p4 p5 p6 p7 p8 p9 p10 HAD;go_wp2_with fail;go_ret;exact⟨rfl,A,G,c,v,by rw [List.append_nil];exact HW3⟩):P:=h
theorem Sa101.Ka24(h:P:=by
 obtain rfl:=unhide HKQ;obtain⟨⟨p0,p1,p2,p3,p4,p5,p6,p7,p8,p9,p10⟩,_⟩:=eleven_at HP2;have hpl2:=obj_lt HP2;go_wp2_with fail;refine(HAD w2 HW2).mono ?_;rintro e w3 ⟨rfl,hb3⟩;have HW3:=hide (HW2.step hb3);have HP3:=hide (obj_step HP2 hb3);clear hb3 HAD;go_upto_region 4 with fail;refine wp_at (fun W hW=>?_);have e1:W.heap[w3.heap.size]?=some (.cells #[.func (.func 106) #[.pointer (some ⟨wb,0,none⟩)] #[],.func (.func 107) #[.pointer (some ⟨wb,0,none⟩)] #[],.func (.func 108) #[.pointer (some ⟨wb,0,none⟩)] #[],.func (.func 109) #[.pointer (some ⟨wb,0,none⟩)] #[],.func (.func 110) #[.pointer (some ⟨wb,0,none⟩)] #[],.func (.func 111) #[.pointer (some ⟨wb,0,none⟩)] #[],.func (.func 112) #[.pointer (some ⟨wb,0,none⟩)] #[]] 139 (0,0)):=by rw [hW];exact heap_alloc_new _ _
 have e2:=below_one w3 (.cells #[.func (.func 106) #[.pointer (some ⟨wb,0,none⟩)] #[],.func (.func 107) #[.pointer (some ⟨wb,0,none⟩)] #[],.func (.func 108) #[.pointer (some ⟨wb,0,none⟩)] #[],.func (.func 109) #[.pointer (some ⟨wb,0,none⟩)] #[],.func (.func 110) #[.pointer (some ⟨wb,0,none⟩)] #[],.func (.func 111) #[.pointer (some ⟨wb,0,none⟩)] #[],.func (.func 112) #[.pointer (some ⟨wb,0,none⟩)] #[]] 139);rw [←hW] at e2;have HW4:=hide (HW3.step e2);have HP4:=hide (obj_step HP3 e2);have c0:W.cell? ⟨w3.heap.size,6,none⟩=some (.func (.func 112) #[.pointer (some ⟨wb,0,none⟩)] #[]):=cell_of_row W _ 6 _ _ (0,0) e1;exact Za0):P:=h
theorem Ya25(h:P:=by
 have HBV:=hide (show Below w.heap.size w V by rw [hV];exact((Below.refl _ _).alloc (Nat.le_refl _) _).alloc (by simp) _);have hgV:=blk_lt hblk;obtain⟨p0,p1,p2,p3,p4,p5,p6⟩:=cells7 hblk;clear hV hblk;exact Ka25):P:=h
theorem Sa102.Ka25(h:P:=by
 have cO:∀d os,Calls Tryz.prog 303 #[.agg #[.int .i64 F,.int .i64 T,.int .i64 I]] (Sort.grow (redrawn V d) os) fun e w''=>e= .returned (.bool false)∧∃p:Regrown,w''=Sort.grow (redrawn V p.d) p.os:=fun d os=>Calls.regrown_of (HO _)
 open Sa156 in exact Ya36):P:=h
theorem Sa103.Ka25(h:P:=by
 have cO:∀d os,Calls Tryz.prog 302 #[.agg #[.int .i64 F,.int .i64 T,.int .i64 I,.int .i64 L,.string k,.int .i64 N]] (Sort.grow (redrawn V d) os) fun e w''=>e= .returned (.bool true)∧∃p:Regrown,w''=Sort.grow (redrawn V p.d) p.os:=fun d os=>Calls.regrown_of (HO _)
 have cM:∀d os,Calls Tryz.prog 216 #[.iface 245 (.agg #[.int .i64 F,.int .i64 T,.int .i64 I,.int .i64 L,.string k,.int .i64 N])] (Sort.grow (redrawn V d) os) fun e w''=>e= .returned (mgv ⟨1,F,T,I,L,k,N⟩)∧∃p:Regrown,w''=Sort.grow (redrawn V p.d) p.os:=fun d os=>Calls.regrown_of (HM _)
 open Sa155 in exact Ya36):P:=h
theorem Sa104.Ka25(h:P:=by
 have cO:∀d os,Calls Tryz.prog 302 #[.agg #[.int .i64 F,.int .i64 T,.int .i64 I,.int .i64 L,.string k,.int .i64 N]] (Sort.grow (redrawn V d) os) fun e w''=>e= .returned (.bool false)∧∃p:Regrown,w''=Sort.grow (redrawn V p.d) p.os:=fun d os=>Calls.regrown_of (HO _)
 open Sa154 in exact Ya36):P:=h
theorem Sa105.Ka25(h:P:=by
 have cO:∀d os,Calls Tryz.prog 301 #[.agg #[.int .i64 F,.int .i64 T,.string k,.int .i64 N]] (Sort.grow (redrawn V d) os) fun e w''=>e= .returned (.bool false)∧∃p:Regrown,w''=Sort.grow (redrawn V p.d) p.os:=fun d os=>Calls.regrown_of (HO _)
 open Sa153 in exact Ya36):P:=h
theorem Sa106.Ka25(h:P:=by
 have cO:∀d os,Calls Tryz.prog 301 #[.agg #[.int .i64 F,.int .i64 T,.string k,.int .i64 N]] (Sort.grow (redrawn V d) os) fun e w''=>e= .returned (.bool true)∧∃p:Regrown,w''=Sort.grow (redrawn V p.d) p.os:=fun d os=>Calls.regrown_of (HO _)
 have cM:∀d os,Calls Tryz.prog 216 #[.iface 243 (.agg #[.int .i64 F,.int .i64 T,.string k,.int .i64 N])] (Sort.grow (redrawn V d) os) fun e w''=>e= .returned (mgv ⟨0,F,T,0,0,k,N⟩)∧∃p:Regrown,w''=Sort.grow (redrawn V p.d) p.os:=fun d os=>Calls.regrown_of (HM _)
 open Sa152 in exact Ya36):P:=h
theorem Sa107.Ka25(h:P:=by
 have cO:∀d os,Calls Tryz.prog 303 #[.agg #[.int .i64 F,.int .i64 T,.int .i64 I]] (Sort.grow (redrawn V d) os) fun e w''=>e= .returned (.bool true)∧∃p:Regrown,w''=Sort.grow (redrawn V p.d) p.os:=fun d os=>Calls.regrown_of (HO _)
 have cM:∀d os,Calls Tryz.prog 216 #[.iface 247 (.agg #[.int .i64 F,.int .i64 T,.int .i64 I])] (Sort.grow (redrawn V d) os) fun e w''=>e= .returned (mgv ⟨2,F,T,I,0,ByteArray.empty,0⟩)∧∃p:Regrown,w''=Sort.grow (redrawn V p.d) p.os:=fun d os=>Calls.regrown_of (HM _)
 open Sa151 in exact Ya36):P:=h
theorem Ya26(h:P:=by
 obtain⟨id,par,kids,next,pu,out,seen,old,reqs⟩:=n;obtain⟨ak,ap,ao,as',ar,ck,cp,co,cs,cr⟩:=A;exact Ka26):P:=h
theorem Sa108.Ka26(h:P:=by
 dsimp only at hl HA HD HTL HCB HCF HCN ⊢;cases h1:ndB id
 case' false=>
  have HP:=hide (HD (by rw [h1];rfl))
  clear HD HTL HCB HCF HCN
  go_enter Tryz.func43,Tryz.ntmps43
  go_wp2_with (first|(go_at_call 123;refine(l04Node _ false _ h1).mono ?_;rintro e w1 ⟨rfl,rfl⟩))
  go_ret
  exact⟨ret_bool HP.symm,below_one w _⟩
 cases h2:decide (-1≤par∧par≤29)
 case' false=>
  have HP:=hide (HD (by rw [h2];simp))
  clear HD HTL HCB HCF HCN
  go_enter Tryz.func43,Tryz.ntmps43
  go_wp2_with (first|(go_at_call 123;refine(l04Node _ true _ h1).mono ?_;rintro e w1 ⟨rfl,rfl⟩)|(go_at_call 48;refine(l01InR _ _ _ false _ h2).mono ?_;rintro e w1 ⟨rfl,rfl⟩))
  go_ret
  exact⟨ret_bool HP.symm,below_one w _⟩
 by_cases h3:par=id
 case' pos=>
  have hb3:(par == id)=true:=by simp[h3]
  have HP:=hide (HD (by simp[h3]))
  clear h3 HD HTL HCB HCF HCN
  go_enter Tryz.func43,Tryz.ntmps43
  go_wp2_with (first|(go_at_call 123;refine(l04Node _ true _ h1).mono ?_;rintro e w1 ⟨rfl,rfl⟩)|(go_at_call 48;refine(l01InR _ _ _ true _ h2).mono ?_;rintro e w1 ⟨rfl,rfl⟩))
  go_ret
  exact⟨ret_bool HP.symm,below_one w _⟩
 have hb3:(par == id)=false:=by simp[h3]
 by_cases h4:kids.length≤30
 case' neg=>
  have hb4:decide ((30:Int) < kids.length)=true:=decide_eq_true (by omega)
  have HP:=hide (HD (by simp[h4]))
  clear HD HTL HCB HCF HCN
  go_enter Tryz.func43,Tryz.ntmps43
  go_wp2_with (first|(go_at_call 123;refine(l04Node _ true _ h1).mono ?_;rintro e w1 ⟨rfl,rfl⟩)|(go_at_call 48;refine(l01InR _ _ _ true _ h2).mono ?_;rintro e w1 ⟨rfl,rfl⟩))
  go_ret
  exact⟨ret_bool HP.symm,below_one w _⟩
 have hb4:decide ((30:Int) < kids.length)=false:=decide_eq_false (by omega);have HOK:=hide (HTL h1 (of_decide_eq_true h2) h3 h4);clear HD HTL;go_enter Tryz.func43,Tryz.ntmps43
 go_wp2_with (first|(go_at_call 123;refine(l04Node _ true _ h1).mono ?_;rintro e w1 ⟨rfl,rfl⟩)|(go_at_call 48;refine(l01InR _ _ _ true _ h2).mono ?_;rintro e w1 ⟨rfl,rfl⟩))
 go_loopw [3] (fun i wr=>∃k:Nat,k≤kids.length∧i= .int .i64 k∧chk (kidB id par) ltB (kids.take k)=true∧wr.heap[w.heap.size]?=some (.cells (ndc ⟨id,par,kids,next,pu,out,seen,old,reqs⟩ ⟨ak,ap,ao,as',ar,ck,cp,co,cs,cr⟩) 30 (0,0))∧Below w.heap.size w wr) (fun i _=>kids.length - (intOf i).toNat)
 case atStart=>exact⟨0,Nat.zero_le _,rfl,rfl,heap_alloc_new w _,below_one w _⟩
 case round=>
  open Sa234 in exact Ya60):P:=h
theorem Sa109.Ka26(h:P:=by
 dsimp only at hl hl2 HA HS HL3 HD HCB HCF HCN HNR HBX ⊢;go_enter Tryz.func45,Tryz.ntmps45
 go_upto_if 12 with fail;open Sa159 in exact Ya37):P:=h
theorem Sa110.Ka26(h:P:=by
 dsimp only at HPL HPU HTO HNR HOT HRQ HD HBX ⊢;have hlo:=hz.o;have hlr:=hz.r;dsimp only at hlo hlr;clear ha hz;go_enter Tryz.func16,Tryz.ntmps16
 go_upto_region 1 with fail;open Sa158 in exact Ya37):P:=h
theorem Sa111.Ka26(h:P:=by
 obtain⟨si,st,sx,sn⟩:=s;dsimp only at hl HA HLY HLS HLN HP HR HO HB ⊢;obtain⟨c0,c1,c2,c3,c4,c5,c6,c7,c8⟩:=nine HP;obtain⟨d0,d1,d2,d3⟩:=fourC HR;go_enter Tryz.func166,Tryz.ntmps166
 go_wp2_with fail;go_loopw [5,13] (fun lv i wr=>∃k:Nat,k≤out.length∧i= .int .i64 k∧lv= .int .i64 si∧(out.take k).find? (fun o=>decide (o.t=st))=none∧Below (((w.alloc (.cells (ndc ⟨id,par,kids,next,pu,out,seen,old,reqs⟩ ⟨ak,ap,ao,as',ar,ck,cp,co,cs,cr⟩) 30)).alloc (.cells #[.int .i64 si,.int .i64 st,.string sx,.int .i64 sn] 79)).alloc (.cells zm7 32)).heap.size (((w.alloc (.cells (ndc ⟨id,par,kids,next,pu,out,seen,old,reqs⟩ ⟨ak,ap,ao,as',ar,ck,cp,co,cs,cr⟩) 30)).alloc (.cells #[.int .i64 si,.int .i64 st,.string sx,.int .i64 sn] 79)).alloc (.cells zm7 32)) wr) (fun _ i _=>out.length - (intOf i).toNat)
 case atStart=>exact⟨0,Nat.zero_le _,rfl,rfl,rfl,Below.refl _ _⟩
 case round=>
  obtain⟨k,hk,rfl,rfl,hno,hbx⟩:=hrel;have HN:=hide hno;have HP1:=hide (obj_step HP hbx);have HR1:=hide (obj_step HR hbx);have HO1:=hide (obj_step HO hbx);have HB1:=hide (HB.trans (hbx.mono HB.size));have HBX:=hide hbx;clear hno hbx c0 c1 c2 c3 c4 c5 c6 c7 c8 d0 d1 d2 d3;obtain⟨c0,c1,c2,c3,c4,c5,c6,c7,c8⟩:=nine HP1;obtain⟨d0,d1,d2,d3⟩:=fourC HR1;have hrz:=obj_lt HO1;have hrz1:w.heap.size+1 < wr.heap.size:=by omega
  have hrz0:w.heap.size < wr.heap.size:=by omega
  by_cases hlt:k < out.length
  ·obtain⟨g,off,e0,hgw,q0,q1,q2,q3⟩:=SentAt.four (GR.At.below HA HB1) k hlt;(try dsimp only at e0 q0 q1 q2 q3)
   subst e0;by_cases ht:(out[k]).t=st
   ·have HY:=hide (HLY k hlt HN ht);have hb:((out[k]).t == st)=true:=by simp[ht]
    clear ht HLY HLS HLN;generalize out[k]=sk at *;obtain⟨ui,ut,ux,un⟩:=sk;dsimp only at q0 q1 q2 q3 hb HY;have hyy:=unhide HY;subst hyy;go_upto_region 8 with fail;refine wp_at (fun W3 hW3=>?_);have hbw:Below wr.heap.size wr W3:=by rw [hW3];exact below_one wr _
    open Sa94 in exact Ya22
   ·have HS:=hide (HLS k hlt HN ht);have hb:((out[k]).t == st)=false:=by simp[ht]
    clear ht HLY HLS HLN;generalize out[k]=sk at *;obtain⟨ui,ut,ux,un⟩:=sk;dsimp only at q0 q1 q2 q3 hb;go_wp2_with fail;go_roundw
    case rel=>exact⟨k+1,by omega,by go_num,rfl,HS,HBX.alloc HBX.size _⟩
    case measure=>simp[intOf];omega
  ·open Sa199 in exact Ya48):P:=h
theorem Sa112.Ka26(h:P:=by
 dsimp only at hl HA HLY HLS HLN c0 c1 c2 c3 c4 c5 c6 c7 c8 ⊢;go_enter Tryz.func180,Tryz.ntmps180
 go_wp2_with fail;go_loop [7] (fun i=>∃k:Nat,k≤out.length∧i= .int .i64 k∧(out.take k).find? (fun o=>decide (o.t=t))=none) (fun i=>out.length - (intOf i).toNat)
 case atStart=>exact⟨0,Nat.zero_le _,rfl,rfl⟩
 case round=>
  obtain⟨k,hk,rfl,hno⟩:=hrel;have HN:=hide hno;clear hno;by_cases hlt:k < out.length
  ·obtain⟨g,off,e0,hgw,q0,q1,q2,q3⟩:=SentAt.four HA k hlt;subst e0;by_cases ht:(out[k]).t=t
   ·have HY:=hide (HLY k hlt HN ht);have hb:((out[k]).t == t)=true:=by simp[ht]
    clear ht HLY HLS HLN;generalize out[k]=sk at *;obtain⟨si,st,sx,sn⟩:=sk;dsimp only at q0 q1 q2 q3 hb HY;go_wp2_with fail;go_ret;exact⟨ret_int HY.symm,below_one w _⟩
   ·have HS:=hide (HLS k hlt HN ht);have hb:((out[k]).t == t)=false:=by simp[ht]
    clear ht HLY HLS HLN;generalize out[k]=sk at *;obtain⟨si,st,sx,sn⟩:=sk;dsimp only at q0 q1 q2 q3 hb;go_wp2_with fail;go_round
    case rel=>exact⟨k+1,by omega,by go_num,HS⟩
    case measure=>simp[intOf];omega
  ·open Sa198 in exact Ya48):P:=h
theorem Sa113.Ka26(h:P:=by
 obtain⟨bk,bp,bo,bs',br,dk,dp,dO,ds,dr⟩:=A';dsimp only at HK HP HO HS HR HA0 HB0 HL0 ⊢;go_enter Tryz.func22,Tryz.ntmps22
 obtain⟨c0,c1,c2,c3,c4,c5,c6,c7,c8⟩:=nine HA0;obtain⟨d0,d1,d2,d3,d4,d5,d6,d7,d8⟩:=nine HB0;go_wp2_with fail;refine(HK _ HL0).mono ?_;rintro e w1 ⟨rfl,hb1⟩;have HA1:=hide (obj_step HA0 hb1);open Sa340 in exact Ya101):P:=h
theorem Sa114.Ka26(h:P:=by
 dsimp only at HK HP HO HS HR HQ HBX hkl ⊢;go_enter Tryz.func17,Tryz.ntmps17
 go_wp2_with fail;refine(HK _ _ (by omega) (by omega)).mono ?_;rintro e w0 ⟨rfl,rfl⟩;have HL0:=hide (below_one w (.cells (ndc ⟨id,par,kids,next,pu,out,seen,old,reqs⟩ ⟨ak,ap,ao,as',ar,ck,cp,co,cs,cr⟩) 55));have HB0:=hide HBX;obtain⟨z0,hz0⟩:∃z:Int,(if (kids.length:Int)≤1048576 then 1048576 - (kids.length:Int) else -1)=z:=⟨_,rfl⟩;rw [hz0];by_cases hk:(kids.length:Int)≤1048576
 case' neg=>
  rw [if_neg hk] at hz0
  subst hz0
  go_wp2_with fail
  go_ret
  exact⟨-1,rfl,HL0,.inl rfl⟩
 rw [if_pos hk] at hz0;have q0:0≤z0:=by omega
 have q1:z0≤1048576:=by omega
 have q2:decide (z0 < 0)=false:=decide_eq_false (by omega);clear hz0 HBX;obtain⟨c0,c1,c2,c3,c4,c5,c6,c7,c8⟩:=nine HB0;go_wp2_with fail;refine(HP _ _ HL0 (by omega) (by omega)).mono ?_;rintro e w1 ⟨z1,rfl,hb1,hcase⟩;open Sa230 in exact Ya59):P:=h
theorem Sa115.Ka26(h:P:=by
 dsimp only at HTK HTP HTO HTS HTR ⊢;go_enter Tryz.func20,Tryz.ntmps20
 go_upto_region 4 with fail;refine wp_at (fun W0 hW0=>?_);obtain⟨hP,hR,hO,hB⟩:=allocs3 w (.cells (ndc ⟨id,par,kids,next,pu,out,seen,old,reqs⟩ ⟨ak,ap,ao,as',ar,ck,cp,co,cs,cr⟩) 55) (.cells #[.int .i64 0,.int .i64 0,.slice none 0 0,.int .i64 0,.slice none 0 0,.slice none 0 0,.slice none 0 0,.int .i64 0,.slice none 0 0] 30) (.cells #[.int .i64 id,.int .i64 par,.slice none 0 0,.int .i64 0,.slice none 0 0,.slice none 0 0,.slice none 0 0,.int .i64 0,.slice none 0 0] 30);rw [←hW0] at hP hR hO hB;have T0:=hide (TN.mk hP hR hO (rows:=[]) (fun x hx=>by cases hx) hB);clear hP hR hO hB hW0;obtain⟨c0,c1,c2,c3,c4,c5,c6,c7,c8⟩:=nine T0.par;go_wp2_with fail;refine(HTK _ T0.bel).mono ?_;rintro e w1 ⟨rfl,hblk,hb⟩;have hg:w.heap.size+1+1 < W0.heap.size:=obj_lt (unhide T0).out;have U0:=hide ((T0.step hb).add [(W0.heap.size,_)] (fun x hx=>by rw [List.mem_singleton] at hx;subst hx;exact⟨hg,hblk⟩));have o0:=obj_lt hblk;clear hblk hb hg T0;clear c0 c1 c2 c3 c4 c5 c6 c7 c8;obtain⟨c0,c1,c2,c3,c4,c5,c6,c7,c8⟩:=nine U0.par;obtain⟨d0,d1,d2,d3,d4,d5,d6,d7,d8⟩:=nine (unhide U0).out;have f0:=obj_free (unhide U0).out 0;have f1:=obj_free (unhide U0).out 1;have f2:=obj_free (unhide U0).out 2;have f3:=obj_free (unhide U0).out 3;have f4:=obj_free (unhide U0).out 4;have f5:=obj_free (unhide U0).out 5;have f6:=obj_free (unhide U0).out 6;have f7:=obj_free (unhide U0).out 7;have f8:=obj_free (unhide U0).out 8;go_upto_region 6 with fail;refine wp_at (fun W1 hW=>?_);have T1:=(U0.put 2 (.slice (some ⟨W0.heap.size,0,none⟩) kids.length kids.length)).put 3 (.int .i64 next);rw [←hW] at T1;replace T1:=hide T1
 have hz1:W1.heap.size=w1.heap.size:=by rw [hW];simp[World.setCell]
 rw [←hz1] at o0;clear d0 d1 d2 d3 d4 d5 d6 d7 d8 f0 f1 f2 f3 f4 f5 f6 f7 f8;clear c0 c1 c2 c3 c4 c5 c6 c7 c8;clear hW hz1 U0;obtain⟨c0,c1,c2,c3,c4,c5,c6,c7,c8⟩:=nine T1.par;go_wp2_with fail;refine(HTP _ T1.bel).mono ?_;rintro e w2 ⟨rfl,hblk,hb⟩;have hg:w.heap.size+1+1 < W1.heap.size:=obj_lt (unhide T1).out;have U1:=hide ((T1.step hb).add [(W1.heap.size,_)] (fun x hx=>by rw [List.mem_singleton] at hx;subst hx;exact⟨hg,hblk⟩));have o1:=obj_lt hblk;clear hblk hb hg T1;clear c0 c1 c2 c3 c4 c5 c6 c7 c8;obtain⟨c0,c1,c2,c3,c4,c5,c6,c7,c8⟩:=nine U1.par;obtain⟨d0,d1,d2,d3,d4,d5,d6,d7,d8⟩:=nine (unhide U1).out;have f0:=obj_free (unhide U1).out 0;have f1:=obj_free (unhide U1).out 1;have f2:=obj_free (unhide U1).out 2;have f3:=obj_free (unhide U1).out 3;have f4:=obj_free (unhide U1).out 4;have f5:=obj_free (unhide U1).out 5;have f6:=obj_free (unhide U1).out 6;have f7:=obj_free (unhide U1).out 7;have f8:=obj_free (unhide U1).out 8;go_upto_region 7 with fail;refine wp_at (fun W2 hW=>?_);have T2:=U1.put 4 (.slice (some ⟨W1.heap.size,0,none⟩) pu.length pu.length);rw [←hW] at T2;replace T2:=hide T2
 have hz2:W2.heap.size=w2.heap.size:=by rw [hW];simp[World.setCell]
 rw [←hz2] at o1;clear d0 d1 d2 d3 d4 d5 d6 d7 d8 f0 f1 f2 f3 f4 f5 f6 f7 f8;clear c0 c1 c2 c3 c4 c5 c6 c7 c8;clear hW hz2 U1;obtain⟨c0,c1,c2,c3,c4,c5,c6,c7,c8⟩:=nine T2.par;go_wp2_with fail;refine(HTO _ T2.bel).mono ?_;rintro e w3 ⟨rfl,hblk,hb⟩;have hg:w.heap.size+1+1 < W2.heap.size:=obj_lt (unhide T2).out;have U2:=hide ((T2.step hb).add [(W2.heap.size,_)] (fun x hx=>by rw [List.mem_singleton] at hx;subst hx;exact⟨hg,hblk⟩));have o2:=obj_lt hblk;clear hblk hb hg T2;clear c0 c1 c2 c3 c4 c5 c6 c7 c8;obtain⟨c0,c1,c2,c3,c4,c5,c6,c7,c8⟩:=nine U2.par;obtain⟨d0,d1,d2,d3,d4,d5,d6,d7,d8⟩:=nine (unhide U2).out;have f0:=obj_free (unhide U2).out 0;have f1:=obj_free (unhide U2).out 1;have f2:=obj_free (unhide U2).out 2;have f3:=obj_free (unhide U2).out 3;have f4:=obj_free (unhide U2).out 4;have f5:=obj_free (unhide U2).out 5;have f6:=obj_free (unhide U2).out 6;have f7:=obj_free (unhide U2).out 7;have f8:=obj_free (unhide U2).out 8;go_upto_region 8 with fail;refine wp_at (fun W3 hW=>?_);have T3:=U2.put 5 (.slice (some ⟨W2.heap.size,0,none⟩) out.length out.length);rw [←hW] at T3;replace T3:=hide T3
 have hz3:W3.heap.size=w3.heap.size:=by rw [hW];simp[World.setCell]
 rw [←hz3] at o2;clear d0 d1 d2 d3 d4 d5 d6 d7 d8 f0 f1 f2 f3 f4 f5 f6 f7 f8;clear c0 c1 c2 c3 c4 c5 c6 c7 c8;clear hW hz3 U2;obtain⟨c0,c1,c2,c3,c4,c5,c6,c7,c8⟩:=nine T3.par;go_wp2_with fail;refine(HTS _ T3.bel).mono ?_;rintro e w4 ⟨rfl,⟨TT,II,hblk,hTl,hII,hIm⟩,hb⟩;have hg:w.heap.size+1+1 < W3.heap.size:=obj_lt (unhide T3).out;have HTL:=hide hTl;have HII:=hide (fun i hi=>(hII i hi).2.2.1);have HIM:=hide hIm
 have U3:=hide ((T3.step hb).add ((W3.heap.size,.cells (GR.flat encR3 TT).toArray 81 (0,0))::(List.range seen.length).map fun i=>(II i,.cells (GR.flat encNum (seen.getD i default).ids).toArray 3 (0,0))) (fun x hx=>by
  rcases List.mem_cons.1 hx with rfl|hx
  ·exact⟨hg,hblk⟩
  ·obtain⟨i,hi,rfl⟩:=List.mem_map.1 hx;have h:=hII i (List.mem_range.1 hi)
   exact⟨Nat.lt_trans hg h.1,h.2.2.2⟩))
 have o3:W3.heap.size < w4.heap.size∧∀i,i < seen.length→W3.heap.size < II i∧II i < w4.heap.size:=⟨obj_lt hblk,fun i hi=>⟨(hII i hi).1,(hII i hi).2.1⟩⟩;clear hblk hb hg hTl hII hIm T3;clear c0 c1 c2 c3 c4 c5 c6 c7 c8;obtain⟨c0,c1,c2,c3,c4,c5,c6,c7,c8⟩:=nine U3.par;obtain⟨d0,d1,d2,d3,d4,d5,d6,d7,d8⟩:=nine (unhide U3).out;have f0:=obj_free (unhide U3).out 0;have f1:=obj_free (unhide U3).out 1;have f2:=obj_free (unhide U3).out 2;have f3:=obj_free (unhide U3).out 3;have f4:=obj_free (unhide U3).out 4;have f5:=obj_free (unhide U3).out 5;have f6:=obj_free (unhide U3).out 6;have f7:=obj_free (unhide U3).out 7;have f8:=obj_free (unhide U3).out 8;go_upto_region 10 with fail;refine wp_at (fun W4 hW=>?_);have T4:=(U3.put 6 (.slice (some ⟨W3.heap.size,0,none⟩) seen.length seen.length)).put 7 (.int .i64 old);rw [←hW] at T4;replace T4:=hide T4
 have hz4:W4.heap.size=w4.heap.size:=by rw [hW];simp[World.setCell]
 rw [←hz4] at o3;clear d0 d1 d2 d3 d4 d5 d6 d7 d8 f0 f1 f2 f3 f4 f5 f6 f7 f8;clear c0 c1 c2 c3 c4 c5 c6 c7 c8;clear hW hz4 U3;obtain⟨c0,c1,c2,c3,c4,c5,c6,c7,c8⟩:=nine T4.par;go_wp2_with fail;refine(HTR _ T4.bel).mono ?_;rintro e w5 ⟨rfl,hblk,hb⟩;have hg:w.heap.size+1+1 < W4.heap.size:=obj_lt (unhide T4).out;have U4:=hide ((T4.step hb).add [(W4.heap.size,_)] (fun x hx=>by rw [List.mem_singleton] at hx;subst hx;exact⟨hg,hblk⟩));have o4:=obj_lt hblk;clear hblk hb hg T4;clear c0 c1 c2 c3 c4 c5 c6 c7 c8;obtain⟨c0,c1,c2,c3,c4,c5,c6,c7,c8⟩:=nine U4.par;obtain⟨d0,d1,d2,d3,d4,d5,d6,d7,d8⟩:=nine (unhide U4).out;have f0:=obj_free (unhide U4).out 0;have f1:=obj_free (unhide U4).out 1;have f2:=obj_free (unhide U4).out 2;have f3:=obj_free (unhide U4).out 3;have f4:=obj_free (unhide U4).out 4;have f5:=obj_free (unhide U4).out 5;have f6:=obj_free (unhide U4).out 6;have f7:=obj_free (unhide U4).out 7;have f8:=obj_free (unhide U4).out 8;go_upto_region 11 with fail;refine wp_at (fun W5 hW=>?_);have T5:=U4.put 8 (.slice (some ⟨W4.heap.size,0,none⟩) reqs.length reqs.length);rw [←hW] at T5;replace T5:=hide T5
 have hz5:W5.heap.size=w5.heap.size:=by rw [hW];simp[World.setCell]
 rw [←hz5] at o4;clear d0 d1 d2 d3 d4 d5 d6 d7 d8 f0 f1 f2 f3 f4 f5 f6 f7 f8;clear c0 c1 c2 c3 c4 c5 c6 c7 c8;clear hW hz5 U4;obtain⟨d0,d1,d2,d3,d4,d5,d6,d7,d8⟩:=nine (show W5.heap[w.heap.size+1+1]?=some (.cells (ndc ⟨id,par,kids,next,pu,out,seen,old,reqs⟩ ⟨some ⟨W0.heap.size,0,none⟩,some ⟨W1.heap.size,0,none⟩,some ⟨W2.heap.size,0,none⟩,some ⟨W3.heap.size,0,none⟩,some ⟨W4.heap.size,0,none⟩,kids.length,pu.length,out.length,seen.length,reqs.length⟩) 30 (0,0)) from(unhide T5).out);obtain⟨r0,r1,r2,r3,r4,r5,r6,r7,r8⟩:=nine T5.res;have f0:=obj_free T5.res 0;have f1:=obj_free T5.res 1;have f2:=obj_free T5.res 2;have f3:=obj_free T5.res 3;have f4:=obj_free T5.res 4;have f5:=obj_free T5.res 5;have f6:=obj_free T5.res 6;have f7:=obj_free T5.res 7;have f8:=obj_free T5.res 8;have hlt:=obj_lt T5.res;go_wp2_with fail;refine bodyPost_atN (fun W' hW'=>?_);have hR:=nine_set (b0:= .int .i64 id) (b1:= .int .i64 par) (b2:= .slice (some ⟨W0.heap.size,0,none⟩) kids.length kids.length) (b3:= .int .i64 next) (b4:= .slice (some ⟨W1.heap.size,0,none⟩) pu.length pu.length) (b5:= .slice (some ⟨W2.heap.size,0,none⟩) out.length out.length) (b6:= .slice (some ⟨W3.heap.size,0,none⟩) seen.length seen.length) (b7:= .int .i64 old) (b8:= .slice (some ⟨W4.heap.size,0,none⟩) reqs.length reqs.length) T5.res;have hK:=nine_keeps (w:=W5) (g:=w.heap.size+1) (b0:= .int .i64 id) (b1:= .int .i64 par) (b2:= .slice (some ⟨W0.heap.size,0,none⟩) kids.length kids.length) (b3:= .int .i64 next) (b4:= .slice (some ⟨W1.heap.size,0,none⟩) pu.length pu.length) (b5:= .slice (some ⟨W2.heap.size,0,none⟩) out.length out.length) (b6:= .slice (some ⟨W3.heap.size,0,none⟩) seen.length seen.length) (b7:= .int .i64 old) (b8:= .slice (some ⟨W4.heap.size,0,none⟩) reqs.length reqs.length);rw [←hW'] at hR hK;clear d0 d1 d2 d3 d4 d5 d6 d7 d8 r0 r1 r2 r3 r4 r5 r6 r7 r8 f0 f1 f2 f3 f4 f5 f6 f7 f8 hW';obtain⟨x0,x1,x2,x3,x4,x5,x6,x7,x8⟩:=nine hR;have hrow:=T5.rows;have HBB:=T5.bel.trans (hK.below (B:=w.heap.size) (fun x hx=>by simp at hx;omega) T5.bel.size);have q0:=hrow _ (List.mem_append_left _ (List.mem_append_left _ (List.mem_append_left _ (List.mem_append_left _ (List.mem_append_right _ (List.mem_singleton.2 rfl))))));have q1:=hrow _ (List.mem_append_left _ (List.mem_append_left _ (List.mem_append_left _ (List.mem_append_right _ (List.mem_singleton.2 rfl)))));have q2:=hrow _ (List.mem_append_left _ (List.mem_append_left _ (List.mem_append_right _ (List.mem_singleton.2 rfl))));have q3:=hrow _ (List.mem_append_left _ (List.mem_append_right _ (List.mem_cons_self ..)));have q4:=hrow _ (List.mem_append_right _ (List.mem_singleton.2 rfl));have q5:=fun i (hi:i < seen.length)=>hrow (II i,_) (List.mem_append_left _ (List.mem_append_right _ (List.mem_cons_of_mem _ (List.mem_map.2 ⟨i,List.mem_range.2 hi,rfl⟩))))
 dsimp only at q0 q1 q2 q3 q4 q5;obtain⟨o3,o3i⟩:=o3;refine bodyPost_ret (v:=ndv ⟨id,par,kids,next,pu,out,seen,old,reqs⟩ ⟨some ⟨W0.heap.size,0,none⟩,some ⟨W1.heap.size,0,none⟩,some ⟨W2.heap.size,0,none⟩,some ⟨W3.heap.size,0,none⟩,some ⟨W4.heap.size,0,none⟩,kids.length,pu.length,out.length,seen.length,reqs.length⟩) (by simp[results,Tryz.results20,go_sem,x0,x1,x2,x3,x4,x5,x6,x7,x8]) rfl ⟨_,rfl,⟨W0.heap.size,W1.heap.size,W2.heap.size,W3.heap.size,W4.heap.size,II⟩,?_,?_,HBB⟩
 ·refine NodeW.keeps (w:=W5) (F:=[w.heap.size+1]) ⟨GR.W.of_blk encNum_length q0.2,GR.W.of_blk encP_length q1.2,GR.W.of_blk encSnt_length q2.2,SeenW.of q3.2 HTL (fun i hi=>⟨HII i hi,(q5 i hi).2⟩),GR.W.of_blk encRq_length q4.2⟩ hK (fun x hx=>?_)
  have hx':w.heap.size+1+1 < x:=by
   rcases Blks.mem_all.1 hx with h|h|h|h|h|h
   ·rw [(of_fp h).1];exact q0.1
   ·rw [(of_fp h).1];exact q1.1
   ·rw [(of_fp h).1];exact q2.1
   ·rw [(of_fp h).1];exact q3.1
   ·obtain⟨i,hi,rfl,_⟩:=of_fpI h;exact(q5 i hi).1
   ·rw [(of_fp h).1];exact q4.1
  simp;omega
 ·have hs5:=hK.size;have o4':=o4
  have hI:∀x∈fpI II seen,W3.heap.size < x∧x < W4.heap.size:=fun x hx=>by
   obtain⟨i,hi,rfl,_⟩:=of_fpI hx
   exact o3i i hi
  refine⟨?_,fun x hx=>?_⟩
  ·unfold Blks.all;dsimp only;rw [List.nodup_append,List.nodup_append,List.nodup_append,List.nodup_append,List.nodup_append];refine⟨fp_nodup _ _,⟨fp_nodup _ _,⟨fp_nodup _ _,⟨fp_nodup _ _,⟨fpI_asc HIM,fp_nodup _ _,?_⟩,?_⟩,?_⟩,?_⟩,?_⟩
   all_goals
    intro a ha b hb
    (try simp only[List.mem_append] at hb)
   ·have:=hI a ha;rw [(of_fp hb).1];omega
   ·rw [(of_fp ha).1];rcases hb with hb|hb
    ·have:=hI b hb;omega
    ·rw [(of_fp hb).1];omega
   ·rw [(of_fp ha).1];rcases hb with hb|hb|hb
    ·rw [(of_fp hb).1];omega
    ·have:=hI b hb;omega
    ·rw [(of_fp hb).1];omega
   ·rw [(of_fp ha).1];rcases hb with hb|hb|hb|hb
    ·rw [(of_fp hb).1];omega
    ·rw [(of_fp hb).1];omega
    ·have:=hI b hb;omega
    ·rw [(of_fp hb).1];omega
   ·rw [(of_fp ha).1];rcases hb with hb|hb|hb|hb|hb
    ·rw [(of_fp hb).1];omega
    ·rw [(of_fp hb).1];omega
    ·rw [(of_fp hb).1];omega
    ·have:=hI b hb;omega
    ·rw [(of_fp hb).1];omega
  ·have hq:=q0.1;rcases Blks.mem_all.1 hx with h|h|h|h|h|h
   ·rw [(of_fp h).1];dsimp only;omega
   ·rw [(of_fp h).1];dsimp only;omega
   ·rw [(of_fp h).1];dsimp only;omega
   ·rw [(of_fp h).1];dsimp only;omega
   ·have:=hI x h;omega
   ·rw [(of_fp h).1];dsimp only;omega):P:=h
end Go.Proofs.YtppmcficiphgdaaGreatDoor
