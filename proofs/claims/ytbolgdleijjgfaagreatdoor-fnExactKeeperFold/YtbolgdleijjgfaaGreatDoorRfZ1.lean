/-
  Parts of proofs that stand more than once, each said once.
-/
import Derived.Test.YtbolgdleijjgfaaGreatDoorRows
import Derived.WalkSpells
import Derived.ShutString
import Derived.Lib.QuietBelow
import Derived.Laws.Cover1
import Derived.Laws.AppendOwnNone
import Derived.Lib.BufferWrite
import Derived.Laws.CopyOwn
import Derived.Deep.DeepCutAuto
import Derived.Deep.CutBlock
import Derived.Lib.ItoaLen
import Derived.Shelf.SortM.Plain
import Derived.Shelf.SortM.SortNone
import Derived.Shelf.SlicesE.Clone
import Derived.Sort.OwnSortedInts
import Derived.Deep.AppendLies
import Derived.Deep.RegionHeldLaw
import Derived.ProofKit
import Derived.Shelf.Spec.SearchS
import Derived.Stop.Asserts
import Derived.Shelf.Spec.SlicesInsertGrow
import Derived.Maps.Ext
import Derived.Lib.SlMapFilter
import Derived.Shelf.SlIterI.Nil
import Derived.Laws.EntriesVeiled
import Derived.Conc.MuLone
import Derived.Great.BuildSlice
import Derived.Deep.SlicePairs
import Derived.Stop.LaidTwo
import Derived.OpenVars
import Derived.OpenShut
import Derived.LaidMore
import Derived.Stop.Joined
namespace Go.Proofs.YtbolgdleijjgfaaGreatDoor
open Go.Proofs.Tryz
set_option maxRecDepth 100000
section
open Go.RowKit
set_option linter.defProp false
def aEP:= @heap_alloc_new
def aEQ:= @cell_regrown
def aER:= @Nat.le_refl
def aES:= @decide_eq_false
def aET:= @decide_eq_true
def aEU:= @Nat.le_trans
def aEV:= @List.getElem?_eq_getElem
def aEW:= @List.length_append
def aEX:= @Bool.and_eq_true
def aEY:= @bodyPost_ret
def aEZ:= @Nat.lt_of_lt_of_le
def aE0:= @List.take_succ_eq_append_getElem
def aE1:= @cell_of_row
def aE2:= @if_neg
def aE3:= @Below.refl
def aE4:= @Below.heap_alloc
def aE5:= @wp_region_quiet_below
def aE6:= @List.mem_singleton
def aE7:= @Nat.zero_le
def aE8:= @List.getElem_mem
def aE9:= @World.cell?_alloc_lt
def aFa:= @of_decide_eq_true
def aFb:= @List.mem_append
def aFc:= @if_pos
def aFd:= @List.mem_cons
def aFe:= @Below.heap_setCell
def aFf:= @decide_eq_true_eq
def aFg:= @DataW.trod_int
def aFh:= @List.take_length
def aFi:= @BigFrame.wpList_want
def aFj:= @List.length_take
def aFk:= @List.eq_nil_of_length_eq_zero
def aFl:= @below_regrown
def aFm:= @wp_region_list
def aFo:= @List.getElem_set_self
def aFp:= @List.mem_append_left
def aFq:= @List.getElem_set_ne
def aFr:= @Calls.regrown_of
def aFs:= @List.getD_eq_getElem?_getD
def aFt:= @info_parts
def aFu:= @decide_eq_true_iff
def aFv:= @Nat.add_assoc
def aFw:= @World.cell?_of_block
def aFx:= @List.append_assoc
def aFy:= @wpQuiet_nil
def aFz:= @List.mem_append_right
def aFA:= @List.length_drop
def aFB:= @Array.length_toList
def aFC:= @World.ownsRow_lit
def aFD:= @List.drop_eq_getElem_cons
def aFE:= @Nat.zero_add
def aFF:= @World.news_of_block
def aFG:= @ByteArray.toList_eq
def aFH:= @run_callFunc_extern
def aFI:= @Option.some.inj
def aFJ:= @List.take_append_drop
def aFK:= @List.getElem?_eq_some_iff
def aFL:= @wpList_append_own
def aFM:= @List.size_toArray
def aFN:= @Value.slice.injEq
def aFO:= @Array.getElem?_eq_none
def aFP:= @List.length_eraseIdx_of_lt
def aFQ:= @List.length_map
def aFR:= @List.pairwise_cons
def aFS:= @World.frozen?_alloc_old
def aFT:= @World.block_lt_of_cell?
def aFU:= @List.mem_range
def aFV:= @List.pairwise_iff_getElem
def aFW:= @List.not_mem_nil
def aFX:= @Int.toNat_natCast
def aFY:= @run_string_add_sum
def aFZ:= @Nat.min_eq_left
def aF0:= @World.cell?_setCell_other
def aF1:= @List.nodup_append
def aF2:= @Nat.lt_or_ge
def aF3:= @List.mem_iff_getElem
def aF4:= @List.append_nil
def aF5:= @List.nil_append
def aF6:= @List.length_set
def aF7:= @Bool.eq_iff_iff
def aF8:= @ByteArray.ext
def aF9:= @DataW.trod_struct
def aGa:= @List.getElem?_set_ne
def aGb:= @List.dropWhile_sublist
def aGc:= @List.drop_eq_nil_of_le
def aGd:= @List.getElem?_append_left
def aGe:= @List.length_cons
def aGf:= @List.mem_flatMap
def aGg:= @List.set_append_right
def aGh:= @Option.some.injEq
def aGi:= @Lib.run_eql_slice_nil
def aGj:= @wpList_load_mid
def aGk:= @Nat.mul_le_mul_right
def aGl:= @Lib.extract_data
def aGm:= @List.takeWhile_sublist
def aGn:= @List.take_of_length_le
def aGo:= @List.getElem?_toArray
def aGp:= @Lib.extract_toList
def aGq:= @List.mem_map
def aGr:= @DataW.trod_string
def aGs:= @beq_eq_false_iff_ne
def aGt:= @run_convert_bytes_back
def aGu:= @List.getElem_cons_zero
def aGv:= @World.frozen?_of_block
def aGw:= @ByteArray.size_extract
def aGx:= @List.getElem?_set_self
def aGy:= @List.setIfInBounds_toArray
def aGz:= @List.takeWhile_append_dropWhile
def aGA:= @World.cell?_setCell_same
def aGB:= @Nat.add_zero
def aGC:= @Nat.add_mul
def aGD:= @Array.toList_append
def aGE:= @wpList_store_mid
def aGF:= @List.all_eq_true
def aGG:= @List.take_zero
def aGH:= @List.take_take
def aGI:= @List.take_left
def aGJ:= @bodyPost_end
def aGK:= @List.length_filter_le
def aGL:= @Nat.mul_comm
def aGM:= @List.mem_filter
def aGN:= @Addr.add_lit
def aGO:= @Bool.eq_false_iff
def aGP:= @Lib.wp_append_run
def aGQ:= @Region.noSelect_spec
def aGR:= @List.findIdx_getElem
def aGS:= @decide_eq_false_iff_not
def aGT:= @Region.free_spec
def aGU:= @List.mem_cons_of_mem
def aGV:= @List.range_succ
end
variable{P:Prop}
theorem Aaa(h:P:=by omega):P:=h
theorem Aab(h:P:=by kernel_rfl):P:=h
theorem Aac(h:P:=by simp):P:=h
theorem Aad(h:P:=by rfl):P:=h
theorem Aae(h:P:=by decide):P:=h
theorem Aaf(h:P:=by go_num):P:=h
theorem Aag(h:P:=by simpa using hx):P:=h
theorem Aah(h:P:=by simp;omega):P:=h
theorem Aai(h:P:=by simp[hx]):P:=h
theorem Aaj(h:P:=by unfold maxLen;omega):P:=h
theorem Aak(h:P:=by simp at hx;omega):P:=h
theorem Aal(h:P:=by unfold maxLen;dsimp only;omega):P:=h
theorem Aam(h:P:=by rw [ah HV]):P:=h
theorem Aan(h:P:=by simpa using hgl):P:=h
theorem Aao(h:P:=by simp[Act.eval]):P:=h
theorem Aap(h:P:=by rw [e]):P:=h
theorem Aaq(h:P:=by simp[World.setCell]):P:=h
theorem Aar(h:P:=by simpa using hy):P:=h
theorem Aas(h:P:=by simp at hx;simp[hx]):P:=h
theorem Aat(h:P:=by simpa using hi):P:=h
theorem Aau(h:P:=by simp at hi):P:=h
theorem Aav(h:P:=by simpa using Eb):P:=h
theorem Aaw(h:P:=by rw [ah HP]):P:=h
theorem Aax(h:P:=by simpa using h1):P:=h
theorem Aay(h:P:=by simp[results,results238,go_sem,xK]):P:=h
theorem Aaz(h:P:=by simpa using hm):P:=h
theorem Aba(h:P:=by cases h):P:=h
theorem Abb(h:P:=by simp[h1]):P:=h
theorem Abc(h:P:=by rw [hz2];omega):P:=h
theorem Abd(h:P:=by simpa using hj):P:=h
theorem Abe(h:P:=by simp at hx):P:=h
theorem Abf(h:P:=by rw [ah HM]):P:=h
theorem Abg(h:P:=by simpa using hpar):P:=h
theorem Abh(h:P:=by simpa using hq):P:=h
theorem Abi(h:P:=by rw [hf];simp):P:=h
theorem Abj(h:P:=by rw [ah yj]):P:=h
theorem Abk(h:P:=by rw [aFj];omega):P:=h
theorem Abl(h:P:=by simpa [Value.ownBlock] using hx):P:=h
theorem Abm(h:P:=by simpa using h):P:=h
theorem Abn(h:P:=by simp only[ByteArray.size_append];omega):P:=h
theorem Abo(h:P:=by rw [hW];exact(lQ w _ _).2):P:=h
theorem Abp(h:P:=by rw [hW];exact(lQ w _ _).1):P:=h
theorem Abq(h:P:=by rw [ah HML];exact hlt):P:=h
theorem Abr(h:P:=by rw [hml];exact hlt):P:=h
theorem Abs(h:P:=by simp at hi;omega):P:=h
theorem Abt(h:P:=by rw [hW];exact qA lD):P:=h
theorem Abu(h:P:=by rw [hW];exact iV eY hgl):P:=h
theorem Abv(h:P:=by simp[Act.eval,Act.put]):P:=h
theorem Abw(h:P:=by rw [iq,aFA]):P:=h
theorem Abx(h:P:=by simp[Pm];omega):P:=h
theorem Aby(h:P:=by rw [hW];simp[World.setCell]):P:=h
theorem Abz(h:P:=by rw [hW1];exact aEP _ _):P:=h
theorem Aca(h:P:=by unfold maxLen at hcm;omega):P:=h
theorem Acb(h:P:=by simpa using hf):P:=h
theorem Acd(h:P:=by rw [e];omega):P:=h
theorem Ace(h:P:=by simpa using hk):P:=h
theorem Acf(h:P:=by simpa using h3):P:=h
theorem Acg(h:P:=by simp[results,results195,go_sem]):P:=h
theorem Ach(h:P:=by rw [hW];exact aEP _ _):P:=h
theorem Aci(h:P:=by rw [ah iJ,ah jA,ah EM];rfl):P:=h
theorem Acj(h:P:=by rw [hl];kernel_rfl):P:=h
theorem Ack(h:P:=by simp at hm;omega):P:=h
theorem Acl(h:P:=by rw [ah HS,ah HA,ah HK];rfl):P:=h
theorem Acm(h:P:=by simp[results,results99,go_sem,x0,x1,x2,x3,x4,x5,x6,x7,x8]):P:=h
theorem Acn(h:P:=by simp[results,results95,go_sem,r0,r1,r2,r3,r4,r5,r6,r7,r8,r9,r10]):P:=h
theorem Aco(h:P:=by simp[results,results184,go_sem]):P:=h
theorem Acp(h:P:=by simp[results,results48,go_sem]):P:=h
theorem Acr(h:P:=by cases hk;exact aER _):P:=h
theorem Acs(h:P:=by rw [show cur.toList.length=cur.size from aFB,hcs];omega):P:=h
theorem Acu(h:P:=by simp[results,results272,go_sem];try rfl):P:=h
theorem Acv(h:P:=by rw [aE6.1 hx];omega):P:=h
theorem Acw(h:P:=by rw [aE6.1 hf];omega):P:=h
theorem Acx(h:P:=by simp[results,results271,go_sem,r0,r1,r2,r3,r4,r5,r6]):P:=h
theorem Acy(h:P:=by simp[results,results124,go_sem,r0,r1,r2,r3,r4,r5,r6]):P:=h
theorem Acz(h:P:=by simp[results,results222,go_sem,x0,x1,x2,x3,x4,x5,x6]):P:=h
theorem Ada(h:P:=by unfold tF at hhas;rw [hd] at hhas;simpa using hhas):P:=h
theorem Adb(h:P:=by simp[results,results128,go_sem,x0,x1,x2,x3,x4,x5,x6,x7,x8]):P:=h
theorem Adc(h:P:=by rw [aE0 hlt,Fv,<-hm];rfl):P:=h
theorem Ade(h:P:=by simp[results,results235,go_sem,r0,r1,r2,r3,r4,r5,r6]):P:=h
theorem Adf(h:P:=by rw [show cur.toList.length=cur.size from aFB,hcs]):P:=h
theorem Zk0(h:P:=by
 open aBy in exact ajN):P:=h
theorem Zk1(h:P:=by
 obtain⟨c0,c1,c2,c3,c4,c5,c6,c7,c8,c9⟩:=jT HWS.wk.blk
 have e0:A'.s=some ⟨G'.s,0,none⟩:=by
  obtain⟨_,_,e0,_⟩:=eB.three HWS.wk.no.s i (by rw [ah HSL];exact hi);exact e0
 rw [e0,ah HSL] at c6;obtain⟨⟨p0,p1,p2,p3,p4,p5,p6⟩,_⟩:=eF eY;have hwl:=ay HWS.wk.blk;have hBl:=ay eY;go_upto_region 5 with fail;have y6:=aEQ c6;have z1:=aEQ p1;clear c0 c1 c2 c3 c4 c5 c6 c7 c8 c9 p0 p1 p2 p3 p4 p5 p6;refine bC 11 Aab ?_;show fV _ _ _ _ _ 12 (Array.replicate 12 false) _ _
 refine tk [0,1,2,3,4,5,6,7,8] ?_;iterate 9 (refine lW (λK hK=>?_);go_simp;refine hK _ ?_;clear hK K)
 refine jh ?_;clear y6 z1;refine dP 9 rfl Aab Aad (λx hx=>?_);go_simp;have HX:=Hq (HWS.step hx);have HJX:Hid (∀j mm,jY w j mm->jY x j mm):=λj mm hj=>aj (HJW j mm hj) hx
 have HSO:=Hq (Zt sb mb kk mF (gu s0 mL) l2 x HLEN adY HX.bk HX.si);clear hx;refine HSO.mono ?_;rintro e y ⟨v2,rfl,hrow,hby⟩;refine⟨hby,?_⟩;obtain⟨b2,c2,g2,rfl,hW2,hg2,_⟩:=GR.W.of_own (enc:=bg) aX hrow;have HY:Hid (WK w0 y wb n' A' G' (newC x.heap.size 5 c') v L):=(HX.wk.recol (c':=newC x.heap.size 5 c') (λz hz=>fE hz)).step hby;have HI2:=Hq hW2;have HJY:Hid (∀j mm,jY w j mm->jY y j mm):=λj mm hj=>aj (HJX j mm hj) hby
 have HC5:Hid (∀z∈fp g2 l2,newC x.heap.size 5 c' z=5/\z∉nI G'.i n'.seen):=λz hz=>⟨aY (hg2 z hz).1,λhm=>by
  have h1:=(vI HX.wk.no.s).2 z hm
  have h2:=(hg2 z hz).1
  omega⟩
 clear hrow hby hW2 hg2 HSO HX HWS;refine tk [10] ?_;(refine lW (λK hK=>?_);go_simp;refine hK _ ?_;clear hK K)
 refine jh ?_;refine aS Aab (λx3 hx3=>?_);have HY3:=Hq (HY.step hx3);have HI3:=Hq (HI2.below hx3);have HJ6:Hid (∀j mm,jY w j mm->jY x3 j mm):=λj mm hj=>aj (HJY j mm hj) hx3
 obtain⟨b0,cc0,_,hg0,⟨q0,q1,q2⟩,⟨f0,f1⟩,_⟩:=eB.three HY3.no.s i (by rw [ah HSL];exact hi)
 have f2:x3.frozen? ⟨G'.s,i*3+2,none⟩=false:=by
  obtain⟨T,hT,hl,_⟩:=HY3.no.s;have:=(hT i (by rw [hl,ah HSL];exact hi)).2.2 2 Aaa;exact this.2
 have aAm:=Hq (HY3.seenPut i (by rw [ah HSL];exact hi) ⟨mF,gu s0 mL,l2⟩ b2 c2 g2 HI3 HC5)
 have HJF:Hid (∀j mm,jY w j mm->jY (GR.setW x3 G'.s (i*3) [.int .i64 mF,.int .i64 (gu s0 mL),.slice b2 l2.length c2]) j mm):=λj mm hj=>by
  have h3:=ah HJ6 j mm hj
  have hne:=Qu h3 q2
  unfold jY
  rw [GR.setW_other hne]
  exact h3
 clear hx3 HY HI2;refine aI 11 rfl Aab Aad ?_;go_simp;refine wpAny_done Aab ?_;go_simp;clear q0 q1 q2 f0 f1 f2;go_wp2_with fail;go_ret;exact⟨by rw [ah HTE];first|done|rfl,⟨A',_,_,by rw [ah HTE];exact aAm⟩,HJF⟩):P:=h
theorem Zk2(h:P:=by
 have hnl:=ay e1;clear hW e1 e2 p0 p1 p2 p3 p4 p5 p6 p7 p8 p9 pz;obtain⟨⟨p0,p1,p2,p3,p4,p5,p6,p7,p8,p9,pz⟩,_⟩:=aK R8;have aEa:=ay R8;have y0:=aEQ c0;have z0:=aEQ p0;have z1:=aEQ p1;have z2:=aEQ p2;have z3:=aEQ p3;have z4:=aEQ p4;have z5:=aEQ p5;have z6:=aEQ p6;have z7:=aEQ p7;have z8:=aEQ p8;have z9:=aEQ p9;have z10:=aEQ pz;clear p0 p1 p2 p3 p4 p5 p6 p7 p8 p9 pz c0;refine bC 5 Aab ?_;show fV _ _ _ _ _ 7 (Array.replicate 7 false) _ _
 refine tk [0,1,2,3,4] ?_;open avG in exact JY):P:=h
theorem Zk3(h:P:=by
 unfold gM;have H9:=Hq h9;clear h9;have JR:=Hq (λW (ha:aG W A.p n.pu)=>xq A.p A.cp n.pu key W hl ha);rw [hpp] at JR;unfold yx at JR;clear hpp;have hbw0:=au w (.cells (dD n A) 39);have nA:=Hq (h.nine hB);clear h;go_in
 go_upto_region 1 with fail;refine wp_at (λW0 hW=>?_);obtain⟨e1,e2,e3⟩:=gH w (.cells (dD n A) 39) (.cells lC 39);open apP in exact aw1):P:=h
theorem Zk4(h:P:=by
 clear hu;unfold jd at jP;have ES:=Hq (λW=>jK ⟨0,no,k,nn,⟨mK,mF,mT,mI,mL,mk,mN⟩⟩ W Aal Aal);open aBo in exact E9):P:=h
theorem Zk5(h:P:=by
 open aA0 in exact awF):P:=h
theorem Zk6(h:P:=by
 rw [hR];have HR:=Hq hR;clear hR;cases hk:keyOk k.data.toList
 .have HK:=Hq (λw1=>oW k false w1 hs hk);cases hn:fJ n
  .have HN:=Hq (λw1=>eH n false w1 hn);have HP:=Hq (show R=(decide (no=0)&&false&&false&&mq ⟨mK,mF,mT,mI,mL,mk,mN⟩) by rw [<-ah HR];simp[bQ,hk,hn]);clear HR;clear hk hn;go_in
   go_wp2_with (first|(go_at_call_of 93 k;refine(HK _).mono ?_;rintro e w1 ⟨rfl,rfl⟩)|(go_at_call_of 90 n;refine(HN _).mono ?_;rintro e w1 ⟨rfl,rfl⟩))
   all_goals
    go_ret
    refine⟨aF ?_,au w _⟩
    rw [ah HP]
    simp[mq, *]
  .have HN:=Hq (λw1=>eH n true w1 hn);have HP:=Hq (show R=(decide (no=0)&&false&&true&&mq ⟨mK,mF,mT,mI,mL,mk,mN⟩) by rw [<-ah HR];simp[bQ,hk,hn]);clear HR;clear hk hn;go_in
   go_wp2_with (first|(go_at_call_of 93 k;refine(HK _).mono ?_;rintro e w1 ⟨rfl,rfl⟩)|(go_at_call_of 90 n;refine(HN _).mono ?_;rintro e w1 ⟨rfl,rfl⟩))
   all_goals
    go_ret
    refine⟨aF ?_,au w _⟩
    rw [ah HP]
    simp[mq, *]
 .have HK:=Hq (λw1=>oW k true w1 hs hk);cases hn:fJ n
  .have HN:=Hq (λw1=>eH n false w1 hn);have HP:=Hq (show R=(decide (no=0)&&true&&false&&mq ⟨mK,mF,mT,mI,mL,mk,mN⟩) by rw [<-ah HR];simp[bQ,hk,hn]);clear HR;clear hk hn;go_in
   go_wp2_with (first|(go_at_call_of 93 k;refine(HK _).mono ?_;rintro e w1 ⟨rfl,rfl⟩)|(go_at_call_of 90 n;refine(HN _).mono ?_;rintro e w1 ⟨rfl,rfl⟩))
   all_goals
    go_ret
    refine⟨aF ?_,au w _⟩
    rw [ah HP]
    simp[mq, *]
  .have HN:=Hq (λw1=>eH n true w1 hn);have HP:=Hq (show R=(decide (no=0)&&true&&true&&mq ⟨mK,mF,mT,mI,mL,mk,mN⟩) by rw [<-ah HR];simp[bQ,hk,hn]);clear HR;clear hk hn;go_in
   go_wp2_with (first|(go_at_call_of 93 k;refine(HK _).mono ?_;rintro e w1 ⟨rfl,rfl⟩)|(go_at_call_of 90 n;refine(HN _).mono ?_;rintro e w1 ⟨rfl,rfl⟩))
   all_goals
    go_ret
    refine⟨aF ?_,au w _⟩
    rw [ah HP]
    simp[mq, *]):P:=h
theorem Zk7(h:P:=by
 open Sk5 in exact Yk0):P:=h
theorem Zk8(h:P:=by
 by_cases hmK:mK=0
 case' neg=>
  have aCA:¬(0:Int)=mK:=λe=>hmK e.symm
  go_wp2_with fail;go_ret;exact⟨aF (by rw [ah HP];simp[mq,hmK]),iQ⟩
 subst hmK;by_cases hmF:mF=0
 case' neg=>
  have aCy:¬(0:Int)=mF:=λe=>hmF e.symm
  go_wp2_with fail;go_ret;exact⟨aF (by rw [ah HP];simp[mq,hmF]),iQ⟩
 subst hmF;by_cases hmT:mT=0
 case' neg=>
  have aCD:¬(0:Int)=mT:=λe=>hmT e.symm
  go_wp2_with fail;go_ret;exact⟨aF (by rw [ah HP];simp[mq,hmT]),iQ⟩
 subst hmT;by_cases hmI:mI=0
 case' neg=>
  have aCz:¬(0:Int)=mI:=λe=>hmI e.symm
  go_wp2_with fail;go_ret;exact⟨aF (by rw [ah HP];simp[mq,hmI]),iQ⟩
 subst hmI;by_cases hmL:mL=0
 case' neg=>
  have aCB:¬(0:Int)=mL:=λe=>hmL e.symm
  go_wp2_with fail;go_ret;exact⟨aF (by rw [ah HP];simp[mq,hmL]),iQ⟩
 subst hmL;by_cases hmk:mk.toList=[]
 case' neg=>
  go_wp2_with fail;go_ret;exact⟨aF (by rw [ah HP];simp[mq,hmk]),iQ⟩
 by_cases hmN:mN=0
 case' neg=>
  have aCC:¬(0:Int)=mN:=λe=>hmN e.symm
  go_wp2_with fail;go_ret;exact⟨aF (by rw [ah HP];simp[mq,hmk,hmN]),iQ⟩
 subst hmN;go_wp2_with fail;go_ret;exact⟨aF (by rw [ah HP];simp[mq,hmk]),iQ⟩):P:=h
theorem Zk9(h:P:=by
 open Sk4 in exact Yk0):P:=h
theorem axn(h:P:=by
 open Sk3 in exact Yk0):P:=h
theorem aj3(h:P:=by
 obtain⟨⟨p0,p1,p2,p3,p4,p5,p6,p7,p8,p9,pz⟩,_⟩:=aK XA;have hol:=ay XA;obtain⟨c0,c1,c2,c3,c4,c5,c6,c7,c8⟩:=nine nD;obtain⟨⟨d0,d1,d2,d3,d4,d5,d6,d7,d8⟩,f0,f1,f2,f3,f4,f5,f6,f7,f8⟩:=iT BU;have hnl:=ay nD;have hrl:=ay BU;clear q0;dsimp only at e0;subst e0;go_wp2_with fail;go_quiet (fail);go_wp2_with fail;refine kR results128 rfl rfl rfl BU (λW' e4 fC=>?_);have fC:=aA.trans (a:=W1) (b:=W1.drewN nq) ⟨rfl,rfl,rfl,aER _,λ_ _ _=>rfl⟩ fC;have HAT:=Hq (λW'' (ho:Out c w W' W'')=>(yD.kc (k:=9) ((KC.keeps fC (λx hx=>by have:x=w.heap.size+2:=Aag;rw [this];exact aY Aaa)).trans (KC.out H9 ho)) Aaa).rm);have rG:Hid (Below B w W'):=(HB1.mono hB).trans (fC.below (λx hx=>by have:x=w.heap.size+2:=Aag;omega) (aEU hB (HB1.mono hB).size));have xZ:=Hq (Apart.keeps (c:=c) (Apart.of_below (HB1)) (HB1.mono hB).size fC (λx hx=>by have:x=w.heap.size+2:=Aag;omega));clear e4 fC;exact⟨(⟨a_k,rU,jm,jc,(some ⟨g,off,none⟩),dH,fQ,eu,dJ,dR⟩:bq),rfl,HAT,rG,xZ⟩):P:=h
theorem aj4(h:P:=by
 open au4 in exact ag3):P:=h
theorem OZ(h:P:=by
 clear HR;clear hk hn ho;go_in
 go_wp2_with (first|(go_at_call_of 93 k;refine(HK _).mono ?_;rintro e w1 ⟨rfl,rfl⟩)|(go_at_call_of 90 n;refine(HN _).mono ?_;rintro e w1 ⟨rfl,rfl⟩)|(go_at_call_of 90 no;refine(HO _).mono ?_;rintro e w1 ⟨rfl,rfl⟩))
 all_goals
  go_ret
  refine⟨aF ?_,au w _⟩
  rw [ah HP]
  simp[mq, *]):P:=h
theorem axq(h:P:=by
 open am5 in exact aer):P:=h
theorem aey(h:P:=by
 open ao9 in exact ajW):P:=h
theorem Tg(h:P:=by
 open aso in exact agu):P:=h
theorem axu(h:P:=by
 open am4 in exact aer):P:=h
theorem axv(h:P:=by
 rw [hR];have hd:decide (o.no<=n.old)=false:=aES hc;open asC in exact aaC):P:=h
theorem axw(h:P:=by
 open aAF in exact Yk3):P:=h
theorem axx(h:P:=by
 rw [hR];have hiI:(i:Int) < (n.reqs.length:Int):=Aaa
 have HST:=Hq hst;clear hR hst;have hp:=iY hok;have OD:=Hq (λW1 (ha:gB W1 jy n.reqs)=>BD n (⟨a_k,rU,jm,jc,jy,dH,fQ,eu,dJ,dR⟩:bq) no W1 Aaa hp.1 ha);rw [hJ] at OD;clear hp hok;unfold je;have H9:=Hq h9;clear h9;have hbw0:=au w (.cells (dD n (⟨a_k,rU,jm,jc,jy,dH,fQ,eu,dJ,dR⟩:bq)) 39);open asv in exact VQ):P:=h
theorem axz(h:P:=by
 go_wp2_with fail;go_quiet (fail);have ab4:(wr.drewN nq).ownsRow W2.heap.size 145 4 (.slice a (FL k).length cp) (FL k).length (GR.flat aM (FL k)):=ah HO;have hnk:=ah HNK;obtain⟨hi,hz0,hz1,hz2⟩:=ah HI;have hwb:W2.heap.size<=wr.heap.size:=iQ.size;go_wp2_with (at_builtin;refine aFL _ rfl _ _ 35 rfl W2.heap.size 145 i0 (.agg (gN 0 0 ByteArray.empty 0)) 4 40 underlying35 hi hz0 hz1 hz2 rfl Aae _ _ _ rfl (ab4.alloc _) ⟨wr.heap.size,0,none⟩ 1 1 (aM ⟨si,st,sk,sn⟩) rfl rfl ?c1 ?c2 ?c3 ?c4 ?c5 ?_)
 case c1=>exact aFF (aEP (wr.drewN nq) _)
 case c2=>exact yU _
 case c3=>unfold maxLen;omega
 case c4=>omega
 case c5=>exact aEU hwb (au (wr.drewN nq) _).size
 intro v' w5 hown' hgrow _;obtain⟨an,cn,hv,_⟩:=GR.own_at (enc:=aM) (sz:=4) (l:=FL k++[⟨si,st,sk,sn⟩]) aT (by rw [aEW,jr];exact hown');rw [aEW] at hv;have hv':v'= .slice an ((FL k).length+1) cn:=hv;clear hv;subst hv'
 have JO:Hid (w5.ownsRow W2.heap.size 145 4 (.slice an FK.length cn) FK.length (GR.flat aM FK)):=by
  unfold Hid;rw [ah HX,aEW,jr];exact hown'
 have gX:Hid (aH W2 w5):=(iQ.trans (Below.trans (b:=wr.drewN nq) ⟨rfl,rfl,rfl,aER _,λ_ _=>rfl⟩ ((au (wr.drewN nq) (.cells (gN si st sk sn) 145)).mono hwb))).trans ⟨hgrow.os,hgrow.tape,hgrow.output,hgrow.size,λx hx=>hgrow.block x (aEZ hx (aEU hwb (au (wr.drewN nq) _).size)) (λe=>by have:=vD ab4 e.symm;omega)⟩;clear hown' hgrow ab4 hi hz0 hz1 hz2 c0 c1 c2 c3 c4 c5 c6 c7 c8 m0 m1 m2 m3 m4 m5 m6 s0 s1 s2 s3;go_wp2_with fail;go_roundw
 case rel=>exact⟨k+1,an,cn,Aaa,by rw [ah HX0,ah HX,aEW];rfl,Aaf,by rw [ah HX0];exact JO,gX⟩
 case measure=>simp[intOf];omega):P:=h
theorem aj5(h:P:=by
 dsimp only at q0 q1 q2 q3 hkk;have hkm:pk.size<=maxLen:=hkk;unfold maxLen at hkk;go_wp2_with fail;refine(wJ _).mono ?_;rintro e w5 ⟨rfl,hb5⟩;have fO:=Hq (aZ.trans (hb5.mono aZ.size));clear hb5 q0 q1 q2 q3;dsimp only;by_cases hc:(pk.size:Int)<=z
 .rw [aFc hc];have hn2:decide (z - (pk.size:Int) < 0)=false:=aES Aaa;go_wp2_with fail;go_roundw
  case rel=>
   refine⟨k+1,z - pk.size,Aaa,Aaf,rfl,Aaa,Aaa,?_,fO⟩;intro p hp;rw [ah HT] at hp;rcases aFb.1 hp with h|h
   .exact jA p h
   .rw [aE6] at h;subst h;show pk.size<=1048576
    omega
  case measure=>simp[intOf];omega
 .rw [aE2 hc];go_wp2_with fail;go_ret;exact⟨-1,rfl,fO,.inl rfl⟩):P:=h
theorem axB(h:P:=by
 refine jk 11 rfl Aab Aad Aae (λxf hxf=>?_);have HGg:=Hq (Ge.trans HGf hxf);have HQg:=Hq (aj HQf hxf);have HDg:=Hq (Ge.trans HDf hxf);clear hxf;obtain⟨⟨d0,d1,d2,d3,d4,d5,d6,d7,d8⟩,f0,f1,f2,f3,f4,f5,f6,f7,f8⟩:=iT HQg;have hrl:=ay HQg;go_simp;have hkq:aA [qf] xf (GR.setW xf qf 0 (dD m' A3).toList):=gI (g:=qf) _ xf 0;refine⟨hkq.below (λx hx=>by rw [aE6.1 hx];exact hqV) HGg.size,?_⟩;have HBQ:=Hq (GR.setW_blk (dD m' A3).toList (o:=0) (xs:=lC.toList) HQg);have HKD:=Hq (aA.trans (F:=[qf]) (aA.of_below HDg) hkq);have xD:=Hq (Below.trans HGg (hkq.below (B:=wr.heap.size) (λx hx=>by rw [aE6.1 hx];exact hqV) HGg.size));clear hkq d0 d1 d2 d3 d4 d5 d6 d7 d8 f0 f1 f2 f3 f4 f5 f6 f7 f8 hrl;have hwp:=xD.size;refine tk [12] ?_;(refine EI 20 (QS _) (λK hK=>?_);go_simp;first|refine hK _ ?_|(apply Exists.intro;refine⟨λ_=>?_,hK _ ?_⟩;rfl);clear hK K)
 refine jh ?_;clear hwp;refine qy Aab (λz hz=>?_);have azY:=Hq (aj HBQ hz);have HNz:=Hq (((HNL.or hqd HKD).step hz).mono (aEU hsz hxs));have azZ:=Hq (xD.trans (hz.mono xD.size));clear hz HBQ HKD xD;refine aI 13 rfl Aab Aad ?_;go_simp;refine wpAny_done Aab ?_;go_simp;go_wp2_with fail;go_meet
 case rel=>exact⟨qf,A3,rfl,azY,HNz,azZ⟩):P:=h
theorem axC(h:P:=by
 by_cases hk:k.toList=[]
 case' neg=>
  go_wp2_with fail;go_ret;exact⟨aF (by rw [ah HP];simp[mq,hk]),iQ⟩
 by_cases hn:n=0
 case' neg=>
  have hn':¬(0:Int)=n:=λe=>hn e.symm
  go_wp2_with fail;go_ret;exact⟨aF (by rw [ah HP];simp[mq,hk,hn]),iQ⟩
 subst hn;by_cases hmK:mK=0
 case' neg=>
  have aCA:¬(0:Int)=mK:=λe=>hmK e.symm
  go_wp2_with fail;go_ret;exact⟨aF (by rw [ah HP];simp[mq,hk,hmK]),iQ⟩
 subst hmK;by_cases hmF:mF=0
 case' neg=>
  have aCy:¬(0:Int)=mF:=λe=>hmF e.symm
  go_wp2_with fail;go_ret;exact⟨aF (by rw [ah HP];simp[mq,hk,hmF]),iQ⟩
 subst hmF;by_cases hmT:mT=0
 case' neg=>
  have aCD:¬(0:Int)=mT:=λe=>hmT e.symm
  go_wp2_with fail;go_ret;exact⟨aF (by rw [ah HP];simp[mq,hk,hmT]),iQ⟩
 subst hmT;by_cases hmI:mI=0
 case' neg=>
  have aCz:¬(0:Int)=mI:=λe=>hmI e.symm
  go_wp2_with fail;go_ret;exact⟨aF (by rw [ah HP];simp[mq,hk,hmI]),iQ⟩
 subst hmI;by_cases hmL:mL=0
 case' neg=>
  have aCB:¬(0:Int)=mL:=λe=>hmL e.symm
  go_wp2_with fail;go_ret;exact⟨aF (by rw [ah HP];simp[mq,hk,hmL]),iQ⟩
 subst hmL;by_cases hmk:mk.toList=[]
 case' neg=>
  go_wp2_with fail;go_ret;exact⟨aF (by rw [ah HP];simp[mq,hk,hmk]),iQ⟩
 by_cases hmN:mN=0
 case' neg=>
  have aCC:¬(0:Int)=mN:=λe=>hmN e.symm
  go_wp2_with fail;go_ret;exact⟨aF (by rw [ah HP];simp[mq,hk,hmk,hmN]),iQ⟩
 subst hmN;go_wp2_with fail;go_ret;exact⟨aF (by rw [ah HP];simp[mq,hk,hmk]),iQ⟩):P:=h
theorem Ti(h:P:=by
 open amY in exact uI):P:=h
theorem axD(h:P:=by
 refine eP (u1:= .slice (some ⟨ab,0,none⟩) 1 1) (u2:= .int .i64 0) results158 rfl rfl rfl rfl wI (λW' e4 fC=>?_);have ab5:w.heap.size+2≠gi:=Aaa
 have HNF:=Hq (aec.kc (k:=9) (KC.keeps fC (λx hx=>by have:x=w.heap.size+2:=Aag;rw [this];exact BP _ Aaa ab5)) Aaa);open arA in exact axm):P:=h
theorem axE(h:P:=by
 go_wp2_with fail;refine eP (u1:= .slice (some ⟨W8.heap.size,0,none⟩) 0 0) (u2:= .int .i64 1) results158 rfl rfl rfl rfl zU (λW' e4 fC=>?_);have ab5:w.heap.size+2≠gi:=Aaa
 have HNF:=Hq (aed.kc (k:=9) (KC.keeps fC (λx hx=>by have:x=w.heap.size+2:=Aag;rw [this];exact BP _ Aaa ab5)) Aaa);open arz in exact axm):P:=h
theorem axF(h:P:=by
 open au8 in exact ag5):P:=h
theorem aj6(h:P:=by
 clear hm;have e1:(m:Int)+1+1=m+2:=Aaa
 have e3:(m:Int)+2+1=m+3:=Aaa
 go_wp2_with fail;go_region_with (go_at_call 35;refine(EP _ _ Aaa).mono ?_;rintro e w1 ⟨rfl,hb1⟩;have hc0:=(fG hb1).1 g (k*4) Aan;have hc1:=(fG hb1).1 g (k*4+1) Aan;have hc2:=(fG hb1).1 g (k*4+2) Aan;have hc3:=(fG hb1).1 g (k*4+3) Aan;have pE:=Hq (aZ.trans (((aE3 _ _).drew.trans hb1).mono aZ.size));clear hb1)
 all_goals
  go_wp2_with fail
  go_roundw
  case rel=>exact⟨k+1,m+4,Aaa,Aaf,Aaf,by have:=ah HM;omega,pE⟩
  case measure=>simp[intOf];omega):P:=h
theorem abh(h:P:=by
 have HP:=Hq (HD Aai);clear HD HE;go_upto_region 6 with fail;go_quiet (fail);go_wp2_with fail;go_ret;exact .no HP (fI _ aZ)):P:=h
theorem yR(h:P:=by
 exact⟨Aam,aFl _ dq osq⟩):P:=h
theorem axG(h:P:=by
 have hold:=(nA.kc (k:=9) ((KC.of_below uH).trans (KC.out H9 ho)) Aaa);have hr:=(ah HLZ).out (w:=w) Aaa ho;rcases SG with hp|⟨rfl,rfl⟩
 .have hp:=hp.out (w:=w) Aaa ho
  have hp9:∀g',pa.map (λy=>y.block)=some g'->6 < newC w.heap.size 9 c g':=λg' hg'=>by
   have h1:=hp.lo (tL hp hg')
   rw [aY Aaa]
   omega
  exact NQ.put hold hold _ _ rfl rfl rfl rfl (hp.lies aQ).1 (λg' hg' _=> .inr (hp9 g' hg')) hold.o (λy hy=> .inl (hold.co y hy)) hr (λy hy=> .inr (by have h1:=hr.lo hy;rw [aY Aaa];omega))
   (λg' hg' _ h6=>⟨λe=>by have:=hold.co g' e;omega,hp.ne hr Aae (tL hp hg')⟩) (λy hy h6=>by have:=hold.co y hy;omega)
 .exact NQ.put hold hold _ _ rfl rfl rfl rfl hold.p.at (λg' hg' hp'=> .inl (hold.cpB hold g' hg' hp')) hold.o (λy hy=> .inl (hold.co y hy)) hr (λy hy=> .inr (by have h1:=hr.lo hy;rw [aY Aaa];omega))
   (λg' hg' hp' h6=>by have:=hold.cpB hold g' hg' hp';omega) (λy hy h6=>by have:=hold.co y hy;omega)):P:=h
theorem yh(h:P:=by
 go_ret;exact⟨aF HP.symm,au w _⟩):P:=h
theorem axH(h:P:=by
 open aoO in exact ajT):P:=h
theorem XU(h:P:=by
 open amX in exact uI):P:=h
theorem XV(h:P:=by
 open amW in exact uI):P:=h
theorem axI(h:P:=by
 rw [ah HD];clear HD hT;go_in
 go_upto_region 1 with fail;refine bZ Aab ?_;show iZ _ _ _ _ 18 (Array.replicate 18 false) _ _
 refine tk [0,1,2,3,4,5,6,7,8,9,10,11,12,13,14] ?_;iterate 15 (refine lW (λK hK=>?_);go_simp;refine hK _ ?_;clear hK K)
 refine jh ?_;refine gJ 15 rfl Aab Aab Aab (λ_ _ _ _ h=>h) (λK hK=>?_);go_simp
 first
  |(refine hK _ ?_;clear hK K)
  |(apply Exists.intro
    refine⟨λ_=>?_,hK _ ?_⟩
    (exact SA _ (SK _))
    clear hK K)
 refine tk [16,17] ?_;open arQ in exact zZ):P:=h
theorem axJ(h:P:=by
 open anJ in exact awO):P:=h
theorem abj(h:P:=by
 have hlen:(l.take k).length=k:=Aah
 rw [aGg _ _ Aaa,hlen,Nat.sub_self];have e:l.length - k=(l.length - (k+1))+1:=Aaa
 rw [e,List.replicate_succ,aE0 hk,aFx];rfl):P:=h
theorem axK(h:P:=by
 open aAM in exact Yk6):P:=h
theorem axL(h:P:=by
 obtain⟨⟨d0,d1,d2,d3,d4,d5,d6,d7,d8⟩,f0,f1,f2,f3,f4,f5,f6,f7,f8⟩:=iT qH;have hrl:=ay qH;go_wp2_with fail;refine iE (λW' hW'=>?_)
 have e4:W'.heap[w.heap.size+2]?=some (.cells (dD n A1) 39 (0,0)):=by
  rw [hW'];exact GR.setW_blk (dD n A1).toList (o:=0) (xs:=lC.toList) qH
 have hkc:KC cc 0 W3 W':=by
  rw [hW'];exact KC.setW (o:=0) (dD n A1).toList (nA.lo _ hrs)
 have HAT:=Hq (λW'' (ho:yA w W' W'')=>((nA.kc0 hkc).kc0 (ho.kc (λx hx=>nA.lo x Aaa))).rm)
 have rG:Hid (aH w W'):=by
  rw [hW'];exact GR.setW_below Aaa (dD n A1).toList (o:=0) HB3
 obtain⟨x0,x1,x2,x3,x4,x5,x6,x7,x8⟩:=nine e4;clear hW' e4 hkc;exact aEY (v:= .tuple #[(gU n A1),.slice (some ⟨W0.heap.size,0,none⟩) 0 0,.int .i64 3]) Acm rfl ⟨A1,some ⟨W0.heap.size,0,none⟩,0,rfl,HAT,λW'' _ i hi=>Aau,rG⟩):P:=h
theorem Tj(h:P:=by
 open amV in exact uI):P:=h
theorem axM(h:P:=by
 open anI in exact awO):P:=h
theorem aj7(h:P:=by
 have HK:=Hq (λw1=>iC k false w1 hk);cases hn:fJ n
 .have HN:=Hq (λw1=>aO n false w1 hn);have HP:=Hq (show R=(decide (no=0)&&false&&false&&mq ⟨mK,mF,mT,mI,mL,mk,mN⟩) by rw [<-ah HR];simp[bQ,hk,hn]);exact aj4
 .have HN:=Hq (λw1=>aO n true w1 hn);have HP:=Hq (show R=(decide (no=0)&&false&&true&&mq ⟨mK,mF,mT,mI,mL,mk,mN⟩) by rw [<-ah HR];simp[bQ,hk,hn]);exact aj4):P:=h
theorem Ac(h:P:=by
 go_ret;exact⟨aF (HP.symm.trans HQ),hB⟩):P:=h
theorem aj8(h:P:=by
 clear hr hc0;go_in
 go_wp2_with (first|(go_at_call 342;refine(HR _).mono ?_;rintro e w2 ⟨rfl,hb2⟩;have hA:=aJ (aEP w _) hb2;have hB:=(au w _).trans (hb2.mono Aac);obtain⟨c0,c1,c2,c3,c4,c5⟩:=LQ hA;have hz:=dx hA;clear hA hb2)|(go_at_call_of 170 I;refine(N8 _).mono ?_;rintro e w1 ⟨rfl,rfl⟩))
 exact Ac):P:=h
theorem aez(h:P:=by
 obtain⟨e,hg,hc⟩:=h i hi;exact⟨e,hg,⟨by simpa using(hc 0 Aaa).1,by simpa using(hc 1 Aaa).1,by simpa using(hc 2 Aaa).1,by simpa using(hc 3 Aaa).1⟩,by simpa using(hc 0 Aaa).2,(hc 1 Aaa).2,(hc 2 Aaa).2,(hc 3 Aaa).2⟩):P:=h
theorem XW(h:P:=by
 have hb:aH w w1:=(au w _).grown hgrow Aac (λk hk=>Acr);clear hown' hgrow hlit;go_wp2
 go_ret;exact⟨_,rfl,HO,hb⟩):P:=h
theorem aj9(h:P:=by
 open avZ in exact Wh):P:=h
theorem abk(h:P:=by
 open amU in exact uI):P:=h
theorem aeA(h:P:=by
 open amT in exact uI):P:=h
theorem axN(h:P:=by
 open auD in exact OU):P:=h
theorem axO(h:P:=by
 refine aFm ?_;show wpList _ _ _ [_,_] _ _
 refine oH Aad (.tmp 3) rfl s1 rfl VC OO.len (KR.blk vQ.ho) ?_;refine uT Aad (.tmp 2) (.tmp 17) rfl r rfl VC rfl OO.len OO.one Aad vQ.hr (λW9 hW hR=>?_);have hE:=vQ.ends;rw [<-hW] at hE;have XB:=Hq (show∃A',Ending.returned (Value.agg VC.toArray)= .returned (Jg c A')/\jw W9 A' c/\aH w W9 from⟨A1,by rw [<-(ah OO).agg],HA1 W9 hE.1,by rw [hp];exact hE.2⟩);have HRR:=Hq hR;have HLL:=Hq OO.len;clear hE hW hR;go_wp2_with fail;exact aEY (v:= .agg VC.toArray) (jN rfl _ _ r VC _ rfl HRR.r underlying43 rfl (by rw [ah HLL];kernel_rfl)) rfl XB):P:=h
theorem akb(h:P:=by
 open asg in exact agr):P:=h
theorem abl(h:P:=by
 go_wp2_with fail;refine H.mono ?_;rintro e w1 ⟨a1,c1,g,hg,rfl,hblk,hb⟩;have HK:=Hq hblk;have HB:=Hq hb;clear hblk hb;go_wp2_with fail;go_ret2
 exact⟨_,_,g,hg,rfl,HK,HB⟩):P:=h
theorem akc(h:P:=by
 open asE in exact agx):P:=h
theorem axP(h:P:=by
 subst hx;by_cases hx:x3=y3
 case' neg=>
  have hq:(x3 == y3)=false:=Aag
  exact abh
 subst hx;have HT2:=Hq (HE rfl);clear HE HD;go_upto_region 6 with fail;go_quiet (fail);go_wp2_with fail;go_roundw
 case rel=>exact⟨k+1,Aaa,Aaf,fI _ aZ,HT2⟩
 case measure=>simp[intOf];omega):P:=h
theorem axQ(h:P:=by
 obtain⟨k,hk,rfl,rfl,rfl⟩:=hrel;have hb:=Mth.sums_lt (s.data.toList.take k);by_cases hlt:k < s.size
 .have HS:Hid (Mth.sums (s.data.toList.take (k+1))=Mth.sumStep (Mth.sums (s.data.toList.take k)) s[k]):=by rw [Mth.take_snoc s k hlt];exact Mth.sums_snoc _ _
  have hc:s[k].toNat < 256:=s[k].toNat_lt;go_wp2
  go_round
  case rel=>exact⟨k+1,Aaa,Aaf,by rw [HS.out];simp[Mth.sumStep],by rw [HS.out];simp[Mth.sumStep]⟩
  case measure=>simp[intOf];omega
 .rw [Mth.take_all s k hlt];rw [Mth.take_all s k hlt] at hb;go_wp2
  go_ret;exact⟨mU Aaa,rfl⟩):P:=h
theorem axR(h:P:=by
 rcases hcase with rfl|⟨r0,r1,hqq⟩
 .go_wp2_with fail;go_ret;exact⟨-1,rfl,.inl rfl,fO⟩
 .have hn2:decide (r < 0)=false:=aES Aaa;have HQQ:=Hq hqq;clear hqq;go_wp2_with fail;go_roundw
  case rel=>
   refine⟨k+1,r,Aaa,Aaf,rfl,Aaa,Aaa,?_,fO⟩;intro p hp;rw [ah HT] at hp;rcases aFb.1 hp with h|h
   .exact jA p h
   .rw [aE6] at h;subst h;exact HQQ
  case measure=>simp[intOf];omega):P:=h
theorem axS(h:P:=by
 have e1:(w.alloc a).heap.size=w.heap.size+1:=Aac
 have e2:((w.alloc a).alloc b).heap.size=w.heap.size+1+1:=Aac
 have h2:=aE4 ((w.alloc a).alloc b) c (w.heap.size+1) Aaa;have h3:=aEP ((w.alloc a).alloc b) c;have h4:=aEP (w.alloc a) b;have h5:=aE4 ((w.alloc a).alloc b) c w.heap.size Aaa;have h6:=aE4 (w.alloc a) b w.heap.size Aaa;rw [e2] at h3;rw [e1] at h4;exact⟨h5.trans (h6.trans (aEP w a)),h2.trans h4,h3,((au w a).alloc Aaa b).alloc Aaa c⟩):P:=h
theorem axT(h:P:=by
 open am3 in exact aer):P:=h
theorem axU(h:P:=by
 clear hr hc0 hc1 hc2;go_in
 go_wp2_with (first|(go_at_call 342;refine(HR _).mono ?_;rintro e w2 ⟨rfl,hb2⟩;have hA:=aJ (aEP w _) hb2;have hB:=(au w _).trans (hb2.mono Aac);obtain⟨c0,c1,c2,c3,c4,c5⟩:=LQ hA;have hz:=dx hA;clear hA hb2)|(go_at_call_of 170 I;refine(N8 _).mono ?_;rintro e w1 ⟨rfl,rfl⟩)|(go_at_call_of 190 k;refine(N9 _).mono ?_;rintro e w1 ⟨rfl,rfl⟩)|(go_at_call_of 170 N;refine(Df _).mono ?_;rintro e w1 ⟨rfl,rfl⟩))
 exact Ac):P:=h
theorem akd(h:P:=by
 open atg in exact agF):P:=h
theorem axV(h:P:=by
 open aA8 in exact XK):P:=h
theorem axW(h:P:=by
 go_wp2_with fail;refine iD (λW' hW'=>?_);obtain⟨⟨r0,r1,r2,r3,r4,r5,r6,r7,r8,r9,r10⟩,_⟩:=aK (show W'.heap[w.heap.size]?=some (.cells (bV 0 0 ⟨#[]⟩ 0 0 0 0 0 0 ⟨#[]⟩ 0) 73 (0,0)) by rw [hW'];exact lS HR);have hbb:aH w W':=by rw [hW'];exact iK HB (aER _)
 exact aEY (v:= .tuple #[.agg (bV 0 0 ⟨#[]⟩ 0 0 0 0 0 0 ⟨#[]⟩ 0),.bool false]) Acn rfl ⟨Abj,hbb⟩):P:=h
theorem XY(h:P:=by
 exact⟨0,z0 - l.length,aE7 _,rfl,Aaf,Aaa,Aaa,λp hp=>by simp at hp,aE3 _ _⟩):P:=h
theorem axX(h:P:=by
 obtain⟨s0,s1,s2,s3⟩:=tO.four gX k Aaa;open atA in exact aaH):P:=h
theorem axY(h:P:=by
 clear hr hc2 hc3 hc4 Ea;go_in
 go_wp2_with (first|(go_at_call_of 121 F;refine(H1 _).mono ?_;rintro e w1 ⟨rfl,rfl⟩)|(go_at_call_of 121 T;refine(H2 _).mono ?_;rintro e w1 ⟨rfl,rfl⟩)|(go_at_call_of 93 k;refine(Df _).mono ?_;rintro e w1 ⟨rfl,rfl⟩)|(go_at_call_of 90 N;refine(HC3 _).mono ?_;rintro e w1 ⟨rfl,rfl⟩)|(go_at_call_of 90 I;refine(HC4 _).mono ?_;rintro e w1 ⟨rfl,rfl⟩)|(go_at_call 47;refine(HC5 _).mono ?_;rintro e w1 ⟨rfl,rfl⟩))
 exact yh):P:=h
theorem axZ(h:P:=by
 clear hr hc0 hc1;go_in
 go_wp2_with (first|(go_at_call 342;refine(HR _).mono ?_;rintro e w2 ⟨rfl,hb2⟩;have hA:=aJ (aEP w _) hb2;have hB:=(au w _).trans (hb2.mono Aac);obtain⟨c0,c1,c2,c3⟩:=LK hA;have hz:=dx hA;clear hA hb2)|(go_at_call_of 190 k;refine(N8 _).mono ?_;rintro e w1 ⟨rfl,rfl⟩)|(go_at_call_of 170 N;refine(N9 _).mono ?_;rintro e w1 ⟨rfl,rfl⟩))
 exact Ac):P:=h
theorem aeB(h:P:=by
 have HD:=Hq (show¬n=m from λh=>hx (by rw [h]));clear hx HZ HA HB;go_in
 go_wp2_with fail;go_ret;exact .no HD (Ae _ _ _)):P:=h
theorem Tk(h:P:=by
 go_wp2_with fail;go_ret;exact⟨_,rfl,World.ownsRow_nil _ _ _ _,aE3 _ _⟩):P:=h
theorem ax0(h:P:=by
 open asf in exact agr):P:=h
theorem BZ(h:P:=by
 exact⟨0,aE7 _,rfl,aE3 _ _⟩):P:=h
theorem ax1(h:P:=by
 clear hr hc0;go_in
 go_wp2_with (first|(go_at_call 342;refine(HR _).mono ?_;rintro e w2 ⟨rfl,hb2⟩;have hA:=aJ (aEP w _) hb2;have hB:=(au w _).trans (hb2.mono Aac);obtain⟨c0,c1,c2⟩:=cells3 hA;have hz:=dx hA;clear hA hb2)|(go_at_call_of 170 I;refine(N8 _).mono ?_;rintro e w1 ⟨rfl,rfl⟩))
 exact Ac):P:=h
theorem ax2(h:P:=by
 go_wp2_with fail;refine(EL _ (GR.At.below HA HB1)).mono ?_;rintro e w2 ⟨v,rfl,hnn,hrow,hb2⟩;have HNN:=Hq hnn;have HR:=Hq (own_lower hrow HB1.size);have HB2:=Hq (HB1.trans (hb2.mono HB1.size));clear hrow hb2 hnn;go_wp2_with fail;refine aEY (v:= .tuple #[v,.bool false]) Aco rfl ⟨v,rfl,HNN,HR,HB2⟩):P:=h
theorem aeC(h:P:=by
 go_wp2_with (go_at_call 267;refine(zm _ _).mono ?_;rintro e w' ⟨rfl,rfl⟩)
 go_ret3
 exact⟨adj HR,rfl⟩):P:=h
theorem ake(h:P:=by
 go_wp2_with fail;refine HNN.mono ?_;rintro e w9 ⟨rfl,hb9⟩;have HKK:=Hq (HS.keep.trans (dQ.of_below hb9));clear hb9;go_wp2_with fail;exact⟨rfl,.inr ⟨hno,_,rfl⟩,HKK⟩):P:=h
theorem XZ(h:P:=by
 go_wp2_with fail;go_ret;exact⟨rfl,(aE3 _ _).alloc (aER _) _⟩):P:=h
theorem aeD(h:P:=by
 have HD:=Hq (show¬n=m from λh=>by have:=hr.2 (by rw [h]);cases this);clear hr;go_wp2_with fail;go_ret;exact .no HD HL):P:=h
theorem ax3(h:P:=by
 open atf in exact agF):P:=h
theorem ax4(h:P:=by
 clear eY;refine aE5 Aab Aab ?_;repeat (first|go_big_quiet_step ((first|(go_at_call_of 47 si;exact a1 _ _)|(go_at_call 93;exact a2 _ _)|(go_at_call 90;exact a3 _ _)|(go_at_call_of 47 st;exact a4 _ _)))|quiet_step ((first|(go_at_call_of 47 si;exact a1 _ _)|(go_at_call 93;exact a2 _ _)|(go_at_call 90;exact a3 _ _)|(go_at_call_of 47 st;exact a4 _ _))))
 exact aj9):P:=h
theorem ax5(h:P:=by
 clear eY;refine aE5 Aab Aab ?_;repeat (first|go_big_quiet_step ((first|(go_at_call 47;exact a1 _ _)|(go_at_call 92;exact a2 _ _)|(go_at_call 93;exact a3 _ _)|(go_at_call 90;exact a4 _ _)))|quiet_step ((first|(go_at_call 47;exact a1 _ _)|(go_at_call 92;exact a2 _ _)|(go_at_call 93;exact a3 _ _)|(go_at_call 90;exact a4 _ _))))
 exact aj9):P:=h
theorem ax6(h:P:=by
 constructor
 .intro hf;have e:l=l.take i++l[i]::l.drop (i+1):=by rw [<-aFD hi,aFJ]
  have h2:(l.take i++l[i]::l.drop (i+1)).find? f=some l[i]:=by
   rw [List.find?_append,h,List.find?_cons,hf];rfl
  rw [<-e] at h2;exact h2
 .intro hf;rw [aE0 hi,List.find?_append,h,List.find?_cons,hf];rfl):P:=h
theorem aeE(h:P:=by
 have HBAD:=Hq (oN hlt (show oL l (j+1)=false by rw [ah oz];simp[iG,hA]));clear oz iJ hA;exact Zk0):P:=h
theorem akf(h:P:=by
 have HN:=Hq (λw1=>aO n false w1 hn);have HP:=Hq (show R=(decide (no=0)&&true&&false&&mq ⟨mK,mF,mT,mI,mL,mk,mN⟩) by rw [<-ah HR];simp[bQ,hk,hn]);exact aj4):P:=h
theorem X9(h:P:=by
 exact⟨0,s,aE7 _,rfl,rfl,rfl,by rw [acT];exact HA,aA.refl _ _⟩):P:=h
theorem aeF(h:P:=by
 have HBAD:=Hq (oN hlt (show oL l 0=false by rw [ah oz];simp[iG,hA]));clear oz iJ hA;exact Zk0):P:=h
theorem aeG(h:P:=by
 go_wp2_with (go_at_call 187;refine(H1 _).mono ?_;rintro e w1 ⟨rfl,rfl⟩)
 go_ret;exact⟨aF HV.symm,pY⟩):P:=h
theorem ax7(h:P:=by
 have Df:=Hq (λw1=>oW k false w1 hs hc2);clear hr hc2;go_in
 go_wp2_with (first|(go_at_call_of 121 F;refine(H1 _).mono ?_;rintro e w1 ⟨rfl,rfl⟩)|(go_at_call_of 121 T;refine(H2 _).mono ?_;rintro e w1 ⟨rfl,rfl⟩)|(go_at_call_of 93 k;refine(Df _).mono ?_;rintro e w1 ⟨rfl,rfl⟩))
 exact yh):P:=h
theorem akg(h:P:=by
 have HP:=Hq (HD Aai);clear HD HE hx;go_upto_region 6 with fail;go_quiet (fail);go_wp2_with fail;go_ret;exact .no HP (fI _ aZ)):P:=h
theorem Wo(h:P:=by
 have h:=ah jA;rw [aFh] at h;exact nH.trans h):P:=h
theorem akh(h:P:=by
 have HF:Hid (TT=true):=by
  exact Wo
 go_wp2_with fail;go_ret;exact⟨aF HF.symm,aZ⟩):P:=h
theorem aBY(h:P:=by
 rw [EF s a Aaa];have h:=uM hc (a+4) (s.size - (a+4)) (s.size - (a+4)) Aaa;rw [h,show a+min (s.size - a) 1006=a+4+(s.size - (a+4)) by omega]):P:=h
theorem ax8(h:P:=by
 have h2:=ih (w.setCell ⟨g,o,none⟩ v) (o+1) (λj' hj'=>by
  obtain⟨v1,hv1⟩:=h (j'+1) (by simpa using hj')
  refine⟨v1,(aF0 _ _ _ _ (by simp<;>omega)).trans ?_⟩
  rw [<-hv1,show o+1+j'=o+(j'+1) by omega]) j Abd
 rw [show o+1+j=o+(j+1) by omega] at h2;exact h2):P:=h
theorem ax9(h:P:=by
 have h1:=(bJ hok).1;have h2:=(bJ hok).2.2.1;have h3:=wT h1;rw [xX h1,aEX,aFf] at h2;have h4:=congrArg List.length h2.1;rw [aFQ,rz] at h4;unfold eD at h1;simp only[aEX,aFf] at h1;split at h3<;>omega):P:=h
theorem aya(h:P:=by
 refine aGt (P:=prog) w 127 9 5 ⟨g,0,none⟩ 1 [UInt8.ofNat K.toNat] underlying127 underlying5 underlying9 ?_;intro j hj;obtain rfl:j=0:=Abd
 show w.cell? ⟨g,0,none⟩=_
 rw [hc];simp only[aGu];rw [toNat_byte _ Aaa];congr 2
 omega):P:=h
theorem ayb(h:P:=by
 clear hbad;go_in
 go_wp2_with (first|(go_at_call 266;refine(HS _).mono ?_;rintro e w1 ⟨rfl,rfl⟩;simp only[sU])|(go_at_call 267;refine(zm _ _).mono ?_;rintro e w' ⟨rfl,rfl⟩))
 go_ret3
 exact⟨by rw [ah HR];rfl,aE3 _ _⟩):P:=h
theorem ayc(h:P:=by
 clear eY;refine aE5 Aab Aab ?_;repeat (first|go_big_quiet_step ((first|(go_at_call 92;exact cN _ _)|(go_at_call 90;exact cS _ _)))|quiet_step ((first|(go_at_call 92;exact cN _ _)|(go_at_call 90;exact cS _ _))))
 exact aj9):P:=h
theorem aeH(h:P:=by
 go_wp2_with fail;go_ret;exact⟨rfl,((aE3 _ _).alloc (aER _) _).alloc Aac _⟩):P:=h
theorem Tn(h:P:=by
 simp only[aFX] at h;rw [e] at h;exact h):P:=h
theorem Tp(h:P:=by
 exact⟨0,s,aE7 _,rfl,rfl,rfl,aE3 _ _⟩):P:=h
theorem ahv(h:P:=by
 open amS in exact uI):P:=h
theorem axo(h:P:=by
 rw [EF s a Aaa];have h:=uM hc (a+4) 1002 1002 Aaa;rw [h,show a+min (s.size - a) 1006=a+4+1002 by omega]):P:=h
theorem ahw(h:P:=by
 go_wp2_with (go_at_call 47;first|(refine(nP _ _ _ _ ?_ ?_).mono ?_;omega;omega;rintro e w' ⟨rfl,rfl⟩)|(refine(qQ _ _ _ _ ?_).mono ?_;omega;rintro e w' ⟨rfl,rfl⟩))
 go_ret;exact⟨aF (by rw [ah HF];simp;omega),rfl⟩):P:=h
theorem ahx(h:P:=by
 open amR in exact uI):P:=h
theorem Wi(h:P:=by
 exact(((aE3 _ _).alloc (aER _) _).alloc Aac _).alloc Aah _):P:=h
theorem ahy(h:P:=by
 clear HR;clear ho;go_in
 go_wp2_with (first|(go_at_call_of 90 no;refine(HO _).mono ?_;rintro e w1 ⟨rfl,rfl⟩))
 all_goals
  go_ret
  refine⟨aF ?_,au w _⟩
  rw [ah HP]
  simp[mq, *]):P:=h
theorem aa1(h:P:=by
 have HBAD:=Hq (oN hlt (show oL l (j+1)=false by rw [ah oz];simp[hsl]));clear oz iJ hsl;exact Zk0):P:=h
theorem ahz(h:P:=by
 have hA':=aFR.1 hA;have hB':=aFR.1 hB;by_cases hab:a=b
 .grind
 .have haB:a∈B:=by
   rcases aFd.1 (hs a Aac) with h|h
   .exact absurd h hab
   .exact h
  grind):P:=h
theorem ahA(h:P:=by
 have e1:(w.alloc a).heap.size=w.heap.size+1:=Aac
 have h1:=aEP w a;have h2:=aEP (w.alloc a) b;rw [e1] at h2;refine⟨?_,h2,(au w _).alloc Aac _⟩;rw [aE4 _ _ _ (by rw [e1];omega)];exact h1):P:=h
theorem ahB(h:P:=by
 rw [e0] at e2;injection e2 with e2
 injection e2 with e2 e3
 subst e2 e3;refine⟨_,?_,.inr ⟨j,_,rfl,rfl,p0⟩⟩;have h:=ah BP j hlt;rw [ah jA] at h;exact h):P:=h
theorem ahC(h:P:=by
 have hw:Region.wanted o (yielded ops a.tmps)=true:=by simp[Region.wanted,hgd]
 rw [aFc hw];exact wp_append_own w s x t ho base e i z size bytes ht hi hz hsize hby hzs hsz v n xs hs hown ad m c news hx hl hnews h1 h63 hbytes hbase h):P:=h
theorem ahD(h:P:=by
 open ave in exact ag6):P:=h
theorem ahE(h:P:=by
 intro vs;induction vs with
 |nil=>intro w o _;rfl
 |cons v vs ih=>
  intro w o h;rw [aGe] at h;exact(ih (w.setCell ⟨g,o,none⟩ v) (o+1) Aaa).trans (aF0 _ _ _ _ (by simp<;>omega))):P:=h
theorem ahF(h:P:=by
 go_wp2_with fail;go_quiet (fail);go_wp2_with fail;go_meet
 case rel=>exact⟨by rw [<-ah JR,ah HJ],⟨rfl,rfl,rfl,aER _,λ_ _=>rfl⟩⟩):P:=h
theorem Wj(h:P:=by
 unfold World.setCell;simp only[Array.getElem?_modify];rw [aFc trivial,h];rfl):P:=h
theorem ahG(h:P:=by
 unfold jf at h;rcases aFb.1 h with h|h
 .exact .inr ((aGm _).mem h)
 .rcases aFd.1 h with h|h
  .exact .inl h
  .exact .inr ((aGb _).mem (Hu l p.k q h))):P:=h
theorem ahH(h:P:=by
 open amQ in exact uI):P:=h
theorem ahI(h:P:=by
 open avY in exact Wh):P:=h
theorem ahJ(h:P:=by
 have HP:Hid (TT=false):=ah HBAD (by rw [ah BJ,hbv];rfl);subst hbv;clear HBAD iJ eY nH BJ;go_wp2_with fail;go_ret;exact⟨aF HP.symm,zL⟩):P:=h
theorem ahK(h:P:=by
 go_wp2_with fail;refine HKP.mono ?_;rintro e wz ⟨rfl,A5,G5,c5,hfin⟩;have zN:=Hq hfin;clear hfin;go_wp2_with fail;go_ret;rw [ah HAD];exact⟨rfl,A5,G5,c5,zN⟩):P:=h
theorem ahL(h:P:=by
 clear hbad;open au2 in exact aaR):P:=h
theorem Wl(h:P:=by
 go_wp2_with fail
 all_goals
  go_ret
  exact⟨by simp[*],au w _⟩):P:=h
theorem ahM(h:P:=by
 go_in
 go_wp2_with (first|(go_at_call_of 121 F;refine(H1 _).mono ?_;rintro e w1 ⟨rfl,rfl⟩)|(go_at_call_of 121 T;refine(H2 _).mono ?_;rintro e w1 ⟨rfl,rfl⟩))
 exact yh):P:=h
theorem ahN(h:P:=by
 subst hbv;clear HBAD iJ eY nH BJ;go_wp2_with fail;go_roundw
 case rel=>exact⟨k+1,Aaa,Aaf,HG,ajo,zL⟩
 case measure=>simp[intOf];omega):P:=h
theorem ahO(h:P:=by
 by_cases h:0<=jg s i
 .exact(iO h).2.2.2.1
 .unfold jg at h;unfold kN;cases hG:textOf s i.toNat (iB s i) with
  |none=>simp[ZR]
  |some p=>rw [hG] at h;exact absurd (by simp[Rz]) h):P:=h
theorem OX(h:P:=by
 go_wp2_with fail;go_ret;exact .no HP (aE3 _ _)):P:=h
theorem aa3(h:P:=by
 rcases aF2 g w.heap.size with h'|h'
 .exact h'
 .rw [aFO h'] at h;cases h):P:=h
theorem ahP(h:P:=by
 exact⟨e,aEZ hg hk.size,λj hj=>⟨(aFw (w:=w) (hk.block g hg hne)).trans (hc j hj).1,(aGv (w:=w) (hk.block g hg hne)).trans (hc j hj).2⟩⟩):P:=h
theorem OY(h:P:=by
 repeat (refine Below.setNew ?_ Aaa)
 exact HB1):P:=h
theorem ahQ(h:P:=by
 obtain⟨g',off',e,hg',hc⟩:=hat i hi;cases e
 refine⟨rfl,hg',λj hj=>⟨?_,?_⟩⟩
 .have:=hc j hj;rwa [aFE] at this
 .unfold World.frozen?;rw [hblk];simp):P:=h
theorem Wm(h:P:=by
 go_wp2_with fail;go_ret;exact⟨-1,rfl,aE3 _ _,.inl rfl⟩):P:=h
theorem aa4(h:P:=by
 rintro e w' ⟨rfl,A',G',c',hW'⟩;exact⟨rfl,A',G',c',v,by rw [aF4];exact hW'⟩):P:=h
theorem ahR(h:P:=by
 rcases aFb.1 h1 with h1|h1
 .have:=c5 x h1;omega
 .have:=c6 x h1;omega):P:=h
theorem O3(h:P:=by
 go_wp2_with fail;go_ret;exact⟨rfl,rfl⟩):P:=h
theorem ahS(h:P:=by
 generalize l[k]=y at *;go_wp2_with fail;go_round
 case rel=>exact⟨k+1,Aaa,Aaf,by rw [ah HS,ah HN];rfl⟩
 case measure=>simp[intOf];omega):P:=h
theorem ahT(h:P:=by
 have hc:∀i,w.cell? ⟨g,i,none⟩=#[v0,v1,v2,v3,v4,v5,v6,v7,v8,v9,v10][i]?:=λi=>aE1 w g i _ t (0,0) h
 exact⟨hc 0,hc 1,hc 2,hc 3,hc 4,hc 5,hc 6,hc 7,hc 8,hc 9,hc 10⟩):P:=h
theorem ahU(h:P:=by
 go_wp2_with fail;refine(HO _).mono ?_;rintro e w1 ⟨rfl,hb1⟩;have hB:=(au w _).trans (hb1.mono Aac);clear hb1 HO;go_wp2_with fail;go_ret;exact⟨rfl,hB⟩):P:=h
theorem ahV(h:P:=by
 exact aEY (v:= .tuple #[.agg (bX 0 0 0 0 0 ⟨#[]⟩ 0),.bool false]) Acx rfl ⟨Abj,hbb⟩):P:=h
theorem ahW(h:P:=by
 exact aEY (v:= .tuple #[.agg (bX 0 0 0 0 0 ⟨#[]⟩ 0),.bool false]) Acy rfl ⟨Abj,hbb⟩):P:=h
theorem axp(h:P:=by
 obtain⟨g,rest,e,hb,_⟩:=xQ yD.r (show 0 < n.reqs.length by omega);exact⟨g,e,hb,λx=>by rw [show jy=some ⟨g,0,none⟩ from e];simp[Value.ownBlock,eq_comm]⟩):P:=h
theorem aa5(h:P:=by
 go_ret;exact⟨aF HN.symm,au w _⟩):P:=h
theorem O4(h:P:=by
 go_ret;exact⟨aF HP.symm,dS w _⟩):P:=h
theorem ahX(h:P:=by
 go_wp2_with fail;refine(HO _).mono ?_;rintro e w1 ⟨rfl,hb1⟩;have hB:=(au w _).trans (hb1.mono Aac);clear hb1;go_wp2_with fail;go_ret;exact⟨rfl,hB⟩):P:=h
theorem ahY(h:P:=by
 go_wp2_with fail;go_quiet (fail);go_wp2_with fail;go_meet
 case rel=>exact⟨by rw [ah HJ],⟨rfl,rfl,rfl,aER _,λ_ _=>rfl⟩⟩):P:=h
theorem ahZ(h:P:=by
 exact(aP (aP (aP (aP (aP (aP (aP (aP (aP h 0 b0) 1 b1) 2 b2) 3 b3) 4 b4) 5 b5) 6 b6) 7 b7) 8 b8).trans Aab):P:=h
theorem ah0(h:P:=by
 go_wp2_with fail;exact aEY (v:= .tuple #[xK ⟨0,F,T,I,L,k,N⟩,.bool false]) Aay rfl ⟨Aaw,fO⟩):P:=h
theorem ah1(h:P:=by
 go_wp2_with fail;exact aEY (v:= .tuple #[xK ⟨2,F,T,I,L,k,N⟩,.bool false]) Aay rfl ⟨Aaw,fO⟩):P:=h
theorem O6(h:P:=by
 exact⟨0,aE7 _,rfl,aE3 _ _,rfl⟩):P:=h
theorem ah2(h:P:=by
 rcases aF2 0 w.heap.size with h'|h'
 .exact h'
 .have h:=hH;unfold Handle World.cell? at h;rw [aFO h'] at h;cases h):P:=h
theorem ah3(h:P:=by
 rw [ej,<-hf,hu] at h2;injection e with e
 subst e;have ea:(⟨g,off,none⟩:Addr).add j=⟨g,off+j,none⟩:=by unfold Addr.add;split<;>simp_all
 rw [ea];exact h2):P:=h
theorem ah4(h:P:=by
 exact⟨e,aEZ hg hs,λj hj=>⟨(aFw (w:=w) hbx).trans (hc j hj).1,(aGv (w:=w) hbx).trans (hc j hj).2⟩⟩):P:=h
theorem ah5(h:P:=by
 have h:=ah jP k hlt;have h2:=ah jA;rw [<-ah HY] at h;exact h.trans (by rw [show(λs t:Int=>iR s t)=iR from rfl,h2];rfl)):P:=h
theorem ah6(h:P:=by
 intro vs;induction vs with
 |nil=>intro w o;rfl
 |cons v vs ih=>intro w o;exact(ih (w.setCell ⟨g,o,none⟩ v) (o+1)).trans (by rw [World.frozen?_setCell])):P:=h
theorem ah7(h:P:=by
 generalize jg s ((a:Int)+4)=E at *;generalize mX (lu (kN s ((a:Int)+4)))=bW at *;generalize lu (kN s ((a:Int)+4))=nn at *;exact Zk5):P:=h
theorem ah8(h:P:=by
 go_in
 go_wp2_with (go_at_call 39;refine(HI _).mono ?_;rintro e w1 ⟨rfl,rfl⟩)
 go_ret;exact⟨rfl,au w _⟩):P:=h
theorem ah9(h:P:=by
 intro vs;induction vs with
 |nil=>intro w o;rfl
 |cons v vs ih=>intro w o;exact(ih (w.setCell ⟨g,o,none⟩ v) (o+1)).trans Aaq):P:=h
theorem aia(h:P:=by
 have hp':tmps[p]?.getD undef= .pointer (some ⟨g,0,none⟩):=by simpa using hp
 simp[results,h,hp',asAddr,run_loadVar_mid w g 0 ty cs d hc hu hd hi]):P:=h
theorem aib(h:P:=by
 rcases Sb with h|⟨j,y,h1,h2,h3⟩
 .exact .inl h
 .exact .inr ⟨j,y,h1,h2,(hbw.cell (p:=⟨g,off+j*4,none⟩) hgw).trans h3⟩):P:=h
theorem aic(h:P:=by
 rw [aFq Aaa];unfold vJ;rw [aE2 e];exact hi2.keeps hkp (λx hx=>by simpa using hg4 x (jD hil x hx))):P:=h
theorem aie(h:P:=by
 refine⟨?_,aC h _⟩;rcases vB hj with rfl|rfl|rfl|rfl|rfl|rfl|rfl|rfl|rfl<;>exact(congrArg Option.isSome (aV h _)).trans rfl):P:=h
theorem aif(h:P:=by
 go_wp2_with fail;go_quiet (fail);go_wp2_with fail;go_meet
 case rel=>exact⟨by rw [ah Sb],_,Ce w1 _ _⟩):P:=h
theorem Wn(h:P:=by
 rw [h1];exact⟨h2r,by rw [aY Aaa];omega⟩):P:=h
theorem aa6(h:P:=by
 go_in
 go_wp2
 go_ret;exact⟨rfl,rfl⟩):P:=h
theorem axr(h:P:=by
 have hy3:(x == par)=true:=by simp[hx3]
 have HP:=Hq (HBAD (by rw [ah iJ];simp[kU,hx3]));clear HBAD iJ hx3;exact aey):P:=h
theorem axt(h:P:=by
 have hy2:(x == id)=true:=by simp[hx2]
 have HP:=Hq (HBAD (by rw [ah iJ];simp[kU,hx2]));clear HBAD iJ hx2;exact aey):P:=h
theorem aii(h:P:=by
 clear HD h1;go_in
 go_wp2_with (go_at_call 170;refine(H1 _).mono ?_;rintro e w1 ⟨rfl,rfl⟩)
 exact yh):P:=h
theorem aij(h:P:=by
 clear h1 HD;go_in
 go_wp2_with (go_at_call 193;refine(H1 _).mono ?_;rintro e w9 ⟨rfl,rfl⟩)
 exact yh):P:=h
theorem aik(h:P:=by
 exact⟨0,aE7 _,rfl,by unfold tO GR.Blk;rw [aGG,aF5,Nat.sub_zero];exact aEP w _,dS w _⟩):P:=h
theorem ail(h:P:=by
 go_in
 go_wp2_with (first|(go_at_call_of 187 F;refine(H1 _).mono ?_;rintro e w1 ⟨rfl,rfl⟩))
 exact yh):P:=h
theorem ain(h:P:=by
 rw [aGs];intro h;rw [aFG,aFG] at h;exact hp (aF8 (Array.ext' h))):P:=h
theorem aio(h:P:=by
 go_in
 go_wp2_with (first|(go_at_call_of 121 F;refine(H1 _).mono ?_;rintro e w1 ⟨rfl,rfl⟩))
 exact yh):P:=h
theorem aa7(h:P:=by
 go_in
 go_wp2
 go_ret;exact⟨rfl,rfl⟩):P:=h
theorem aa8(h:P:=by
 go_in
 go_wp2
 go_ret;exact⟨rfl,rfl⟩):P:=h
theorem aip(h:P:=by
 have h:=(bJ hok).1;unfold eD at h;simp only[aEX,aFf] at h;exact aES Aaa):P:=h
theorem aiq(h:P:=by
 exact⟨0,aE7 _,rfl,by unfold GR.Blk;rw [aGG,aF5,Nat.sub_zero];exact aEP w _,dS w _⟩):P:=h
theorem air(h:P:=by
 refine⟨h.1,?_⟩;rcases h.2 with h2|⟨g,cap,cur,hv,hg,hr⟩
 .exact .inl h2
 .exact .inr ⟨g,cap,cur,hv,aEU hb hg,hr⟩):P:=h
theorem ais(h:P:=by
 go_in
 go_wp2_with (go_at_call 187;refine(HA _).mono ?_;rintro e w1 ⟨rfl,rfl⟩)
 exact aa5):P:=h
theorem ait(h:P:=by
 subst hx;by_cases hx:x2=y2
 case' neg=>
  have hq:(x2 == y2)=false:=Aag
  exact abh
 exact axP):P:=h
theorem aa9(h:P:=by
 go_in
 go_wp2
 go_ret;exact⟨rfl,rfl⟩):P:=h
theorem aiu(h:P:=by
 obtain⟨g,off,e,hg,hc⟩:=h i hi;refine⟨g,off,e,hg,?_,?_,?_,?_⟩
 .simpa using hc 0 Aaa
 .grind
 .grind
 .grind):P:=h
theorem aiv(h:P:=by
 have hj9:j < 9:=(aFK.1 hj).1;rcases vB hj9 with rfl|rfl|rfl|rfl|rfl|rfl|rfl|rfl|rfl<;>exact hj):P:=h
theorem aiw(h:P:=by
 go_in
 go_wp2_with (go_at_call 122;refine HH.mono ?_;rintro e w1 ⟨rfl,rfl⟩)
 exact aa5):P:=h
theorem aix(h:P:=by
 go_in
 go_wp2
 refine wp_loop_rounds 1 ?_;rw [rounds_succ];go_wp2
 go_ret;exact⟨rfl,rfl⟩):P:=h
theorem aiy(h:P:=by
 have hl:=bf s;unfold kb;cases hd:s.data.toList with
 |nil=>rw [hd] at hl;simp at hl;omega
 |cons b r=>simp):P:=h
theorem aiz(h:P:=by
 rw [aFo];unfold vJ;rw [aFc rfl];exact hi.keeps hkp (λx hx=>by simpa using hgi x hx)):P:=h
theorem aiA(h:P:=by
 go_wp2_with fail;go_roundw
 case rel=>exact⟨k+1,Aaa,Aaf,HB1⟩
 case measure=>simp[intOf];omega):P:=h
theorem aiB(h:P:=by
 go_wp2_with fail;go_roundw
 case rel=>exact⟨k+1,Aaa,Aaf,HS⟩
 case measure=>simp[intOf];omega):P:=h
theorem abb(h:P:=by
 exact((aE3 _ _).alloc (aER _) _).alloc Aac _):P:=h
theorem aiC(h:P:=by
 go_wp2_with (go_at_call 47;refine(zf _ _ _ r _ h).mono ?_;rintro e w1 ⟨rfl,rfl⟩)
 go_ret;exact⟨rfl,rfl⟩):P:=h
theorem aiD(h:P:=by
 obtain⟨c0,c1,c2,c3,c4,c5,c6,c7,c8,c9⟩:=jT h.blk;clear h;go_in
 exact O3):P:=h
theorem aiE(h:P:=by
 go_round
 case rel=>exact⟨k+1,x,Aaa,Aaf,rfl,zT.symm,HV⟩
 case measure=>simp[intOf];omega):P:=h
theorem aiF(h:P:=by
 rcases hrow.2 with⟨rfl,h0⟩|⟨g,cap,cur,rfl,_⟩
 .exact⟨none,0,by rw [h0]⟩
 .exact⟨_,_,rfl⟩):P:=h
theorem aiG(h:P:=by
 rw [aEW,aEW,iq,aFj,aFA,aFA];omega):P:=h
theorem Wp(h:P:=by
 simpa [aFv] using hc 1 Aaa):P:=h
theorem Wq(h:P:=by
 simpa [aFv] using hc 2 Aaa):P:=h
theorem Ws(h:P:=by
 simpa [aFv] using hc 3 Aaa):P:=h
theorem aiH(h:P:=by
 obtain⟨a,cp,he,ha⟩:=GR.own_at (enc:=aM) (sz:=4) (l:=n.out) aT h.o;cases he
 exact ha):P:=h
theorem aiI(h:P:=by
 obtain⟨a,cp,he,ha⟩:=GR.own_at (enc:=aL) (sz:=4) (l:=n.reqs) aW h.r;cases he
 exact ha):P:=h
theorem abd(h:P:=by
 simp only[aEX,aFf] at h;omega):P:=h
theorem aiJ(h:P:=by
 exact hk2.seen (hk1.seen hno.s hno.c4 hno.ci Aaa Aaa) hno.c4 hno.ci Aaa Aaa):P:=h
theorem aiK(h:P:=by
 have h:=ah jP k hlt;have h2:=ah jA;rw [<-ah HY] at h;rw [h,h2];rfl):P:=h
theorem aiL(h:P:=by
 subst hji;exact hy.wpOp hi (hR.ge hx) λy hy'=>⟨hR.ge hy',xC (Ge.trans hx hy') H⟩):P:=h
theorem abe(h:P:=by
 go_ret2
 exact⟨rfl,hb1.trans (hb2.mono hb1.size)⟩):P:=h
theorem aiM(h:P:=by
 clear hf HC;go_in
 go_wp2_with fail;go_ret;exact .no HP hbz):P:=h
theorem aiN(h:P:=by
 rw [aEW,aEW,aFj,aFA,h1];show _+4+_=_
 omega):P:=h
theorem aiO(h:P:=by
 rcases aFb.1 hx with hx|hx
 .have:=S.rng x hx;omega
 .have:=hold x hx;omega):P:=h
theorem aiP(h:P:=by
 go_in
 go_wp2
 go_ret;exact⟨aF HF.symm,rfl⟩):P:=h
theorem axy(h:P:=by
 have HP:=Hq (HBAD (by rw [ah iJ];simp[kU,hx1]));clear HBAD iJ;exact aey):P:=h
theorem aiQ(h:P:=by
 refine Bg hi h hf.symm ?_;have:=Mk hs hL;rw [hf] at this;exact this):P:=h
theorem aiR(h:P:=by
 split at h
 .omega
 .split at h
  .omega
  .split at h
   .omega
   .cases h):P:=h
theorem aiS(h:P:=by
 go_simp;go_wp2_with fail;go_ret;exact⟨rfl,A,G,c,v,by rw [aF4];exact HZ⟩):P:=h
theorem aiT(h:P:=by
 rw [<-xV s i j k hk hlt,RH s i j k m v hk hlt hu h,Nat.mod_eq_of_lt Aaa]):P:=h
theorem aiU(h:P:=by
 rcases aFb.1 h1 with h1|h1
 .have:=c4 x h1;omega
 .exact ahR):P:=h
theorem aiV(h:P:=by
 clear hv2 hu2 hv5 hu;go_wp2
 go_ret2
 exact⟨get_none HR,aE3 _ _⟩):P:=h
theorem aiW(h:P:=by
 unfold eO sRk;generalize jl (QX s n) n.seen=z at *;unfold QX sOk sPk at h;omega):P:=h
theorem abf(h:P:=by
 exact⟨0,aE7 _,rfl,rfl,aE3 _ _⟩):P:=h
theorem aiX(h:P:=by
 cases sp with
 |nil=>simp at ab7;omega
 |cons s0 sp'=>exact⟨s0,sp',rfl⟩):P:=h
theorem aiY(h:P:=by
 cases v.ownBlock with
 |none=>exact .inl rfl
 |some k=>exact .inr (by intro e;cases e)):P:=h
theorem aiZ(h:P:=by
 obtain⟨D,⟨es,clock,h1,h2⟩,ha⟩:=h;exact⟨D,⟨es,clock,hb.trans h1,h2⟩,ha⟩):P:=h
theorem ai0(h:P:=by
 rintro e w' ⟨rfl,rfl⟩;exact⟨rfl,A,G,c,v,by rw [aF4];exact h⟩):P:=h
theorem abg(h:P:=by
 go_wp2_with fail;go_ret;exact⟨rfl,HB1⟩):P:=h
theorem ai1(h:P:=by
 rw [aE2 Aaa,aE2 ej];exact h.nd i j hi' hj hij Aaa h1 h2):P:=h
theorem ai2(h:P:=by
 exact⟨k+1,Aaa,Aaf,iQ.trans ((Ge.trans Lv zV).mono iQ.size)⟩):P:=h
theorem axA(h:P:=by
 show(takeN n o.m).1.id=n.id
 unfold takeN;split
 .rfl
 .split<;>rfl):P:=h
theorem ai3(h:P:=by
 have HV:=Hq (HBM (by rw [ah iJ];simp[Ed,h1]));exact axH):P:=h
theorem ai4(h:P:=by
 unfold dB sD at *;split at h
 .cases h
 .rename_i hc
  rw [aE2 hc]):P:=h
theorem Yk0(h:P:=by
 open aBU in exact ajO):P:=h
theorem Sk0.Kk0(h:P:=by
 have HCQ:=Hq (BR.nine (aE7 _));open aBH in exact SV):P:=h
theorem Sk1.Kk0(h:P:=by
 open aBG in exact SV):P:=h
theorem Sk2.Kk0(h:P:=by
 open aBF in exact SV):P:=h
theorem Sk3.Kk0(h:P:=by
 open aBE in exact SV):P:=h
theorem Sk4.Kk0(h:P:=by
 open aBD in exact SV):P:=h
theorem Sk5.Kk0(h:P:=by
 open aBC in exact SV):P:=h
theorem Sk6.Kk0(h:P:=by
 open aBB in exact SV):P:=h
theorem Yk1(h:P:=by
 have HX:=Hq hx;have HKQ:=Hq hK;clear hx hK;generalize fF n o=TT at *;open aBd in exact aep):P:=h
theorem Sk7.Kk1(h:P:=by
 have c0:W.cell? ⟨w2.heap.size,5,none⟩=some (.func (.func 204) #[.pointer (some ⟨wb,0,none⟩)] #[]):=aE1 W _ 5 _ _ (0,0) e1;exact Zk2):P:=h
theorem Sk8.Kk1(h:P:=by
 have c0:W.cell? ⟨w2.heap.size,4,none⟩=some (.func (.func 203) #[.pointer (some ⟨wb,0,none⟩)] #[]):=aE1 W _ 4 _ _ (0,0) e1;exact Zk2):P:=h
theorem Sk9.Kk1(h:P:=by
 have c0:W.cell? ⟨w2.heap.size,3,none⟩=some (.func (.func 202) #[.pointer (some ⟨wb,0,none⟩)] #[]):=aE1 W _ 3 _ _ (0,0) e1;exact Zk2):P:=h
theorem aAv.Kk1(h:P:=by
 have c0:W.cell? ⟨w2.heap.size,2,none⟩=some (.func (.func 201) #[.pointer (some ⟨wb,0,none⟩)] #[]):=aE1 W _ 2 _ _ (0,0) e1;exact Zk2):P:=h
theorem aAw.Kk1(h:P:=by
 have c0:W.cell? ⟨w2.heap.size,1,none⟩=some (.func (.func 200) #[.pointer (some ⟨wb,0,none⟩)] #[]):=aE1 W _ 1 _ _ (0,0) e1;exact Zk2):P:=h
theorem aAx.Kk1(h:P:=by
 have c0:W.cell? ⟨w2.heap.size,0,none⟩=some (.func (.func 199) #[.pointer (some ⟨wb,0,none⟩)] #[]):=aE1 W _ 0 _ _ (0,0) e1;exact Zk2):P:=h
theorem Yk2(h:P:=by
 open aoF in exact XP):P:=h
theorem aAy.Kk2(h:P:=by
 go_wp2_with fail;exact aEY (v:= .tuple #[xK ⟨2,F,T,I,0,ByteArray.empty,0⟩,.bool true]) Aay rfl ⟨Aaw,fO⟩):P:=h
theorem aAz.Kk2(h:P:=by
 go_wp2_with fail;exact aEY (v:= .tuple #[xK ⟨2,F,T,I,0,ByteArray.empty,N⟩,.bool false]) Aay rfl ⟨Aaw,fO⟩):P:=h
theorem aAA.Kk2(h:P:=by
 go_wp2_with fail;exact aEY (v:= .tuple #[xK ⟨2,F,T,I,0,k,N⟩,.bool false]) Aay rfl ⟨Aaw,fO⟩):P:=h
theorem aAB.Kk2(h:P:=by
 exact ah1):P:=h
theorem Yk3(h:P:=by
 open aoX in exact awU):P:=h
theorem aAC.Kk3(h:P:=by
 obtain⟨c0,c1,c2,c3,c4,c5,c6,c7,c8⟩:=nine kQ;have hml:=ay BQ;have hnl:=ay kQ;go_wp2_with fail;refine(HGV W2 (aEU hB HB2.size) Ii).mono ?_;open aqR in exact axd):P:=h
theorem aAD.Kk3(h:P:=by
 obtain⟨c0,c1,c2,c3,c4,c5,c6,c7,c8⟩:=nine kQ;have hml:=ay BQ;have hnl:=ay kQ;have pY:=Hq (aFC (base:=W2.heap.size) (e:=145) (size:=4) W2 #[] 0 (aER _) Aae rfl);go_wp2_with fail;clear m0 m1 m2 m3 m4 m5 m6 c0 c1 c2 c3 c4 c5 c6 c7 c8 hml hnl;go_loopw [7,8] (λv i wr=>∃(k:Nat) (a:Option Addr) (cp:Nat),k<=n.out.length/\v= .slice a (FL k).length cp/\i= .int .i64 k/\wr.ownsRow W2.heap.size 145 4 (.slice a (FL k).length cp) (FL k).length (GR.flat aM (FL k))/\aH W2 wr) (λ_ i _=>n.out.length - (intOf i).toNat)
 case atStart=>exact⟨0,some ⟨W2.heap.size,0,none⟩,0,aE7 _,by rw [ah HF0];rfl,rfl,by rw [ah HF0];exact pY,au W2 _⟩
 case round=>
  obtain⟨k,a,cp,hk,rfl,rfl,hown,hbw⟩:=hrel;have HO:=Hq hown;have iQ:=Hq hbw;have sZ:=Hq (aj kQ hbw);have Xx:=Hq (aj BQ hbw);have HNK:=Hq (HFN k);clear hown hbw;obtain⟨m0,m1,m2,m3,m4,m5,m6⟩:=jS Xx;obtain⟨c0,c1,c2,c3,c4,c5,c6,c7,c8⟩:=nine sZ;have hml:=ay Xx;have hnl:=ay sZ;by_cases hlt:k < n.out.length
  .have PI:(k:Int) < (n.out.length:Int):=Aaa
   have HFK:=Hq (HFS k hlt);obtain⟨g,off,e0,hg,s0,s1,s2,s3⟩:=SentAt.four (GR.At.below Ii.at.o iQ) k hlt;rw [e0] at c5;clear e0;generalize n.out[k]=sk at *;obtain⟨si,st,sk,sn⟩:=sk;dsimp only at s0 s1 s2 s3 HFK;obtain⟨FK,hFK⟩:∃FK,FL (k+1)=FK:=⟨_,rfl⟩;have HX0:=Hq hFK;rw [hFK] at HFK;clear hFK;by_cases hA:si=mI
   .by_cases hB2:st=mF
    .have HX:Hid (FK=FL k):=by unfold Hid;rw [ah HFK,aFc ⟨hA,hB2⟩]
     have x0:(si != mI)=false:=by simp[hA]
     have x1:(st != mF)=false:=by simp[hB2]
     clear hA hB2 HFK;go_wp2_with fail;go_quiet (fail);go_wp2_with fail;go_roundw
     case rel=>exact⟨k+1,a,cp,Aaa,by rw [ah HX0,ah HX],Aaf,by rw [ah HX0,ah HX];exact HO,iQ.trans (Below.mono (B:=(wr.drewN nq).heap.size) ⟨rfl,rfl,rfl,aER _,λ_ _=>rfl⟩ iQ.size)⟩
     case measure=>simp[intOf];omega
    .have HX:Hid (FK=FL k++[⟨si,st,sk,sn⟩]):=by unfold Hid;rw [ah HFK,aE2 (λe=>hB2 e.2)]
     have x0:(si != mI)=false:=by simp[hA]
     have x1:(st != mF)=true:=by simpa using hB2
     clear hA hB2 HFK;exact axz
   .have HX:Hid (FK=FL k++[⟨si,st,sk,sn⟩]):=by unfold Hid;rw [ah HFK,aE2 (λe=>hA e.1)]
    have x0:(si != mI)=true:=by simpa using hA
    clear hA HFK;exact axz
  .open avu in exact ahe):P:=h
theorem aAE.Kk3(h:P:=by
 obtain⟨c0,c1,c2,c3,c4,c5,c6,c7,c8⟩:=nine kQ;have hml:=ay BQ;have hnl:=ay kQ;go_wp2_with fail;refine(OM W2 (aEU hB HB2.size) Ii).mono ?_;open aqQ in exact axd):P:=h
theorem aAF.Kk3(h:P:=by
 have hml:=ay BQ;have yc:=Hq (aj nK (au W2 (.cells #[] 70)));have Ob:=Hq (Ii.kc (k:=9) (KC.of_below (au W2 (.cells #[] 70))) Aaa);have wm:=Hq (HB2.trans ((au W2 (.cells #[] 70)).mono HB2.size));obtain⟨c0,c1,c2,c3,c4,c5,c6,c7,c8⟩:=nine kQ;obtain⟨⟨d0,d1,d2,d3,d4,d5,d6,d7,d8⟩,f0,f1,f2,f3,f4,f5,f6,f7,f8⟩:=iT yc;have hnl:=ay kQ;open apn in exact awX):P:=h
theorem Yk4(h:P:=by
 cases h1:decide (old+1<=si/\si<=1000000000)
 case' false=>
  have a1:=rIn si (old+1) 1000000000 false W1 h1
  have HV:=Hq (show bb=true by rw [<-ah eY];simp[h1])
  clear eY
  refine aE5 Aab Aab ?_
  repeat (first|go_big_quiet_step ((first|(go_at_call_of 47 si;exact a1 _ _)))|quiet_step ((first|(go_at_call_of 47 si;exact a1 _ _))))
  refine aFy ?_
  intro _ hw'
  obtain⟨⟨dq,osq⟩,hw''⟩:=hw'
  subst hw''
  go_wp2_with fail
  go_meet
  case rel=>exact yR
 have a1:=rIn si (old+1) 1000000000 true W1 h1;cases h2:keyOk sx.data.toList
 case' false=>
  have a2:=afE sx false W1 (aEU hks Aaj) h2
  have HV:=Hq (show bb=true by rw [<-ah eY];simp[h2])
  clear eY
  refine aE5 Aab Aab ?_
  repeat (first|go_big_quiet_step ((first|(go_at_call_of 47 si;exact a1 _ _)|(go_at_call 93;exact a2 _ _)))|quiet_step ((first|(go_at_call_of 47 si;exact a1 _ _)|(go_at_call 93;exact a2 _ _))))
  refine aFy ?_
  intro _ hw'
  obtain⟨⟨dq,osq⟩,hw''⟩:=hw'
  subst hw''
  go_wp2_with fail
  go_meet
  case rel=>exact yR
 have a2:=afE sx true W1 (aEU hks Aaj) h2;cases h3:fJ sn
 case' false=>
  have a3:=KJ sn false W1 h3
  have HV:=Hq (show bb=true by rw [<-ah eY];simp[h3])
  clear eY
  refine aE5 Aab Aab ?_
  repeat (first|go_big_quiet_step ((first|(go_at_call_of 47 si;exact a1 _ _)|(go_at_call 93;exact a2 _ _)|(go_at_call 90;exact a3 _ _)))|quiet_step ((first|(go_at_call_of 47 si;exact a1 _ _)|(go_at_call 93;exact a2 _ _)|(go_at_call 90;exact a3 _ _))))
  refine aFy ?_
  intro _ hw'
  obtain⟨⟨dq,osq⟩,hw''⟩:=hw'
  subst hw''
  go_wp2_with fail
  go_meet
  case rel=>exact yR
 have a3:=KJ sn true W1 h3;cases h4:decide (0<=st/\st<=2)
 case' false=>
  have a4:=rIn st 0 2 false W1 h4
  have HV:=Hq (show bb=true by rw [<-ah eY];simp[h4])
  clear eY
  refine aE5 Aab Aab ?_
  repeat (first|go_big_quiet_step ((first|(go_at_call_of 47 si;exact a1 _ _)|(go_at_call 93;exact a2 _ _)|(go_at_call 90;exact a3 _ _)|(go_at_call_of 47 st;exact a4 _ _)))|quiet_step ((first|(go_at_call_of 47 si;exact a1 _ _)|(go_at_call 93;exact a2 _ _)|(go_at_call 90;exact a3 _ _)|(go_at_call_of 47 st;exact a4 _ _))))
  refine aFy ?_
  intro _ hw'
  obtain⟨⟨dq,osq⟩,hw''⟩:=hw'
  subst hw''
  go_wp2_with fail
  go_meet
  case rel=>exact yR
 have a4:=rIn st 0 2 true W1 h4;exact Kk4):P:=h
theorem aAG.Kk4(h:P:=by
 by_cases hp:y < si
 case' neg=>
  have hy:decide (si<=y)=true:=aET Aaa
  have HV:=Hq (show bb=true by rw [<-ah eY];simp[hp])
  clear eY
  refine aE5 Aab Aab ?_
  repeat (first|go_big_quiet_step ((first|(go_at_call_of 47 si;exact a1 _ _)|(go_at_call 93;exact a2 _ _)|(go_at_call 90;exact a3 _ _)|(go_at_call_of 47 st;exact a4 _ _)))|quiet_step ((first|(go_at_call_of 47 si;exact a1 _ _)|(go_at_call 93;exact a2 _ _)|(go_at_call 90;exact a3 _ _)|(go_at_call_of 47 st;exact a4 _ _))))
  refine aFy ?_
  intro _ hw'
  obtain⟨⟨dq,osq⟩,hw''⟩:=hw'
  subst hw''
  go_wp2_with fail
  go_meet
  case rel=>exact yR
 have hy:decide (si<=y)=false:=aES Aaa;have HV:=Hq (show bb=false by rw [<-ah eY];simp[h1,h2,h3,h4,hp]);exact ax4):P:=h
theorem aAH.Kk4(h:P:=by
 have HV:=Hq (show bb=false by rw [<-ah eY];simp[h1,h2,h3,h4]);exact ax4):P:=h
theorem Yk5(h:P:=by
 cases h1:decide (1<=si/\si<=next - 1)
 case' false=>
  have a1:=rIn si 1 (next - 1) false W1 h1
  have HV:=Hq (show bb=true by rw [<-ah eY];simp[h1])
  clear eY
  refine aE5 Aab Aab ?_
  repeat (first|go_big_quiet_step ((first|(go_at_call 47;exact a1 _ _)))|quiet_step ((first|(go_at_call 47;exact a1 _ _))))
  refine aFy ?_
  intro _ hw'
  obtain⟨⟨dq,osq⟩,hw''⟩:=hw'
  subst hw''
  go_wp2_with fail
  go_meet
  case rel=>exact yR
 have a1:=rIn si 1 (next - 1) true W1 h1;cases h2:NN st
 case' false=>
  have a2:=ah R6 st false W1 pE h2
  have HV:=Hq (show bb=true by rw [<-ah eY];simp[h2])
  clear eY
  refine aE5 Aab Aab ?_
  repeat (first|go_big_quiet_step ((first|(go_at_call 47;exact a1 _ _)|(go_at_call 92;exact a2 _ _)))|quiet_step ((first|(go_at_call 47;exact a1 _ _)|(go_at_call 92;exact a2 _ _))))
  refine aFy ?_
  intro _ hw'
  obtain⟨⟨dq,osq⟩,hw''⟩:=hw'
  subst hw''
  go_wp2_with fail
  go_meet
  case rel=>exact yR
 have a2:=ah R6 st true W1 pE h2;cases h3:keyOk sx.data.toList
 case' false=>
  have a3:=afE sx false W1 (aEU hks Aaj) h3
  have HV:=Hq (show bb=true by rw [<-ah eY];simp[h3])
  clear eY
  refine aE5 Aab Aab ?_
  repeat (first|go_big_quiet_step ((first|(go_at_call 47;exact a1 _ _)|(go_at_call 92;exact a2 _ _)|(go_at_call 93;exact a3 _ _)))|quiet_step ((first|(go_at_call 47;exact a1 _ _)|(go_at_call 92;exact a2 _ _)|(go_at_call 93;exact a3 _ _))))
  refine aFy ?_
  intro _ hw'
  obtain⟨⟨dq,osq⟩,hw''⟩:=hw'
  subst hw''
  go_wp2_with fail
  go_meet
  case rel=>exact yR
 have a3:=afE sx true W1 (aEU hks Aaj) h3;cases h4:fJ sn
 case' false=>
  have a4:=KJ sn false W1 h4
  have HV:=Hq (show bb=true by rw [<-ah eY];simp[h4])
  clear eY
  refine aE5 Aab Aab ?_
  repeat (first|go_big_quiet_step ((first|(go_at_call 47;exact a1 _ _)|(go_at_call 92;exact a2 _ _)|(go_at_call 93;exact a3 _ _)|(go_at_call 90;exact a4 _ _)))|quiet_step ((first|(go_at_call 47;exact a1 _ _)|(go_at_call 92;exact a2 _ _)|(go_at_call 93;exact a3 _ _)|(go_at_call 90;exact a4 _ _))))
  refine aFy ?_
  intro _ hw'
  obtain⟨⟨dq,osq⟩,hw''⟩:=hw'
  subst hw''
  go_wp2_with fail
  go_meet
  case rel=>exact yR
 have a4:=KJ sn true W1 h4;exact Kk5):P:=h
theorem aAI.Kk5(h:P:=by
 by_cases hp:y < si
 case' neg=>
  have hy:decide (si<=y)=true:=aET Aaa
  have HV:=Hq (show bb=true by rw [<-ah eY];simp[hp])
  clear eY
  refine aE5 Aab Aab ?_
  repeat (first|go_big_quiet_step ((first|(go_at_call 47;exact a1 _ _)|(go_at_call 92;exact a2 _ _)|(go_at_call 93;exact a3 _ _)|(go_at_call 90;exact a4 _ _)))|quiet_step ((first|(go_at_call 47;exact a1 _ _)|(go_at_call 92;exact a2 _ _)|(go_at_call 93;exact a3 _ _)|(go_at_call 90;exact a4 _ _))))
  refine aFy ?_
  intro _ hw'
  obtain⟨⟨dq,osq⟩,hw''⟩:=hw'
  subst hw''
  go_wp2_with fail
  go_meet
  case rel=>exact yR
 have hy:decide (si<=y)=false:=aES Aaa;have HV:=Hq (show bb=false by rw [<-ah eY];simp[h1,h2,h3,h4,hp]);exact ax5):P:=h
theorem aAJ.Kk5(h:P:=by
 have HV:=Hq (show bb=false by rw [<-ah eY];simp[h1,h2,h3,h4]);exact ax5):P:=h
theorem Yk6(h:P:=by
 have hiI:(i:Int) < (n.reqs.length:Int):=Aaa
 have amh:=Hq hrq;clear hrq;have hp:=iY hok;have OD:=Hq (λW1 (ha:gB W1 jy n.reqs)=>BD n (⟨a_k,rU,jm,jc,jy,dH,fQ,eu,dJ,dR⟩:bq) no W1 Aaa hp.1 ha);rw [hJ] at OD;clear hp hok hJ;open as5 in exact aaE):P:=h
theorem aAK.Kk6(h:P:=by
 dsimp only at q0 q1 q2 q3 h1 h2;exact aj3):P:=h
theorem aAL.Kk6(h:P:=by
 dsimp only at q0 q1 q2 q3 h1;exact aj3):P:=h
theorem aAM.Kk6(h:P:=by
 dsimp only at q0 q1 q2 q3 h1 h2 h3;exact aj3):P:=h
theorem Yk7(h:P:=by
 open aoE in exact XP):P:=h
theorem aAN.Kk7(h:P:=by
 go_wp2_with fail;exact aEY (v:= .tuple #[xK ⟨0,F,T,0,0,k,N⟩,.bool true]) Aay rfl ⟨Aaw,fO⟩):P:=h
theorem aAO.Kk7(h:P:=by
 go_wp2_with fail;exact aEY (v:= .tuple #[xK ⟨0,F,T,0,L,k,N⟩,.bool false]) Aay rfl ⟨Aaw,fO⟩):P:=h
theorem aAP.Kk7(h:P:=by
 exact ah0):P:=h
theorem Yk8(h:P:=by
 have HUN:=Hq (λW (ha:aG W (some ⟨gp,0,none⟩) n.pu)=>Rv gp 0 fQ n.pu n.reqs[i].k n.reqs[i].n W (aEU hz.p Aaa) yX hz.pk (hz.rk _ (aE8 hi)) ha);unfold jd at HUN;rw [hu] at HUN;clear hR hst hz yX hu;have hp:=iY hok;have OD:=Hq (λW1 (ha:gB W1 jy n.reqs)=>BD n (⟨a_k,(some ⟨gp,0,none⟩),jm,jc,jy,dH,fQ,eu,dJ,dR⟩:bq) no W1 Aaa hp.1 ha);rw [hJ] at OD;clear hp hok;unfold je;have H9:=Hq h9;clear h9;have hbw0:=au w (.cells (dD n (⟨a_k,(some ⟨gp,0,none⟩),jm,jc,jy,dH,fQ,eu,dJ,dR⟩:bq)) 39);open asu in exact VQ):P:=h
theorem aAQ.Kk8(h:P:=by
 open aBP in exact awL):P:=h
theorem aAR.Kk8(h:P:=by
 open aBO in exact awL):P:=h
theorem Yk9(h:P:=by
 have HW:=Hq h;obtain⟨K,no,k,nn,⟨mK,mF,mT,mI,mL,mk,mN⟩⟩:=o;dsimp only at *;open aoL in exact XQ):P:=h
theorem aAS.Kk9(h:P:=by
 go_in
 open aA7 in exact XK):P:=h
theorem aAT.Kk9(h:P:=by
 go_in
 open aA6 in exact XK):P:=h
theorem aAU.Kk9(h:P:=by
 go_in
 exact axV):P:=h
theorem aAV.Kk9(h:P:=by
 go_in
 open aA5 in exact XK):P:=h
theorem aAW.Kk9(h:P:=by
 go_in
 open aA4 in exact XK):P:=h
theorem aAX.Kk9(h:P:=by
 go_in
 exact axV):P:=h
theorem aAY.Kk9(h:P:=by
 go_in
 open aA3 in exact XK):P:=h
theorem awF(h:P:=by
 generalize getOp (kN s ((a:Int)+4))=oc at *;generalize kN s ((a:Int)+4)=TX at *;obtain⟨K,no,k,n,⟨mK,mF,mT,mI,mL,mk,mN⟩⟩:=oc;go_wp2_with fail;refine(Ih _).mono ?_;rintro e w1 ⟨rfl,hb1⟩;have HB1:=Hq hb1;clear hb1;go_wp2_with fail;refine(ES _).mono ?_;rintro e w2 ⟨rfl,hb2⟩;have HB2:=Hq (HB1.trans (hb2.mono HB1.size));clear hb2 HB1;go_upto_region 6 with fail;refine wp_at (λW hW=>?_);have iQ:Hid (aH wr W):=by rw [hW];exact HB2.trans ((au w2 _).mono HB2.size)
 have HOW:Hid (W.heap[w2.heap.size]?=some (.cells (bV K no k n mK mF mT mI mL mk mN) 73 (0,0))):=by rw [hW];exact aEP w2 _
 clear hW HB2;refine bZ Aab ?_;show iZ _ _ _ _ 17 (Array.replicate 17 false) _ _
 refine tk [0,1,2,3,4,5,6,7,8,9,10] ?_;iterate 11 (refine lW (λK hK=>?_);go_simp;refine hK _ ?_;clear hK K)
 refine jh ?_;refine gJ 11 rfl Aab Aab Aab (λ_ _ _ _ h=>h) (λK hK=>?_);go_simp
 first
  |(refine hK _ ?_;clear hK K)
  |(apply Exists.intro
    refine⟨λ_=>?_,hK _ ?_⟩
    ((simp only[hw4];rw [aFc hw5,aFc hw6,hw7];exact⟨rfl,rfl⟩))
    clear hK K)
 refine tk [12] ?_;(refine lW (λK hK=>?_);go_simp;refine hK _ ?_;clear hK K)
 refine jh ?_;refine gJ 13 rfl Aab Aab Aab (λ_ _ _ _ h=>h) (λK hK=>?_);go_simp
 first
  |(refine hK _ ?_;clear hK K)
  |(apply Exists.intro
    refine⟨λ_=>?_,hK _ ?_⟩
    ((first|exact(HC _).mono (λe z ⟨he,hz⟩=>⟨he,hz▸aE3 _ _⟩)|exact HW _))
    clear hK K)
 refine gJ 14 rfl Aab Aab Aab (λ_ _ _ _ h=>h) (λK hK=>?_);go_simp
 first
  |(refine hK _ ?_;clear hK K)
  |(apply Exists.intro
    refine⟨λ_=>?_,hK _ ?_⟩
    ((first|exact(HC _).mono (λe z ⟨he,hz⟩=>⟨he,hz▸aE3 _ _⟩)|exact HW _))
    clear hK K)
 refine tk [15,16] ?_;open arP in exact zZ):P:=h
theorem aAZ.AaA(h:P:=by
 have HOZ:=Hq (aJ HOW hz);clear hz iQ HOW;obtain⟨⟨c0,c1,c2,c3,c4,c5,c6,c7,c8,c9,c10⟩,_⟩:=aK HOZ;have hzl:=dx HOZ;have ajz:=Hq (own_below HOWN uH);have ad1:=Hq (aZ.trans (uH.mono aZ.size));have hLl:=HS.1;go_simp;go_wp2_with (at_builtin;refine aFL _ rfl _ _ 93 rfl w.heap.size 73 i0 (.agg (bV 0 0 ByteArray.empty 0 0 0 0 0 0 ByteArray.empty 0)) 11 104 underlying93 hi hz0 hz1 hz2 rfl Aae _ _ _ rfl (ajz.alloc _) ⟨z.heap.size,0,none⟩ 1 1 (oD ⟨K,no,k,n,⟨mK,mF,mT,mI,mL,mk,mN⟩⟩) rfl rfl ?c1 ?c2 ?c3 ?c4 ?c5 ?_)
 case c1=>exact aFF (aEP z _)
 case c2=>exact Pq _
 case c3=>unfold maxLen;omega
 case c4=>omega
 case c5=>have:=ad1.size;simp;omega
 intro v' w6 hown' hgrow _;have Ol:=Hq (GR.below_append ad1 ad1.size ajz hgrow);have amc:Hid (w6.ownsRow w.heap.size 73 11 v' (L++[(⟨K,no,k,n,⟨mK,mF,mT,mI,mL,mk,mN⟩⟩:gP)]).length (GR.flat oD (L++[(⟨K,no,k,n,⟨mK,mF,mT,mI,mL,mk,mN⟩⟩:gP)]))):=by rw [aEW,yV];exact hown'
 clear hgrow hown' ajz ad1 aZ HOWN uH HOZ c0 c1 c2 c3 c4 c5 c6 c7 c8 c9 c10;go_wp2_with fail;go_roundw
 case rel=>exact⟨E,_,rfl,amc,Ol,.inl ⟨hsm,iJ⟩⟩
 case measure=>simp[intOf];omega):P:=h
theorem aA0.AaA(h:P:=by
 clear hz iQ HOW;go_simp;go_wp2_with fail;exact aEY (v:= .tuple #[.slice va L.length vc,.int .i64 a]) Acp rfl (Ke HOWN aZ HS HST uH)):P:=h
theorem awG(h:P:=by
 open arD in exact aj2):P:=h
theorem aA1.AaG(h:P:=by
 have SG:=Hq (aj Lr hz);clear hz y0 y1 y2 y3 y4 y5 y6 y7 y8 z1 SK;go_simp;obtain⟨⟨p0,p1,p2,p3,p4,p5,p6⟩,_⟩:=eF SG;have hBz:=ay SG;go_wp2_with fail;refine(IG z HZ).mono ?_;rintro e y ⟨rfl,A',G',c',v',hY⟩;have HY:=Hq hY;clear hY IG p0 p1 p2 p3 p4 p5 p6;go_wp2_with fail;go_ret;exact⟨rfl,A',G',c',v',HY⟩):P:=h
theorem aA2.AaG(h:P:=by
 clear hz y0 y1 y2 y3 y4 y5 y6 y7 y8 z1 SK;exact aiS):P:=h
theorem XK(h:P:=by
 go_upto_region 1 with fail;have y7:=aEQ c7;have z1:=aEQ p1;clear c0 c1 c2 c3 c4 c5 c6 c7 c8 c9 p0 p1 p2 p3 p4 p5 p6 p7 p8 p9 pz;refine bZ Aab ?_;show iZ _ _ _ _ 8 (Array.replicate 8 false) _ _
 refine tk [0,1,2,3,4,5,6,7] ?_;iterate 8 (refine lW (λK hK=>?_);go_simp;refine hK _ ?_;clear hK K)
 refine jh ?_;refine dW Aab (λz hz=>?_);have HZ:=Hq (HW1.step hz);have SG:=Hq (aj wH hz);clear hz y7 z1 HW1 wH;go_simp;exact AaE):P:=h
theorem aA3.AaE(h:P:=by
 clear h hc;open apN in exact aw0):P:=h
theorem aA4.AaE(h:P:=by
 open ap5 in exact aw6):P:=h
theorem aA5.AaE(h:P:=by
 open ap4 in exact aw6):P:=h
theorem aA6.AaE(h:P:=by
 clear h hc;open aup in exact agT):P:=h
theorem aA7.AaE(h:P:=by
 clear h hc he hz;open apM in exact aw0):P:=h
theorem aA8.AaE(h:P:=by
 clear h hc;go_wp2_with fail;go_ret;exact⟨rfl,A,G,c,HZ⟩):P:=h
theorem aep(h:P:=by
 have hwl:=ay h.blk;have HIO:=Hq (λw1=>Qa o w1);rw [ho] at HIO;obtain⟨K,no,k,nn,⟨mK,mF,mT,mI,mL,mk,mN⟩⟩:=o;dsimp only at *;open aoK in exact XQ):P:=h
theorem aA9.AaI(h:P:=by
 obtain rfl:=ah HKQ;obtain⟨⟨p0,p1,p2,p3,p4,p5,p6,p7,p8,p9,pz⟩,_⟩:=aK rF;have akT:=ay rF;go_wp2_with fail;refine(HAD w2 HW2).mono ?_;rintro e w3 ⟨rfl,hb3⟩;have HW3:=Hq (HW2.step hb3);have SE:=Hq (aj rF hb3);clear hb3 HAD;go_upto_region 4 with fail;refine wp_at (λW hW=>?_);have e1:W.heap[w3.heap.size]?=some (.cells #[.func (.func 199) #[.pointer (some ⟨wb,0,none⟩)] #[],.func (.func 200) #[.pointer (some ⟨wb,0,none⟩)] #[],.func (.func 201) #[.pointer (some ⟨wb,0,none⟩)] #[],.func (.func 202) #[.pointer (some ⟨wb,0,none⟩)] #[],.func (.func 203) #[.pointer (some ⟨wb,0,none⟩)] #[],.func (.func 204) #[.pointer (some ⟨wb,0,none⟩)] #[],.func (.func 205) #[.pointer (some ⟨wb,0,none⟩)] #[]] 227 (0,0)):=Ach
 have e2:=au w3 (.cells #[.func (.func 199) #[.pointer (some ⟨wb,0,none⟩)] #[],.func (.func 200) #[.pointer (some ⟨wb,0,none⟩)] #[],.func (.func 201) #[.pointer (some ⟨wb,0,none⟩)] #[],.func (.func 202) #[.pointer (some ⟨wb,0,none⟩)] #[],.func (.func 203) #[.pointer (some ⟨wb,0,none⟩)] #[],.func (.func 204) #[.pointer (some ⟨wb,0,none⟩)] #[],.func (.func 205) #[.pointer (some ⟨wb,0,none⟩)] #[]] 227);rw [<-hW] at e2;have HW4:=Hq (HW3.step e2);have R8:=Hq (aj SE e2);have c0:W.cell? ⟨w3.heap.size,6,none⟩=some (.func (.func 205) #[.pointer (some ⟨wb,0,none⟩)] #[]):=aE1 W _ 6 _ _ (0,0) e1;exact Zk2):P:=h
theorem aBa.AaI(h:P:=by
 obtain⟨⟨p0,p1,p2,p3,p4,p5,p6,p7,p8,p9,pz⟩,_⟩:=aK rF;have akT:=ay rF;have hK6:=ah Xv;go_wp2_with fail;refine(HAD w2 HW2).mono ?_;rintro e w3 ⟨rfl,hb3⟩;have HW3:=Hq (HW2.step hb3);clear hb3 p0 p1 p2 p3 p4 p5 p6 p7 p8 p9 pz HAD;go_wp2_with fail;go_ret;exact⟨rfl,A,G,c,v,by rw [aF4];exact HW3⟩):P:=h
theorem aBb.AaI(h:P:=by
 go_wp2_with fail;go_ret;exact⟨rfl,A,G,c,v,by rw [aF4];exact HW2⟩):P:=h
theorem aBd.AaI(h:P:=by
 obtain rfl:=ah HKQ;obtain⟨⟨p0,p1,p2,p3,p4,p5,p6,p7,p8,p9,pz⟩,_⟩:=aK rF;have akT:=ay rF;go_upto_region 4 with fail;refine wp_at (λW hW=>?_);have e1:W.heap[w2.heap.size]?=some (.cells #[.func (.func 199) #[.pointer (some ⟨wb,0,none⟩)] #[],.func (.func 200) #[.pointer (some ⟨wb,0,none⟩)] #[],.func (.func 201) #[.pointer (some ⟨wb,0,none⟩)] #[],.func (.func 202) #[.pointer (some ⟨wb,0,none⟩)] #[],.func (.func 203) #[.pointer (some ⟨wb,0,none⟩)] #[],.func (.func 204) #[.pointer (some ⟨wb,0,none⟩)] #[],.func (.func 205) #[.pointer (some ⟨wb,0,none⟩)] #[]] 227 (0,0)):=Ach
 have e2:=au w2 (.cells #[.func (.func 199) #[.pointer (some ⟨wb,0,none⟩)] #[],.func (.func 200) #[.pointer (some ⟨wb,0,none⟩)] #[],.func (.func 201) #[.pointer (some ⟨wb,0,none⟩)] #[],.func (.func 202) #[.pointer (some ⟨wb,0,none⟩)] #[],.func (.func 203) #[.pointer (some ⟨wb,0,none⟩)] #[],.func (.func 204) #[.pointer (some ⟨wb,0,none⟩)] #[],.func (.func 205) #[.pointer (some ⟨wb,0,none⟩)] #[]] 227);rw [<-hW] at e2;have HW4:=Hq (HW2.step e2);have R8:=Hq (aj rF e2);exact Kk1):P:=h
theorem E9(h:P:=by
 rw [hop] at ES;unfold jX at ES;clear hop;have EL:=Hq (λW (h:aH w W)=>kZ n A W hz (ha.below h));clear hz ha hok;go_in
 go_upto_region 2 with fail;refine wp_at (λW1 hW=>?_);exact AaB):P:=h
theorem aBe.AaB(h:P:=by
 open aqT in exact axe):P:=h
theorem aBf.AaB(h:P:=by
 obtain⟨e1,e2,e3,e4⟩:=gG w (.cells (dD n A) 39) (.cells (bV 2 no k nn mK mF mT mI mL mk mN) 73) (.cells lC 39);have hsz:(((w.alloc (.cells (dD n A) 39)).alloc (.cells (bV 2 no k nn mK mF mT mI mL mk mN) 73)).alloc (.cells lC 39)).heap.size=w.heap.size+3:=Aac
 generalize hW0:((w.alloc (.cells (dD n A) 39)).alloc (.cells (bV 2 no k nn mK mF mT mI mL mk mN) 73)).alloc (.cells lC 39)=W0 at *;exact Zk7):P:=h
theorem aBg.AaB(h:P:=by
 obtain⟨e1,e2,e3,e4⟩:=gG w (.cells (dD n A) 39) (.cells (bV 1 no k nn mK mF mT mI mL mk mN) 73) (.cells lC 39);have hsz:(((w.alloc (.cells (dD n A) 39)).alloc (.cells (bV 1 no k nn mK mF mT mI mL mk mN) 73)).alloc (.cells lC 39)).heap.size=w.heap.size+3:=Aac
 generalize hW0:((w.alloc (.cells (dD n A) 39)).alloc (.cells (bV 1 no k nn mK mF mT mI mL mk mN) 73)).alloc (.cells lC 39)=W0 at *;exact Zk7):P:=h
theorem aBh.AaB(h:P:=by
 open aqV in exact axf):P:=h
theorem aBi.AaB(h:P:=by
 obtain⟨e1,e2,e3,e4⟩:=gG w (.cells (dD n A) 39) (.cells (bV 6 no k nn mK mF mT mI mL mk mN) 73) (.cells lC 39);have hsz:(((w.alloc (.cells (dD n A) 39)).alloc (.cells (bV 6 no k nn mK mF mT mI mL mk mN) 73)).alloc (.cells lC 39)).heap.size=w.heap.size+3:=Aac
 generalize hW0:((w.alloc (.cells (dD n A) 39)).alloc (.cells (bV 6 no k nn mK mF mT mI mL mk mN) 73)).alloc (.cells lC 39)=W0 at *;exact Zk9):P:=h
theorem aBj.AaB(h:P:=by
 open aqU in exact axf):P:=h
theorem aBk.AaB(h:P:=by
 open aqX in exact axg):P:=h
theorem aBl.AaB(h:P:=by
 open aqZ in exact axh):P:=h
theorem aBm.AaB(h:P:=by
 obtain⟨e1,e2,e3,e4⟩:=gG w (.cells (dD n A) 39) (.cells (bV 5 no k nn mK mF mT mI mL mk mN) 73) (.cells lC 39);have hsz:(((w.alloc (.cells (dD n A) 39)).alloc (.cells (bV 5 no k nn mK mF mT mI mL mk mN) 73)).alloc (.cells lC 39)).heap.size=w.heap.size+3:=Aac
 generalize hW0:((w.alloc (.cells (dD n A) 39)).alloc (.cells (bV 5 no k nn mK mF mT mI mL mk mN) 73)).alloc (.cells lC 39)=W0 at *;open Sk1 in exact Yk0):P:=h
theorem aBn.AaB(h:P:=by
 open aqW in exact axg):P:=h
theorem aBo.AaB(h:P:=by
 open aqY in exact axh):P:=h
theorem SS(h:P:=by
 refine aE5 Aab Aab ?_;repeat (first|go_big_quiet_step (exact cO _ _)|quiet_step (exact cO _ _))
 refine aFy ?_;intro _ hw';obtain⟨⟨dq,osq⟩,hw''⟩:=hw';subst hw'';have fO:=Hq (xD.trans ((aFl _ dq osq).mono xD.size));exact AaD):P:=h
theorem aBp.AaD(h:P:=by
 clear y0 y1 y2 y3 y4 cO
 all_goals
  go_wp2_with fail
  go_roundw
  case rel=>exact⟨(j+1)+1,Aaa,Aaf,Aci,fO⟩
  case measure=>simp[intOf];omega):P:=h
theorem aBq.AaD(h:P:=by
 clear y0 y1 y2 y3 cO
 all_goals
  go_wp2_with fail
  go_roundw
  case rel=>exact⟨0+1,Aaa,Aaf,Aci,fO⟩
  case measure=>simp[intOf];omega):P:=h
theorem aBr.AaD(h:P:=by
 clear y0 y1 y2 y3 cO
 all_goals
  go_wp2_with fail
  go_ret
  exact⟨aF HBAD.symm,fO⟩):P:=h
theorem aBs.AaD(h:P:=by
 clear cO y0 y1 y2 y3 y4 y5 y6;exact ah1):P:=h
theorem aBt.AaD(h:P:=by
 clear cO y0 y1 y2 y3 y4 y5 y6;go_wp2_with fail;exact aEY (v:= .tuple #[xK ⟨1,F,T,I,L,k,N⟩,.bool false]) Aay rfl ⟨Aaw,fO⟩):P:=h
theorem aBu.AaD(h:P:=by
 clear cO y0 y1 y2 y3 y4 y5 y6;exact ah0):P:=h
theorem aBv.AaD(h:P:=by
 clear y0 y1 y2 y3 y4 cO
 all_goals
  go_wp2_with fail
  go_ret
  exact⟨aF HBAD.symm,fO⟩):P:=h
theorem ajN(h:P:=by
 go_wp2_with fail;refine wp_region_quiet_lit Aab Aab ?_;repeat (first|go_big_quiet_step ((first|(go_at_call 93;exact azH _ _ hks hkb' _ _)|(go_at_call_of 91 (IntKind.i64.wrap (pf+ps));exact qAm _ _ g4 _ _)|(go_at_call_of 91 (pf+ps);exact qAm _ _ g5 _ _)|(go_at_call_of 91 pm;exact qAm _ _ g1 _ _)|(go_at_call_of 91 pf;exact qAm _ _ g2 _ _)|(go_at_call_of 91 ps;exact qAm _ _ g3 _ _)))|quiet_step ((first|(go_at_call 93;exact azH _ _ hks hkb' _ _)|(go_at_call_of 91 (IntKind.i64.wrap (pf+ps));exact qAm _ _ g4 _ _)|(go_at_call_of 91 (pf+ps);exact qAm _ _ g5 _ _)|(go_at_call_of 91 pm;exact qAm _ _ g1 _ _)|(go_at_call_of 91 pf;exact qAm _ _ g2 _ _)|(go_at_call_of 91 ps;exact qAm _ _ g3 _ _))))
 refine aFy ?_;intro _ hw';obtain⟨nq,hw''⟩:=hw';subst hw'';go_wp2_with fail;exact AaH):P:=h
theorem aBw.AaH(h:P:=by
 go_roundw
 case rel=>exact⟨(j+1)+1,Aaa,Aaf,Aci,(aZ.alloc aZ.size _).trans ⟨rfl,rfl,rfl,aER _,λ_ _=>rfl⟩⟩
 case measure=>simp[intOf];omega):P:=h
theorem aBx.AaH(h:P:=by
 go_roundw
 case rel=>exact⟨0+1,Aaa,Aaf,Aci,(aZ.alloc aZ.size _).trans ⟨rfl,rfl,rfl,aER _,λ_ _=>rfl⟩⟩
 case measure=>simp[intOf];omega):P:=h
theorem aBy.AaH(h:P:=by
 go_ret;exact⟨aF HBAD.symm,(aZ.alloc aZ.size _).trans ⟨rfl,rfl,rfl,aER _,λ_ _=>rfl⟩⟩):P:=h
theorem awH(h:P:=by
 generalize BI (tl s a)=z at *;clear e1 e2 hrs hub hsz hH hcap;generalize mX (lu (Ep (tl s a)))=bW at *;generalize lu (Ep (tl s a))=n at *;generalize s.extract a (a+4)=hd at *;have HQ:=Hq hq;clear hn hq;have hz2:¬(z < 0):=Aaa
 have hz3:decide (z < 0)=false:=aES hz2;generalize Ep (tl s a)=tx at *;generalize iN (tl s a)=rs at *;have HC:=Hq hc;clear hc;open au7 in exact ag5):P:=h
theorem aBz.AaJ(h:P:=by
 exact aEY (v:= .tuple #[.string tx,.int .i64 (a+4+z)]) Acg rfl ⟨rfl,uH⟩):P:=h
theorem aBA.AaJ(h:P:=by
 exact aEY (v:= .tuple #[.string ⟨#[]⟩,.int .i64 (-1)]) Acg rfl ⟨rfl,uH⟩):P:=h
theorem SV(h:P:=by
 clear e5 hkx d0 d1 d2 d3 d4 d5 d6 d7 d8 f0 f1 f2 f3 f4 f5 f6 f7 f8 p0 p1 p2 p3 p4 p5 p6 p7 p8 p9 pz hnl hol sZ Lp qH HB3 nA gX;obtain⟨c0,c1,c2,c3,c4,c5,c6,c7,c8⟩:=nine iJ;obtain⟨⟨p0,p1,p2,p3,p4,p5,p6,p7,p8,p9,pz⟩,_⟩:=aK HOX;have hnl:=ay iJ;have hol:=ay HOX;exact AaC):P:=h
theorem aBB.AaC(h:P:=by
 open apv in exact awY):P:=h
theorem aBC.AaC(h:P:=by
 go_wp2_with fail;refine(jP X A1 G1 c (aE7 _) H9 HPR BR).mono ?_;rintro e W5 ⟨A2,rfl,hat,hb5,hap⟩;open att in exact agJ):P:=h
theorem aBD.AaC(h:P:=by
 go_wp2_with fail;refine(jP X A1 G1 c (aE7 _) H9 HPR BR).mono ?_;rintro e W5 ⟨A2,ma,mc,rfl,hat,hmt,hb5,hap⟩;have ad6:=Hq hmt;clear hmt;open atr in exact agJ):P:=h
theorem aBE.AaC(h:P:=by
 go_upto_region 23 with fail;clear p0 p1 p2 p3 p4 p5 p6 p7 p8 p9 pz hol;obtain⟨⟨d0,d1,d2,d3,d4,d5,d6,d7,d8⟩,f0,f1,f2,f3,f4,f5,f6,f7,f8⟩:=iT wu;have hrl:=ay wu;go_wp2_with fail;refine eP (u1:= .slice (some ⟨w.heap.size+1+1+1,0,none⟩) 0 0) (u2:= .int .i64 1) results99 rfl rfl rfl rfl wu (λW' e4 fC=>?_);open auS in exact ag0):P:=h
theorem aBF.AaC(h:P:=by
 go_upto_region 26 with fail;have hrx:=ay wu;have y0:=cZ (b:=w.heap.size+2) Aaa c0;have y1:=cZ (b:=w.heap.size+2) Aaa c1;have y2:=cZ (b:=w.heap.size+2) Aaa c2;have y3:=cZ (b:=w.heap.size+2) Aaa c3;have y4:=cZ (b:=w.heap.size+2) Aaa c4;have y5:=cZ (b:=w.heap.size+2) Aaa c5;have y6:=cZ (b:=w.heap.size+2) Aaa c6;have y7:=cZ (b:=w.heap.size+2) Aaa c7;have y8:=cZ (b:=w.heap.size+2) Aaa c8;have z2:=cZ (b:=w.heap.size+2) Aaa p2;have z3:=cZ (b:=w.heap.size+2) Aaa p3;have hwb:w.heap.size+2<=X.heap.size:=Aaa
 clear c0 c1 c2 c3 c4 c5 c6 c7 c8 p0 p1 p2 p3 p4 p5 p6 p7 p8 p9 pz;refine mZ 12 (w.heap.size+2) Aab ?_;show jH _ _ _ _ _ _ 14 (Array.replicate 14 false) _ _
 refine tk [0,1,2,3,4,5,6,7,8,9] ?_;iterate 10 (refine EI 20 (QS _) (λK hK=>?_);go_simp;first|refine hK _ ?_|(apply Exists.intro;refine⟨λ_=>?_,hK _ ?_⟩;rfl);clear hK K)
 refine jh ?_;clear y0 y1 y2 y3 y4 y5 y6 y7 y8 z2 z3 hwb hnl hol iJ HOX;refine vL 10 11 rfl rfl Aab Aad Aad Aae Aae (λx hx=>?_) (λx hx=>?_)
 .go_simp;refine⟨(au x _).mono (by have:=hx.size;omega),?_⟩;have zK:=Hq (Ge.trans hx (au x (.cells (bX 0 n.id n.par 0 0 k nn) 70)));have HM1:=Hq (aEP x (.cells (bX 0 n.id n.par 0 0 k nn) 70));have hxs:=hx.size;clear hx;refine jk 11 rfl Aab Aad Aae (λy hy=>?_);have HY:=Hq (Ge.trans zK hy);have HMY:=Hq (aj HM1 hy);have HRY:=Hq (aj wu HY);clear hy HM1 zK;obtain⟨⟨d0,d1,d2,d3,d4,d5,d6,d7,d8⟩,f0,f1,f2,f3,f4,f5,f6,f7,f8⟩:=iT HRY;have hrl:=ay HRY;go_simp;have fC:aA [w.heap.size+2] y (GR.setW y (w.heap.size+2) 0 (dD n A1).toList):=gI (dD n A1).toList y 0;refine⟨fC.below (λx hx=>by have:x=w.heap.size+2:=Aag;omega) (by have:=ay HRY;omega),?_⟩;clear fC d0 d1 d2 d3 d4 d5 d6 d7 d8 f0 f1 f2 f3 f4 f5 f6 f7 f8 hrl;refine qy Aab (λz hz=>?_);have HRZ:=Hq (aj (GR.setW_blk (dD n A1).toList (o:=0) (xs:=lC.toList) HRY) hz);have fC:aA [w.heap.size+2] X z:=(aA.of_below HY).trans ((gI (dD n A1).toList y 0).trans (aA.of_below hz));have HMZ:=Hq (aj ((gI (dD n A1).toList y 0).obj HMY (λhm=>by have:x.heap.size=w.heap.size+2:=Aaz;omega)) hz);clear hz HY HRY HMY;have hmb:w.heap.size<=x.heap.size:=Aaa
  open anO in exact awP
 .have HRY:=Hq (aj wu hx);have hxs:=hx.size;obtain⟨⟨d0,d1,d2,d3,d4,d5,d6,d7,d8⟩,f0,f1,f2,f3,f4,f5,f6,f7,f8⟩:=iT HRY;have hrl:=ay HRY;go_simp;have hkx:aA [w.heap.size+2] x (GR.setW x (w.heap.size+2) 0 (dD n A1).toList):=gI (dD n A1).toList x 0;refine⟨hkx.below (λx hx=>by have:x=w.heap.size+2:=Aag;omega) (by have:=ay HRY;omega),?_⟩;have yO:=Hq ((aA.of_below hx).trans hkx);have HR1:=Hq (GR.setW_blk (dD n A1).toList (o:=0) (xs:=lC.toList) HRY);clear hx hkx d0 d1 d2 d3 d4 d5 d6 d7 d8 f0 f1 f2 f3 f4 f5 f6 f7 f8 hrl HRY;refine jk 10 rfl Aab Aad Aae (λy hy=>?_);go_simp;have oq:=Hq (yO.trans (aA.of_below hy));have HR2:=Hq (aj HR1 hy);clear hy yO HR1;refine⟨(au y _).mono (by have:=ay HR2;omega),?_⟩;refine qy Aab (λz hz=>?_);have HRZ:=Hq (aj (aj HR2 (au y (.cells (bX 0 n.id n.par 0 0 k nn) 70))) hz);have fC:aA [w.heap.size+2] X z:=oq.trans ((aA.of_below (au y (.cells (bX 0 n.id n.par 0 0 k nn) 70))).trans (aA.of_below hz));have HMZ:=Hq (aj (aEP y (.cells (bX 0 n.id n.par 0 0 k nn) 70)) hz);have hmb:w.heap.size<=y.heap.size:=by have:=ay HR2;omega
  clear hz oq HR2;open anN in exact awP):P:=h
theorem aBG.AaC(h:P:=by
 go_upto_region 19 with fail;open anj in exact XL):P:=h
theorem aBH.AaC(h:P:=by
 open apu in exact awY):P:=h
theorem awI(h:P:=by
 cases h3:fJ lo
 case' false=>
  have cS:=KJ lo false W1 h3
  have HV:=Hq (show bb=true by rw [<-ah eY];simp[h3])
  clear eY
  refine aE5 Aab Aab ?_
  repeat (first|go_big_quiet_step ((first|(go_at_call 92;exact cN _ _)|(go_at_call 90;exact cS _ _)))|quiet_step ((first|(go_at_call 92;exact cN _ _)|(go_at_call 90;exact cS _ _))))
  refine aFy ?_
  intro _ hw'
  obtain⟨⟨dq,osq⟩,hw''⟩:=hw'
  subst hw''
  go_wp2_with fail
  go_meet
  case rel=>exact yR
 have cS:=KJ lo true W1 h3;by_cases h4:ids.length<=40
 case' neg=>
  have hq:decide ((40:Int) < ids.length)=true:=aET Aaa
  have HV:=Hq (show bb=true by rw [<-ah eY];simp[h4])
  clear eY
  refine aE5 Aab Aab ?_
  repeat (first|go_big_quiet_step ((first|(go_at_call 92;exact cN _ _)|(go_at_call 90;exact cS _ _)))|quiet_step ((first|(go_at_call 92;exact cN _ _)|(go_at_call 90;exact cS _ _))))
  refine aFy ?_
  intro _ hw'
  obtain⟨⟨dq,osq⟩,hw''⟩:=hw'
  subst hw''
  go_wp2_with fail
  go_meet
  case rel=>exact yR
 have hq:decide ((40:Int) < ids.length)=false:=aES Aaa;exact AaF):P:=h
theorem aBI.AaF(h:P:=by
 have HV:=Hq (show bb=false by rw [<-ah eY];simp[h1,h3,h4,h2]);exact ayc):P:=h
theorem aBJ.AaF(h:P:=by
 have HV:=Hq (show bb=false by rw [<-ah eY];simp[h1,h3,h4]);exact ayc):P:=h
theorem awJ(h:P:=by
 refine tk [0,1,2,5,6] ?_;open avF in exact JY):P:=h
theorem aBK.AaK(h:P:=by
 first
  |(refine hK _ ?_;clear hK K)
  |(apply Exists.intro
    refine⟨λ_=>?_,hK _ ?_⟩
    (exact N4 _)
    clear hK K)
 refine tk [21,22] ?_;iterate 2 (refine lW (λK hK=>?_);go_simp;refine hK _ ?_;clear hK K)
 refine jh ?_;refine gJ 23 rfl Aab Aab Aab (λ_ _ _ _ h=>h) (λK hK=>?_);go_simp
 first
  |(refine hK _ ?_;clear hK K)
  |(apply Exists.intro
    refine⟨λ_=>?_,hK _ ?_⟩
    (exact N5 _)
    clear hK K)
 refine tk [25,26] ?_;open arN in exact zZ):P:=h
theorem aBL.AaK(h:P:=by
 first
  |(refine hK _ ?_;clear hK K)
  |(apply Exists.intro
    refine⟨λ_=>?_,hK _ ?_⟩
    (exact NM _)
    clear hK K)
 refine gJ 20 rfl Aab Aab Aab (λ_ _ _ _ h=>h) (λK hK=>?_);go_simp
 first
  |(refine hK _ ?_;clear hK K)
  |(apply Exists.intro
    refine⟨λ_=>?_,hK _ ?_⟩
    (exact N4 _)
    clear hK K)
 clear y0 y1 y2 y3 y4 y5 y6 y7 y8 y9 y10 N1 N2 N3 N4 NM;open arj in exact axi):P:=h
theorem awK(h:P:=by
 have hTO:= @aFH prog 300 _ ReflectliteType.typeOf func300 Aab Aab Aab Aab;have hAT:= @aFH prog 350 _ (ReflectliteType.relation "AssignableTo" ReflectliteType.assignableTo) func350 Aab Aab Aab Aab;open awo in exact ahq):P:=h
theorem aBM.Aei(h:P:=by
 have el:=As.elemV a t (((w.alloc (.cells #[.pointer (some ⟨6,291,none⟩),.pointer (some a),.int .u64 150] 322)).alloc (.cells #[.iface 287 (.agg #[.iface 289 (.agg #[.int .i64 p])])] 287)).alloc (.cells #[.iface 289 (.agg #[.int .i64 p])] 287))
  (by rw [aE9 _ _ a Aah,aE9 _ _ a Aah,aE9 _ _ a hal];exact ha)
 have st:=As.setNo t ⟨w.heap.size+1+1+1,0,none⟩ p old ((((w.alloc (.cells #[.pointer (some ⟨6,291,none⟩),.pointer (some a),.int .u64 150] 322)).alloc (.cells #[.iface 287 (.agg #[.iface 289 (.agg #[.int .i64 p])])] 287)).alloc (.cells #[.iface 289 (.agg #[.int .i64 p])] 287)).alloc (.cells #[.int .i64 p] 289))
  (by rw [World.cell?_alloc_at _ _ _ _ Aac];rfl)
  (by rw [aE9 _ _ t Aah,aE9 _ _ t Aah,aE9 _ _ t Aah,aE9 _ _ t htl];exact ht)
  (by rw [aFS _ _ t Aah,aFS _ _ t Aah,aFS _ _ t Aah,aFS _ _ t (Nat.ne_of_lt htl)];exact hf)
 go_in
 go_wp2
 refine wp_loop_rounds 3 ?_;rw [rounds_succ];go_wp2
 rw [rounds_succ];go_wp2
 rw [rounds_succ];go_wp2
 go_ret;exact⟨rfl,by exact(((((aE3 _ _).alloc Aaa _).alloc Aah _).alloc Aah _).alloc Aah _).setCell (aER _) _⟩):P:=h
theorem aBN.Aei(h:P:=by
 have el:=As.elemV a t ((w.alloc (.cells #[.pointer (some ⟨6,291,none⟩),.pointer (some a),.int .u64 150] 322)).alloc (.cells #[.iface 289 (.agg #[.int .i64 p])] 287))
  (by rw [aE9 _ _ a Aah,aE9 _ _ a hal];exact ha)
 have st:=As.setNo t ⟨w.heap.size+1+1,0,none⟩ p old (((w.alloc (.cells #[.pointer (some ⟨6,291,none⟩),.pointer (some a),.int .u64 150] 322)).alloc (.cells #[.iface 289 (.agg #[.int .i64 p])] 287)).alloc (.cells #[.int .i64 p] 289))
  (by rw [World.cell?_alloc_at _ _ _ _ Aac];rfl)
  (by rw [aE9 _ _ t Aah,aE9 _ _ t Aah,aE9 _ _ t htl];exact ht)
  (by rw [aFS _ _ t Aah,aFS _ _ t Aah,aFS _ _ t (Nat.ne_of_lt htl)];exact hf)
 go_in
 go_wp2
 refine wp_loop_rounds 2 ?_;rw [rounds_succ];go_wp2
 rw [rounds_succ];go_wp2
 go_ret;exact⟨rfl,by exact((((aE3 _ _).alloc Aaa _).alloc Aah _).alloc Aah _).setCell (aER _) _⟩):P:=h
theorem awL(h:P:=by
 refine tk [0,1,2,3,4,5,6,7,8,9,10,11,12,13] ?_;iterate 14 (refine lW (λK hK=>?_);go_simp;refine hK _ ?_;clear hK K)
 refine jh ?_;clear y4 y8 z1 z2;refine fP 14 rfl Aab Aad (λx hx=>?_);go_simp;refine(HUN x (GR.At.below yD.at.p hx)).mono ?_;rintro e y ⟨v,rfl,hne,hrow,hby⟩;refine⟨hby,?_⟩;obtain⟨av,cv,rfl,_⟩:=GR.own_at (enc:=fA) (sz:=4) aQ hrow;have HRW:=Hq hrow;have HXY:=Hq (Ge.trans hx hby);have hxs:=hx.size;clear hx hby hne hrow HUN;refine tk [15,16,17,18,19] ?_;open avE in exact JY):P:=h
theorem aBO.AdF(h:P:=by
 go_wp2_with fail;refine kR results129 rfl rfl rfl aei (λW' e4 fC=>?_);have HAT:=Hq (λW'' (ho:Out c w W' W'')=>(Iz.kc (k:=9) ((KC.keeps fC (λx hx=>by have:x=w.heap.size+1:=Aag;rw [this];exact aY Aaa)).trans (KC.out H9 ho)) Aaa).rm);have rG:Hid (Below B w W'):=(uH.mono hB).trans (fC.below (λx hx=>by have:x=w.heap.size+1:=Aag;omega) (aEU hB (uH.mono hB).size));have xZ:=Hq (Apart.keeps (c:=c) (Apart.of_below uH) (uH.mono hB).size fC (λx hx=>by have:x=w.heap.size+1:=Aag;omega));clear e4 fC;exact⟨(⟨a_k,(some ⟨gp,0,none⟩),jm,jc,(some ⟨g,0,none⟩),dH,fQ,eu,dJ,dR⟩:bq),rfl,HAT,rG,xZ⟩):P:=h
theorem aBP.AdF(h:P:=by
 have q3z:z.cell? ⟨g,i*4+3,none⟩=some (.int .i64 0):=(HZ.cell (p:=⟨g,i*4+3,none⟩) hg).trans HQ3
 have g3:z.frozen? ⟨g,i*4+3,none⟩=false:=by
  obtain⟨g',rest,e',_,hb'⟩:=xQ Iz.r (show 0 < n.reqs.length by omega);simp only[aGh,Addr.mk.injEq,and_true] at e';obtain rfl:=e';exact aC hb' _
 have f4n:=aC OC 4
 have hgn:g≠w.heap.size:=λe=>by
  have h1:=Iz.cr g ((hgb g).2 rfl)
  rw [e] at h1
  have h2:newC w.heap.size 9 c w.heap.size=9:=aY (aER _)
  rw [h2] at h1
  cases h1
 have aCp:g≠w.heap.size+1:=λe=>by
  have h1:=Iz.cr g ((hgb g).2 rfl)
  rw [e] at h1
  have h2:newC w.heap.size 9 c (w.heap.size+1)=9:=aY Aaa
  rw [h2] at h1
  cases h1
 go_upto_region 13 with fail;refine wp_at (λZ2 hZ=>?_);have kQ:Hid (Z2.heap[w.heap.size]?=some (.cells (wC n.id n.par a_k n.kids.length dH n.next av RL.length cv jm n.out.length eu jc n.seen.length dJ n.old (some ⟨g,0,none⟩) n.reqs.length dR) 39 (0,0))):=by rw [hZ];exact(aFe _ _ _ _ (Ne.symm hgn)).trans (Dv OC)
 have nK:Hid (Z2.heap[w.heap.size+1]?=some (.cells lC 39 (0,0))):=by rw [hZ];exact((aFe _ _ _ _ (Ne.symm aCp)).trans (aFe _ _ _ _ (show w.heap.size+1≠w.heap.size by omega))).trans aei
 have qD:=Iz.kc (k:=9) (KC.set (g:=w.heap.size) (i:=4) (v:= .slice av RL.length cv) (aY (aER _))) Aaa;have kB:KC (newC w.heap.size 9 c) 6 (z.setCell ⟨w.heap.size,4,none⟩ (.slice av RL.length cv)) Z2:=by rw [hZ];exact KC.set (qD.cr g ((hgb g).2 rfl))
 have hwx:w.heap.size < x.heap.size/\g < x.heap.size:=by
  have:=ay nD;omega
 have hpz:Z2.ownsRow x.heap.size 155 4 (.slice av RL.length cv) RL.length (GR.flat fA RL):=by
  rw [hZ];exact dM (dM HRZ (aA.set _) (λy hy=>by have:y=w.heap.size:=Aar;omega)) (aA.set _) (λy hy=>by have:y=g:=Aar;omega)
 have hrz:=(qD.r.stored (i*4+3) (.int .i64 2)).1;rw [Px 2 n.reqs i hi,<-hZ] at hrz;have aan:=Hq (And.intro (kB.w qD.k qD.ck Aaa) (And.intro hpz (And.intro (kB.own qD.o qD.co Aaa) (And.intro (kB.seenQ qD.sq qD.c4 qD.ci Aaa Aaa) hrz))));have jP:=Hq (And.intro qD.ck (And.intro qD.co (And.intro qD.c4 (And.intro qD.ci (And.intro qD.cr qD.ni)))))
 have ajq:Hid (Below B w Z2):=by
  have hg0:B<=g:=hBg;rw [hZ];exact((uH.mono hB).setCell (p:=⟨w.heap.size,4,none⟩) hB _).setCell (p:=⟨g,i*4+3,none⟩) hg0 _
 have az7:Hid (Apart c w Z2):=λx hx hc=>by
  have hxg:x≠g:=λe=>by
   have h1:=Iz.cr g ((hgb g).2 rfl)
   rw [<-e,fE hx] at h1
   omega
  rw [hZ]
  exact(aFe _ _ _ _ hxg).trans ((aFe _ _ _ _ (Nat.ne_of_lt hx)).trans (uH.block x hx))
 clear hZ qD kB hpz hrz q3z g3 f4n c0 c1 c2 c3 c4 c5 c6 c7 c8 d0 d1 d2 d3 d4 d5 d6 d7 d8 f0 f1 f2 f3 f4 f5 f6 f7 f8 hnl hrl;obtain⟨c0,c1,c2,c3,c4,c5,c6,c7,c8⟩:=nine kQ;obtain⟨⟨d0,d1,d2,d3,d4,d5,d6,d7,d8⟩,f0,f1,f2,f3,f4,f5,f6,f7,f8⟩:=iT nK;have hnl:=ay kQ;have hrl:=ay nK;go_wp2_with fail;refine kR (u1:= .int .i64 0) results129 rfl rfl rfl nK (λW' e4 fC=>?_)
 have HAT:=Hq (λW'' (ho:Out c w W' W'')=>(show RM W'' ⟨a_k,av,jm,jc,(some ⟨g,0,none⟩),dH,cv,eu,dJ,dR⟩ (eT (setPu n RL) (n.reqs.set i (qp n.reqs[i]))) from by
  have kF:KC (newC w.heap.size 9 c) 9 Z2 W'':=(KC.keeps fC (λy hy=>by have:y=w.heap.size+1:=Aar;rw [this];exact aY Aaa)).trans (KC.out H9 ho)
  have hpF:W''.ownsRow x.heap.size 155 4 (.slice av RL.length cv) RL.length (GR.flat fA RL):=by
   obtain⟨F,hk,hF⟩:=ho;exact dM (dM aan.2.1 fC (λy hy=>by have:y=w.heap.size+1:=Aar;have:=ay wu;omega)) hk (λy hy=>by have:=(hF y hy).1;have:=ay wu;omega)
  have hp9:∀g',av.map (λy=>y.block)=some g'->6 < newC w.heap.size 9 c g':=λg' hg'=>by
   have h1:=vD hpF (tL hpF hg')
   have h2:=ay wu
   rw [aY Aaa]
   omega
  have hrF:W''.ownsRow B 148 4 (.slice (some ⟨g,0,none⟩) (n.reqs.set i (qp n.reqs[i])).length dR) (n.reqs.set i (qp n.reqs[i])).length (GR.flat aL (n.reqs.set i (qp n.reqs[i]))):=by
   rw [aF6];exact kF.own aan.2.2.2.2 jP.2.2.2.2.1 Aaa
  exact RM.of (n:=eT (setPu n RL) (n.reqs.set i (qp n.reqs[i]))) (A:=⟨a_k,av,jm,jc,(some ⟨g,0,none⟩),dH,cv,eu,dJ,dR⟩) (c:=newC w.heap.size 9 c) (kF.w aan.1 jP.1 Aaa) jP.1 (kF.seenQ aan.2.2.2.1 jP.2.2.1 jP.2.2.2.1 Aaa Aaa) jP.2.2.1 jP.2.2.2.1 jP.2.2.2.2.2
   (GR.own_ati aQ hpF) (λg' hg' _=> .inr (hp9 g' hg')) (kF.own aan.2.2.1 jP.2.1 Aaa) (λy hy=> .inl (jP.2.1 y hy)) hrF (λy hy=> .inl (jP.2.2.2.2.1 y hy))
   (λg' hg' _ h6=>⟨λe=>by have:=jP.2.1 g' e;omega,λe=>by have:=jP.2.2.2.2.1 g' e;omega⟩) (λy hy h6=>by have:=jP.2.1 y hy;omega)))
 have rG:Hid (Below B w W'):=ajq.trans (fC.below (λx hx=>by have:x=w.heap.size+1:=Aag;omega) (aEU hB ajq.size));have xZ:=Hq (Apart.keeps (c:=c) az7 ajq.size fC (λx hx=>by have:x=w.heap.size+1:=Aag;omega));clear e4 fC;exact⟨⟨a_k,av,jm,jc,(some ⟨g,0,none⟩),dH,cv,eu,dJ,dR⟩,by rw [show gU (eT (setPu n RL) (n.reqs.set i (qp n.reqs[i]))) ⟨a_k,av,jm,jc,(some ⟨g,0,none⟩),dH,cv,eu,dJ,dR⟩= .agg (wC n.id n.par a_k n.kids.length dH n.next av RL.length cv jm n.out.length eu jc n.seen.length dJ n.old (some ⟨g,0,none⟩) n.reqs.length dR) from by simp[gU,dD,eT,setPu]],HAT,rG,xZ⟩):P:=h
theorem awM(h:P:=by
 go_wp2_with (go_at_call 122;refine(ad3 _ ajt.at).mono ?_;rintro e wh ⟨rfl,rfl⟩)
 exact Aej):P:=h
theorem aBQ.Aej(h:P:=by
 exact axD):P:=h
theorem aBR.Aej(h:P:=by
 refine(Sg W7 aec.at.p).mono ?_;rintro e W8 ⟨v8,rfl,aCF,ab6,IX⟩;obtain⟨av,cv,rfl,_⟩:=GR.own_at (enc:=fA) (sz:=4) aQ ab6;have HRW:=Hq (zW.own aQ ab6);have alN:=Hq (aj aae IX);have vX:=Hq (aj sJ IX);have al6:=Hq (aj ad9 IX);have IJ:=Hq (aj wI IX);have amn:=Hq (aj aen IX);have al0:=Hq (ajt.below IX);have ajy:=Hq (aec.kc (k:=9) (KC.of_below IX) Aaa);have ajn:=Hq (ajm.trans (IX.mono Aaa));have ajw:=Hq (ajv.step Aaa IX);have hz8:W7.heap.size<=W8.heap.size:=IX.size;clear IX aCF ab6 Sg ad3 c0 c1 c2 c3 c4 c5 c6 c7 c8 m0 m1 m2 m3 m4 m5 m6 s70 s71 s72 hnl hml aCR aae sJ ad9 wI aen ajt aec ajm ajv;by_cases hgn:ok=true/\(cu s0 mL).length < 40
 .obtain⟨rfl,hgn⟩:=hgn;obtain rfl:=r3 hhas rfl hgn;clear r2 r3;obtain⟨c0,c1,c2,c3,c4,c5,c6,c7,c8⟩:=nine vX;have cf:=aC vX 4;have hnl:=ay vX;have aCi:decide ((40:Int)<=((cu s0 mL).length:Int))=false:=aES Aaa;go_upto_region 22 with fail;refine wp_at (λW9 hW9=>?_);have hnb:w.heap.size≠gi:=Aaa
  have WG:aA [w.heap.size] W8 W9:=by rw [hW9];exact aA.set _
  have DY:Hid (W9.heap[w.heap.size]?=some (.cells (wC n.id n.par a_k n.kids.length dH n.next av RL.length cv jm n.out.length eu (some ⟨G.s,0,none⟩) n.seen.length dJ n.old jy n.reqs.length dR) 39 (0,0))):=by rw [hW9];exact aP vX 4 _
  have aea:=Hq (WG.obj al6 (λhx=>Abe));have zU:=Hq (WG.obj IJ (λhx=>Abe));have aas:=Hq (WG.obj amn (λhx=>Aak));have alO:=Hq (WG.obj alN (λhx=>Aak));have aju:=Hq (al0.keeps WG (λx hx hm=>by have h1:=(dw hx).1;simp at hm;omega));have aed:=Hq (ajy.kc (k:=9) (KC.keeps WG (λx hx=>by have:x=w.heap.size:=Aag;rw [this];exact BP _ (aER _) hnb)) Aaa);have adZ:=Hq (ajn.trans (WG.below (B:=B) (λx hx=>Aak) Aaa));have ad4:=Hq (Apart.keeps (c:=c) ajw Aaa WG (λx hx=>by have:x=w.heap.size:=Aag;omega));have HP9:=Hq (HRW.keeps WG (λx hx=>Aak));have hz9:W8.heap.size<=W9.heap.size:=WG.size;clear hW9 WG HRW vX al6 IJ amn alN al0 ajy ajn ajw c0 c1 c2 c3 c4 c5 c6 c7 c8 cf hnl;obtain⟨m0,m1,m2,m3,m4,m5,m6⟩:=jS aea;have hml:=ay aea;obtain⟨pos,hpos⟩:∃pos,((cu s0 mL).takeWhile (λy=>decide (y < mI))).length=pos:=⟨_,rfl⟩;have HIN:=Hq (show lK (cu s0 mL) mI=(cu s0 mL).take pos++([mI]++(cu s0 mL).drop pos) by rw [<-hpos];exact acu _ _);have hpl:pos<=(cu s0 mL).length:=by rw [<-hpos];exact azS _ _
  have JR:=Hq hpos;clear hpos;go_upto_block 4 with fail;go_cut [14] from 15 (λj wx=>j= .int .i64 (pos:Nat)/\Ge W9 wx)
  case first=>
   go_wp2_with fail;go_loopw [14] (λj wr=>∃x q:Nat,x<=(cu s0 mL).length/\j= .int .i64 x/\(∀y (hy:y < (cu s0 mL).length),y < x->(cu s0 mL)[y] < mI)/\wr=W9.drewN q) (λj _=>(cu s0 mL).length - (intOf j).toNat)
   case atStart=>exact⟨0,0,aE7 _,rfl,λy hy h=>Aaa,rfl⟩
   case round=>
    obtain⟨x,q,hx,rfl,hlo,rfl⟩:=hrel;have HLO:=Hq hlo;clear hlo;by_cases hlt:x < (cu s0 mL).length
    .obtain⟨_,hgb,hcell⟩:=(ah aju) x hlt;open arH in exact agm
    .have hje:x=(cu s0 mL).length:=Aaa
     subst hje;have HJ:=Hq (adJ (l:=cu s0 mL) (x:=mI) (aER _) HLO (λh=>absurd h (Nat.lt_irrefl _)));have abR:decide (((cu s0 mL).length:Int) < ((cu s0 mL).length:Int))=false:=Aac
     exact ahF
  case rest=>
   obtain⟨rfl,hge⟩:=hcut;clear m0 m1 m2 m3 m4 m5 m6 hml;go_upto_region 25 with fail;refine wp_at (λSL aCa=>?_);subst aCa;have aga:=Hq (aj DY hge);have aai:=Hq (aj aea hge);have agd:=Hq (aj zU hge);have aap:=Hq (aj aas hge);have afW:=Hq (aj alO hge);have Vu:=Hq (aju.below hge);have af9:=Hq (aed.kc (k:=9) (KC.of_below hge) Aaa);have afY:=Hq (adZ.trans (hge.mono Aaa));have af5:=Hq (ad4.step Aaa hge);have aef:=Hq (HP9.below hge);have aEn:W9.heap.size<=SL.heap.size:=hge.size;clear hge DY aea zU aas alO aju aed adZ ad4 HP9;have ayZ:=ay aap;have aDR:∀x∈fp gi (cu s0 mL),x < SL.heap.size:=XJ Vu;go_cut [14] from 15 (λ_ wx=>∃g2 cq2,SL.heap.size<=g2/\wx.ownsRow SL.heap.size 3 1 (.slice (some ⟨g2,0,none⟩) ((cu s0 mL).length+1) cq2) ((cu s0 mL).length+1) (GR.flat bg (lK (cu s0 mL) mI))/\wx.heap[sb]?=some (.cells #[.int .i64 mF,.int .i64 (gu s0 mL),.slice (some ⟨g2,0,none⟩) ((cu s0 mL).length+1) cq2] 130 (0,0))/\aA [sb] SL wx)
   case first=>
    obtain⟨m0,m1,m2,m3,m4,m5,m6⟩:=jS aai;have hml:=ay aai;have hwb:SL.heap.size<=SL.heap.size:=aER _;have y3:=cZ hml m3;clear m0 m1 m2 m3 m4 m5 m6;have hpc:pos<=Ye:=Aaa
    have Lu:=Hq (show bH SL (some ⟨gi,0,none⟩) ((cu s0 mL).take pos) from GR.At.take Vu.at pos)
    obtain⟨AD,hAD,hDR⟩:∃AD,(if Ye=pos then some (⟨gi,0,none⟩:Addr) else some ⟨gi,pos,none⟩)=AD/\bH SL AD ((cu s0 mL).drop pos):=by
     by_cases hcz:Ye=pos
     .refine⟨_,rfl,?_⟩;rw [show(cu s0 mL).drop pos=[] by apply aGc;omega];exact GR.at_nil _ _
     .refine⟨_,rfl,?_⟩;rw [aE2 hcz];have h:=GR.At.drop Vu.at pos;rw [Nat.mul_one] at h;exact h
    have HDR:=Hq hDR;clear hDR;refine mZ 14 SL.heap.size Aab ?_;show jH _ _ _ _ _ _ 15 (Array.replicate 15 false) _ _
    refine tk [1,2,3,5,6,9,10,11] ?_;iterate 8 (refine EI 20 (QS _) (λK hK=>?_);go_simp;first|refine hK _ ?_|(apply Exists.intro;refine⟨λ_=>?_,hK _ ?_⟩;rfl);clear hK K)
    refine jh ?_;clear y3;have hlt1:((cu s0 mL).take pos).length=pos:=Abk
    have akL:((cu s0 mL).drop pos).length=(cu s0 mL).length - pos:=by rw [aFA]
    have HE:=Hq (show(cu s0 mL).take pos++[mI]++(cu s0 mL).drop pos=lK (cu s0 mL) mI by rw [ah HIN,aFx]);have zT:=Hq (show(lK (cu s0 mL) mI).length=(cu s0 mL).length+1 by rw [<-ah HE];simp;omega);refine H7 (enc:=bg) (sz:=1) (e:=mI) (i:=i0) (ve:= .int .i64 mI) 0 4 7 8 12 127 131 134 135 139 133 130 138 aX Aaa (λx u hu=>by simp at hu;subst hu;rfl) underlying22 hi0 hz0 hz1' hz2 rfl Lu HDR hlt1 akL Aaa Aae Aae rfl rfl rfl Aab ⟨rfl,rfl,rfl,rfl⟩ ⟨rfl,rfl,rfl,rfl⟩ ⟨rfl,rfl,rfl,rfl⟩ ⟨rfl,rfl,rfl,rfl⟩ ⟨rfl,rfl,rfl,rfl⟩ Aab (H:=λv0 v4 v7 v8 v12 y5 hG hV=>?_);have rR:=Hq hG;rw [ah HE,ah zT] at hV
    obtain⟨g,cv,rfl,hbg⟩:∃g cv,v12= .slice (some ⟨g,0,none⟩) ((cu s0 mL).length+1) cv/\SL.heap.size<=g:=by
     rcases hV.2 with⟨_,hn⟩|⟨g,cap,_,hv,hbg,_⟩
     .omega
     .exact⟨g,cap,hv,hbg⟩
    have HV5:=Hq hV;clear hG hV;have aCU:SL.heap.size<=y5.heap.size:=rR.size;refine tk [13] ?_;open ase in exact agq
   case rest=>
    obtain⟨g2,cq2,hg2,hown2,ayV,Mh⟩:=hcut;have aaq:=Hq ayV;have Vx:=Hq (Mh.obj aga (λhx=>Aak));have agf:=Hq (Mh.obj agd (λhx=>Aak));have afX:=Hq (Mh.obj afW (λhx=>Aak));have aaj:=Hq (af9.kc (k:=9) (KC.keeps Mh (λx hx=>by have:x=sb:=Aag;rw [this];exact BP _ Aaa Aaa)) Aaa);have afZ:=Hq (afY.trans (Mh.below (B:=B) (λx hx=>Aak) Aaa));have af6:=Hq (Apart.keeps (c:=c) af5 Aaa Mh (λx hx=>by have:x=sb:=Aag;omega));have amd:=Hq (aef.keeps Mh (λx hx=>Aak));have aEo:SL.heap.size<=wc.heap.size:=Mh.size;have abO:(lK (cu s0 mL) mI).length=(cu s0 mL).length+1:=by rw [ah HIN];simp;omega
    have ab2:wc.ownsRow SL.heap.size 3 1 (.slice (some ⟨g2,0,none⟩) (lK (cu s0 mL) mI).length cq2) (lK (cu s0 mL) mI).length (GR.flat bg (lK (cu s0 mL) mI)):=by rw [abO];exact hown2
    have HW2:=Hq (WO.of_own (agk (l:=lK (cu s0 mL) mI) aX ab2) ab2 (λe=>by rw [e] at abO;simp at abO))
    have Oc:Hid (∀g,av.map (λy=>y.block)=some g->0 < RL.length->W7.heap.size<=g/\g < SL.heap.size):=λg hg hp=>by
     obtain⟨g',off,e,hgl,_⟩:=aef.1 0 hp
     have h2:=aef.2 g' off e
     rw [e] at hg
     cases hg
     exact⟨h2,hgl⟩
    have aDQ:g2 < wc.heap.size:=(hown2.lt g2 rfl).2;have akM:g2≠gi:=Aaa
    have ayL:i < (n.seen.set i ⟨mF,gu s0 mL,cu s0 mL⟩).length:=by rw [aF6];exact hi
    have HNP:=Hq (aaj.seenPut i ayL ⟨mF,gu s0 mL,lK (cu s0 mL) mI⟩ (some ⟨g2,0,none⟩) cq2 g2 HW2 (λx hx=>by rw [(dw hx).1];exact BP _ Aaa akM));obtain⟨T,hT,hlT,hrT⟩:=aaj.s;obtain⟨_,_,hcT⟩:=hT i (by rw [hlT];exact ayL);open anQ in exact awQ
 .have hgn:ok=false\/40<=(cu s0 mL).length:=by
   cases ok
   .exact .inl rfl
   .exact .inr (by have:¬(cu s0 mL).length < 40:=λh=>hgn ⟨rfl,h⟩;omega)
  obtain rfl:=r2 hhas hgn;clear r2 r3;have hb9:=au W8 (.cells #[] 70);have DY:=Hq (aj vX hb9);have zU:=Hq (aj IJ hb9);have aed:=Hq (ajy.kc (k:=9) (KC.of_below hb9) Aaa);have adZ:=Hq (ajn.trans (hb9.mono Aaa));have ad4:=Hq (ajw.step Aaa hb9);have hz9:(W8.alloc (.cells #[] 70)).heap.size=W8.heap.size+1:=Aac
  clear hb9;obtain⟨c0,c1,c2,c3,c4,c5,c6,c7,c8⟩:=nine vX;obtain⟨⟨d0,d1,d2,d3,d4,d5,d6,d7,d8⟩,f0,f1,f2,f3,f4,f5,f6,f7,f8⟩:=iT zU;have hnl:=ay vX;have hrl:=ay zU;cases ok
  .exact axE
  .have h40:40<=(cu s0 mL).length:=by
    rcases hgn with h|h
    .cases h
    .exact h
   have aCi:decide ((40:Int)<=((cu s0 mL).length:Int))=true:=aET Aaa;exact axE):P:=h
theorem ajO(h:P:=by
 have hb:=au W0 (.cells #[] 70);have hW1:W1=W0.alloc (.cells #[] 70):=by rw [hW,<-hW0]
 rw [<-hW1] at hb;have HN:=Hq (aj e1 hb);have HO:=Hq (aj e2 hb);have HR:=Hq (aj e3 hb);have HB1:=Hq (e4.trans (hb.mono e4.size));clear hW hW0 hW1 e1 e2 e3 e4 hb;obtain⟨c0,c1,c2,c3,c4,c5,c6,c7,c8⟩:=nine HN;obtain⟨⟨p0,p1,p2,p3,p4,p5,p6,p7,p8,p9,pz⟩,_⟩:=aK HO;have hnl:=ay HN;have hol:=ay HO;go_wp2_with fail;refine(nH W1 HB1).mono ?_;rintro e W2 ⟨rfl,hb2⟩;have kQ:=Hq (aj HN hb2);have IC:=Hq (aj HO hb2);have nK:=Hq (aj HR hb2);have HB2:=Hq (HB1.trans (hb2.mono HB1.size));clear hb2 c0 c1 c2 c3 c4 c5 c6 c7 c8 p0 p1 p2 p3 p4 p5 p6 p7 p8 p9 pz hnl hol nH HN HO HR HB1;exact AcK):P:=h
theorem aBS.AcK(h:P:=by
 obtain⟨c0,c1,c2,c3,c4,c5,c6,c7,c8⟩:=nine kQ;have hnl:=ay kQ;go_wp2_with fail;refine(EL W2 HB2).mono ?_;rintro e W3 ⟨A1,G1,cc,rfl,hNO,hb3,_,_⟩;have qH:=Hq (aj nK hb3);have HB3:=Hq (HB2.trans (hb3.mono HB2.size));have nA:=Hq hNO;have hrs:=ay nK;clear hb3 hNO c0 c1 c2 c3 c4 c5 c6 c7 c8 hnl EL kQ IC nK;exact axL):P:=h
theorem aBT.AcK(h:P:=by
 open apT in exact aw3):P:=h
theorem aBU.AcK(h:P:=by
 open apS in exact aw3):P:=h
theorem aaW(h:P:=by
 go_upto_region 6 with fail;refine Fo.wp_at (λV hV=>?_);open auK in exact agW):P:=h
theorem aBV.Aa7(h:P:=by
 open arn in exact axj):P:=h
theorem aBW.Aa7(h:P:=by
 open arl in exact axj):P:=h
theorem aBX.Aa7(h:P:=by
 open awt in exact ahr):P:=h
theorem amE.Aa7(h:P:=by
 clear hblk hV c0 c1 c2 c3;open avk in exact ag9):P:=h
theorem amF.Aa7(h:P:=by
 clear hblk hV c0 c1 c2 c3;open avh in exact ag8):P:=h
theorem uI(h:P:=by
 have hke:k=l.length:=Aaa
 subst hke;have hnlt:decide ((l.length:Int) < (l.length:Int))=false:=Aac
 exact AaL):P:=h
theorem amG.AaL(h:P:=by
 have HX:=Hq (show aD l key=⟨key,0,0,0⟩ by
  have h:=ah HN
  rw [aFh] at h
  unfold aD
  rw [h]
  rfl)
 go_wp2_with fail;refine aEY (v:= .agg (iX key 0 0 0)) (by simp[results,results159,go_sem]) rfl ⟨by rw [ah HX],?_⟩;exact(aE3 _ _).alloc (aER _) _):P:=h
theorem amH.AaL(h:P:=by
 have h:=ah HN;rw [aFh] at h;have HF:=Hq h;clear h;go_wp2_with fail;go_ret;exact⟨aF HF.symm,rfl⟩):P:=h
theorem amI.AaL(h:P:=by
 have h:=ah HN;rw [aFh] at h;have HF:=Hq h;clear h;go_wp2_with fail;go_ret;exact⟨⟨-1,rfl,by rw [ah HF];rfl⟩,rfl⟩):P:=h
theorem amJ.AaL(h:P:=by
 go_wp2_with fail;go_ret;exact⟨rfl,⟨T,I,HB,hTl,HI,HIM⟩,aZ⟩):P:=h
theorem amK.AaL(h:P:=by
 have h:=ah HM;rw [aFh] at h;have HME:=Hq h;clear hm h;go_wp2_with fail;go_ret;exact⟨mU (by rw [ah HME]),aZ⟩):P:=h
theorem amL.AaL(h:P:=by
 have h:=ah HM;rw [aFh] at h;have HME:=Hq h;have hS:=ah HR;rw [afq] at hS;have HS:=Hq hS;clear hm h hS;go_wp2_with fail;go_ret;exact⟨mU (by rw [ah HME]),HS,HK⟩):P:=h
theorem amM.AaL(h:P:=by
 have HX:=Hq (show aD l key=⟨key,0,0,0⟩ by
  have h:=ah HN
  rw [aFh] at h
  unfold aD
  rw [h]
  rfl)
 go_wp2_with fail;refine(jP _).mono ?_;rintro e w1 ⟨rfl,hb1⟩;have hB:w1.heap[w.heap.size]?=some (.cells (iX ⟨#[]⟩ 0 0 0) 155 (0,0)):=by rw [hb1.block _ afa];exact Ig
 have HB:=Hq hB;have HB2:=Hq (aZ.trans (hb1.mono aZ.size));obtain⟨⟨r0,r1,r2,r3⟩,s0,s1,s2,s3⟩:=fZ hB;clear hB hb1;go_wp2_with fail;clear r0 r1 r2 r3;refine Fo.bodyPost_at (λW' hW'=>?_);obtain⟨⟨r0,r1,r2,r3⟩,_⟩:=fZ (show W'.heap[w.heap.size]?=some (.cells (iX key 0 0 0) 155 (0,0)) by rw [hW'];exact Fo.four_set HB);have hbb:aH w W':=by rw [hW'];exact Fo.four_below HB2 (aER _)
 refine aEY (v:= .agg (iX key 0 0 0)) (by simp[results,results244,go_sem,r0,r1,r2,r3]) rfl ⟨by rw [ah HX],hbb⟩):P:=h
theorem amN.AaL(h:P:=by
 go_wp2_with fail;go_ret;exact⟨a',c',g,hg,rfl,HB,aZ⟩):P:=h
theorem amO.AaL(h:P:=by
 go_wp2_with fail;go_ret2
 have h:=ah HP;rw [aFh] at h;exact⟨_,_,_,rfl,h,aZ⟩):P:=h
theorem amP.AaL(h:P:=by
 have Sb:=Hq (place_at l pk l.length (aER _) jA (λh=>absurd h (Nat.lt_irrefl _))).1;exact aif):P:=h
theorem amQ.AaL(h:P:=by
 go_wp2_with fail;go_ret;exact⟨_,rfl,GR.own_below HO aZ,HB1.trans (aZ.mono HB1.size)⟩):P:=h
theorem amR.AaL(h:P:=by
 have HF:=Hq (Zd jA);go_wp2_with fail;go_ret;exact⟨aF (by rw [ah HF];simp<;>omega),aZ⟩):P:=h
theorem amS.AaL(h:P:=by
 go_wp2_with fail;go_ret;have h:=ah jA;rw [aFh] at h;exact⟨z,rfl,.inr ⟨hz0,hz1,Aaa,h⟩,aZ⟩):P:=h
theorem amT.AaL(h:P:=by
 go_wp2_with fail;go_ret;have h:=ah jA;rw [aFh] at h;exact⟨z,rfl,aZ,.inr ⟨hz0,hz1,Aaa,h⟩⟩):P:=h
theorem amU.AaL(h:P:=by
 have HP:=Hq (take_same HN HT);go_wp2_with fail;go_ret;exact .yes HP aZ):P:=h
theorem amV.AaL(h:P:=by
 go_wp2_with fail;go_ret;exact⟨rfl,aZ⟩):P:=h
theorem amW.AaL(h:P:=by
 clear hm;go_wp2_with fail;go_ret;exact⟨mU (by have:=ah HM;omega),aZ⟩):P:=h
theorem amX.AaL(h:P:=by
 clear hm;go_wp2_with fail;go_ret;exact⟨mU (by have:=ah HM;omega),HR,HK⟩):P:=h
theorem amY.AaL(h:P:=by
 go_wp2_with fail;go_ret;have h:=ah HB;rw [aFh,Nat.sub_self,List.replicate_zero,aF4] at h;exact⟨rfl,h,aZ⟩):P:=h
theorem ajP(h:P:=by
 have HN:=Hq (λw1=>aO n true w1 hn);have HP:=Hq (show R=(decide (no=0)&&true&&true&&mq ⟨mK,mF,mT,mI,mL,mk,mN⟩) by rw [<-ah HR];simp[bQ,hk,hn]);open au3 in exact ag3):P:=h
theorem amZ.AbS(h:P:=by
 have hX:W.heap[w.heap.size+1]?=some (.cells (bV 4 0 k n 0 0 0 0 0 ⟨#[]⟩ 0) 73 (0,0)):=Abo
 have hY:W.heap[w.heap.size]?=some (.cells (bV 4 no k n mK mF mT mI mL mk mN) 73 (0,0)):=Abp
 exact akc):P:=h
theorem am0.AbS(h:P:=by
 have hX:W.heap[w.heap.size+1]?=some (.cells (bV 3 0 k n 0 0 0 0 0 ⟨#[]⟩ 0) 73 (0,0)):=Abo
 have hY:W.heap[w.heap.size]?=some (.cells (bV 3 no k n mK mF mT mI mL mk mN) 73 (0,0)):=Abp
 exact akc):P:=h
theorem am1.AbS(h:P:=by
 have hX:W.heap[w.heap.size+1]?=some (.cells (bV 0 0 k n 0 0 0 0 0 ⟨#[]⟩ 0) 73 (0,0)):=Abo
 have hY:W.heap[w.heap.size]?=some (.cells (bV 0 no k n mK mF mT mI mL mk mN) 73 (0,0)):=Abp
 exact akc):P:=h
theorem aer(h:P:=by
 have hrs:(iN (tl s a)).size<=maxLen:=by have:=uh (tl s a);rw [xW] at this;unfold maxLen;omega
 have HG:=Hq (MC (iN (tl s a)) 0 hrs w hH);have hub:=UK (iN (tl s a)) 0;have hsz:=uh (tl s a);have hz1:BI (tl s a)<=1002:=by unfold BI;omega
 have e1:kN (iN (tl s a)) 0=Ep (tl s a):=rfl;have e2:jg (iN (tl s a)) 0=BI (tl s a):=rfl;rw [e1,e2] at HG;exact AbJ):P:=h
theorem am2.AbJ(h:P:=by
 generalize BI (tl s a)=z at *;clear e1 e2 hrs hub hsz hH hcap hs;generalize Ep (tl s a)=tx at *;generalize iN (tl s a)=rs at *;have HC:=Hq hc;clear hc;rw [h4];clear h4;exact axF):P:=h
theorem am3.AbJ(h:P:=by
 generalize BI (tl s a)=z at *;clear e1 e2 hrs hub hsz hH hcap;generalize Ep (tl s a)=tx at *;generalize iN (tl s a)=rs at *;have HC:=Hq hc;clear hc;exact axF):P:=h
theorem am4.AbJ(h:P:=by
 open asZ in exact agC):P:=h
theorem am5.AbJ(h:P:=by
 open asY in exact agC):P:=h
theorem ajQ(h:P:=by
 open auF in exact agV):P:=h
theorem am6.AbQ(h:P:=by
 open asR in exact aaD):P:=h
theorem am7.AbQ(h:P:=by
 obtain⟨g,e0,hBg,hgb⟩:∃g,jy=some ⟨g,0,none⟩/\B<=g/\(∀x,(Value.slice jy n.reqs.length dR).ownBlock=some x↔x=g):=by
  exact axp
 obtain⟨g',off,e0',hg,q0,q1,q2,q3⟩:=gB.four yD.at.r i hi;rw [e0] at e0';simp only[aGh,Addr.mk.injEq,and_true] at e0';obtain⟨rfl,rfl⟩:=e0';rw [aFE] at q0 q1 q2 q3;rw [ah HST] at q3;open asQ in exact aaD):P:=h
theorem am8.AbQ(h:P:=by
 obtain⟨g,off,e0,hg,q0,q1,q2,q3⟩:=gB.four yD.at.r i hi;rw [ah HST] at q3;open asP in exact aaD):P:=h
theorem aes(h:P:=by
 have h1:uY F=true:=by unfold nG at hr;simp only[aEX] at hr;exact hr.1.1
 have h2:uY T=true:=by unfold nG at hr;simp only[aEX] at hr;exact hr.1.2
 have hft:¬F=T:=by unfold nG at hr;simp only[aEX,aFu] at hr;exact hr.2
 have H1:=Hq (λw1=>nZ F true w1 h1);have H2:=Hq (λw1=>nZ T true w1 h2);clear h1 h2;exact AbI):P:=h
theorem am9.AbI(h:P:=by
 have HP:=Hq (show bY ⟨K,F,T,I,L,k,N⟩=false by simp[bY,hr,k0,k1,k2]);clear hr;exact ahM):P:=h
theorem ana.AbI(h:P:=by
 cases hc2:fJ I
 case' false=>
  have HP:=Hq (show bY ⟨2,F,T,I,L,k,N⟩=false by simp[bY,hr,hc2]);have Df:=Hq (λw1=>eH I false w1 hc2);exact akd
 have Df:=Hq (λw1=>eH I true w1 hc2);by_cases hz:k.size=0
 case' neg=>
  have hne:k.toList.isEmpty=false:=kW k Aaa;have HP:=Hq (show bY ⟨2,F,T,I,L,k,N⟩=false by simp[bY,hr,hc2,hz]);exact akd
 obtain rfl:=eq_empty k hz;by_cases hzN:N=0
 case' neg=>
  have HP:=Hq (show bY ⟨2,F,T,I,L,ByteArray.empty,N⟩=false by simp[bY,hr,hc2,hz,hzN]);have he:(N == 0)=false:=by simp[hzN]
  exact ax3
 subst hzN;by_cases hzL:L=0
 case' neg=>
  have HP:=Hq (show bY ⟨2,F,T,I,L,ByteArray.empty,0⟩=false by simp[bY,hr,hc2,hz,hzL]);have he:(L == 0)=false:=by simp[hzL]
  exact ax3
 subst hzL;have HP:=Hq (show bY ⟨2,F,T,I,0,ByteArray.empty,0⟩=true by simp[bY,hr,hc2,hz]);exact akd):P:=h
theorem anb.AbI(h:P:=by
 cases hc2:keyOk k.data.toList
 case' false=>
  have HP:=Hq (show bY ⟨1,F,T,I,L,k,N⟩=false by simp[bY,hr,hc2]);exact ax7
 have Df:=Hq (λw1=>oW k true w1 hs hc2);cases hc3:fJ N
 case' false=>
  have HP:=Hq (show bY ⟨1,F,T,I,L,k,N⟩=false by simp[bY,hr,hc2,hc3]);have HC3:=Hq (λw1=>eH N false w1 hc3);exact akb
 have HC3:=Hq (λw1=>eH N true w1 hc3);cases hc4:fJ I
 case' false=>
  have HP:=Hq (show bY ⟨1,F,T,I,L,k,N⟩=false by simp[bY,hr,hc2,hc3,hc4]);have HC4:=Hq (λw1=>eH I false w1 hc4);clear hr hc2 hc3 hc4;go_in
  go_wp2_with (first|(go_at_call_of 121 F;refine(H1 _).mono ?_;rintro e w1 ⟨rfl,rfl⟩)|(go_at_call_of 121 T;refine(H2 _).mono ?_;rintro e w1 ⟨rfl,rfl⟩)|(go_at_call_of 93 k;refine(Df _).mono ?_;rintro e w1 ⟨rfl,rfl⟩)|(go_at_call_of 90 N;refine(HC3 _).mono ?_;rintro e w1 ⟨rfl,rfl⟩)|(go_at_call_of 90 I;refine(HC4 _).mono ?_;rintro e w1 ⟨rfl,rfl⟩))
  exact yh
 have HC4:=Hq (λw1=>eH I true w1 hc4);cases Ea:decide (1<=L/\L<=I)
 case' false=>
  have HP:=Hq (show bY ⟨1,F,T,I,L,k,N⟩=false by simp[bY,hr,hc2,hc3,hc4,Ea]);have HC5:=Hq (λw1=>zf L 1 I false w1 Ea);exact axY
 have HC5:=Hq (λw1=>zf L 1 I true w1 Ea);have HP:=Hq (show bY ⟨1,F,T,I,L,k,N⟩=true by simp[bY,hr,hc2,hc3,hc4,Ea]);exact axY):P:=h
theorem ane.AbI(h:P:=by
 cases hc2:keyOk k.data.toList
 case' false=>
  have HP:=Hq (show bY ⟨0,F,T,I,L,k,N⟩=false by simp[bY,hr,hc2]);exact ax7
 have Df:=Hq (λw1=>oW k true w1 hs hc2);cases hc3:fJ N
 case' false=>
  have HP:=Hq (show bY ⟨0,F,T,I,L,k,N⟩=false by simp[bY,hr,hc2,hc3]);have HC3:=Hq (λw1=>eH N false w1 hc3);exact akb
 have HC3:=Hq (λw1=>eH N true w1 hc3);by_cases hzI:I=0
 case' neg=>
  have HP:=Hq (show bY ⟨0,F,T,I,L,k,N⟩=false by simp[bY,hr,hc2,hc3,hzI]);have he:(I == 0)=false:=by simp[hzI]
  exact ax0
 subst hzI;by_cases hzL:L=0
 case' neg=>
  have HP:=Hq (show bY ⟨0,F,T,0,L,k,N⟩=false by simp[bY,hr,hc2,hc3,hzL]);have he:(L == 0)=false:=by simp[hzL]
  exact ax0
 subst hzL;have HP:=Hq (show bY ⟨0,F,T,0,0,k,N⟩=true by simp[bY,hr,hc2,hc3]);exact akb):P:=h
theorem XL(h:P:=by
 have y0:=aEQ c0;have y1:=aEQ c1;have y2:=aEQ c2;have y3:=aEQ c3;have y4:=aEQ c4;have y5:=aEQ c5;have y6:=aEQ c6;have y7:=aEQ c7;have y8:=aEQ c8;exact Aa1):P:=h
theorem anf.Aa1(h:P:=by
 have x0:=aEQ d0;have x1:=aEQ d1;have x2:=aEQ d2;have x3:=aEQ d3;clear c0 c1 c2 c3 c4 c5 c6 c7 c8 c9 d0 d1 d2 d3 HR3;refine bC 7 Aab ?_;show fV _ _ _ _ _ 8 (Array.replicate 8 false) _ _
 refine tk [0,1,2,3,4,5] ?_;open avA in exact JX):P:=h
theorem ang.Aa1(h:P:=by
 have z1:=aEQ p1;have z2:=aEQ p2;clear c0 c1 c2 c3 c4 c5 c6 c7 c8 c9 p0 p1 p2 p3 p4 p5 p6 wH HW1;by_cases hT:mT=n.id
 .have hq:(mT == n.id)=true:=by simpa using hT
  have HD:=Hq (show(decide (mT=n.id)&&nb)=nb by rw [aET hT];rfl);exact axI
 .have hq:(mT == n.id)=false:=by simpa using hT
  have HD:=Hq (show(decide (mT=n.id)&&nb)=false by rw [aES hT];rfl);exact axI):P:=h
theorem anh.Aa1(h:P:=by
 have y9:=aEQ c9;have y10:=aEQ c10;clear e0 e1 c0 c1 c2 c3 c4 c5 c6 c7 c8 c9 c10;generalize bQ ⟨s[0].toNat,N1,TX,N2,⟨mK,mF,mT,mI,mL,mk,mN⟩⟩=bo at *;refine bZ Aab ?_;show iZ _ _ _ _ 15 (Array.replicate 15 false) _ _
 refine tk [0,1,2,3,4,5,6,7,8,9,10,11] ?_;iterate 12 (refine lW (λK hK=>?_);go_simp;refine hK _ ?_;clear hK K)
 refine jh ?_;refine gJ 12 rfl Aab Aab Aab (λ_ _ _ _ h=>h) (λK hK=>?_);go_simp
 first
  |(refine hK _ ?_;clear hK K)
  |(apply Exists.intro
    refine⟨λ_=>?_,hK _ ?_⟩
    (exact nH _)
    clear hK K)
 refine tk [13,14] ?_;open arM in exact zZ):P:=h
theorem ani.Aa1(h:P:=by
 have x0:=aEQ s0;have x1:=aEQ s1;have x2:=aEQ s2;have x3:=aEQ s3;have hnz:=ay OC;have hsz:=ay ajJ;clear c0 c1 c2 c3 c4 c5 c6 c7 c8 s0 s1 s2 s3;refine bC 5 Aab ?_;show fV _ _ _ _ _ 8 (Array.replicate 8 false) _ _
 refine tk [0,1,2] ?_;iterate 3 (refine lW (λK hK=>?_);go_simp;refine hK _ ?_;clear hK K)
 refine jh ?_;clear y0 y1 y2 y3 y4 y5 y6 y7 y8 x0 x1 x2 x3 hnz hsz OC ajJ;refine dP 3 rfl Aab Aad (λx hx=>?_);go_simp;refine(IG x hx).mono ?_;rintro e y ⟨rfl,hby⟩;refine⟨hby,?_⟩;have HY:=Hq (Ge.trans hx hby);clear hx hby IG;refine Vo 4 rfl rfl Aab Aad Aad Aae (λz hz=>?_) (λz hz=>?_)
 .have HZ:=Hq (Ge.trans HY hz);clear hz HY;go_simp;refine⟨au z _,?_⟩;refine aS Aab (λz2 hz2=>?_);have HZ2:=Hq (Ge.trans HZ (Ge.trans (au z _) hz2));have Vw:=Hq (aj (aEP z (.cells (bX qK qF qT qI qL qk qN) 70)) hz2);have OE:=Hq (aj ajG HZ2);have hmz:w.heap.size+1 < z.heap.size:=aEZ (ay ajG) HZ.size;clear hz2;obtain⟨⟨d0,d1,d2,d3,d4,d5,d6,d7,d8⟩,f0,f1,f2,f3,f4,f5,f6,f7,f8⟩:=iT OE;have hrl:=ay OE;refine aI 5 rfl Aab Aad ?_;open avI in exact ahf
 .have HZ:=Hq (Ge.trans HY hz);have OE:=Hq (aj ajG HZ);clear hz HY;obtain⟨⟨d0,d1,d2,d3,d4,d5,d6,d7,d8⟩,f0,f1,f2,f3,f4,f5,f6,f7,f8⟩:=iT OE;have hrl:=ay OE;go_simp;refine aI 4 rfl Aab Aad ?_;open avH in exact ahf):P:=h
theorem anj.Aa1(h:P:=by
 clear c0 c1 c2 c3 c4 c5 c6 c7 c8;refine bC 3 Aab ?_;show fV _ _ _ _ _ 6 (Array.replicate 6 false) _ _
 refine tk [0,1] ?_;open arL in exact zZ):P:=h
theorem ank.Aa1(h:P:=by
 have z1:=aEQ p1;clear c0 c1 c2 c3 c4 c5 c6 c7 c8 c9 p0 p1 p2 p3 p4 p5 p6;refine bZ Aab ?_;show iZ _ _ _ _ 8 (Array.replicate 8 false) _ _
 refine tk [0,1,2,3,4,5] ?_;open avz in exact JX):P:=h
theorem aeu(h:P:=by
 have hbw:aH wr W1:=by rw [hW1];exact au wr _
 have BN:=Hq (aj Ig hbw);have pE:=Hq (aZ.trans (hbw.mono aZ.size));exact AbC):P:=h
theorem anl.AbC(h:P:=by
 have HI1:=Hq (GR.At.below HI hbw);have hgw1:=hbw.size;have HKI:=Hq (GR.At.below HA pE)
 have DZ:Hid ((k=0/\pv=true)\/∃(j:Nat) (y:Int),k=j+1/\pv=decide (y < fr)/\W1.cell? ⟨g,off+j*3,none⟩=some (.int .i64 y)):=by
  rcases Sb with h|⟨j,y,h1,h2,h3⟩
  .exact .inl h
  .exact .inr ⟨j,y,h1,h2,(hbw.cell (p:=⟨g,off+j*3,none⟩) hgw).trans h3⟩
 clear hW1 hbw q0 q1 q2 c0 c1 c2 c3 c4 c5 c6 Sb HI Ig;obtain⟨d0,d1,d2⟩:=three HW1;open asi in exact ags):P:=h
theorem anm.AbC(h:P:=by
 have hgw1:=hbw.size
 have DZ:Hid ((k=0/\pv=true)\/∃(j:Nat) (y:Int),k=j+1/\pv=decide (y < si)/\W1.cell? ⟨g,off+j*4,none⟩=some (.int .i64 y)):=by
  exact aib
 clear hW1 hbw q0 q1 q2 q3 c0 c1 c2 c3 c4 c5 c6 c7 c8 Sb Ig;obtain⟨d0,d1,d2,d3⟩:=iI HW1;open ash in exact ags):P:=h
theorem ano.AbC(h:P:=by
 clear hW1 hbw q0 q1 q2 q3 Ig;obtain⟨d0,d1,d2,d3⟩:=iI HW1;go_cut [56] (λr wx=>r= .bool bb/\wx=W1)
 case first=>
  by_cases g1:y < si
  case' neg=>
   have hb1:decide (si<=y)=true:=aET Aaa
   have HV:=Hq (show bb=true by rw [<-ah eY];simp[g1])
   clear eY BJ
   go_wp2_with (fail)
   go_meet
   case rel=>exact⟨Aam,rfl⟩
  have hb1:decide (si<=y)=false:=aES Aaa;cases g2:rM si
  case' false=>
   have Hg2:=Hq (λw1=>kS si false w1 g2)
   have HV:=Hq (show bb=true by rw [<-ah eY];simp[g2])
   clear eY BJ
   go_wp2_with (first|(go_at_call 193;refine(Hg2 _).mono ?_;rintro e w9 ⟨rfl,rfl⟩))
   go_meet
   case rel=>exact⟨Aam,rfl⟩
  have Hg2:=Hq (λw1=>kS si true w1 g2);cases g3:keyOk sx.data.toList
  case' false=>
   have Hg3:=Hq (λw1=>iC sx false w1 g3)
   have HV:=Hq (show bb=true by rw [<-ah eY];simp[g3])
   clear eY BJ
   go_wp2_with (first|(go_at_call 193;refine(Hg2 _).mono ?_;rintro e w9 ⟨rfl,rfl⟩)|(go_at_call 190;refine(Hg3 _).mono ?_;rintro e w9 ⟨rfl,rfl⟩))
   go_meet
   case rel=>exact⟨Aam,rfl⟩
  have Hg3:=Hq (λw1=>iC sx true w1 g3);cases g4:fJ sn
  case' false=>
   have Hg4:=Hq (λw1=>aO sn false w1 g4)
   have HV:=Hq (show bb=true by rw [<-ah eY];simp[g4])
   clear eY BJ
   go_wp2_with (first|(go_at_call 193;refine(Hg2 _).mono ?_;rintro e w9 ⟨rfl,rfl⟩)|(go_at_call 190;refine(Hg3 _).mono ?_;rintro e w9 ⟨rfl,rfl⟩)|(go_at_call 170;refine(Hg4 _).mono ?_;rintro e w9 ⟨rfl,rfl⟩))
   go_meet
   case rel=>exact⟨Aam,rfl⟩
  have Hg4:=Hq (λw1=>aO sn true w1 g4);by_cases g5:0<=st
  case' neg=>
   have hb5:decide (st < 0)=true:=aET Aaa
   have HV:=Hq (show bb=true by rw [<-ah eY];simp[g5])
   clear eY BJ
   go_wp2_with (first|(go_at_call 193;refine(Hg2 _).mono ?_;rintro e w9 ⟨rfl,rfl⟩)|(go_at_call 190;refine(Hg3 _).mono ?_;rintro e w9 ⟨rfl,rfl⟩)|(go_at_call 170;refine(Hg4 _).mono ?_;rintro e w9 ⟨rfl,rfl⟩))
   go_meet
   case rel=>exact⟨Aam,rfl⟩
  have hb5:decide (st < 0)=false:=aES Aaa;by_cases g6:st<=2
  case' neg=>
   have hb6:decide (2 < st)=true:=aET Aaa
   have HV:=Hq (show bb=true by rw [<-ah eY];simp[g6])
   clear eY BJ
   go_wp2_with (first|(go_at_call 193;refine(Hg2 _).mono ?_;rintro e w9 ⟨rfl,rfl⟩)|(go_at_call 190;refine(Hg3 _).mono ?_;rintro e w9 ⟨rfl,rfl⟩)|(go_at_call 170;refine(Hg4 _).mono ?_;rintro e w9 ⟨rfl,rfl⟩))
   go_meet
   case rel=>exact⟨Aam,rfl⟩
  have hb6:decide (2 < st)=false:=aES Aaa;have HV:=Hq (show bb=false by rw [<-ah eY];simp[g1,g2,g3,g4,g5,g6]);clear eY BJ;go_wp2_with (first|(go_at_call 193;refine(Hg2 _).mono ?_;rintro e w9 ⟨rfl,rfl⟩)|(go_at_call 190;refine(Hg3 _).mono ?_;rintro e w9 ⟨rfl,rfl⟩)|(go_at_call 170;refine(Hg4 _).mono ?_;rintro e w9 ⟨rfl,rfl⟩))
  go_meet
  case rel=>exact⟨Aam,rfl⟩
 case rest=>
  obtain⟨rfl,rfl⟩:=hcut;clear eY;cases hbv:bb
  .have HG:=Hq (show ig KB RR (reqs.take (k+1))=true by rw [ah BJ,hbv];rfl);subst hbv;clear HBAD BJ;go_wp2_with fail;go_roundw
   case rel=>exact⟨k+1,si,Aaa,Aaf,rfl,zT.symm,HG,BN,pE⟩
   case measure=>simp[intOf];omega
  .have HP:=Hq (HBAD (by rw [ah BJ,hbv];rfl));subst hbv;clear HBAD BJ;go_wp2_with fail;go_ret;exact⟨aF HP.symm,pE⟩):P:=h
theorem anp.AbC(h:P:=by
 clear hW1 hbw q0 q1 q2 q3 Ig;obtain⟨d0,d1,d2,d3⟩:=iI HW1;obtain⟨c0,c1,c2,c3,c4,c5,c6,c7,c8⟩:=nine BN;go_cut [46] (λr wx=>r= .bool bb/\aH W1 wx)
 case first=>
  by_cases h1:y < si
  case' neg=>
   have HV:=Hq (show bb=true by rw [<-ah eY];simp[h1])
   have hb1:decide (si<=y)=true:=aET Aaa
   clear eY BJ
   go_wp2_with fail
   go_meet
   case rel=>exact⟨Aam,aE3 _ _⟩
  have hb1:decide (si<=y)=false:=aES Aaa;by_cases h2:si < next
  case' neg=>
   have HV:=Hq (show bb=true by rw [<-ah eY];simp[h2])
   have hb2:decide (next<=si)=true:=aET Aaa
   clear eY BJ
   go_wp2_with fail
   go_meet
   case rel=>exact⟨Aam,aE3 _ _⟩
  have hb2:decide (next<=si)=false:=aES Aaa;go_wp2_with fail;refine(R6 _ _ pE).mono ?_;rintro e w2 ⟨rfl,hb3⟩;have HB3:=Hq hb3;have HW2:=Hq (aj HW1 hb3);clear hb3 d0 d1 d2 d3 c0 c1 c2 c3 c4 c5 c6 c7 c8;obtain⟨d0,d1,d2,d3⟩:=iI HW2;cases h3:NN st
  case' false=>
   have HV:=Hq (show bb=true by rw [<-ah eY];simp[h3])
   clear eY BJ h3
   go_wp2_with fail
   go_meet
   case rel=>exact⟨Aam,HB3⟩
  cases h4:keyOk sx.data.toList
  case' false=>
   have HV:=Hq (show bb=true by rw [<-ah eY];simp[h4])
   have H4:=Hq (λw1=>iC sx false w1 h4)
   clear eY BJ h3 h4
   go_wp2_with (go_at_call 190;refine(H4 _).mono ?_;rintro e w9 ⟨rfl,rfl⟩)
   go_meet
   case rel=>exact⟨Aam,HB3⟩
  have H4:=Hq (λw1=>iC sx true w1 h4);have HV:=Hq (show bb= !fJ sn by rw [<-ah eY];simp[h1,h2,h3,h4]);have H5:=Hq (λw1=>aO sn _ w1 rfl);clear eY BJ h3 h4;go_wp2_with (first|(go_at_call 190;refine(H4 _).mono ?_;rintro e w9 ⟨rfl,rfl⟩)|(go_at_call 170;refine(H5 _).mono ?_;rintro e w9 ⟨rfl,rfl⟩))
  go_meet
  case rel=>exact⟨Aam,HB3⟩
 case rest=>
  obtain⟨rfl,hbx⟩:=hcut;open as9 in exact VU):P:=h
theorem awN(h:P:=by
 clear hz hok hm hL he HR hw hF hks hb HID;generalize (takeN n o.m).1=n' at *;open arC in exact aj2):P:=h
theorem anq.AcS(h:P:=by
 obtain⟨c0,c1,c2,c3,c4,c5,c6,c7,c8,c9⟩:=jT HY.blk;obtain⟨⟨p0,p1,p2,p3,p4,p5,p6⟩,_⟩:=eF IG;have akV:=ay HY.blk;have aDG:=ay IG;go_upto_region 10 with fail;have y0:=aEQ c0;have z1:=aEQ p1;have z3:=aEQ p3;clear c0 c1 c2 c3 c4 c5 c6 c7 c8 c9 p0 p1 p2 p3 p4 p5 p6;refine bC 11 Aab ?_;show fV _ _ _ _ _ 12 (Array.replicate 12 false) _ _
 refine tk [0,1,2,3,4,5,6,7,8,9,10] ?_;iterate 11 (refine lW (λK hK=>?_);go_simp;refine hK _ ?_;clear hK K)
 refine jh ?_;clear y0 z1 z3;refine aS Aab (λx hx=>?_);have JU:=Hq (HSY x A' G' c' n' (HY.step hx));clear hx;refine aI 11 rfl Aab Aad ?_;go_simp;refine JU.mono ?_;rintro e z ⟨rfl,c2,v2,hZ⟩;have HZ:=Hq hZ;clear hZ JU;refine wpAny_done Aab ?_;go_simp;go_wp2_with fail;go_ret;exact⟨rfl,A',G',c2,v2,HZ⟩):P:=h
theorem anr.AcS(h:P:=by
 go_wp2_with fail;go_ret;exact⟨rfl,A',G',c',v,by rw [aF4];exact HY⟩):P:=h
theorem OW(h:P:=by
 open auA in exact OU):P:=h
theorem ant.AaQ(h:P:=by
 clear HO p0 p1 p2 p3 p4 p5 p6;have f1:=acU;open aBs in exact SS):P:=h
theorem anu.AaQ(h:P:=by
 clear HO HM p0 p1 p2 p3 p4 p5 p6;have f1:=acV;open aoV in exact ajU):P:=h
theorem anw.AaQ(h:P:=by
 clear HO p0 p1 p2 p3 p4 p5 p6;have f1:=acV;open aBt in exact SS):P:=h
theorem anx.AaQ(h:P:=by
 clear HO p0 p1 p2 p3 p4 p5 p6;have f1:=WX;open aBu in exact SS):P:=h
theorem anz.AaQ(h:P:=by
 clear p0 p1 p2 p3 p4 p5 p6;refine bZ Aab ?_;show iZ _ _ _ _ 30 (Array.replicate 30 false) _ _
 open aBK in exact awJ):P:=h
theorem anA.AaQ(h:P:=by
 have y7:=aEQ p7;have y8:=aEQ p8;have y9:=aEQ p9;have y10:=aEQ pz;clear p0 p1 p2 p3 p4 p5 p6 p7 p8 p9 pz;refine bZ Aab ?_;show iZ _ _ _ _ 23 (Array.replicate 23 false) _ _
 open aBL in exact awJ):P:=h
theorem anB.AaQ(h:P:=by
 clear HO HM p0 p1 p2 p3 p4 p5 p6;have f1:=WX;open aoU in exact ajU):P:=h
theorem anC.AaQ(h:P:=by
 clear HO HM p0 p1 p2 p3 p4 p5 p6;have f1:=acU;open aoT in exact ajU):P:=h
theorem aaX(h:P:=by
 rw [hmo] at HMO;unfold oJ at HMO;have R6:=Hq (λW (ha:bH W A.k n.kids)=>Hg n A mF W hkl ha);rw [h2] at R6;clear hmo h2;have nA:=Hq (h.nine hB);clear h;go_in
 go_upto_region 1 with fail;refine wp_at (λW0 hW=>?_);exact Aa9):P:=h
theorem anD.Aa9(h:P:=by
 obtain⟨e1,e2,e3,e4⟩:=gG w (.cells (dD n A) 39) (.cells (bX 0 mF mT mI mL mk mN) 70) (.cells lC 39);open aAC in exact Yk3):P:=h
theorem anE.Aa9(h:P:=by
 obtain⟨e1,e2,e3,e4⟩:=gG w (.cells (dD n A) 39) (.cells (bX 0 mF mT mI mL mk mN) 70) (.cells lC 39);exact axw):P:=h
theorem anF.Aa9(h:P:=by
 obtain⟨e1,e2,e3,e4⟩:=gG w (.cells (dD n A) 39) (.cells (bX mK mF mT mI mL mk mN) 70) (.cells lC 39);exact axw):P:=h
theorem anG.Aa9(h:P:=by
 obtain⟨e1,e2,e3,e4⟩:=gG w (.cells (dD n A) 39) (.cells (bX 2 mF mT mI mL mk mN) 70) (.cells lC 39);open aAD in exact Yk3):P:=h
theorem anH.Aa9(h:P:=by
 obtain⟨e1,e2,e3,e4⟩:=gG w (.cells (dD n A) 39) (.cells (bX 1 mF mT mI mL mk mN) 70) (.cells lC 39);open aAE in exact Yk3):P:=h
theorem awO(h:P:=by
 go_upto_region 1 with fail;have y0:=aEQ c0;have y1:=aEQ c1;clear c0 c1;refine bZ Aab ?_;show iZ _ _ _ _ 14 (Array.replicate 14 false) _ _
 refine tk [0,1,2,3,4,5,6,7] ?_;iterate 8 (refine lW (λK hK=>?_);go_simp;refine hK _ ?_;clear hK K)
 refine jh ?_;refine gJ 8 rfl Aab Aab Aab (λ_ _ _ _ h=>h) (λK hK=>?_);go_simp
 first
  |(refine hK _ ?_;clear hK K)
  |(apply Exists.intro
    refine⟨λ_=>?_,hK _ ?_⟩
    (exact HC _ (SK _))
    clear hK K)
 refine tk [9,10,11,12,13] ?_;open avD in exact JY):P:=h
theorem anI.Aef(h:P:=by
 exact⟨rfl,rfl,HZ⟩):P:=h
theorem anJ.Aef(h:P:=by
 go_ret;exact⟨rfl,jQ.set HRZ _,(dQ.of_below HZ).trans (dQ.set _)⟩):P:=h
theorem ajR(h:P:=by
 obtain⟨pk,pm,pf,ps⟩:=p;unfold iG at hp;simp only[aEX] at hp;obtain⟨⟨⟨⟨_,a1⟩,a2⟩,a3⟩,a4⟩:=hp;have b1:0<=pm/\pm<=1000000000:=aFa a1;have b2:0<=pf/\pf<=1000000000:=aFa a2;have b3:0<=ps/\ps<=1000000000:=aFa a3;obtain⟨Oh,a11⟩:=b1;obtain⟨a20,a21⟩:=b2;obtain⟨a30,a31⟩:=b3;obtain⟨h10,h11⟩:=h1;obtain⟨h20,h21⟩:=h2;obtain⟨h30,h31⟩:=h3;clear a1 a2 a3 a4;exact AcM):P:=h
end Go.Proofs.YtbolgdleijjgfaaGreatDoor
