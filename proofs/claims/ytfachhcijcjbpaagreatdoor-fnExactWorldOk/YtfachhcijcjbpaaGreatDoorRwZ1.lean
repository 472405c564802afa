/-
  Parts of proofs that stand more than once, each said once.
-/
import Derived.Test.YtfachhcijcjbpaaGreatDoorRows
import Derived.WalkSpells
import Derived.ShutString
import Derived.Lib.QuietBelow
import Derived.ProofKit
import Derived.Deep.DeepCutAuto
import Derived.Laws.Cover1
import Derived.Laws.AppendOwnNone
import Derived.Deep.CutBlock
import Derived.Lib.ItoaLen
import Derived.Lib.BufferWrite
import Derived.Laws.CopyOwn
import Derived.Shelf.SortM.Plain
import Derived.Shelf.SortM.SortNone
import Derived.Shelf.SlicesE.Clone
import Derived.Sort.OwnSortedInts
import Derived.Deep.AppendLies
import Derived.Deep.RegionHeldLaw
import Derived.Shelf.Spec.SearchS
import Derived.Stop.Asserts
import Derived.Shelf.Spec.SlicesInsertGrow
import Derived.Maps.Ext
import Derived.Lib.SlMapFilter
import Derived.Shelf.SlIterI.Nil
import Derived.Laws.EntriesVeiled
import Derived.Conc.MuLone
import Derived.Great.BuildSlice
import Derived.Deep.SlicePairs
import Derived.Stop.LaidTwo
import Derived.OpenVars
import Derived.OpenShut
import Derived.LaidMore
import Derived.Stop.Joined
namespace Go.Proofs.YtfachhcijcjbpaaGreatDoor
open Go.Proofs.Tryz
set_option maxRecDepth 100000
section
open Go.RowKit
set_option linter.defProp false
def aEu:= @heap_alloc_new
def aEv:= @cell_regrown
def aEw:= @decide_eq_false
def aEx:= @Nat.le_refl
def aEy:= @decide_eq_true
def aEz:= @cell_of_row
def aEA:= @Nat.le_trans
def aEB:= @List.getElem?_eq_getElem
def aEC:= @List.length_append
def aED:= @Bool.and_eq_true
def aEE:= @bodyPost_ret
def aEF:= @List.take_succ_eq_append_getElem
def aEG:= @if_neg
def aEH:= @Nat.lt_of_lt_of_le
def aEI:= @Below.heap_alloc
def aEJ:= @wp_region_quiet_below
def aEK:= @Below.refl
def aEL:= @List.getElem_mem
def aEM:= @List.mem_singleton
def aEN:= @Nat.zero_le
def aEO:= @World.cell?_alloc_lt
def aEP:= @DataW.trod_int
def aEQ:= @of_decide_eq_true
def aER:= @if_pos
def aES:= @decide_eq_true_eq
def aET:= @List.mem_cons
def aEU:= @Below.heap_setCell
def aEV:= @below_regrown
def aEW:= @List.take_length
def aEX:= @List.length_take
def aEY:= @info_parts
def aEZ:= @List.eq_nil_of_length_eq_zero
def aE0:= @List.mem_append
def aE1:= @Calls.regrown_of
def aE2:= @wpQuiet_nil
def aE3:= @decide_eq_true_iff
def aE4:= @List.getElem_set_ne
def aE5:= @Nat.add_assoc
def aE6:= @World.cell?_of_block
def aE7:= @List.getD_eq_getElem?_getD
def aE8:= @List.length_drop
def aE9:= @Array.length_toList
def aFa:= @List.append_assoc
def aFb:= @World.ownsRow_lit
def aFc:= @DataW.trod_struct
def aFd:= @BigFrame.wpList_want
def aFe:= @Option.some.inj
def aFf:= @wpList_append_own
def aFg:= @List.mem_append_left
def aFh:= @List.getElem?_eq_some_iff
def aFi:= @List.getElem_set_self
def aFj:= @World.news_of_block
def aFk:= @ByteArray.toList_eq
def aFl:= @run_callFunc_extern
def aFm:= @List.take_append_drop
def aFo:= @List.length_map
def aFp:= @Array.getElem?_eq_none
def aFq:= @Nat.zero_add
def aFr:= @List.length_eraseIdx_of_lt
def aFs:= @List.size_toArray
def aFt:= @List.not_mem_nil
def aFu:= @List.pairwise_cons
def aFv:= @World.frozen?_alloc_old
def aFw:= @List.drop_eq_getElem_cons
def aFx:= @List.pairwise_iff_getElem
def aFy:= @Int.toNat_natCast
def aFz:= @Value.slice.injEq
def aFA:= @List.mem_range
def aFB:= @run_string_add_sum
def aFC:= @World.block_lt_of_cell?
def aFD:= @Nat.lt_or_ge
def aFE:= @List.mem_iff_getElem
def aFF:= @List.append_nil
def aFG:= @List.mem_append_right
def aFH:= @Nat.min_eq_left
def aFI:= @Bool.eq_iff_iff
def aFJ:= @DataW.trod_string
def aFK:= @List.getElem?_set_ne
def aFL:= @List.dropWhile_sublist
def aFM:= @List.drop_eq_nil_of_le
def aFN:= @List.nil_append
def aFO:= @List.getElem?_append_left
def aFP:= @ByteArray.ext
def aFQ:= @List.mem_flatMap
def aFR:= @Option.some.injEq
def aFS:= @List.mem_map
def aFT:= @Lib.run_eql_slice_nil
def aFU:= @List.length_cons
def aFV:= @Lib.extract_data
def aFW:= @List.takeWhile_sublist
def aFX:= @List.take_of_length_le
def aFY:= @List.nodup_append
def aFZ:= @Lib.extract_toList
def aF0:= @List.all_eq_true
def aF1:= @Nat.mul_le_mul_right
def aF2:= @Nat.add_zero
def aF3:= @beq_eq_false_iff_ne
def aF4:= @wpList_load_mid
def aF5:= @List.getElem_cons_zero
def aF6:= @ByteArray.size_extract
def aF7:= @List.getElem?_set_self
def aF8:= @wpList_store_mid
def aF9:= @List.set_append_right
def aGa:= @List.length_filter_le
def aGb:= @List.take_zero
def aGc:= @World.cell?_setCell_other
def aGd:= @List.length_set
def aGe:= @List.takeWhile_append_dropWhile
def aGf:= @Array.toList_append
def aGg:= @List.take_take
def aGh:= @List.take_left
def aGi:= @run_convert_bytes_back
def aGj:= @World.frozen?_of_block
def aGk:= @bodyPost_end
def aGl:= @Nat.mul_comm
def aGm:= @List.range_succ
def aGn:= @List.mem_filter
def aGo:= @Addr.add_lit
def aGp:= @Bool.eq_false_iff
def aGq:= @Region.noSelect_spec
def aGr:= @List.findIdx_getElem
def aGs:= @wp_region_list
def aGt:= @Nat.add_mul
def aGu:= @World.cell?_setCell_same
def aGv:= @decide_eq_false_iff_not
def aGw:= @Region.free_spec
def aGx:= @Lib.wp_append_run
end
variable{P:Prop}
theorem Aaa(h:P:=by omega):P:=h
theorem Aab(h:P:=by kernel_rfl):P:=h
theorem Aac(h:P:=by simp):P:=h
theorem Aad(h:P:=by simpa using hx):P:=h
theorem Aae(h:P:=by simp;omega):P:=h
theorem Aaf(h:P:=by go_num):P:=h
theorem Aag(h:P:=by decide):P:=h
theorem Aah(h:P:=by rfl):P:=h
theorem Aai(h:P:=by unfold maxLen;omega):P:=h
theorem Aaj(h:P:=by simp at hx;omega):P:=h
theorem Aak(h:P:=by simp[hx]):P:=h
theorem Aal(h:P:=by unfold maxLen;dsimp only;omega):P:=h
theorem Aam(h:P:=by rw [ah HV]):P:=h
theorem Aan(h:P:=by simp[Act.eval]):P:=h
theorem Aao(h:P:=by rw [e]):P:=h
theorem Aap(h:P:=by simpa using h1):P:=h
theorem Aaq(h:P:=by simp[World.setCell]):P:=h
theorem Aar(h:P:=by simpa using hy):P:=h
theorem Aas(h:P:=by simpa using hi):P:=h
theorem Aat(h:P:=by rw [hz2];omega):P:=h
theorem Aau(h:P:=by simp at hi):P:=h
theorem Aav(h:P:=by rw [ah HP]):P:=h
theorem Aaw(h:P:=by simp[results,results243,go_sem,wO]):P:=h
theorem Aax(h:P:=by simpa using hm):P:=h
theorem Aay(h:P:=by simp at hx):P:=h
theorem Aaz(h:P:=by simp at hm;omega):P:=h
theorem Aba(h:P:=by simp at hx;simp[hx]):P:=h
theorem Abb(h:P:=by cases h):P:=h
theorem Abc(h:P:=by simp[h1]):P:=h
theorem Abd(h:P:=by simpa using hpar):P:=h
theorem Abe(h:P:=by simpa using hq):P:=h
theorem Abf(h:P:=by rw [hf];simp):P:=h
theorem Abg(h:P:=by simpa using hj):P:=h
theorem Abh(h:P:=by rw [ah xK]):P:=h
theorem Abi(h:P:=by rw [aEX];omega):P:=h
theorem Abj(h:P:=by simpa [Value.ownBlock] using hx):P:=h
theorem Abk(h:P:=by simpa using h):P:=h
theorem Abl(h:P:=by simp only[ByteArray.size_append];omega):P:=h
theorem Abm(h:P:=by simpa using h2):P:=h
theorem Abn(h:P:=by rw [hW];exact(lq w _ _).2):P:=h
theorem Abo(h:P:=by rw [hW];exact(lq w _ _).1):P:=h
theorem Abp(h:P:=by simp[Act.eval,Act.put]):P:=h
theorem Abq(h:P:=by simp at hi;omega):P:=h
theorem Abr(h:P:=by rw [hW];exact pQ kJ):P:=h
theorem Abs(h:P:=by rw [hW];exact iI eG hgl):P:=h
theorem Abt(h:P:=by simpa using hk):P:=h
theorem Abu(h:P:=by rw [gN,aE8]):P:=h
theorem Abv(h:P:=by rw [hW];simp[World.setCell]):P:=h
theorem Abw(h:P:=by rw [ah HML];exact hlt):P:=h
theorem Abx(h:P:=by rw [hW1];exact aEu _ _):P:=h
theorem Aby(h:P:=by unfold maxLen at hcm;omega):P:=h
theorem Abz(h:P:=by simpa using hf):P:=h
theorem Aca(h:P:=by rw [e];omega):P:=h
theorem Acb(h:P:=by simpa using h0):P:=h
theorem Acd(h:P:=by simp[results,results200,go_sem]):P:=h
theorem Ace(h:P:=by rw [ah gu,ah kS,ah Ez];rfl):P:=h
theorem Acf(h:P:=by rw [hW];exact aEu _ _):P:=h
theorem Acg(h:P:=by rw [ah HS,ah HA,ah HK];rfl):P:=h
theorem Ach(h:P:=by simp[results,results68,go_sem,x0,x1,x2,x3,x4,x5,x6,x7,x8]):P:=h
theorem Aci(h:P:=by simp[results,results64,go_sem,r0,r1,r2,r3,r4,r5,r6,r7,r8,r9,Za]):P:=h
theorem Acj(h:P:=by simp[results,results167,go_sem]):P:=h
theorem Ack(h:P:=by simp[results,results35,go_sem]):P:=h
theorem Acl(h:P:=by cases hk;exact aEx _):P:=h
theorem Acm(h:P:=by rw [show cur.toList.length=cur.size from aE9,hcs];omega):P:=h
theorem Acn(h:P:=by simp[results,results277,go_sem];try rfl):P:=h
theorem Aco(h:P:=by rw [aEM.1 hf];omega):P:=h
theorem Acp(h:P:=by simp[results,results276,go_sem,r0,r1,r2,r3,r4,r5,r6]):P:=h
theorem Acr(h:P:=by simp[results,results93,go_sem,r0,r1,r2,r3,r4,r5,r6]):P:=h
theorem Acs(h:P:=by simp[results,results227,go_sem,x0,x1,x2,x3,x4,x5,x6]):P:=h
theorem Acu(h:P:=by unfold rX at hhas;rw [hd] at hhas;simpa using hhas):P:=h
theorem Acv(h:P:=by simp[results,results98,go_sem,x0,x1,x2,x3,x4,x5,x6,x7,x8]):P:=h
theorem Acw(h:P:=by simp[results,results240,go_sem,r0,r1,r2,r3,r4,r5,r6]):P:=h
theorem Acx(h:P:=by rw [show cur.toList.length=cur.size from aE9,hcs]):P:=h
theorem Acy(h:P:=by rw [hW];exact jk (aEx _) _ _ _ _ (au v0 _)):P:=h
theorem Zk0(h:P:=by
 open aA6 in exact ajZ):P:=h
theorem Zk1(h:P:=by
 obtain⟨c0,c1,c2,c3,c4,c5,c6,c7,c8,c9⟩:=jB HWS.wk.blk
 have e0:A'.s=some ⟨G'.s,0,none⟩:=by
  obtain⟨_,_,e0,_⟩:=fU.three HWS.wk.no.s i (by rw [ah HSL];exact hi);exact e0
 rw [e0,ah HSL] at c6;obtain⟨⟨p0,p1,p2,p3,p4,p5,p6⟩,_⟩:=dY eG;have hwl:=ay HWS.wk.blk;have hBl:=ay eG;go_upto_region 5 with fail;have y6:=aEv c6;have z1:=aEv p1;clear c0 c1 c2 c3 c4 c5 c6 c7 c8 c9 p0 p1 p2 p3 p4 p5 p6;refine rg 11 Ge 12 ?_;refine tk [0,1,2,3,4,5,6,7,8] ?_;iterate 9 (refine iy (λK hK=>?_);go_simp;refine hK _ ?_;clear hK K)
 refine jm ?_;clear y6 z1;refine dB 9 rfl Aab Aah (λx hx=>?_);go_simp;have HX:=Hq (HWS.step hx);have HJX:Hid (∀j mm,jH w j mm->jH x j mm):=λj mm hj=>aj (HJW j mm hj) hx
 have HSO:=Hq (Zo sb mb kk mF (fH s0 mL) l2 x HLEN aec HX.bk HX.si);clear hx;refine HSO.mono ?_;rintro e y ⟨v2,rfl,hrow,hby⟩;refine⟨hby,?_⟩;obtain⟨b2,c2,g2,rfl,hW2,hg2,_⟩:=GR.W.of_own (enc:=aW) aU hrow;have HY:Hid (WK w0 y wb n' A' G' (newC x.heap.size 5 c') v L):=(HX.wk.recol (c':=newC x.heap.size 5 c') (λz hz=>eY hz)).step hby;have HI2:=Hq hW2;have HJY:Hid (∀j mm,jH w j mm->jH y j mm):=λj mm hj=>aj (HJX j mm hj) hby
 have HC5:Hid (∀z∈fp g2 l2,newC x.heap.size 5 c' z=5/\z∉uo G'.i n'.seen):=λz hz=>⟨aY (hg2 z hz).1,λhm=>by
  have h1:=(uP HX.wk.no.s).2 z hm
  have h2:=(hg2 z hz).1
  omega⟩
 clear hrow hby hW2 hg2 HSO HX HWS;refine tk [10] ?_;(refine iy (λK hK=>?_);go_simp;refine hK _ ?_;clear hK K)
 refine jm ?_;refine aS Aab (λx3 hx3=>?_);have HY3:=Hq (HY.step hx3);have HI3:=Hq (HI2.below hx3);have HJ6:Hid (∀j mm,jH w j mm->jH x3 j mm):=λj mm hj=>aj (HJY j mm hj) hx3
 obtain⟨b0,cc0,_,hg0,⟨q0,q1,q2⟩,⟨f0,f1⟩,_⟩:=fU.three HY3.no.s i (by rw [ah HSL];exact hi)
 have f2:x3.frozen? ⟨G'.s,i*3+2,none⟩=false:=by
  obtain⟨T,hT,hl,_⟩:=HY3.no.s;have:=(hT i (by rw [hl,ah HSL];exact hi)).2.2 2 Aaa;exact this.2
 have azY:=Hq (HY3.seenPut i (by rw [ah HSL];exact hi) ⟨mF,fH s0 mL,l2⟩ b2 c2 g2 HI3 HC5)
 have HJF:Hid (∀j mm,jH w j mm->jH (GR.setW x3 G'.s (i*3) [.int .i64 mF,.int .i64 (fH s0 mL),.slice b2 l2.length c2]) j mm):=λj mm hj=>by
  have h3:=ah HJ6 j mm hj
  have hne:=QH h3 q2
  unfold jH
  rw [GR.setW_other hne]
  exact h3
 clear hx3 HY HI2;refine an 11 ?_;go_simp;refine ad ?_;go_simp;clear q0 q1 q2 f0 f1 f2;go_wp2_with fail;go_ret;exact⟨by rw [ah HTE];first|done|rfl,⟨A',_,_,by rw [ah HTE];exact azY⟩,HJF⟩):P:=h
theorem Zk2(h:P:=by
 have hnl:=ay e1;clear hW e1 e2 p0 p1 p2 p3 p4 p5 p6 p7 p8 p9 nI;obtain⟨⟨p0,p1,p2,p3,p4,p5,p6,p7,p8,p9,nI⟩,_⟩:=aJ JQ;have aDP:=ay JQ;have y0:=aEv c0;have z0:=aEv p0;have z1:=aEv p1;have z2:=aEv p2;have z3:=aEv p3;have z4:=aEv p4;have z5:=aEv p5;have z6:=aEv p6;have z7:=aEv p7;have z8:=aEv p8;have z9:=aEv p9;have z10:=aEv nI;clear p0 p1 p2 p3 p4 p5 p6 p7 p8 p9 nI c0;refine rg 5 Ge 7 ?_;refine tk [0,1,2,3,4] ?_;iterate 5 (refine iy (λK hK=>?_);go_simp;refine hK _ ?_;clear hK K)
 refine jm ?_;clear y0 z0 z1 z2 z3 z4 z5 z6 z7 z8 z9 z10;refine aS Aab (λx hx=>?_);have HXX:=Hq (HX x (HW4.step hx));clear hx;refine an 5 ?_;go_simp;refine HXX.mono ?_;rintro e y ⟨rfl,A',G',c',v',hY⟩;have HY:=Hq hY;clear hY HXX;refine an 6 ?_;go_simp;refine ad ?_;go_simp;go_wp2_with fail;go_ret;exact⟨rfl,A',G',c',v',HY⟩):P:=h
theorem Zk3(h:P:=by
 unfold fZ;have H9:=Hq h9;clear h9;have JR:=Hq (λW (ha:aH W A.p n.pu)=>wE A.p A.cp n.pu key W hl ha);rw [hpp] at JR;unfold xO at JR;clear hpp;have hbw0:=au w (.cells (dR n A) 53);have jD:=Hq (h.nine hB);clear h;go_in
 go_upto_region 1 with fail;refine wp_at (λW0 hW=>?_);obtain⟨e1,e2,e3⟩:=gU w (.cells (dR n A) 53) (.cells kH 53);open ap1 in exact awt):P:=h
theorem Zk4(h:P:=by
 clear hu;unfold iN at jr;have ED:=Hq (λW=>jl ⟨0,no,k,nn,⟨mK,mF,mT,mI,mL,mk,mN⟩⟩ W Aal Aal);open aA3 in exact EO):P:=h
theorem Zk5(h:P:=by
 rw [hR];have HR:=Hq hR;clear hR;cases hk:keyOk k.data.toList
 .have HK:=Hq (λw1=>nY k false w1 hs hk);cases hn:fC n
  .have HN:=Hq (λw1=>dZ n false w1 hn);have HP:=Hq (show R=(decide (no=0)&&false&&false&&lK ⟨mK,mF,mT,mI,mL,mk,mN⟩) by rw [<-ah HR];simp[bC,hk,hn]);clear HR;clear hk hn;go_in
   go_wp2_with (first|(go_at_call_of 62 k;refine(HK _).mono ?_;rintro e w1 ⟨rfl,rfl⟩)|(go_at_call_of 59 n;refine(HN _).mono ?_;rintro e w1 ⟨rfl,rfl⟩))
   all_goals
    go_ret
    refine⟨aF ?_,au w _⟩
    rw [ah HP]
    simp[lK, *]
  .have HN:=Hq (λw1=>dZ n true w1 hn);have HP:=Hq (show R=(decide (no=0)&&false&&true&&lK ⟨mK,mF,mT,mI,mL,mk,mN⟩) by rw [<-ah HR];simp[bC,hk,hn]);clear HR;clear hk hn;go_in
   go_wp2_with (first|(go_at_call_of 62 k;refine(HK _).mono ?_;rintro e w1 ⟨rfl,rfl⟩)|(go_at_call_of 59 n;refine(HN _).mono ?_;rintro e w1 ⟨rfl,rfl⟩))
   all_goals
    go_ret
    refine⟨aF ?_,au w _⟩
    rw [ah HP]
    simp[lK, *]
 .have HK:=Hq (λw1=>nY k true w1 hs hk);cases hn:fC n
  .have HN:=Hq (λw1=>dZ n false w1 hn);have HP:=Hq (show R=(decide (no=0)&&true&&false&&lK ⟨mK,mF,mT,mI,mL,mk,mN⟩) by rw [<-ah HR];simp[bC,hk,hn]);clear HR;clear hk hn;go_in
   go_wp2_with (first|(go_at_call_of 62 k;refine(HK _).mono ?_;rintro e w1 ⟨rfl,rfl⟩)|(go_at_call_of 59 n;refine(HN _).mono ?_;rintro e w1 ⟨rfl,rfl⟩))
   all_goals
    go_ret
    refine⟨aF ?_,au w _⟩
    rw [ah HP]
    simp[lK, *]
  .have HN:=Hq (λw1=>dZ n true w1 hn);have HP:=Hq (show R=(decide (no=0)&&true&&true&&lK ⟨mK,mF,mT,mI,mL,mk,mN⟩) by rw [<-ah HR];simp[bC,hk,hn]);clear HR;clear hk hn;go_in
   go_wp2_with (first|(go_at_call_of 62 k;refine(HK _).mono ?_;rintro e w1 ⟨rfl,rfl⟩)|(go_at_call_of 59 n;refine(HN _).mono ?_;rintro e w1 ⟨rfl,rfl⟩))
   all_goals
    go_ret
    refine⟨aF ?_,au w _⟩
    rw [ah HP]
    simp[lK, *]):P:=h
theorem Zk6(h:P:=by
 open Sk5 in exact Yk0):P:=h
theorem Zk7(h:P:=by
 by_cases hmK:mK=0
 case' neg=>
  have aCc:¬(0:Int)=mK:=λe=>hmK e.symm
  go_wp2_with fail;go_ret;exact⟨aF (by rw [ah HP];simp[lK,hmK]),gK⟩
 subst hmK;by_cases hmF:mF=0
 case' neg=>
  have aCa:¬(0:Int)=mF:=λe=>hmF e.symm
  go_wp2_with fail;go_ret;exact⟨aF (by rw [ah HP];simp[lK,hmF]),gK⟩
 subst hmF;by_cases hmT:mT=0
 case' neg=>
  have aCf:¬(0:Int)=mT:=λe=>hmT e.symm
  go_wp2_with fail;go_ret;exact⟨aF (by rw [ah HP];simp[lK,hmT]),gK⟩
 subst hmT;by_cases hmI:mI=0
 case' neg=>
  have aCb:¬(0:Int)=mI:=λe=>hmI e.symm
  go_wp2_with fail;go_ret;exact⟨aF (by rw [ah HP];simp[lK,hmI]),gK⟩
 subst hmI;by_cases hmL:mL=0
 case' neg=>
  have aCd:¬(0:Int)=mL:=λe=>hmL e.symm
  go_wp2_with fail;go_ret;exact⟨aF (by rw [ah HP];simp[lK,hmL]),gK⟩
 subst hmL;by_cases hmk:mk.toList=[]
 case' neg=>
  go_wp2_with fail;go_ret;exact⟨aF (by rw [ah HP];simp[lK,hmk]),gK⟩
 by_cases hmN:mN=0
 case' neg=>
  have aCe:¬(0:Int)=mN:=λe=>hmN e.symm
  go_wp2_with fail;go_ret;exact⟨aF (by rw [ah HP];simp[lK,hmk,hmN]),gK⟩
 subst hmN;go_wp2_with fail;go_ret;exact⟨aF (by rw [ah HP];simp[lK,hmk]),gK⟩):P:=h
theorem Zk8(h:P:=by
 open Sk4 in exact Yk0):P:=h
theorem Zk9(h:P:=by
 open aAB in exact av4):P:=h
theorem awU(h:P:=by
 open Sk3 in exact Yk0):P:=h
theorem akf(h:P:=by
 obtain⟨⟨p0,p1,p2,p3,p4,p5,p6,p7,p8,p9,nI⟩,_⟩:=aJ XG;have hol:=ay XG;obtain⟨c0,c1,c2,c3,c4,c5,c6,c7,c8⟩:=nine mq;obtain⟨⟨d0,d1,d2,d3,d4,d5,d6,d7,d8⟩,f0,f1,f2,f3,f4,f5,f6,f7,f8⟩:=iG BH;have hnl:=ay mq;have hrl:=ay BH;clear q0;dsimp only at e0;subst e0;go_wp2_with fail;go_quiet (fail);go_wp2_with fail;refine jW results98 rfl rfl rfl BH (λW' e4 eX=>?_);have eX:=aC.trans (a:=W1) (b:=W1.drewN nq) ⟨rfl,rfl,rfl,aEx _,λ_ _ _=>rfl⟩ eX;have HAT:=Hq (λW'' (ho:Out c w W' W'')=>(vL.kc (k:=9) ((KC.keeps eX (λx hx=>by have:x=w.heap.size+2:=Aad;rw [this];exact aY Aaa)).trans (KC.out H9 ho)) Aaa).rm);have qG:Hid (Below B w W'):=(HB1.mono hB).trans (eX.below (λx hx=>by have:x=w.heap.size+2:=Aad;omega) (aEA hB (HB1.mono hB).size));have xA:=Hq (Apart.keeps (c:=c) (Apart.of_below (HB1)) (HB1.mono hB).size eX (λx hx=>by have:x=w.heap.size+2:=Aad;omega));clear e4 eX;exact⟨(⟨a_k,qV,iV,iM,(some ⟨g,off,none⟩),cZ,fD,dW,dw,dG⟩:bg),rfl,HAT,qG,xA⟩):P:=h
theorem akg(h:P:=by
 open auL in exact ahd):P:=h
theorem Ph(h:P:=by
 clear HR;clear hk hn ho;go_in
 go_wp2_with (first|(go_at_call_of 62 k;refine(HK _).mono ?_;rintro e w1 ⟨rfl,rfl⟩)|(go_at_call_of 59 n;refine(HN _).mono ?_;rintro e w1 ⟨rfl,rfl⟩)|(go_at_call_of 59 no;refine(HO _).mono ?_;rintro e w1 ⟨rfl,rfl⟩))
 all_goals
  go_ret
  refine⟨aF ?_,au w _⟩
  rw [ah HP]
  simp[lK, *]):P:=h
theorem awX(h:P:=by
 open am7 in exact aeD):P:=h
theorem TG(h:P:=by
 open ar2 in exact agF):P:=h
theorem aeJ(h:P:=by
 open apA in exact aj8):P:=h
theorem aw0(h:P:=by
 open am6 in exact aeD):P:=h
theorem aw1(h:P:=by
 rw [hR];have hd:decide (o.no<=n.old)=false:=aEw hc;open ar7 in exact aaI):P:=h
theorem aw2(h:P:=by
 open aAg in exact Yk3):P:=h
theorem IL(h:P:=by
 open anG in exact xE):P:=h
theorem aw3(h:P:=by
 rw [hR];have hiI:(i:Int) < (n.reqs.length:Int):=Aaa
 have HST:=Hq hst;clear hR hst;have hp:=iL hok;have OO:=Hq (λW1 (ha:fJ W1 jd n.reqs)=>Bd n (⟨a_k,qV,iV,iM,jd,cZ,fD,dW,dw,dG⟩:bg) no W1 Aaa hp.1 ha);rw [hJ] at OO;clear hp hok;unfold iO;have H9:=Hq h9;clear h9;have hbw0:=au w (.cells (dR n (⟨a_k,qV,iV,iM,jd,cZ,fD,dW,dw,dG⟩:bg)) 53);open ash in exact Wp):P:=h
theorem aw5(h:P:=by
 go_wp2_with fail;go_quiet (fail);have acd:(wr.drewN nq).ownsRow W2.heap.size 129 4 (.slice a (FL k).length cp) (FL k).length (GR.flat aN (FL k)):=ah HO;have hnk:=ah SH;obtain⟨hi,hz0,hz1,hz2⟩:=ah HI;have hwb:W2.heap.size<=wr.heap.size:=gK.size;go_wp2_with (at_builtin;refine aFf _ rfl _ _ 49 rfl W2.heap.size 129 i0 (.agg (gB 0 0 ByteArray.empty 0)) 4 40 underlying49 hi hz0 hz1 hz2 rfl Aag _ _ _ rfl (acd.alloc _) ⟨wr.heap.size,0,none⟩ 1 1 (aN ⟨si,st,sk,sn⟩) rfl rfl ?c1 ?c2 ?c3 ?c4 ?c5 ?_)
 case c1=>exact aFj (aEu (wr.drewN nq) _)
 case c2=>exact yF _
 case c3=>unfold maxLen;omega
 case c4=>omega
 case c5=>exact aEA hwb (au (wr.drewN nq) _).size
 intro v' w5 hown' hgrow _;obtain⟨an,cn,hv,_⟩:=GR.own_at (enc:=aN) (sz:=4) (l:=FL k++[⟨si,st,sk,sn⟩]) aX (by rw [aEC,iX];exact hown');rw [aEC] at hv;have hv':v'= .slice an ((FL k).length+1) cn:=hv;clear hv;subst hv'
 have Ov:Hid (w5.ownsRow W2.heap.size 129 4 (.slice an FK.length cn) FK.length (GR.flat aN FK)):=by
  unfold Hid;rw [ah HX,aEC,iX];exact hown'
 have fI:Hid (aG W2 w5):=(gK.trans (Below.trans (b:=wr.drewN nq) ⟨rfl,rfl,rfl,aEx _,λ_ _=>rfl⟩ ((au (wr.drewN nq) (.cells (gB si st sk sn) 129)).mono hwb))).trans ⟨hgrow.os,hgrow.tape,hgrow.output,hgrow.size,λx hx=>hgrow.block x (aEH hx (aEA hwb (au (wr.drewN nq) _).size)) (λe=>by have:=uM acd e.symm;omega)⟩;clear hown' hgrow acd hi hz0 hz1 hz2 c0 c1 c2 c3 c4 c5 c6 c7 c8 m0 m1 m2 m3 m4 m5 m6 s0 s1 s2 s3;go_wp2_with fail;go_roundw
 case rel=>exact⟨k+1,an,cn,Aaa,by rw [ah HX0,ah HX,aEC];rfl,Aaf,by rw [ah HX0];exact Ov,fI⟩
 case measure=>simp[intOf];omega):P:=h
theorem aw6(h:P:=by
 go_upto_region 1 with fail;clear hW c0 c1 c2 t0 q1;refine Ip 23 ?_;refine tk [0,1,2,3,4,5,6,7,8,9,10,11,12,13,14,15,16] ?_;iterate 17 (refine iy (λK hK=>?_);go_simp;(first|refine hK _ ?_|(apply Exists.intro;refine⟨λ_=>?_,hK _ ?_⟩;rfl));clear hK K)
 refine jm ?_;refine jc 17 rfl Aab Aab Aab (λ_ _ _ _ h=>h) Aah 33 _ rfl w.heap.size 0 rfl [.slice (some ⟨g,off,none⟩) up.length ca] _ hTR hTL underlying33 rfl Aab ?_;refine tk [18] ?_;(refine iy (λK hK=>?_);go_simp;(first|refine hK _ ?_|(apply Exists.intro;refine⟨λ_=>?_,hK _ ?_⟩;rfl));clear hK K)
 refine jm ?_;clear y0 y1 y2 yt yu hq hq2 hTR;refine eu 19 rfl Aab Aah (λx hx=>?_);go_simp;have gx:aG w x:=Ge.trans (show Ge w W from gK) hx;refine(VT x gx).mono ?_;rintro e y ⟨v,rfl,hown,hby⟩;refine⟨hby,?_⟩;obtain⟨b,cb,rfl,hat⟩:=GR.own_at aU hown;have HAT:=Hq hat;have HG:=Hq (show aG w y from Ge.trans (show Ge w x from gx) hby);clear hown hat hx hby gx VT;refine eu 20 rfl Aab Aah (λx hx=>?_);go_simp;have gx:aG w x:=Ge.trans (show Ge w y from HG) hx;refine(xS x gx b cb (GR.At.below HAT hx)).mono ?_;rintro e z ⟨⟨r,rfl,hr⟩,hby⟩;refine⟨hby,?_⟩;have HR:=Hq (hr.trans HYN.symm);have HG2:=Hq (show aG w z from Ge.trans (show Ge w x from gx) hby);clear hr hx hby gx HG HAT xS HYN;refine tk [21] ?_;(refine iy (λK hK=>?_);go_simp;(first|refine hK _ ?_|(apply Exists.intro;refine⟨λ_=>?_,hK _ ?_⟩;rfl));clear hK K)
 refine jm ?_;refine eu 22 rfl Aab Aah (λx hx=>?_);go_simp;refine⟨aEK _ _,?_⟩;refine dJ Aab (λz hz=>?_);have Ey:=Hq (show aG w z from Ge.trans HG2 (Ge.trans hx hz));clear hx hz HG2;go_wp2_with fail;go_ret;exact⟨⟨r,rfl,HR⟩,Ey⟩):P:=h
theorem akh(h:P:=by
 dsimp only at q0 q1 q2 q3 hkk;have hkm:pk.size<=maxLen:=hkk;unfold maxLen at hkk;go_wp2_with fail;refine(tX _).mono ?_;rintro e w5 ⟨rfl,hb5⟩;have eO:=Hq (aO.trans (hb5.mono aO.size));clear hb5 q0 q1 q2 q3;dsimp only;by_cases hc:(pk.size:Int)<=z
 .rw [aER hc];have hn2:decide (z - (pk.size:Int) < 0)=false:=aEw Aaa;go_wp2_with fail;go_roundw
  case rel=>
   refine⟨k+1,z - pk.size,Aaa,Aaf,rfl,Aaa,Aaa,?_,eO⟩;intro p hp;rw [ah HT] at hp;rcases aE0.1 hp with h|h
   .exact kS p h
   .rw [aEM] at h;subst h;show pk.size<=1048576
    omega
  case measure=>simp[intOf];omega
 .rw [aEG hc];go_wp2_with fail;go_ret;exact⟨-1,rfl,eO,.inl rfl⟩):P:=h
theorem aeK(h:P:=by
 rcases hcase with rfl|⟨r0,r1,hqq⟩
 .go_wp2_with fail;go_ret;exact⟨-1,rfl,.inl rfl,eO⟩
 .have hn2:decide (r < 0)=false:=aEw Aaa;have HQQ:=Hq hqq;clear hqq;go_wp2_with fail;go_roundw
  case rel=>
   refine⟨k+1,r,Aaa,Aaf,rfl,Aaa,Aaa,?_,eO⟩;intro p hp;rw [ah HT] at hp;rcases aE0.1 hp with h|h
   .exact kS p h
   .rw [aEM] at h;subst h;exact HQQ
  case measure=>simp[intOf];omega):P:=h
theorem aw8(h:P:=by
 by_cases hk:k.toList=[]
 case' neg=>
  go_wp2_with fail;go_ret;exact⟨aF (by rw [ah HP];simp[lK,hk]),gK⟩
 by_cases hn:n=0
 case' neg=>
  have hn':¬(0:Int)=n:=λe=>hn e.symm
  go_wp2_with fail;go_ret;exact⟨aF (by rw [ah HP];simp[lK,hk,hn]),gK⟩
 subst hn;by_cases hmK:mK=0
 case' neg=>
  have aCc:¬(0:Int)=mK:=λe=>hmK e.symm
  go_wp2_with fail;go_ret;exact⟨aF (by rw [ah HP];simp[lK,hk,hmK]),gK⟩
 subst hmK;by_cases hmF:mF=0
 case' neg=>
  have aCa:¬(0:Int)=mF:=λe=>hmF e.symm
  go_wp2_with fail;go_ret;exact⟨aF (by rw [ah HP];simp[lK,hk,hmF]),gK⟩
 subst hmF;by_cases hmT:mT=0
 case' neg=>
  have aCf:¬(0:Int)=mT:=λe=>hmT e.symm
  go_wp2_with fail;go_ret;exact⟨aF (by rw [ah HP];simp[lK,hk,hmT]),gK⟩
 subst hmT;by_cases hmI:mI=0
 case' neg=>
  have aCb:¬(0:Int)=mI:=λe=>hmI e.symm
  go_wp2_with fail;go_ret;exact⟨aF (by rw [ah HP];simp[lK,hk,hmI]),gK⟩
 subst hmI;by_cases hmL:mL=0
 case' neg=>
  have aCd:¬(0:Int)=mL:=λe=>hmL e.symm
  go_wp2_with fail;go_ret;exact⟨aF (by rw [ah HP];simp[lK,hk,hmL]),gK⟩
 subst hmL;by_cases hmk:mk.toList=[]
 case' neg=>
  go_wp2_with fail;go_ret;exact⟨aF (by rw [ah HP];simp[lK,hk,hmk]),gK⟩
 by_cases hmN:mN=0
 case' neg=>
  have aCe:¬(0:Int)=mN:=λe=>hmN e.symm
  go_wp2_with fail;go_ret;exact⟨aF (by rw [ah HP];simp[lK,hk,hmk,hmN]),gK⟩
 subst hmN;go_wp2_with fail;go_ret;exact⟨aF (by rw [ah HP];simp[lK,hk,hmk]),gK⟩):P:=h
theorem aw9(h:P:=by
 refine iT 11 rfl Aab Aah Aag (λxf hxf=>?_);have HGg:=Hq (Ge.trans HGf hxf);have HQg:=Hq (aj HQf hxf);have HDg:=Hq (Ge.trans HDf hxf);clear hxf;obtain⟨⟨d0,d1,d2,d3,d4,d5,d6,d7,d8⟩,f0,f1,f2,f3,f4,f5,f6,f7,f8⟩:=iG HQg;have hrl:=ay HQg;go_simp;have hkq:aC [qf] xf (GR.setW xf qf 0 (dR m' A3).toList):=eP (g:=qf) _ xf 0;refine⟨hkq.below (λx hx=>by rw [aEM.1 hx];exact hqV) HGg.size,?_⟩;have HBQ:=Hq (GR.setW_blk (dR m' A3).toList (o:=0) (xs:=kH.toList) HQg);have HKD:=Hq (aC.trans (F:=[qf]) (aC.of_below HDg) hkq);have wJ:=Hq (Below.trans HGg (hkq.below (B:=wr.heap.size) (λx hx=>by rw [aEM.1 hx];exact hqV) HGg.size));clear hkq d0 d1 d2 d3 d4 d5 d6 d7 d8 f0 f1 f2 f3 f4 f5 f6 f7 f8 hrl;have hwp:=wJ.size;refine tk [12] ?_;(refine tkB 20 (Rb _) (λK hK=>?_);go_simp;(first|refine hK _ ?_|(apply Exists.intro;refine⟨λ_=>?_,hK _ ?_⟩;rfl));clear hK K)
 refine jm ?_;clear hwp;refine pJ Aab (λz hz=>?_);have azF:=Hq (aj HBQ hz);have HNz:=Hq (((Ou.or hqd HKD).step hz).mono (aEA hsz hxs));have azG:=Hq (wJ.trans (hz.mono wJ.size));clear hz HBQ HKD wJ;refine an 13 ?_;go_simp;refine ad ?_;go_simp;go_wp2_with fail;go_meet
 case rel=>exact⟨qf,A3,rfl,azF,HNz,azG⟩):P:=h
theorem ES(h:P:=by
 open anF in exact xE):P:=h
theorem axa(h:P:=by
 refine eB (u1:= .slice (some ⟨ab,0,none⟩) 1 1) (u2:= .int .i64 0) results142 rfl rfl rfl rfl vP (λW' e4 eX=>?_);have ace:w.heap.size+2≠gi:=Aaa
 have HNF:=Hq (aen.kc (k:=9) (KC.keeps eX (λx hx=>by have:x=w.heap.size+2:=Aad;rw [this];exact Ev _ Aaa ace)) Aaa);open arA in exact awQ):P:=h
theorem axb(h:P:=by
 go_wp2_with fail;refine eB (u1:= .slice (some ⟨W8.heap.size,0,none⟩) 0 0) (u2:= .int .i64 1) results142 rfl rfl rfl rfl zB (λW' e4 eX=>?_);have ace:w.heap.size+2≠gi:=Aaa
 have HNF:=Hq (aeo.kc (k:=9) (KC.keeps eX (λx hx=>by have:x=w.heap.size+2:=Aad;rw [this];exact Ev _ Aaa ace)) Aaa);open arz in exact awQ):P:=h
theorem abo(h:P:=by
 have HP:=Hq (HD Aak);clear HD HE;go_upto_region 6 with fail;go_quiet (fail);go_wp2_with fail;go_ret;exact .no HP (fu _ aO)):P:=h
theorem yC(h:P:=by
 exact⟨Aam,aEV _ dq osq⟩):P:=h
theorem axc(h:P:=by
 open auP in exact ahf):P:=h
theorem XU(h:P:=by
 have hlen:(l.take k).length=k:=Aae
 rw [aF9 _ _ Aaa,hlen,Nat.sub_self];have e:l.length - k=(l.length - (k+1))+1:=Aaa
 rw [e,List.replicate_succ,aEF hk,aFa];rfl):P:=h
theorem axd(h:P:=by
 have hold:=(jD.kc (k:=9) ((KC.of_below tZ).trans (KC.out H9 ho)) Aaa);have hr:=(ah HLZ).out (w:=w) Aaa ho;rcases Tt with hp|⟨rfl,rfl⟩
 .have hp:=hp.out (w:=w) Aaa ho
  have hp9:∀g',pa.map (λy=>y.block)=some g'->6 < newC w.heap.size 9 c g':=λg' hg'=>by
   have h1:=hp.lo (sH hp hg')
   rw [aY Aaa]
   omega
  exact NQ.put hold hold _ _ rfl rfl rfl rfl (hp.lies aP).1 (λg' hg' _=> .inr (hp9 g' hg')) hold.o (λy hy=> .inl (hold.co y hy)) hr (λy hy=> .inr (by have h1:=hr.lo hy;rw [aY Aaa];omega))
   (λg' hg' _ h6=>⟨λe=>by have:=hold.co g' e;omega,hp.ne hr Aag (sH hp hg')⟩) (λy hy h6=>by have:=hold.co y hy;omega)
 .exact NQ.put hold hold _ _ rfl rfl rfl rfl hold.p.at (λg' hg' hp'=> .inl (hold.cpB hold g' hg' hp')) hold.o (λy hy=> .inl (hold.co y hy)) hr (λy hy=> .inr (by have h1:=hr.lo hy;rw [aY Aaa];omega))
   (λg' hg' hp' h6=>by have:=hold.cpB hold g' hg' hp';omega) (λy hy h6=>by have:=hold.co y hy;omega)):P:=h
theorem xH(h:P:=by
 go_ret;exact⟨aF HP.symm,au w _⟩):P:=h
theorem axe(h:P:=by
 open apf in exact aj5):P:=h
theorem abp(h:P:=by
 open anE in exact xE):P:=h
theorem axf(h:P:=by
 obtain⟨⟨d0,d1,d2,d3,d4,d5,d6,d7,d8⟩,f0,f1,f2,f3,f4,f5,f6,f7,f8⟩:=iG pX;have hrl:=ay pX;go_wp2_with fail;refine fQ (λW' hW'=>?_)
 have e4:W'.heap[w.heap.size+2]?=some (.cells (dR n A1) 53 (0,0)):=by
  rw [hW'];exact GR.setW_blk (dR n A1).toList (o:=0) (xs:=kH.toList) pX
 have hkc:KC cc 0 W3 W':=by
  rw [hW'];exact KC.setW (o:=0) (dR n A1).toList (jD.lo _ hrs)
 have HAT:=Hq (λW'' (ho:Ee w W' W'')=>((jD.kc0 hkc).kc0 (ho.kc (λx hx=>jD.lo x Aaa))).rm)
 have qG:Hid (aG w W'):=by
  rw [hW'];exact GR.setW_below Aaa (dR n A1).toList (o:=0) HB3
 obtain⟨x0,x1,x2,x3,x4,x5,x6,x7,x8⟩:=nine e4;clear hW' e4 hkc;exact aEE (v:= .tuple #[(gP n A1),.slice (some ⟨W0.heap.size,0,none⟩) 0 0,.int .i64 3]) Ach rfl ⟨A1,some ⟨W0.heap.size,0,none⟩,0,rfl,HAT,λW'' _ i hi=>Aau,qG⟩):P:=h
theorem axg(h:P:=by
 open aAn in exact Yk6):P:=h
theorem aki(h:P:=by
 have HK:=Hq (λw1=>gW k false w1 hk);cases hn:fC n
 .have HN:=Hq (λw1=>aL n false w1 hn);have HP:=Hq (show R=(decide (no=0)&&false&&false&&lK ⟨mK,mF,mT,mI,mL,mk,mN⟩) by rw [<-ah HR];simp[bC,hk,hn]);exact akg
 .have HN:=Hq (λw1=>aL n true w1 hn);have HP:=Hq (show R=(decide (no=0)&&false&&true&&lK ⟨mK,mF,mT,mI,mL,mk,mN⟩) by rw [<-ah HR];simp[bC,hk,hn]);exact akg):P:=h
theorem zK(h:P:=by
 go_ret;exact⟨aF (HP.symm.trans HQ),hB⟩):P:=h
theorem akj(h:P:=by
 clear hr hc0;go_in
 go_wp2_with (first|(go_at_call 349;refine(HR _).mono ?_;rintro e w2 ⟨rfl,hb2⟩;have hA:=aI (aEu w _) hb2;have hB:=(au w _).trans (hb2.mono Aac);obtain⟨c0,c1,c2,c3,c4,c5⟩:=Md hA;have hz:=cu hA;clear hA hb2)|(go_at_call_of 179 I;refine(Oj _).mono ?_;rintro e w1 ⟨rfl,rfl⟩))
 exact zK):P:=h
theorem LV(h:P:=by
 exact⟨0,z0 - l.length,aEN _,rfl,Aaf,Aaa,Aaa,λp hp=>by simp at hp,aEK _ _⟩):P:=h
theorem XV(h:P:=by
 have hb:aG w w1:=(au w _).grown hgrow Aac (λk hk=>Acl);clear hown' hgrow hlit;go_wp2
 go_ret;exact⟨_,rfl,HO,hb⟩):P:=h
theorem akk(h:P:=by
 open avo in exact Ww):P:=h
theorem abq(h:P:=by
 open anD in exact xE):P:=h
theorem aeL(h:P:=by
 open anC in exact xE):P:=h
theorem axh(h:P:=by
 open ao2 in exact awj):P:=h
theorem axi(h:P:=by
 rw [ah HD];clear HD hT;go_in
 go_upto_region 1 with fail;refine Ip 18 ?_;refine tk [0,1,2,3,4,5,6,7,8,9,10,11,12,13,14,15,16,17] ?_;iterate 15 (refine iy (λK hK=>?_);go_simp;refine hK _ ?_;clear hK K)
 (refine iy (λK hK=>?_);go_simp;(first|refine hK _ ?_|(apply Exists.intro;refine⟨λ_=>?_,hK _ ?_⟩;(exact Tk _ (Tw _))));clear hK K)
 open aul in exact EP):P:=h
theorem axj(h:P:=by
 open atZ in exact O7):P:=h
theorem abr(h:P:=by
 go_wp2_with fail;refine H.mono ?_;rintro e w1 ⟨a1,c1,g,hg,rfl,hblk,hb⟩;have HK:=Hq hblk;have HB:=Hq hb;clear hblk hb;go_wp2_with fail;go_ret2
 exact⟨_,_,g,hg,rfl,HK,HB⟩):P:=h
theorem akl(h:P:=by
 open arY in exact agD):P:=h
theorem axk(h:P:=by
 open ao1 in exact awj):P:=h
theorem akm(h:P:=by
 open asj in exact agJ):P:=h
theorem axl(h:P:=by
 subst hx;by_cases hx:x3=y3
 case' neg=>
  have hq:(x3 == y3)=false:=Aad
  exact abo
 subst hx;have HT2:=Hq (HE rfl);clear HE HD;go_upto_region 6 with fail;go_quiet (fail);go_wp2_with fail;go_roundw
 case rel=>exact⟨k+1,Aaa,Aaf,fu _ aO,HT2⟩
 case measure=>simp[intOf];omega):P:=h
theorem axm(h:P:=by
 obtain⟨k,hk,rfl,rfl,rfl⟩:=hrel;have hb:=Mth.sums_lt (s.data.toList.take k);by_cases hlt:k < s.size
 .have HS:Hid (Mth.sums (s.data.toList.take (k+1))=Mth.sumStep (Mth.sums (s.data.toList.take k)) s[k]):=by rw [Mth.take_snoc s k hlt];exact Mth.sums_snoc _ _
  have hc:s[k].toNat < 256:=s[k].toNat_lt;go_wp2
  go_round
  case rel=>exact⟨k+1,Aaa,Aaf,by rw [HS.out];simp[Mth.sumStep],by rw [HS.out];simp[Mth.sumStep]⟩
  case measure=>simp[intOf];omega
 .rw [Mth.take_all s k hlt];rw [Mth.take_all s k hlt] at hb;go_wp2
  go_ret;exact⟨Nt Aaa,rfl⟩):P:=h
theorem axn(h:P:=by
 have e1:(w.alloc a).heap.size=w.heap.size+1:=Aac
 have e2:((w.alloc a).alloc b).heap.size=w.heap.size+1+1:=Aac
 have h2:=aEI ((w.alloc a).alloc b) c (w.heap.size+1) Aaa;have h3:=aEu ((w.alloc a).alloc b) c;have h4:=aEu (w.alloc a) b;have h5:=aEI ((w.alloc a).alloc b) c w.heap.size Aaa;have h6:=aEI (w.alloc a) b w.heap.size Aaa;rw [e2] at h3;rw [e1] at h4;exact⟨h5.trans (h6.trans (aEu w a)),h2.trans h4,h3,((au w a).alloc Aaa b).alloc Aaa c⟩):P:=h
theorem axo(h:P:=by
 open am5 in exact aeD):P:=h
theorem axp(h:P:=by
 clear hr hc0 hc1 hc2;go_in
 go_wp2_with (first|(go_at_call 349;refine(HR _).mono ?_;rintro e w2 ⟨rfl,hb2⟩;have hA:=aI (aEu w _) hb2;have hB:=(au w _).trans (hb2.mono Aac);obtain⟨c0,c1,c2,c3,c4,c5⟩:=Md hA;have hz:=cu hA;clear hA hb2)|(go_at_call_of 179 I;refine(Oj _).mono ?_;rintro e w1 ⟨rfl,rfl⟩)|(go_at_call_of 195 k;refine(Tf _).mono ?_;rintro e w1 ⟨rfl,rfl⟩)|(go_at_call_of 179 N;refine(Iq _).mono ?_;rintro e w1 ⟨rfl,rfl⟩))
 exact zK):P:=h
theorem vQ(h:P:=by
 exact⟨0,aEN _,rfl,aEK _ _⟩):P:=h
theorem akn(h:P:=by
 open as3 in exact agU):P:=h
theorem axq(h:P:=by
 go_wp2_with fail;refine gY (λW' hW'=>?_);obtain⟨⟨r0,r1,r2,r3,r4,r5,r6,r7,r8,r9,Za⟩,_⟩:=aJ (show W'.heap[w.heap.size]?=some (.cells (bE 0 0 ⟨#[]⟩ 0 0 0 0 0 0 ⟨#[]⟩ 0) 106 (0,0)) by rw [hW'];exact lC HR);have hbb:aG w W':=by rw [hW'];exact iw HB (aEx _)
 exact aEE (v:= .tuple #[.agg (bE 0 0 ⟨#[]⟩ 0 0 0 0 0 0 ⟨#[]⟩ 0),.bool false]) Aci rfl ⟨Abh,hbb⟩):P:=h
theorem axr(h:P:=by
 obtain⟨s0,s1,s2,s3⟩:=sK.four fI k Aaa;open as8 in exact aaL):P:=h
theorem axt(h:P:=by
 clear hr hc2 hc3 hc4 FB;go_in
 go_wp2_with (first|(go_at_call_of 90 F;refine(H1 _).mono ?_;rintro e w1 ⟨rfl,rfl⟩)|(go_at_call_of 90 T;refine(H2 _).mono ?_;rintro e w1 ⟨rfl,rfl⟩)|(go_at_call_of 62 k;refine(Iq _).mono ?_;rintro e w1 ⟨rfl,rfl⟩)|(go_at_call_of 59 N;refine(HC3 _).mono ?_;rintro e w1 ⟨rfl,rfl⟩)|(go_at_call_of 59 I;refine(HC4 _).mono ?_;rintro e w1 ⟨rfl,rfl⟩)|(go_at_call 33;refine(HC5 _).mono ?_;rintro e w1 ⟨rfl,rfl⟩))
 exact xH):P:=h
theorem axu(h:P:=by
 clear hr hc0 hc1;go_in
 go_wp2_with (first|(go_at_call 349;refine(HR _).mono ?_;rintro e w2 ⟨rfl,hb2⟩;have hA:=aI (aEu w _) hb2;have hB:=(au w _).trans (hb2.mono Aac);obtain⟨c0,c1,c2,c3⟩:=Mc hA;have hz:=cu hA;clear hA hb2)|(go_at_call_of 195 k;refine(Oj _).mono ?_;rintro e w1 ⟨rfl,rfl⟩)|(go_at_call_of 179 N;refine(Tf _).mono ?_;rintro e w1 ⟨rfl,rfl⟩))
 exact zK):P:=h
theorem aeM(h:P:=by
 have HD:=Hq (show¬n=m from λh=>hx (by rw [h]));clear hx HZ HA HB;go_in
 go_wp2_with fail;go_ret;exact .no HD (zL _ _ _)):P:=h
theorem axv(h:P:=by
 open aAO in exact XP):P:=h
theorem TH(h:P:=by
 go_wp2_with fail;go_ret;exact⟨_,rfl,World.ownsRow_nil _ _ _ _,aEK _ _⟩):P:=h
theorem ET(h:P:=by
 simp only[aFy] at h;rw [e] at h;exact h):P:=h
theorem axw(h:P:=by
 open arX in exact agD):P:=h
theorem axx(h:P:=by
 clear hr hc0;go_in
 go_wp2_with (first|(go_at_call 349;refine(HR _).mono ?_;rintro e w2 ⟨rfl,hb2⟩;have hA:=aI (aEu w _) hb2;have hB:=(au w _).trans (hb2.mono Aac);obtain⟨c0,c1,c2⟩:=cells3 hA;have hz:=cu hA;clear hA hb2)|(go_at_call_of 179 I;refine(Oj _).mono ?_;rintro e w1 ⟨rfl,rfl⟩))
 exact zK):P:=h
theorem axy(h:P:=by
 go_wp2_with fail;refine(HQ _).mono ?_;rintro e w1 ⟨r,rfl,hcase,hb1⟩;have HB:=Hq ((au w _).trans (hb1.mono Aac));clear hb1 HQ;rcases hcase with rfl|⟨r0,r1,hq⟩
 .go_wp2_with fail;go_ret;exact⟨-1,rfl,.inl rfl,HB⟩
 .have hn:decide (r < 0)=false:=aEw Aaa;have HQQ:=Hq hq;clear hq;go_wp2_with fail;go_ret;exact⟨r,rfl,.inr ⟨r0,r1,HQQ⟩,HB⟩):P:=h
theorem aeN(h:P:=by
 exact⟨0,aEN _,rfl,by unfold GR.Blk;rw [aGb,aFN,Nat.sub_zero];exact aEu w _,aV w _⟩):P:=h
theorem axz(h:P:=by
 go_wp2_with fail;refine(Ol _ (GR.At.below HA HB1)).mono ?_;rintro e w2 ⟨v,rfl,hnn,hrow,hb2⟩;have LC:=Hq hnn;have HR:=Hq (own_lower hrow HB1.size);have HB2:=Hq (HB1.trans (hb2.mono HB1.size));clear hrow hb2 hnn;go_wp2_with fail;refine aEE (v:= .tuple #[v,.bool false]) Acj rfl ⟨v,rfl,LC,HR,HB2⟩):P:=h
theorem aeO(h:P:=by
 go_wp2_with (go_at_call 272;refine(yV _ _).mono ?_;rintro e w' ⟨rfl,rfl⟩)
 go_ret3
 exact⟨adr HR,rfl⟩):P:=h
theorem ako(h:P:=by
 go_wp2_with fail;refine LC.mono ?_;rintro e w9 ⟨rfl,hb9⟩;have HKK:=Hq (HS.keep.trans (dD.of_below hb9));clear hb9;go_wp2_with fail;exact⟨rfl,.inr ⟨hno,_,rfl⟩,HKK⟩):P:=h
theorem XW(h:P:=by
 go_wp2_with fail;go_ret;exact⟨rfl,(aEK _ _).alloc (aEx _) _⟩):P:=h
theorem aeP(h:P:=by
 have HD:=Hq (show¬n=m from λh=>by have:=hr.2 (by rw [h]);cases this);clear hr;go_wp2_with fail;go_ret;exact .no HD HL):P:=h
theorem abt(h:P:=by
 go_wp2_with fail;go_ret;exact⟨rfl,((aEK _ _).alloc (aEx _) _).alloc Aac _⟩):P:=h
theorem axA(h:P:=by
 clear eG;refine aEJ Aab Aab ?_;repeat (first|go_big_quiet_step ((first|(go_at_call_of 33 si;exact a1 _ _)|(go_at_call 62;exact a2 _ _)|(go_at_call 59;exact a3 _ _)|(go_at_call_of 33 st;exact a4 _ _)))|quiet_step ((first|(go_at_call_of 33 si;exact a1 _ _)|(go_at_call 62;exact a2 _ _)|(go_at_call 59;exact a3 _ _)|(go_at_call_of 33 st;exact a4 _ _))))
 exact akk):P:=h
theorem axB(h:P:=by
 clear eG;refine aEJ Aab Aab ?_;repeat (first|go_big_quiet_step ((first|(go_at_call 33;exact a1 _ _)|(go_at_call 61;exact a2 _ _)|(go_at_call 62;exact a3 _ _)|(go_at_call 59;exact a4 _ _)))|quiet_step ((first|(go_at_call 33;exact a1 _ _)|(go_at_call 61;exact a2 _ _)|(go_at_call 62;exact a3 _ _)|(go_at_call 59;exact a4 _ _))))
 exact akk):P:=h
theorem axC(h:P:=by
 open as1 in exact agU):P:=h
theorem axD(h:P:=by
 constructor
 .intro hf;have e:l=l.take i++l[i]::l.drop (i+1):=by rw [<-aFw hi,aFm]
  have h2:(l.take i++l[i]::l.drop (i+1)).find? f=some l[i]:=by
   rw [List.find?_append,h,List.find?_cons,hf];rfl
  rw [<-e] at h2;exact h2
 .intro hf;rw [aEF hi,List.find?_append,h,List.find?_cons,hf];rfl):P:=h
theorem aeQ(h:P:=by
 have HBAD:=Hq (nV hlt (show nU l (j+1)=false by rw [ah nO];simp[gZ,hA]));clear nO gu hA;exact Zk0):P:=h
theorem akp(h:P:=by
 have HN:=Hq (λw1=>aL n false w1 hn);have HP:=Hq (show R=(decide (no=0)&&true&&false&&lK ⟨mK,mF,mT,mI,mL,mk,mN⟩) by rw [<-ah HR];simp[bC,hk,hn]);exact akg):P:=h
theorem aeR(h:P:=by
 have HBAD:=Hq (nV hlt (show nU l 0=false by rw [ah nO];simp[gZ,hA]));clear nO gu hA;exact Zk0):P:=h
theorem aeS(h:P:=by
 go_wp2_with (go_at_call 192;refine(H1 _).mono ?_;rintro e w1 ⟨rfl,rfl⟩)
 go_ret;exact⟨aF HV.symm,jC⟩):P:=h
theorem axE(h:P:=by
 have Iq:=Hq (λw1=>nY k false w1 hs hc2);clear hr hc2;go_in
 go_wp2_with (first|(go_at_call_of 90 F;refine(H1 _).mono ?_;rintro e w1 ⟨rfl,rfl⟩)|(go_at_call_of 90 T;refine(H2 _).mono ?_;rintro e w1 ⟨rfl,rfl⟩)|(go_at_call_of 62 k;refine(Iq _).mono ?_;rintro e w1 ⟨rfl,rfl⟩))
 exact xH):P:=h
theorem akq(h:P:=by
 have HP:=Hq (HD Aak);clear HD HE hx;go_upto_region 6 with fail;go_quiet (fail);go_wp2_with fail;go_ret;exact .no HP (fu _ aO)):P:=h
theorem WE(h:P:=by
 have h:=ah kS;rw [aEW] at h;exact nD.trans h):P:=h
theorem WG(h:P:=by
 go_wp2_with fail;go_ret;exact⟨aF HF.symm,aO⟩):P:=h
theorem akr(h:P:=by
 have HF:Hid (TT=true):=by
  exact WE
 exact WG):P:=h
theorem abu(h:P:=by
 exact(((aEK _ _).alloc (aEx _) _).alloc Aac _).alloc Aae _):P:=h
theorem aBz(h:P:=by
 rw [En s a Aaa];have h:=uj hc (a+4) (s.size - (a+4)) (s.size - (a+4)) Aaa;rw [h,show a+min (s.size - a) 1006=a+4+(s.size - (a+4)) by omega]):P:=h
theorem axF(h:P:=by
 have h2:=ih (w.setCell ⟨g,o,none⟩ v) (o+1) (λj' hj'=>by
  obtain⟨v1,hv1⟩:=h (j'+1) (by simpa using hj')
  refine⟨v1,(aGc _ _ _ _ (by simp<;>omega)).trans ?_⟩
  rw [<-hv1,show o+1+j'=o+(j'+1) by omega]) j Abg
 rw [show o+1+j=o+(j+1) by omega] at h2;exact h2):P:=h
theorem axG(h:P:=by
 have h1:=(bq hok).1;have h2:=(bq hok).2.2.1;have h3:=vZ h1;rw [wZ h1,aED,aES] at h2;have h4:=congrArg List.length h2.1;rw [aFo,qB] at h4;unfold dX at h1;simp only[aED,aES] at h1;split at h3<;>omega):P:=h
theorem axH(h:P:=by
 refine aGi (P:=prog) w 178 9 5 ⟨g,0,none⟩ 1 [UInt8.ofNat K.toNat] underlying178 underlying5 underlying9 ?_;intro j hj;obtain rfl:j=0:=Abg
 show w.cell? ⟨g,0,none⟩=_
 rw [hc];simp only[aF5];rw [toNat_byte _ Aaa];congr 2
 omega):P:=h
theorem axI(h:P:=by
 clear hbad;go_in
 go_wp2_with (first|(go_at_call 271;refine(HS _).mono ?_;rintro e w1 ⟨rfl,rfl⟩;simp only[rJ])|(go_at_call 272;refine(yV _ _).mono ?_;rintro e w' ⟨rfl,rfl⟩))
 go_ret3
 exact⟨by rw [ah HR];rfl,aEK _ _⟩):P:=h
theorem axJ(h:P:=by
 clear eG;refine aEJ Aab Aab ?_;repeat (first|go_big_quiet_step ((first|(go_at_call 61;exact cN _ _)|(go_at_call 59;exact cS _ _)))|quiet_step ((first|(go_at_call 61;exact cN _ _)|(go_at_call 59;exact cS _ _))))
 exact akk):P:=h
theorem aeT(h:P:=by
 rcases aFD g w.heap.size with h'|h'
 .exact h'
 .rw [aFp h'] at h;cases h):P:=h
theorem axK(h:P:=by
 obtain⟨e,hg,hc⟩:=h i hi;exact⟨e,hg,⟨by simpa using(hc 0 Aaa).1,by simpa using(hc 1 Aaa).1,by simpa using(hc 2 Aaa).1,by simpa using(hc 3 Aaa).1⟩,by simpa using(hc 0 Aaa).2,(hc 1 Aaa).2,(hc 2 Aaa).2,(hc 3 Aaa).2⟩):P:=h
theorem awV(h:P:=by
 rw [En s a Aaa];have h:=uj hc (a+4) 1002 1002 Aaa;rw [h,show a+min (s.size - a) 1006=a+4+1002 by omega]):P:=h
theorem ahH(h:P:=by
 go_wp2_with (go_at_call 33;first|(refine(j6 _ _ _ _ ?_ ?_).mono ?_;omega;omega;rintro e w' ⟨rfl,rfl⟩)|(refine(lT _ _ _ _ ?_).mono ?_;omega;rintro e w' ⟨rfl,rfl⟩))
 go_ret;exact⟨aF (by rw [ah HF];simp;omega),rfl⟩):P:=h
theorem ER(h:P:=by
 go_wp2_with fail;go_ret;exact⟨rfl,rfl⟩):P:=h
theorem ahI(h:P:=by
 open anB in exact xE):P:=h
theorem aa5(h:P:=by
 have HBAD:=Hq (nV hlt (show nU l (j+1)=false by rw [ah nO];simp[hsl]));clear nO gu hsl;exact Zk0):P:=h
theorem ahJ(h:P:=by
 clear HR;clear ho;go_in
 go_wp2_with (first|(go_at_call_of 59 no;refine(HO _).mono ?_;rintro e w1 ⟨rfl,rfl⟩))
 all_goals
  go_ret
  refine⟨aF ?_,au w _⟩
  rw [ah HP]
  simp[lK, *]):P:=h
theorem Pe(h:P:=by
 go_wp2_with fail;go_ret;exact⟨-1,rfl,.inl rfl,aEK _ _⟩):P:=h
theorem ahK(h:P:=by
 have e1:(w.alloc a).heap.size=w.heap.size+1:=Aac
 have h1:=aEu w a;have h2:=aEu (w.alloc a) b;rw [e1] at h2;refine⟨?_,h2,(au w _).alloc Aac _⟩;rw [aEI _ _ _ (by rw [e1];omega)];exact h1):P:=h
theorem ahL(h:P:=by
 have hA':=aFu.1 hA;have hB':=aFu.1 hB;by_cases hab:a=b
 .grind
 .have haB:a∈B:=by
   rcases aET.1 (hs a Aac) with h|h
   .exact absurd h hab
   .exact h
  grind):P:=h
theorem ahM(h:P:=by
 generalize l[k]=pu at *;go_wp2_with fail;go_quiet (fail);go_wp2_with fail;go_roundw
 case rel=>exact⟨k+1,Aaa,Aaf,aO.trans ⟨rfl,rfl,rfl,aEx _,λ_ _=>rfl⟩⟩
 case measure=>simp[intOf];omega):P:=h
theorem ahN(h:P:=by
 rw [e0] at e2;injection e2 with e2
 injection e2 with e2 e3
 subst e2 e3;refine⟨_,?_,.inr ⟨j,_,rfl,rfl,p0⟩⟩;have h:=ah Ev j hlt;rw [ah kS] at h;exact h):P:=h
theorem ahO(h:P:=by
 have hw:Region.wanted o (yielded ops a.tmps)=true:=by simp[Region.wanted,hgd]
 rw [aER hw];exact wp_append_own w s x t ho base e i z size bytes ht hi hz hsize hby hzs hsz v n xs hs hown ad m c news hx hl hnews h1 h63 hbytes hbase h):P:=h
theorem ahP(h:P:=by
 open auU in exact ahg):P:=h
theorem ahQ(h:P:=by
 intro vs;induction vs with
 |nil=>intro w o _;rfl
 |cons v vs ih=>
  intro w o h;rw [aFU] at h;exact(ih (w.setCell ⟨g,o,none⟩ v) (o+1) Aaa).trans (aGc _ _ _ _ (by simp<;>omega))):P:=h
theorem ahR(h:P:=by
 go_wp2_with fail;go_quiet (fail);go_wp2_with fail;go_meet
 case rel=>exact⟨by rw [<-ah JR,ah HJ],⟨rfl,rfl,rfl,aEx _,λ_ _=>rfl⟩⟩):P:=h
theorem Wx(h:P:=by
 unfold World.setCell;simp only[Array.getElem?_modify];rw [aER trivial,h];rfl):P:=h
theorem ahS(h:P:=by
 unfold iQ at h;rcases aE0.1 h with h|h
 .exact .inr ((aFW _).mem h)
 .rcases aET.1 h with h|h
  .exact .inl h
  .exact .inr ((aFL _).mem (He l p.k q h))):P:=h
theorem ahT(h:P:=by
 open anA in exact xE):P:=h
theorem ahU(h:P:=by
 open avn in exact Ww):P:=h
theorem ahV(h:P:=by
 have HP:Hid (TT=false):=ah HBAD (by rw [ah Bu,hbv];rfl);subst hbv;clear HBAD gu eG nD Bu;go_wp2_with fail;go_ret;exact⟨aF HP.symm,Dt⟩):P:=h
theorem ahW(h:P:=by
 go_wp2_with fail;refine Om.mono ?_;rintro e wz ⟨rfl,A5,G5,c5,hfin⟩;have Ew:=Hq hfin;clear hfin;go_wp2_with fail;go_ret;rw [ah HAD];exact⟨rfl,A5,G5,c5,Ew⟩):P:=h
theorem ahX(h:P:=by
 clear hbad;open auJ in exact aaV):P:=h
theorem Wy(h:P:=by
 go_wp2_with fail
 all_goals
  go_ret
  exact⟨by simp[*],au w _⟩):P:=h
theorem ahY(h:P:=by
 subst hbv;clear HBAD gu eG nD Bu;go_wp2_with fail;go_roundw
 case rel=>exact⟨k+1,Aaa,Aaf,HG,ajD,Dt⟩
 case measure=>simp[intOf];omega):P:=h
theorem ahZ(h:P:=by
 go_in
 go_wp2_with (first|(go_at_call_of 90 F;refine(H1 _).mono ?_;rintro e w1 ⟨rfl,rfl⟩)|(go_at_call_of 90 T;refine(H2 _).mono ?_;rintro e w1 ⟨rfl,rfl⟩))
 exact xH):P:=h
theorem ah0(h:P:=by
 by_cases h:0<=iR s i
 .exact(iD h).2.2.2.1
 .unfold iR at h;unfold jU;cases hG:textOf s i.toNat (gV s i) with
  |none=>simp[ZX]
  |some p=>rw [hG] at h;exact absurd (by simp[Sg]) h):P:=h
theorem Pf(h:P:=by
 go_wp2_with fail;go_ret;exact .no HP (aEK _ _)):P:=h
theorem ah1(h:P:=by
 exact⟨e,aEH hg hk.size,λj hj=>⟨(aE6 (w:=w) (hk.block g hg hne)).trans (hc j hj).1,(aGj (w:=w) (hk.block g hg hne)).trans (hc j hj).2⟩⟩):P:=h
theorem Pg(h:P:=by
 repeat (refine Below.setNew ?_ Aaa)
 exact HB1):P:=h
theorem ah2(h:P:=by
 obtain⟨g',off',e,hg',hc⟩:=hat i hi;cases e
 refine⟨rfl,hg',λj hj=>⟨?_,?_⟩⟩
 .have:=hc j hj;rwa [aFq] at this
 .unfold World.frozen?;rw [hblk];simp):P:=h
theorem Wz(h:P:=by
 go_wp2_with fail;go_ret;exact⟨-1,rfl,aEK _ _,.inl rfl⟩):P:=h
theorem aa6(h:P:=by
 rintro e w' ⟨rfl,A',G',c',hW'⟩;exact⟨rfl,A',G',c',v,by rw [aFF];exact hW'⟩):P:=h
theorem ah3(h:P:=by
 rcases aE0.1 h1 with h1|h1
 .have:=c5 x h1;omega
 .have:=c6 x h1;omega):P:=h
theorem ah4(h:P:=by
 generalize l[k]=y at *;go_wp2_with fail;go_round
 case rel=>exact⟨k+1,Aaa,Aaf,by rw [ah HS,ah HN];rfl⟩
 case measure=>simp[intOf];omega):P:=h
theorem ah5(h:P:=by
 have hc:∀i,w.cell? ⟨g,i,none⟩=#[v0,v1,v2,v3,v4,v5,v6,v7,v8,v9,v10][i]?:=λi=>aEz w g i _ t (0,0) h
 exact⟨hc 0,hc 1,hc 2,hc 3,hc 4,hc 5,hc 6,hc 7,hc 8,hc 9,hc 10⟩):P:=h
theorem ah6(h:P:=by
 go_wp2_with fail;refine(HO _).mono ?_;rintro e w1 ⟨rfl,hb1⟩;have hB:=(au w _).trans (hb1.mono Aac);clear hb1 HO;go_wp2_with fail;go_ret;exact⟨rfl,hB⟩):P:=h
theorem ah7(h:P:=by
 exact aEE (v:= .tuple #[.agg (bH 0 0 0 0 0 ⟨#[]⟩ 0),.bool false]) Acp rfl ⟨Abh,hbb⟩):P:=h
theorem ah8(h:P:=by
 exact aEE (v:= .tuple #[.agg (bH 0 0 0 0 0 ⟨#[]⟩ 0),.bool false]) Acr rfl ⟨Abh,hbb⟩):P:=h
theorem JZ(h:P:=by
 simpa [aE5] using hc 1 Aaa):P:=h
theorem awW(h:P:=by
 obtain⟨g,rest,e,hb,_⟩:=wS vL.r (show 0 < n.reqs.length by omega);exact⟨g,e,hb,λx=>by rw [show jd=some ⟨g,0,none⟩ from e];simp[Value.ownBlock,eq_comm]⟩):P:=h
theorem aa7(h:P:=by
 go_ret;exact⟨aF HN.symm,au w _⟩):P:=h
theorem Pj(h:P:=by
 go_ret;exact⟨aF HP.symm,aV w _⟩):P:=h
theorem ah9(h:P:=by
 go_wp2_with fail;refine(HO _).mono ?_;rintro e w1 ⟨rfl,hb1⟩;have hB:=(au w _).trans (hb1.mono Aac);clear hb1;go_wp2_with fail;go_ret;exact⟨rfl,hB⟩):P:=h
theorem aia(h:P:=by
 go_wp2_with fail;go_quiet (fail);go_wp2_with fail;go_meet
 case rel=>exact⟨by rw [ah HJ],⟨rfl,rfl,rfl,aEx _,λ_ _=>rfl⟩⟩):P:=h
theorem aib(h:P:=by
 exact(aT (aT (aT (aT (aT (aT (aT (aT (aT h 0 b0) 1 b1) 2 b2) 3 b3) 4 b4) 5 b5) 6 b6) 7 b7) 8 b8).trans Aab):P:=h
theorem aic(h:P:=by
 go_wp2_with fail;exact aEE (v:= .tuple #[wO ⟨0,F,T,I,L,k,N⟩,.bool false]) Aaw rfl ⟨Aav,eO⟩):P:=h
theorem aie(h:P:=by
 go_wp2_with fail;exact aEE (v:= .tuple #[wO ⟨2,F,T,I,L,k,N⟩,.bool false]) Aaw rfl ⟨Aav,eO⟩):P:=h
theorem Pk(h:P:=by
 exact⟨0,aEN _,rfl,aEK _ _,rfl⟩):P:=h
theorem aif(h:P:=by
 rcases aFD 0 w.heap.size with h'|h'
 .exact h'
 .have h:=hH;unfold Handle World.cell? at h;rw [aFp h'] at h;cases h):P:=h
theorem aii(h:P:=by
 rw [ej,<-hf,hu] at h2;injection e with e
 subst e;have ea:(⟨g,off,none⟩:Addr).add j=⟨g,off+j,none⟩:=by unfold Addr.add;split<;>simp_all
 rw [ea];exact h2):P:=h
theorem aij(h:P:=by
 exact⟨e,aEH hg hs,λj hj=>⟨(aE6 (w:=w) hbx).trans (hc j hj).1,(aGj (w:=w) hbx).trans (hc j hj).2⟩⟩):P:=h
theorem aik(h:P:=by
 intro vs;induction vs with
 |nil=>intro w o;rfl
 |cons v vs ih=>intro w o;exact(ih (w.setCell ⟨g,o,none⟩ v) (o+1)).trans (by rw [World.frozen?_setCell])):P:=h
theorem aa8(h:P:=by
 clear hz;go_wp2_with fail;go_ret;exact⟨aF HE.symm,aO⟩):P:=h
theorem ail(h:P:=by
 have h:=ah jr k hlt;have h2:=ah kS;rw [<-ah HY] at h;exact h.trans (by rw [show(λs t:Int=>iF s t)=iF from rfl,h2];rfl)):P:=h
theorem ain(h:P:=by
 generalize iR s ((a:Int)+4)=E at *;generalize lZ (kE (jU s ((a:Int)+4)))=bW at *;generalize kE (jU s ((a:Int)+4))=nn at *;exact Zk9):P:=h
theorem aio(h:P:=by
 go_in
 go_wp2_with (go_at_call 30;refine(HI _).mono ?_;rintro e w1 ⟨rfl,rfl⟩)
 go_ret;exact⟨rfl,au w _⟩):P:=h
theorem aip(h:P:=by
 go_in
 go_wp2_with (go_at_call 30;refine(HC _).mono ?_;rintro e w1 ⟨rfl,rfl⟩)
 go_ret;exact⟨rfl,aV w _⟩):P:=h
theorem aiq(h:P:=by
 intro vs;induction vs with
 |nil=>intro w o;rfl
 |cons v vs ih=>intro w o;exact(ih (w.setCell ⟨g,o,none⟩ v) (o+1)).trans Aaq):P:=h
theorem air(h:P:=by
 rcases zq with h|⟨j,y,h1,h2,h3⟩
 .exact .inl h
 .exact .inr ⟨j,y,h1,h2,(hbw.cell (p:=⟨g,off+j*4,none⟩) hgw).trans h3⟩):P:=h
theorem ais(h:P:=by
 rw [aE4 Aaa];unfold uQ;rw [aEG e];exact hi2.keeps hkp (λx hx=>by simpa using hg4 x (jE hil x hx))):P:=h
theorem ait(h:P:=by
 go_wp2_with fail;go_quiet (fail);go_wp2_with fail;go_meet
 case rel=>exact⟨by rw [ah zq],_,BL w1 _ _⟩):P:=h
theorem WB(h:P:=by
 rw [h1];exact⟨h2r,by rw [aY Aaa];omega⟩):P:=h
theorem aa9(h:P:=by
 go_in
 go_wp2
 go_ret;exact⟨rfl,rfl⟩):P:=h
theorem awY(h:P:=by
 have hy3:(x == par)=true:=by simp[hx3]
 have HP:=Hq (HBAD (by rw [ah gu];simp[jZ,hx3]));clear HBAD gu hx3;exact aeJ):P:=h
theorem awZ(h:P:=by
 have hy2:(x == id)=true:=by simp[hx2]
 have HP:=Hq (HBAD (by rw [ah gu];simp[jZ,hx2]));clear HBAD gu hx2;exact aeJ):P:=h
theorem aiu(h:P:=by
 clear HD h1;go_in
 go_wp2_with (go_at_call 179;refine(H1 _).mono ?_;rintro e w1 ⟨rfl,rfl⟩)
 exact xH):P:=h
theorem aiv(h:P:=by
 clear h1 HD;go_in
 go_wp2_with (go_at_call 198;refine(H1 _).mono ?_;rintro e w9 ⟨rfl,rfl⟩)
 exact xH):P:=h
theorem Pm(h:P:=by
 simpa [aE5] using hc 2 Aaa):P:=h
theorem Pn(h:P:=by
 simpa [aE5] using hc 3 Aaa):P:=h
theorem aiw(h:P:=by
 exact⟨0,aEN _,rfl,by unfold sK GR.Blk;rw [aGb,aFN,Nat.sub_zero];exact aEu w _,aV w _⟩):P:=h
theorem aix(h:P:=by
 go_in
 go_wp2_with (first|(go_at_call_of 192 F;refine(H1 _).mono ?_;rintro e w1 ⟨rfl,rfl⟩))
 exact xH):P:=h
theorem aiy(h:P:=by
 rw [aF3];intro h;rw [aFk,aFk] at h;exact hp (aFP (Array.ext' h))):P:=h
theorem abb(h:P:=by
 go_in
 go_wp2
 go_ret;exact⟨rfl,rfl⟩):P:=h
theorem abd(h:P:=by
 go_in
 go_wp2
 go_ret;exact⟨rfl,rfl⟩):P:=h
theorem aiz(h:P:=by
 go_in
 go_wp2_with (first|(go_at_call_of 90 F;refine(H1 _).mono ?_;rintro e w1 ⟨rfl,rfl⟩))
 exact xH):P:=h
theorem aiA(h:P:=by
 have h:=(bq hok).1;unfold dX at h;simp only[aED,aES] at h;exact aEw Aaa):P:=h
theorem aiB(h:P:=by
 refine⟨h.1,?_⟩;rcases h.2 with h2|⟨g,cap,cur,hv,hg,hr⟩
 .exact .inl h2
 .exact .inr ⟨g,cap,cur,hv,aEA hb hg,hr⟩):P:=h
theorem abe(h:P:=by
 go_wp2_with fail;go_ret;exact⟨aF HE.symm,aV w _⟩):P:=h
theorem aiC(h:P:=by
 go_in
 go_wp2_with (go_at_call 192;refine(HA _).mono ?_;rintro e w1 ⟨rfl,rfl⟩)
 exact aa7):P:=h
theorem aiD(h:P:=by
 subst hx;by_cases hx:x2=y2
 case' neg=>
  have hq:(x2 == y2)=false:=Aad
  exact abo
 exact axl):P:=h
theorem abf(h:P:=by
 go_in
 go_wp2
 go_ret;exact⟨rfl,rfl⟩):P:=h
theorem aiE(h:P:=by
 obtain⟨g,off,e,hg,hc⟩:=h i hi;refine⟨g,off,e,hg,?_,?_,?_,?_⟩
 .simpa using hc 0 Aaa
 .grind
 .grind
 .grind):P:=h
theorem aiF(h:P:=by
 have hj9:j < 9:=(aFh.1 hj).1;rcases yU hj9 with rfl|rfl|rfl|rfl|rfl|rfl|rfl|rfl|rfl<;>exact hj):P:=h
theorem aiG(h:P:=by
 go_in
 go_wp2_with (go_at_call 91;refine HH.mono ?_;rintro e w1 ⟨rfl,rfl⟩)
 exact aa7):P:=h
theorem aiH(h:P:=by
 go_in
 go_wp2
 refine wp_loop_rounds 1 ?_;rw [rounds_succ];go_wp2
 go_ret;exact⟨rfl,rfl⟩):P:=h
theorem aiI(h:P:=by
 have hl:=aZ s;unfold kb;cases hd:s.data.toList with
 |nil=>rw [hd] at hl;simp at hl;omega
 |cons b r=>simp):P:=h
theorem aiJ(h:P:=by
 rw [aFi];unfold uQ;rw [aER rfl];exact hi.keeps hkp (λx hx=>by simpa using hgi x hx)):P:=h
theorem aiK(h:P:=by
 go_wp2_with fail;go_roundw
 case rel=>exact⟨k+1,Aaa,Aaf,HB1⟩
 case measure=>simp[intOf];omega):P:=h
theorem aiL(h:P:=by
 go_wp2_with fail;go_roundw
 case rel=>exact⟨k+1,Aaa,Aaf,HS⟩
 case measure=>simp[intOf];omega):P:=h
theorem abg(h:P:=by
 exact((aEK _ _).alloc (aEx _) _).alloc Aac _):P:=h
theorem aiM(h:P:=by
 go_wp2_with (go_at_call 33;refine(yO _ _ _ r _ h).mono ?_;rintro e w1 ⟨rfl,rfl⟩)
 go_ret;exact⟨rfl,rfl⟩):P:=h
theorem WH(h:P:=by
 go_wp2_with fail;go_ret;exact⟨rfl,HB1⟩):P:=h
theorem aiN(h:P:=by
 obtain⟨c0,c1,c2,c3,c4,c5,c6,c7,c8,c9⟩:=jB h.blk;clear h;go_in
 exact ER):P:=h
theorem aiO(h:P:=by
 go_round
 case rel=>exact⟨k+1,x,Aaa,Aaf,rfl,zy.symm,HV⟩
 case measure=>simp[intOf];omega):P:=h
theorem aiP(h:P:=by
 rcases hrow.2 with⟨rfl,h0⟩|⟨g,cap,cur,rfl,_⟩
 .exact⟨none,0,by rw [h0]⟩
 .exact⟨_,_,rfl⟩):P:=h
theorem aiQ(h:P:=by
 rw [aEC,aEC,gN,aEX,aE8,aE8];omega):P:=h
theorem WI(h:P:=by
 simpa [aE5] using hc 4 Aaa):P:=h
theorem WJ(h:P:=by
 simpa [aE5] using hc 5 Aaa):P:=h
theorem WL(h:P:=by
 simpa [aE5] using hc 6 Aaa):P:=h
theorem abh(h:P:=by
 go_wp2_with fail;go_ret;exact⟨-1,rfl,.inl rfl,HL2⟩):P:=h
theorem abj(h:P:=by
 go_wp2_with fail;go_ret;exact⟨-1,rfl,.inl rfl,xU⟩):P:=h
theorem aiR(h:P:=by
 obtain⟨a,cp,he,ha⟩:=GR.own_at (enc:=aN) (sz:=4) (l:=n.out) aX h.o;cases he
 exact ha):P:=h
theorem aiS(h:P:=by
 obtain⟨a,cp,he,ha⟩:=GR.own_at (enc:=aM) (sz:=4) (l:=n.reqs) bQ h.r;cases he
 exact ha):P:=h
theorem abk(h:P:=by
 simp only[aED,aES] at h;omega):P:=h
theorem aiT(h:P:=by
 exact hk2.seen (hk1.seen hno.s hno.c4 hno.ci Aaa Aaa) hno.c4 hno.ci Aaa Aaa):P:=h
theorem aiU(h:P:=by
 have h:=ah jr k hlt;have h2:=ah kS;rw [<-ah HY] at h;rw [h,h2];rfl):P:=h
theorem aiV(h:P:=by
 subst hji;exact hy.wpOp hi (hR.ge hx) λy hy'=>⟨hR.ge hy',wI (Ge.trans hx hy') H⟩):P:=h
theorem abl(h:P:=by
 go_ret2
 exact⟨rfl,hb1.trans (hb2.mono hb1.size)⟩):P:=h
theorem aiW(h:P:=by
 clear hf HC;go_in
 go_wp2_with fail;go_ret;exact .no HP hbz):P:=h
theorem aiX(h:P:=by
 rw [aEC,aEC,aEX,aE8,h1];show _+4+_=_
 omega):P:=h
theorem aiY(h:P:=by
 go_in
 go_wp2
 go_ret;exact⟨aF HF.symm,rfl⟩):P:=h
theorem aw4(h:P:=by
 have HP:=Hq (HBAD (by rw [ah gu];simp[jZ,hx1]));clear HBAD gu;exact aeJ):P:=h
theorem aiZ(h:P:=by
 refine AO hi h hf.symm ?_;have:=Mw hs hL;rw [hf] at this;exact this):P:=h
theorem ai0(h:P:=by
 split at h
 .omega
 .split at h
  .omega
  .split at h
   .omega
   .cases h):P:=h
theorem ai1(h:P:=by
 go_simp;go_wp2_with fail;go_ret;exact⟨rfl,A,G,c,v,by rw [aFF];exact HZ⟩):P:=h
theorem ai2(h:P:=by
 rw [<-wW s i j k hk hlt,Sj s i j k m v hk hlt hu h,Nat.mod_eq_of_lt Aaa]):P:=h
theorem ai3(h:P:=by
 rcases aE0.1 h1 with h1|h1
 .have:=c4 x h1;omega
 .exact ah3):P:=h
theorem ai4(h:P:=by
 clear hv2 hu2 hv5 hu;go_wp2
 go_ret2
 exact⟨get_none HR,aEK _ _⟩):P:=h
theorem ai5(h:P:=by
 rw [ah HY,IW,aEC,List.length_singleton];exact hown'):P:=h
theorem ai6(h:P:=by
 obtain⟨g,off,e,hg,hc⟩:=h i hi;refine⟨g,off,e,hg,?_⟩;simpa using hc 0 Aaa):P:=h
theorem abm(h:P:=by
 exact⟨0,aEN _,rfl,rfl,aEK _ _⟩):P:=h
theorem ai7(h:P:=by
 cases sp with
 |nil=>simp at acg;omega
 |cons s0 sp'=>exact⟨s0,sp',rfl⟩):P:=h
theorem ai8(h:P:=by
 cases v.ownBlock with
 |none=>exact .inl rfl
 |some k=>exact .inr (by intro e;cases e)):P:=h
theorem ai9(h:P:=by
 obtain⟨D,⟨es,clock,h1,h2⟩,ha⟩:=h;exact⟨D,⟨es,clock,hb.trans h1,h2⟩,ha⟩):P:=h
theorem aja(h:P:=by
 unfold World.setCell;simp only[Array.getElem?_modify];rw [aER trivial,h];simp):P:=h
theorem ajb(h:P:=by
 rintro e w' ⟨rfl,rfl⟩;exact⟨rfl,A,G,c,v,by rw [aFF];exact h⟩):P:=h
theorem ajc(h:P:=by
 rw [aEG Aaa,aEG ej];exact h.nd i j hi' hj hij Aaa h1 h2):P:=h
theorem abn(h:P:=by
 simpa [aE5] using hc 10 Aaa):P:=h
theorem ajd(h:P:=by
 exact⟨k+1,Aaa,Aaf,gK.trans ((Ge.trans SN zF).mono gK.size)⟩):P:=h
theorem aw7(h:P:=by
 show(takeN n o.m).1.id=n.id
 unfold takeN;split
 .rfl
 .split<;>rfl):P:=h
theorem aje(h:P:=by
 have HV:=Hq (HBM (by rw [ah gu];simp[DW,h1]));exact axe):P:=h
theorem ajf(h:P:=by
 unfold cK rC at *;split at h
 .cases h
 .rename_i hc
  rw [aEG hc]):P:=h
theorem Yk0(h:P:=by
 open aBy in exact aj0):P:=h
theorem Sk0.Kk0(h:P:=by
 have HCQ:=Hq (BF.nine (aEN _));open aBg in exact TF):P:=h
theorem Sk1.Kk0(h:P:=by
 open aBf in exact TF):P:=h
theorem Sk2.Kk0(h:P:=by
 open aBe in exact TF):P:=h
theorem Sk3.Kk0(h:P:=by
 open aBd in exact TF):P:=h
theorem Sk4.Kk0(h:P:=by
 open aBb in exact TF):P:=h
theorem Sk5.Kk0(h:P:=by
 open aBa in exact TF):P:=h
theorem Sk6.Kk0(h:P:=by
 open aA9 in exact TF):P:=h
theorem Yk1(h:P:=by
 have HX:=Hq hx;have HKQ:=Hq hK;clear hx hK;generalize eZ n o=TT at *;open aAS in exact aeC):P:=h
theorem Sk7.Kk1(h:P:=by
 have c0:W.cell? ⟨w2.heap.size,5,none⟩=some (.func (.func 209) #[.pointer (some ⟨wb,0,none⟩)] #[]):=aEz W _ 5 _ _ (0,0) e1;exact Zk2):P:=h
theorem Sk8.Kk1(h:P:=by
 have c0:W.cell? ⟨w2.heap.size,4,none⟩=some (.func (.func 208) #[.pointer (some ⟨wb,0,none⟩)] #[]):=aEz W _ 4 _ _ (0,0) e1;exact Zk2):P:=h
theorem Sk9.Kk1(h:P:=by
 have c0:W.cell? ⟨w2.heap.size,3,none⟩=some (.func (.func 207) #[.pointer (some ⟨wb,0,none⟩)] #[]):=aEz W _ 3 _ _ (0,0) e1;exact Zk2):P:=h
theorem az6.Kk1(h:P:=by
 have c0:W.cell? ⟨w2.heap.size,2,none⟩=some (.func (.func 206) #[.pointer (some ⟨wb,0,none⟩)] #[]):=aEz W _ 2 _ _ (0,0) e1;exact Zk2):P:=h
theorem az7.Kk1(h:P:=by
 have c0:W.cell? ⟨w2.heap.size,1,none⟩=some (.func (.func 205) #[.pointer (some ⟨wb,0,none⟩)] #[]):=aEz W _ 1 _ _ (0,0) e1;exact Zk2):P:=h
theorem az8.Kk1(h:P:=by
 have c0:W.cell? ⟨w2.heap.size,0,none⟩=some (.func (.func 204) #[.pointer (some ⟨wb,0,none⟩)] #[]):=aEz W _ 0 _ _ (0,0) e1;exact Zk2):P:=h
theorem Yk2(h:P:=by
 open aoA in exact XR):P:=h
theorem az9.Kk2(h:P:=by
 go_wp2_with fail;exact aEE (v:= .tuple #[wO ⟨2,F,T,I,0,ByteArray.empty,0⟩,.bool true]) Aaw rfl ⟨Aav,eO⟩):P:=h
theorem aAa.Kk2(h:P:=by
 go_wp2_with fail;exact aEE (v:= .tuple #[wO ⟨2,F,T,I,0,ByteArray.empty,N⟩,.bool false]) Aaw rfl ⟨Aav,eO⟩):P:=h
theorem aAb.Kk2(h:P:=by
 go_wp2_with fail;exact aEE (v:= .tuple #[wO ⟨2,F,T,I,0,k,N⟩,.bool false]) Aaw rfl ⟨Aav,eO⟩):P:=h
theorem aAc.Kk2(h:P:=by
 exact aie):P:=h
theorem Yk3(h:P:=by
 open apq in exact awm):P:=h
theorem aAd.Kk3(h:P:=by
 obtain⟨c0,c1,c2,c3,c4,c5,c6,c7,c8⟩:=nine jV;have hml:=ay BD;have hnl:=ay jV;go_wp2_with fail;refine(HGV W2 (aEA hB HB2.size) Dw).mono ?_;open aqV in exact awG):P:=h
theorem aAe.Kk3(h:P:=by
 obtain⟨c0,c1,c2,c3,c4,c5,c6,c7,c8⟩:=nine jV;have hml:=ay BD;have hnl:=ay jV;have jC:=Hq (aFb (base:=W2.heap.size) (e:=129) (size:=4) W2 #[] 0 (aEx _) Aag rfl);go_wp2_with fail;clear m0 m1 m2 m3 m4 m5 m6 c0 c1 c2 c3 c4 c5 c6 c7 c8 hml hnl;go_loopw [7,8] (λv i wr=>∃(k:Nat) (a:Option Addr) (cp:Nat),k<=n.out.length/\v= .slice a (FL k).length cp/\i= .int .i64 k/\wr.ownsRow W2.heap.size 129 4 (.slice a (FL k).length cp) (FL k).length (GR.flat aN (FL k))/\aG W2 wr) (λ_ i _=>n.out.length - (intOf i).toNat)
 case atStart=>exact⟨0,some ⟨W2.heap.size,0,none⟩,0,aEN _,by rw [ah HF0];rfl,rfl,by rw [ah HF0];exact jC,au W2 _⟩
 case round=>
  obtain⟨k,a,cp,hk,rfl,rfl,hown,hbw⟩:=hrel;have HO:=Hq hown;have gK:=Hq hbw;have rR:=Hq (aj jV hbw);have XD:=Hq (aj BD hbw);have SH:=Hq (HFN k);clear hown hbw;obtain⟨m0,m1,m2,m3,m4,m5,m6⟩:=jA XD;obtain⟨c0,c1,c2,c3,c4,c5,c6,c7,c8⟩:=nine rR;have hml:=ay XD;have hnl:=ay rR;by_cases hlt:k < n.out.length
  .have P7:(k:Int) < (n.out.length:Int):=Aaa
   have HFK:=Hq (HFS k hlt);obtain⟨g,off,e0,hg,s0,s1,s2,s3⟩:=SentAt.four (GR.At.below Dw.at.o gK) k hlt;rw [e0] at c5;clear e0;generalize n.out[k]=sk at *;obtain⟨si,st,sk,sn⟩:=sk;dsimp only at s0 s1 s2 s3 HFK;obtain⟨FK,hFK⟩:∃FK,FL (k+1)=FK:=⟨_,rfl⟩;have HX0:=Hq hFK;rw [hFK] at HFK;clear hFK;by_cases hA:si=mI
   .by_cases hB2:st=mF
    .have HX:Hid (FK=FL k):=by unfold Hid;rw [ah HFK,aER ⟨hA,hB2⟩]
     have x0:(si != mI)=false:=by simp[hA]
     have x1:(st != mF)=false:=by simp[hB2]
     clear hA hB2 HFK;go_wp2_with fail;go_quiet (fail);go_wp2_with fail;go_roundw
     case rel=>exact⟨k+1,a,cp,Aaa,by rw [ah HX0,ah HX],Aaf,by rw [ah HX0,ah HX];exact HO,gK.trans (Below.mono (B:=(wr.drewN nq).heap.size) ⟨rfl,rfl,rfl,aEx _,λ_ _=>rfl⟩ gK.size)⟩
     case measure=>simp[intOf];omega
    .have HX:Hid (FK=FL k++[⟨si,st,sk,sn⟩]):=by unfold Hid;rw [ah HFK,aEG (λe=>hB2 e.2)]
     have x0:(si != mI)=false:=by simp[hA]
     have x1:(st != mF)=true:=by simpa using hB2
     clear hA hB2 HFK;exact aw5
   .have HX:Hid (FK=FL k++[⟨si,st,sk,sn⟩]):=by unfold Hid;rw [ah HFK,aEG (λe=>hA e.1)]
    have x0:(si != mI)=true:=by simpa using hA
    clear hA HFK;exact aw5
  .open ava in exact aho):P:=h
theorem aAf.Kk3(h:P:=by
 obtain⟨c0,c1,c2,c3,c4,c5,c6,c7,c8⟩:=nine jV;have hml:=ay BD;have hnl:=ay jV;go_wp2_with fail;refine(OZ W2 (aEA hB HB2.size) Dw).mono ?_;open aqU in exact awG):P:=h
theorem aAg.Kk3(h:P:=by
 have hml:=ay BD;have xB:=Hq (aj mJ (au W2 (.cells #[] 104)));have Oq:=Hq (Dw.kc (k:=9) (KC.of_below (au W2 (.cells #[] 104))) Aaa);have vI:=Hq (HB2.trans ((au W2 (.cells #[] 104)).mono HB2.size));obtain⟨c0,c1,c2,c3,c4,c5,c6,c7,c8⟩:=nine jV;obtain⟨⟨d0,d1,d2,d3,d4,d5,d6,d7,d8⟩,f0,f1,f2,f3,f4,f5,f6,f7,f8⟩:=iG xB;have hnl:=ay jV;open apN in exact awp):P:=h
theorem Yk4(h:P:=by
 cases h1:decide (old+1<=si/\si<=1000000000)
 case' false=>
  have a1:=rIn si (old+1) 1000000000 false W1 h1
  have HV:=Hq (show bb=true by rw [<-ah eG];simp[h1])
  clear eG
  refine aEJ Aab Aab ?_
  repeat (first|go_big_quiet_step ((first|(go_at_call_of 33 si;exact a1 _ _)))|quiet_step ((first|(go_at_call_of 33 si;exact a1 _ _))))
  refine aE2 ?_
  intro _ hw'
  obtain⟨⟨dq,osq⟩,hw''⟩:=hw'
  subst hw''
  go_wp2_with fail
  go_meet
  case rel=>exact yC
 have a1:=rIn si (old+1) 1000000000 true W1 h1;cases h2:keyOk sx.data.toList
 case' false=>
  have a2:=afO sx false W1 (aEA hks Aai) h2
  have HV:=Hq (show bb=true by rw [<-ah eG];simp[h2])
  clear eG
  refine aEJ Aab Aab ?_
  repeat (first|go_big_quiet_step ((first|(go_at_call_of 33 si;exact a1 _ _)|(go_at_call 62;exact a2 _ _)))|quiet_step ((first|(go_at_call_of 33 si;exact a1 _ _)|(go_at_call 62;exact a2 _ _))))
  refine aE2 ?_
  intro _ hw'
  obtain⟨⟨dq,osq⟩,hw''⟩:=hw'
  subst hw''
  go_wp2_with fail
  go_meet
  case rel=>exact yC
 have a2:=afO sx true W1 (aEA hks Aai) h2;cases h3:fC sn
 case' false=>
  have a3:=KJ sn false W1 h3
  have HV:=Hq (show bb=true by rw [<-ah eG];simp[h3])
  clear eG
  refine aEJ Aab Aab ?_
  repeat (first|go_big_quiet_step ((first|(go_at_call_of 33 si;exact a1 _ _)|(go_at_call 62;exact a2 _ _)|(go_at_call 59;exact a3 _ _)))|quiet_step ((first|(go_at_call_of 33 si;exact a1 _ _)|(go_at_call 62;exact a2 _ _)|(go_at_call 59;exact a3 _ _))))
  refine aE2 ?_
  intro _ hw'
  obtain⟨⟨dq,osq⟩,hw''⟩:=hw'
  subst hw''
  go_wp2_with fail
  go_meet
  case rel=>exact yC
 have a3:=KJ sn true W1 h3;cases h4:decide (0<=st/\st<=2)
 case' false=>
  have a4:=rIn st 0 2 false W1 h4
  have HV:=Hq (show bb=true by rw [<-ah eG];simp[h4])
  clear eG
  refine aEJ Aab Aab ?_
  repeat (first|go_big_quiet_step ((first|(go_at_call_of 33 si;exact a1 _ _)|(go_at_call 62;exact a2 _ _)|(go_at_call 59;exact a3 _ _)|(go_at_call_of 33 st;exact a4 _ _)))|quiet_step ((first|(go_at_call_of 33 si;exact a1 _ _)|(go_at_call 62;exact a2 _ _)|(go_at_call 59;exact a3 _ _)|(go_at_call_of 33 st;exact a4 _ _))))
  refine aE2 ?_
  intro _ hw'
  obtain⟨⟨dq,osq⟩,hw''⟩:=hw'
  subst hw''
  go_wp2_with fail
  go_meet
  case rel=>exact yC
 have a4:=rIn st 0 2 true W1 h4;exact Kk4):P:=h
theorem aAh.Kk4(h:P:=by
 by_cases hp:y < si
 case' neg=>
  have hy:decide (si<=y)=true:=aEy Aaa
  have HV:=Hq (show bb=true by rw [<-ah eG];simp[hp])
  clear eG
  refine aEJ Aab Aab ?_
  repeat (first|go_big_quiet_step ((first|(go_at_call_of 33 si;exact a1 _ _)|(go_at_call 62;exact a2 _ _)|(go_at_call 59;exact a3 _ _)|(go_at_call_of 33 st;exact a4 _ _)))|quiet_step ((first|(go_at_call_of 33 si;exact a1 _ _)|(go_at_call 62;exact a2 _ _)|(go_at_call 59;exact a3 _ _)|(go_at_call_of 33 st;exact a4 _ _))))
  refine aE2 ?_
  intro _ hw'
  obtain⟨⟨dq,osq⟩,hw''⟩:=hw'
  subst hw''
  go_wp2_with fail
  go_meet
  case rel=>exact yC
 have hy:decide (si<=y)=false:=aEw Aaa;have HV:=Hq (show bb=false by rw [<-ah eG];simp[h1,h2,h3,h4,hp]);exact axA):P:=h
theorem aAi.Kk4(h:P:=by
 have HV:=Hq (show bb=false by rw [<-ah eG];simp[h1,h2,h3,h4]);exact axA):P:=h
theorem Yk5(h:P:=by
 cases h1:decide (1<=si/\si<=next - 1)
 case' false=>
  have a1:=rIn si 1 (next - 1) false W1 h1
  have HV:=Hq (show bb=true by rw [<-ah eG];simp[h1])
  clear eG
  refine aEJ Aab Aab ?_
  repeat (first|go_big_quiet_step ((first|(go_at_call 33;exact a1 _ _)))|quiet_step ((first|(go_at_call 33;exact a1 _ _))))
  refine aE2 ?_
  intro _ hw'
  obtain⟨⟨dq,osq⟩,hw''⟩:=hw'
  subst hw''
  go_wp2_with fail
  go_meet
  case rel=>exact yC
 have a1:=rIn si 1 (next - 1) true W1 h1;cases h2:NN st
 case' false=>
  have a2:=ah SI st false W1 xu h2
  have HV:=Hq (show bb=true by rw [<-ah eG];simp[h2])
  clear eG
  refine aEJ Aab Aab ?_
  repeat (first|go_big_quiet_step ((first|(go_at_call 33;exact a1 _ _)|(go_at_call 61;exact a2 _ _)))|quiet_step ((first|(go_at_call 33;exact a1 _ _)|(go_at_call 61;exact a2 _ _))))
  refine aE2 ?_
  intro _ hw'
  obtain⟨⟨dq,osq⟩,hw''⟩:=hw'
  subst hw''
  go_wp2_with fail
  go_meet
  case rel=>exact yC
 have a2:=ah SI st true W1 xu h2;cases h3:keyOk sx.data.toList
 case' false=>
  have a3:=afO sx false W1 (aEA hks Aai) h3
  have HV:=Hq (show bb=true by rw [<-ah eG];simp[h3])
  clear eG
  refine aEJ Aab Aab ?_
  repeat (first|go_big_quiet_step ((first|(go_at_call 33;exact a1 _ _)|(go_at_call 61;exact a2 _ _)|(go_at_call 62;exact a3 _ _)))|quiet_step ((first|(go_at_call 33;exact a1 _ _)|(go_at_call 61;exact a2 _ _)|(go_at_call 62;exact a3 _ _))))
  refine aE2 ?_
  intro _ hw'
  obtain⟨⟨dq,osq⟩,hw''⟩:=hw'
  subst hw''
  go_wp2_with fail
  go_meet
  case rel=>exact yC
 have a3:=afO sx true W1 (aEA hks Aai) h3;cases h4:fC sn
 case' false=>
  have a4:=KJ sn false W1 h4
  have HV:=Hq (show bb=true by rw [<-ah eG];simp[h4])
  clear eG
  refine aEJ Aab Aab ?_
  repeat (first|go_big_quiet_step ((first|(go_at_call 33;exact a1 _ _)|(go_at_call 61;exact a2 _ _)|(go_at_call 62;exact a3 _ _)|(go_at_call 59;exact a4 _ _)))|quiet_step ((first|(go_at_call 33;exact a1 _ _)|(go_at_call 61;exact a2 _ _)|(go_at_call 62;exact a3 _ _)|(go_at_call 59;exact a4 _ _))))
  refine aE2 ?_
  intro _ hw'
  obtain⟨⟨dq,osq⟩,hw''⟩:=hw'
  subst hw''
  go_wp2_with fail
  go_meet
  case rel=>exact yC
 have a4:=KJ sn true W1 h4;exact Kk5):P:=h
theorem aAj.Kk5(h:P:=by
 by_cases hp:y < si
 case' neg=>
  have hy:decide (si<=y)=true:=aEy Aaa
  have HV:=Hq (show bb=true by rw [<-ah eG];simp[hp])
  clear eG
  refine aEJ Aab Aab ?_
  repeat (first|go_big_quiet_step ((first|(go_at_call 33;exact a1 _ _)|(go_at_call 61;exact a2 _ _)|(go_at_call 62;exact a3 _ _)|(go_at_call 59;exact a4 _ _)))|quiet_step ((first|(go_at_call 33;exact a1 _ _)|(go_at_call 61;exact a2 _ _)|(go_at_call 62;exact a3 _ _)|(go_at_call 59;exact a4 _ _))))
  refine aE2 ?_
  intro _ hw'
  obtain⟨⟨dq,osq⟩,hw''⟩:=hw'
  subst hw''
  go_wp2_with fail
  go_meet
  case rel=>exact yC
 have hy:decide (si<=y)=false:=aEw Aaa;have HV:=Hq (show bb=false by rw [<-ah eG];simp[h1,h2,h3,h4,hp]);exact axB):P:=h
theorem aAk.Kk5(h:P:=by
 have HV:=Hq (show bb=false by rw [<-ah eG];simp[h1,h2,h3,h4]);exact axB):P:=h
theorem Yk6(h:P:=by
 have hiI:(i:Int) < (n.reqs.length:Int):=Aaa
 have amJ:=Hq hrq;clear hrq;have hp:=iL hok;have OO:=Hq (λW1 (ha:fJ W1 jd n.reqs)=>Bd n (⟨a_k,qV,iV,iM,jd,cZ,fD,dW,dw,dG⟩:bg) no W1 Aaa hp.1 ha);rw [hJ] at OO;clear hp hok hJ;open asS in exact aaK):P:=h
theorem aAl.Kk6(h:P:=by
 dsimp only at q0 q1 q2 q3 h1 h2;exact akf):P:=h
theorem aAm.Kk6(h:P:=by
 dsimp only at q0 q1 q2 q3 h1;exact akf):P:=h
theorem aAn.Kk6(h:P:=by
 dsimp only at q0 q1 q2 q3 h1 h2 h3;exact akf):P:=h
theorem Yk7(h:P:=by
 open aoz in exact XR):P:=h
theorem aAo.Kk7(h:P:=by
 go_wp2_with fail;exact aEE (v:= .tuple #[wO ⟨0,F,T,0,0,k,N⟩,.bool true]) Aaw rfl ⟨Aav,eO⟩):P:=h
theorem aAp.Kk7(h:P:=by
 go_wp2_with fail;exact aEE (v:= .tuple #[wO ⟨0,F,T,0,L,k,N⟩,.bool false]) Aaw rfl ⟨Aav,eO⟩):P:=h
theorem aAq.Kk7(h:P:=by
 exact aic):P:=h
theorem Yk8(h:P:=by
 have hiI:(i:Int) < (n.reqs.length:Int):=Aaa
 have HST:=Hq hst;have JV:=Hq (λW (ha:aH W (some ⟨gp,0,none⟩) n.pu)=>R5 gp 0 fD n.pu n.reqs[i].k n.reqs[i].n W (aEA hz.p Aaa) yI hz.pk (hz.rk _ (aEL hi)) ha);unfold iN at JV;rw [hu] at JV;clear hR hst hz yI hu;have hp:=iL hok;have OO:=Hq (λW1 (ha:fJ W1 jd n.reqs)=>Bd n (⟨a_k,(some ⟨gp,0,none⟩),iV,iM,jd,cZ,fD,dW,dw,dG⟩:bg) no W1 Aaa hp.1 ha);rw [hJ] at OO;clear hp hok;unfold iO;have H9:=Hq h9;clear h9;have hbw0:=au w (.cells (dR n (⟨a_k,(some ⟨gp,0,none⟩),iV,iM,jd,cZ,fD,dW,dw,dG⟩:bg)) 53);open asg in exact Wp):P:=h
theorem aAr.Kk8(h:P:=by
 open aBv in exact awc):P:=h
theorem aAs.Kk8(h:P:=by
 open aBu in exact awc):P:=h
theorem Yk9(h:P:=by
 have HW:=Hq h;obtain⟨K,no,k,nn,⟨mK,mF,mT,mI,mL,mk,mN⟩⟩:=o;dsimp only at *;open aoI in exact XT):P:=h
theorem aAt.Kk9(h:P:=by
 go_in
 open aAN in exact XP):P:=h
theorem aAu.Kk9(h:P:=by
 go_in
 open aAM in exact XP):P:=h
theorem aAv.Kk9(h:P:=by
 go_in
 exact axv):P:=h
theorem aAw.Kk9(h:P:=by
 go_in
 open aAL in exact XP):P:=h
theorem aAx.Kk9(h:P:=by
 go_in
 open aAK in exact XP):P:=h
theorem aAy.Kk9(h:P:=by
 go_in
 exact axv):P:=h
theorem aAz.Kk9(h:P:=by
 go_in
 open aAJ in exact XP):P:=h
theorem av4(h:P:=by
 generalize getOp (jU s ((a:Int)+4))=oc at *;generalize jU s ((a:Int)+4)=TX at *;obtain⟨K,no,k,n,⟨mK,mF,mT,mI,mL,mk,mN⟩⟩:=oc;go_wp2_with fail;refine(Ie _).mono ?_;rintro e w1 ⟨rfl,hb1⟩;have HB1:=Hq hb1;clear hb1;go_wp2_with fail;refine(ED _).mono ?_;rintro e w2 ⟨rfl,hb2⟩;have HB2:=Hq (HB1.trans (hb2.mono HB1.size));clear hb2 HB1;go_upto_region 6 with fail;refine wp_at (λW hW=>?_);have gK:Hid (aG wr W):=by rw [hW];exact HB2.trans ((au w2 _).mono HB2.size)
 have HOW:Hid (W.heap[w2.heap.size]?=some (.cells (bE K no k n mK mF mT mI mL mk mN) 106 (0,0))):=by rw [hW];exact aEu w2 _
 clear hW HB2;refine Ip 17 ?_;refine tk [0,1,2,3,4,5,6,7,8,9,10,11,12,13,14,15,16] ?_;iterate 11 (refine iy (λK hK=>?_);go_simp;refine hK _ ?_;clear hK K)
 (refine iy (λK hK=>?_);go_simp;(first|refine hK _ ?_|(apply Exists.intro;refine⟨λ_=>?_,hK _ ?_⟩;((simp only[hw4];rw [aER hw5,aER hw6,hw7];exact⟨rfl,rfl⟩))));clear hK K)
 (refine iy (λK hK=>?_);go_simp;refine hK _ ?_;clear hK K)
 (refine iy (λK hK=>?_);go_simp;(first|refine hK _ ?_|(apply Exists.intro;refine⟨λ_=>?_,hK _ ?_⟩;((first|exact(HC _).mono (λe z ⟨he,hz⟩=>⟨he,hz▸aEK _ _⟩)|exact HW _))));clear hK K)
 (refine iy (λK hK=>?_);go_simp;(first|refine hK _ ?_|(apply Exists.intro;refine⟨λ_=>?_,hK _ ?_⟩;((first|exact(HC _).mono (λe z ⟨he,hz⟩=>⟨he,hz▸aEK _ _⟩)|exact HW _))));clear hK K)
 open auk in exact EP):P:=h
theorem aAA.AaH(h:P:=by
 have HOZ:=Hq (aI HOW hz);clear hz gK HOW;obtain⟨⟨c0,c1,c2,c3,c4,c5,c6,c7,c8,c9,c10⟩,_⟩:=aJ HOZ;have hzl:=cu HOZ;have ajN:=Hq (own_below HOWN tZ);have aee:=Hq (aO.trans (tZ.mono aO.size));have hLl:=HS.1;go_simp;go_wp2_with (at_builtin;refine aFf _ rfl _ _ 95 rfl w.heap.size 106 i0 (.agg (bE 0 0 ByteArray.empty 0 0 0 0 0 0 ByteArray.empty 0)) 11 104 underlying95 hi hz0 hz1 hz2 rfl Aag _ _ _ rfl (ajN.alloc _) ⟨z.heap.size,0,none⟩ 1 1 (nQ ⟨K,no,k,n,⟨mK,mF,mT,mI,mL,mk,mN⟩⟩) rfl rfl ?c1 ?c2 ?c3 ?c4 ?c5 ?_)
 case c1=>exact aFj (aEu z _)
 case c2=>exact PU _
 case c3=>unfold maxLen;omega
 case c4=>omega
 case c5=>have:=aee.size;simp;omega
 intro v' w6 hown' hgrow _;have OC:=Hq (GR.below_append aee aee.size ajN hgrow);have amC:Hid (w6.ownsRow w.heap.size 106 11 v' (L++[(⟨K,no,k,n,⟨mK,mF,mT,mI,mL,mk,mN⟩⟩:gD)]).length (GR.flat nQ (L++[(⟨K,no,k,n,⟨mK,mF,mT,mI,mL,mk,mN⟩⟩:gD)]))):=by rw [aEC,yG];exact hown'
 clear hgrow hown' ajN aee aO HOWN tZ HOZ c0 c1 c2 c3 c4 c5 c6 c7 c8 c9 c10;go_wp2_with fail;go_roundw
 case rel=>exact⟨E,_,rfl,amC,OC,.inl ⟨hsm,gu⟩⟩
 case measure=>simp[intOf];omega):P:=h
theorem aAB.AaH(h:P:=by
 clear hz gK HOW;go_simp;go_wp2_with fail;exact aEE (v:= .tuple #[.slice va L.length vc,.int .i64 a]) Ack rfl (Kg HOWN aO HS HST tZ)):P:=h
theorem TB(h:P:=by
 refine aEJ Aab Aab ?_;repeat (first|go_big_quiet_step (exact cO _ _)|quiet_step (exact cO _ _))
 refine aE2 ?_;intro _ hw';obtain⟨⟨dq,osq⟩,hw''⟩:=hw';subst hw'';have eO:=Hq (wJ.trans ((aEV _ dq osq).mono wJ.size));exact AaB):P:=h
theorem aAC.AaB(h:P:=by
 clear y0 y1 y2 y3 y4 cO
 all_goals
  go_wp2_with fail
  go_roundw
  case rel=>exact⟨(j+1)+1,Aaa,Aaf,Ace,eO⟩
  case measure=>simp[intOf];omega):P:=h
theorem aAD.AaB(h:P:=by
 clear y0 y1 y2 y3 cO
 all_goals
  go_wp2_with fail
  go_roundw
  case rel=>exact⟨0+1,Aaa,Aaf,Ace,eO⟩
  case measure=>simp[intOf];omega):P:=h
theorem aAE.AaB(h:P:=by
 clear y0 y1 y2 y3 cO
 all_goals
  go_wp2_with fail
  go_ret
  exact⟨aF HBAD.symm,eO⟩):P:=h
theorem aAF.AaB(h:P:=by
 clear cO y0 y1 y2 y3 y4 y5 y6;exact aie):P:=h
theorem aAG.AaB(h:P:=by
 clear cO y0 y1 y2 y3 y4 y5 y6;go_wp2_with fail;exact aEE (v:= .tuple #[wO ⟨1,F,T,I,L,k,N⟩,.bool false]) Aaw rfl ⟨Aav,eO⟩):P:=h
theorem aAH.AaB(h:P:=by
 clear cO y0 y1 y2 y3 y4 y5 y6;exact aic):P:=h
theorem aAI.AaB(h:P:=by
 clear y0 y1 y2 y3 y4 cO
 all_goals
  go_wp2_with fail
  go_ret
  exact⟨aF HBAD.symm,eO⟩):P:=h
theorem XP(h:P:=by
 go_upto_region 1 with fail;have y7:=aEv c7;have z1:=aEv p1;clear c0 c1 c2 c3 c4 c5 c6 c7 c8 c9 p0 p1 p2 p3 p4 p5 p6 p7 p8 p9 nI;refine Ip 8 ?_;refine tk [0,1,2,3,4,5,6,7] ?_;iterate 8 (refine iy (λK hK=>?_);go_simp;refine hK _ ?_;clear hK K)
 refine jm ?_;refine dJ Aab (λz hz=>?_);have HZ:=Hq (HW1.step hz);have Tt:=Hq (aj kU hz);clear hz y7 z1 HW1 kU;go_simp;exact AaF):P:=h
theorem aAJ.AaF(h:P:=by
 clear h hc;open apZ in exact aws):P:=h
theorem aAK.AaF(h:P:=by
 open arp in exact awM):P:=h
theorem aAL.AaF(h:P:=by
 open aro in exact awM):P:=h
theorem aAM.AaF(h:P:=by
 clear h hc;open atM in exact ag3):P:=h
theorem aAN.AaF(h:P:=by
 clear h hc he hz;open apY in exact aws):P:=h
theorem aAO.AaF(h:P:=by
 clear h hc;go_wp2_with fail;go_ret;exact⟨rfl,A,G,c,HZ⟩):P:=h
theorem aeC(h:P:=by
 have hwl:=ay h.blk;have HIO:=Hq (λw1=>Qk o w1);rw [ho] at HIO;obtain⟨K,no,k,nn,⟨mK,mF,mT,mI,mL,mk,mN⟩⟩:=o;dsimp only at *;open aoH in exact XT):P:=h
theorem aAP.AaC(h:P:=by
 obtain rfl:=ah HKQ;obtain⟨⟨p0,p1,p2,p3,p4,p5,p6,p7,p8,p9,nI⟩,_⟩:=aJ mD;have ak3:=ay mD;go_wp2_with fail;refine(HAD w2 HW2).mono ?_;rintro e w3 ⟨rfl,hb3⟩;have HW3:=Hq (HW2.step hb3);have Ef:=Hq (aj mD hb3);clear hb3 HAD;go_upto_region 4 with fail;refine wp_at (λW hW=>?_);have e1:W.heap[w3.heap.size]?=some (.cells #[.func (.func 204) #[.pointer (some ⟨wb,0,none⟩)] #[],.func (.func 205) #[.pointer (some ⟨wb,0,none⟩)] #[],.func (.func 206) #[.pointer (some ⟨wb,0,none⟩)] #[],.func (.func 207) #[.pointer (some ⟨wb,0,none⟩)] #[],.func (.func 208) #[.pointer (some ⟨wb,0,none⟩)] #[],.func (.func 209) #[.pointer (some ⟨wb,0,none⟩)] #[],.func (.func 210) #[.pointer (some ⟨wb,0,none⟩)] #[]] 264 (0,0)):=Acf
 have e2:=au w3 (.cells #[.func (.func 204) #[.pointer (some ⟨wb,0,none⟩)] #[],.func (.func 205) #[.pointer (some ⟨wb,0,none⟩)] #[],.func (.func 206) #[.pointer (some ⟨wb,0,none⟩)] #[],.func (.func 207) #[.pointer (some ⟨wb,0,none⟩)] #[],.func (.func 208) #[.pointer (some ⟨wb,0,none⟩)] #[],.func (.func 209) #[.pointer (some ⟨wb,0,none⟩)] #[],.func (.func 210) #[.pointer (some ⟨wb,0,none⟩)] #[]] 264);rw [<-hW] at e2;have HW4:=Hq (HW3.step e2);have JQ:=Hq (aj Ef e2);have c0:W.cell? ⟨w3.heap.size,6,none⟩=some (.func (.func 210) #[.pointer (some ⟨wb,0,none⟩)] #[]):=aEz W _ 6 _ _ (0,0) e1;exact Zk2):P:=h
theorem aAQ.AaC(h:P:=by
 obtain⟨⟨p0,p1,p2,p3,p4,p5,p6,p7,p8,p9,nI⟩,_⟩:=aJ mD;have ak3:=ay mD;have hK6:=ah HK6;go_wp2_with fail;refine(HAD w2 HW2).mono ?_;rintro e w3 ⟨rfl,hb3⟩;have HW3:=Hq (HW2.step hb3);clear hb3 p0 p1 p2 p3 p4 p5 p6 p7 p8 p9 nI HAD;go_wp2_with fail;go_ret;exact⟨rfl,A,G,c,v,by rw [aFF];exact HW3⟩):P:=h
theorem aAR.AaC(h:P:=by
 go_wp2_with fail;go_ret;exact⟨rfl,A,G,c,v,by rw [aFF];exact HW2⟩):P:=h
theorem aAS.AaC(h:P:=by
 obtain rfl:=ah HKQ;obtain⟨⟨p0,p1,p2,p3,p4,p5,p6,p7,p8,p9,nI⟩,_⟩:=aJ mD;have ak3:=ay mD;go_upto_region 4 with fail;refine wp_at (λW hW=>?_);have e1:W.heap[w2.heap.size]?=some (.cells #[.func (.func 204) #[.pointer (some ⟨wb,0,none⟩)] #[],.func (.func 205) #[.pointer (some ⟨wb,0,none⟩)] #[],.func (.func 206) #[.pointer (some ⟨wb,0,none⟩)] #[],.func (.func 207) #[.pointer (some ⟨wb,0,none⟩)] #[],.func (.func 208) #[.pointer (some ⟨wb,0,none⟩)] #[],.func (.func 209) #[.pointer (some ⟨wb,0,none⟩)] #[],.func (.func 210) #[.pointer (some ⟨wb,0,none⟩)] #[]] 264 (0,0)):=Acf
 have e2:=au w2 (.cells #[.func (.func 204) #[.pointer (some ⟨wb,0,none⟩)] #[],.func (.func 205) #[.pointer (some ⟨wb,0,none⟩)] #[],.func (.func 206) #[.pointer (some ⟨wb,0,none⟩)] #[],.func (.func 207) #[.pointer (some ⟨wb,0,none⟩)] #[],.func (.func 208) #[.pointer (some ⟨wb,0,none⟩)] #[],.func (.func 209) #[.pointer (some ⟨wb,0,none⟩)] #[],.func (.func 210) #[.pointer (some ⟨wb,0,none⟩)] #[]] 264);rw [<-hW] at e2;have HW4:=Hq (HW2.step e2);have JQ:=Hq (aj mD e2);exact Kk1):P:=h
theorem EO(h:P:=by
 rw [hop] at ED;unfold jF at ED;clear hop;have Ol:=Hq (λW (h:aG w W)=>uS n A W hz (ha.below h));clear hz ha hok;go_in
 go_upto_region 2 with fail;refine wp_at (λW1 hW=>?_);exact AaA):P:=h
theorem aAT.AaA(h:P:=by
 open arb in exact awH):P:=h
theorem aAU.AaA(h:P:=by
 obtain⟨e1,e2,e3,e4⟩:=fP w (.cells (dR n A) 53) (.cells (bE 2 no k nn mK mF mT mI mL mk mN) 106) (.cells kH 53);have hsz:(((w.alloc (.cells (dR n A) 53)).alloc (.cells (bE 2 no k nn mK mF mT mI mL mk mN) 106)).alloc (.cells kH 53)).heap.size=w.heap.size+3:=Aac
 generalize hW0:((w.alloc (.cells (dR n A) 53)).alloc (.cells (bE 2 no k nn mK mF mT mI mL mk mN) 106)).alloc (.cells kH 53)=W0 at *;exact Zk6):P:=h
theorem aAV.AaA(h:P:=by
 obtain⟨e1,e2,e3,e4⟩:=fP w (.cells (dR n A) 53) (.cells (bE 1 no k nn mK mF mT mI mL mk mN) 106) (.cells kH 53);have hsz:(((w.alloc (.cells (dR n A) 53)).alloc (.cells (bE 1 no k nn mK mF mT mI mL mk mN) 106)).alloc (.cells kH 53)).heap.size=w.heap.size+3:=Aac
 generalize hW0:((w.alloc (.cells (dR n A) 53)).alloc (.cells (bE 1 no k nn mK mF mT mI mL mk mN) 106)).alloc (.cells kH 53)=W0 at *;exact Zk6):P:=h
theorem aAW.AaA(h:P:=by
 open arf in exact awI):P:=h
theorem aAX.AaA(h:P:=by
 obtain⟨e1,e2,e3,e4⟩:=fP w (.cells (dR n A) 53) (.cells (bE 6 no k nn mK mF mT mI mL mk mN) 106) (.cells kH 53);have hsz:(((w.alloc (.cells (dR n A) 53)).alloc (.cells (bE 6 no k nn mK mF mT mI mL mk mN) 106)).alloc (.cells kH 53)).heap.size=w.heap.size+3:=Aac
 generalize hW0:((w.alloc (.cells (dR n A) 53)).alloc (.cells (bE 6 no k nn mK mF mT mI mL mk mN) 106)).alloc (.cells kH 53)=W0 at *;exact Zk8):P:=h
theorem aAY.AaA(h:P:=by
 open ard in exact awI):P:=h
theorem aAZ.AaA(h:P:=by
 open ari in exact awJ):P:=h
theorem aA0.AaA(h:P:=by
 open ark in exact awK):P:=h
theorem aA1.AaA(h:P:=by
 obtain⟨e1,e2,e3,e4⟩:=fP w (.cells (dR n A) 53) (.cells (bE 5 no k nn mK mF mT mI mL mk mN) 106) (.cells kH 53);have hsz:(((w.alloc (.cells (dR n A) 53)).alloc (.cells (bE 5 no k nn mK mF mT mI mL mk mN) 106)).alloc (.cells kH 53)).heap.size=w.heap.size+3:=Aac
 generalize hW0:((w.alloc (.cells (dR n A) 53)).alloc (.cells (bE 5 no k nn mK mF mT mI mL mk mN) 106)).alloc (.cells kH 53)=W0 at *;open Sk1 in exact Yk0):P:=h
theorem aA2.AaA(h:P:=by
 open arh in exact awJ):P:=h
theorem aA3.AaA(h:P:=by
 open arj in exact awK):P:=h
theorem ajZ(h:P:=by
 go_wp2_with fail;refine wp_region_quiet_lit Aab Aab ?_;repeat (first|go_big_quiet_step ((first|(go_at_call 62;exact azk _ _ hks hkb' _ _)|(go_at_call_of 60 (IntKind.i64.wrap (pf+ps));exact qAm _ _ g4 _ _)|(go_at_call_of 60 (pf+ps);exact qAm _ _ g5 _ _)|(go_at_call_of 60 pm;exact qAm _ _ g1 _ _)|(go_at_call_of 60 pf;exact qAm _ _ g2 _ _)|(go_at_call_of 60 ps;exact qAm _ _ g3 _ _)))|quiet_step ((first|(go_at_call 62;exact azk _ _ hks hkb' _ _)|(go_at_call_of 60 (IntKind.i64.wrap (pf+ps));exact qAm _ _ g4 _ _)|(go_at_call_of 60 (pf+ps);exact qAm _ _ g5 _ _)|(go_at_call_of 60 pm;exact qAm _ _ g1 _ _)|(go_at_call_of 60 pf;exact qAm _ _ g2 _ _)|(go_at_call_of 60 ps;exact qAm _ _ g3 _ _))))
 refine aE2 ?_;intro _ hw';obtain⟨nq,hw''⟩:=hw';subst hw'';go_wp2_with fail;exact AaD):P:=h
theorem aA4.AaD(h:P:=by
 go_roundw
 case rel=>exact⟨(j+1)+1,Aaa,Aaf,Ace,(aO.alloc aO.size _).trans ⟨rfl,rfl,rfl,aEx _,λ_ _=>rfl⟩⟩
 case measure=>simp[intOf];omega):P:=h
theorem aA5.AaD(h:P:=by
 go_roundw
 case rel=>exact⟨0+1,Aaa,Aaf,Ace,(aO.alloc aO.size _).trans ⟨rfl,rfl,rfl,aEx _,λ_ _=>rfl⟩⟩
 case measure=>simp[intOf];omega):P:=h
theorem aA6.AaD(h:P:=by
 go_ret;exact⟨aF HBAD.symm,(aO.alloc aO.size _).trans ⟨rfl,rfl,rfl,aEx _,λ_ _=>rfl⟩⟩):P:=h
theorem av5(h:P:=by
 generalize Bj (tl s a)=z at *;clear e1 e2 hrs hub hsz hH hcap;generalize lZ (kE (Ec (tl s a)))=bW at *;generalize kE (Ec (tl s a))=n at *;generalize s.extract a (a+4)=hd at *;have HQ:=Hq hq;clear hn hq;have hz2:¬(z < 0):=Aaa
 have hz3:decide (z < 0)=false:=aEw hz2;generalize Ec (tl s a)=tx at *;generalize iB (tl s a)=rs at *;have HC:=Hq hc;clear hc;open auO in exact ahf):P:=h
theorem aA7.AaI(h:P:=by
 exact aEE (v:= .tuple #[.string tx,.int .i64 (a+4+z)]) Acd rfl ⟨rfl,tZ⟩):P:=h
theorem aA8.AaI(h:P:=by
 exact aEE (v:= .tuple #[.string ⟨#[]⟩,.int .i64 (-1)]) Acd rfl ⟨rfl,tZ⟩):P:=h
theorem TF(h:P:=by
 clear e5 hkx d0 d1 d2 d3 d4 d5 d6 d7 d8 f0 f1 f2 f3 f4 f5 f6 f7 f8 p0 p1 p2 p3 p4 p5 p6 p7 p8 p9 nI hnl hol rR LD pX HB3 jD fI;obtain⟨c0,c1,c2,c3,c4,c5,c6,c7,c8⟩:=nine gu;obtain⟨⟨p0,p1,p2,p3,p4,p5,p6,p7,p8,p9,nI⟩,_⟩:=aJ HOX;have hnl:=ay gu;have hol:=ay HOX;exact AaE):P:=h
theorem aA9.AaE(h:P:=by
 open apV in exact awq):P:=h
theorem aBa.AaE(h:P:=by
 go_wp2_with fail;refine(jr X A1 G1 c (aEN _) H9 HPR BF).mono ?_;rintro e W5 ⟨A2,rfl,hat,hb5,hap⟩;open as0 in exact agT):P:=h
theorem aBb.AaE(h:P:=by
 go_wp2_with fail;refine(jr X A1 G1 c (aEN _) H9 HPR BF).mono ?_;rintro e W5 ⟨A2,ma,mc,rfl,hat,hmt,hb5,hap⟩;have aeh:=Hq hmt;clear hmt;open asZ in exact agT):P:=h
theorem aBd.AaE(h:P:=by
 go_upto_region 23 with fail;clear p0 p1 p2 p3 p4 p5 p6 p7 p8 p9 nI hol;obtain⟨⟨d0,d1,d2,d3,d4,d5,d6,d7,d8⟩,f0,f1,f2,f3,f4,f5,f6,f7,f8⟩:=iG tV;have hrl:=ay tV;go_wp2_with fail;refine eB (u1:= .slice (some ⟨w.heap.size+1+1+1,0,none⟩) 0 0) (u2:= .int .i64 1) results68 rfl rfl rfl rfl tV (λW' e4 eX=>?_);open auv in exact aha):P:=h
theorem aBe.AaE(h:P:=by
 go_upto_region 26 with fail;have hrx:=ay tV;have y0:=bZ (b:=w.heap.size+2) Aaa c0;have y1:=bZ (b:=w.heap.size+2) Aaa c1;have y2:=bZ (b:=w.heap.size+2) Aaa c2;have y3:=bZ (b:=w.heap.size+2) Aaa c3;have y4:=bZ (b:=w.heap.size+2) Aaa c4;have y5:=bZ (b:=w.heap.size+2) Aaa c5;have y6:=bZ (b:=w.heap.size+2) Aaa c6;have y7:=bZ (b:=w.heap.size+2) Aaa c7;have y8:=bZ (b:=w.heap.size+2) Aaa c8;have z2:=bZ (b:=w.heap.size+2) Aaa p2;have z3:=bZ (b:=w.heap.size+2) Aaa p3;have hwb:w.heap.size+2<=X.heap.size:=Aaa
 clear c0 c1 c2 c3 c4 c5 c6 c7 c8 p0 p1 p2 p3 p4 p5 p6 p7 p8 p9 nI;refine rg 12 (RB (w.heap.size+2)) 14 ?_;refine tk [0,1,2,3,4,5,6,7,8,9] ?_;iterate 10 (refine tkB 20 (Rb _) (λK hK=>?_);go_simp;(first|refine hK _ ?_|(apply Exists.intro;refine⟨λ_=>?_,hK _ ?_⟩;rfl));clear hK K)
 refine jm ?_;clear y0 y1 y2 y3 y4 y5 y6 y7 y8 z2 z3 hwb hnl hol gu HOX;refine uT 10 11 rfl rfl Aab Aah Aah Aag Aag (λx hx=>?_) (λx hx=>?_)
 .go_simp;refine⟨(au x _).mono (by have:=hx.size;omega),?_⟩;have BI:=Hq (Ge.trans hx (au x (.cells (bH 0 n.id n.par 0 0 k nn) 104)));have HM1:=Hq (aEu x (.cells (bH 0 n.id n.par 0 0 k nn) 104));have hxs:=hx.size;clear hx;refine iT 11 rfl Aab Aah Aag (λy hy=>?_);have HY:=Hq (Ge.trans BI hy);have HMY:=Hq (aj HM1 hy);have HRY:=Hq (aj tV HY);clear hy HM1 BI;obtain⟨⟨d0,d1,d2,d3,d4,d5,d6,d7,d8⟩,f0,f1,f2,f3,f4,f5,f6,f7,f8⟩:=iG HRY;have hrl:=ay HRY;go_simp;have eX:aC [w.heap.size+2] y (GR.setW y (w.heap.size+2) 0 (dR n A1).toList):=eP (dR n A1).toList y 0;refine⟨eX.below (λx hx=>by have:x=w.heap.size+2:=Aad;omega) (by have:=ay HRY;omega),?_⟩;clear eX d0 d1 d2 d3 d4 d5 d6 d7 d8 f0 f1 f2 f3 f4 f5 f6 f7 f8 hrl;refine pJ Aab (λz hz=>?_);have HRZ:=Hq (aj (GR.setW_blk (dR n A1).toList (o:=0) (xs:=kH.toList) HRY) hz);have eX:aC [w.heap.size+2] X z:=(aC.of_below HY).trans ((eP (dR n A1).toList y 0).trans (aC.of_below hz));have HMZ:=Hq (aj ((eP (dR n A1).toList y 0).obj HMY (λhm=>by have:x.heap.size=w.heap.size+2:=Aax;omega)) hz);clear hz HY HRY HMY;have hmb:w.heap.size<=x.heap.size:=Aaa
  open aoC in exact awh
 .have HRY:=Hq (aj tV hx);have hxs:=hx.size;obtain⟨⟨d0,d1,d2,d3,d4,d5,d6,d7,d8⟩,f0,f1,f2,f3,f4,f5,f6,f7,f8⟩:=iG HRY;have hrl:=ay HRY;go_simp;have hkx:aC [w.heap.size+2] x (GR.setW x (w.heap.size+2) 0 (dR n A1).toList):=eP (dR n A1).toList x 0;refine⟨hkx.below (λx hx=>by have:x=w.heap.size+2:=Aad;omega) (by have:=ay HRY;omega),?_⟩;have LA:=Hq ((aC.of_below hx).trans hkx);have HR1:=Hq (GR.setW_blk (dR n A1).toList (o:=0) (xs:=kH.toList) HRY);clear hx hkx d0 d1 d2 d3 d4 d5 d6 d7 d8 f0 f1 f2 f3 f4 f5 f6 f7 f8 hrl HRY;refine iT 10 rfl Aab Aah Aag (λy hy=>?_);go_simp;have qE:=Hq (LA.trans (aC.of_below hy));have HR2:=Hq (aj HR1 hy);clear hy LA HR1;refine⟨(au y _).mono (by have:=ay HR2;omega),?_⟩;refine pJ Aab (λz hz=>?_);have HRZ:=Hq (aj (aj HR2 (au y (.cells (bH 0 n.id n.par 0 0 k nn) 104))) hz);have eX:aC [w.heap.size+2] X z:=qE.trans ((aC.of_below (au y (.cells (bH 0 n.id n.par 0 0 k nn) 104))).trans (aC.of_below hz));have HMZ:=Hq (aj (aEu y (.cells (bH 0 n.id n.par 0 0 k nn) 104)) hz);have hmb:w.heap.size<=y.heap.size:=by have:=ay HR2;omega
  clear hz qE HR2;open aoB in exact awh):P:=h
theorem aBf.AaE(h:P:=by
 go_upto_region 19 with fail;open anm in exact XQ):P:=h
theorem aBg.AaE(h:P:=by
 open apU in exact awq):P:=h
theorem av6(h:P:=by
 open arD in exact ake):P:=h
theorem aBh.AaG(h:P:=by
 have Tt:=Hq (aj LH hz);clear hz y0 y1 y2 y3 y4 y5 y6 y7 y8 z1 Tw;go_simp;obtain⟨⟨p0,p1,p2,p3,p4,p5,p6⟩,_⟩:=dY Tt;have hBz:=ay Tt;go_wp2_with fail;refine(IB z HZ).mono ?_;rintro e y ⟨rfl,A',G',c',v',hY⟩;have HY:=Hq hY;clear hY IB p0 p1 p2 p3 p4 p5 p6;go_wp2_with fail;go_ret;exact⟨rfl,A',G',c',v',HY⟩):P:=h
theorem aBi.AaG(h:P:=by
 clear hz y0 y1 y2 y3 y4 y5 y6 y7 y8 z1 Tw;exact ai1):P:=h
theorem av7(h:P:=by
 cases h3:fC lo
 case' false=>
  have cS:=KJ lo false W1 h3
  have HV:=Hq (show bb=true by rw [<-ah eG];simp[h3])
  clear eG
  refine aEJ Aab Aab ?_
  repeat (first|go_big_quiet_step ((first|(go_at_call 61;exact cN _ _)|(go_at_call 59;exact cS _ _)))|quiet_step ((first|(go_at_call 61;exact cN _ _)|(go_at_call 59;exact cS _ _))))
  refine aE2 ?_
  intro _ hw'
  obtain⟨⟨dq,osq⟩,hw''⟩:=hw'
  subst hw''
  go_wp2_with fail
  go_meet
  case rel=>exact yC
 have cS:=KJ lo true W1 h3;by_cases h4:ids.length<=40
 case' neg=>
  have hq:decide ((40:Int) < ids.length)=true:=aEy Aaa
  have HV:=Hq (show bb=true by rw [<-ah eG];simp[h4])
  clear eG
  refine aEJ Aab Aab ?_
  repeat (first|go_big_quiet_step ((first|(go_at_call 61;exact cN _ _)|(go_at_call 59;exact cS _ _)))|quiet_step ((first|(go_at_call 61;exact cN _ _)|(go_at_call 59;exact cS _ _))))
  refine aE2 ?_
  intro _ hw'
  obtain⟨⟨dq,osq⟩,hw''⟩:=hw'
  subst hw''
  go_wp2_with fail
  go_meet
  case rel=>exact yC
 have hq:decide ((40:Int) < ids.length)=false:=aEw Aaa;exact AaJ):P:=h
theorem aBj.AaJ(h:P:=by
 have HV:=Hq (show bb=false by rw [<-ah eG];simp[h1,h3,h4,h2]);exact axJ):P:=h
theorem aBk.AaJ(h:P:=by
 have HV:=Hq (show bb=false by rw [<-ah eG];simp[h1,h3,h4]);exact axJ):P:=h
theorem aaZ(h:P:=by
 go_upto_region 6 with fail;refine Fo.wp_at (λV hV=>?_);open aue in exact ag5):P:=h
theorem aBl.Aa1(h:P:=by
 open ars in exact awN):P:=h
theorem aBm.Aa1(h:P:=by
 open arq in exact awN):P:=h
theorem aBn.Aa1(h:P:=by
 open avL in exact ahz):P:=h
theorem aBo.Aa1(h:P:=by
 clear hblk hV c0 c1 c2 c3;open auY in exact ahi):P:=h
theorem aBp.Aa1(h:P:=by
 clear hblk hV c0 c1 c2 c3;open auV in exact ahh):P:=h
theorem av8(h:P:=by
 obtain⟨id,par,kids,next,pur,out,seen,old,reqs⟩:=n;obtain⟨ak,ap,ao,as',ar,ck,cp,co,cs,cr⟩:=A;dsimp only at xS;have HNI:=Hq (λh:here up i ⟨id,par,kids,next,pur,out,seen,old,reqs⟩=>show id=(i:Int) from h.1);have HNP:=Hq (λh:here up i ⟨id,par,kids,next,pur,out,seen,old,reqs⟩=>show par=up[i] by have h:=h.2.1;rw [ah HUP] at h;exact(aFe h).symm);have SS:=Hq (fun(h1:id=(i:Int)) (h2:par=up[i])=>show here up i ⟨id,par,kids,next,pur,out,seen,old,reqs⟩↔kids=yc up i from⟨λh=>h.2.2,λh=>⟨h1,by rw [ah HUP,h2],h⟩⟩);generalize here up i ⟨id,par,kids,next,pur,out,seen,old,reqs⟩=PR at *;obtain⟨c0,c1,c2,c3,c4,c5,c6,c7,c8⟩:=nine (show W.heap[w.heap.size+1]?=some (.cells (vG id par ak kids.length ck next ap pur.length cp ao out.length co as' seen.length cs old ar reqs.length cr) 53 (0,0)) from hN);have t0:=(Ck hT).1;have hTR:W.rangeAt w.heap.size 0 [.slice (some ⟨g,off,none⟩) up.length ca]:=(KR.blk (V:=[.slice (some ⟨g,off,none⟩) up.length ca]) hT).r;have hTL:=ay hT;have y0:=aEv c0;have y1:=aEv c1;have y2:=aEv c2;have yt:=aEv t0;have yu:=aEv q1;clear c3 c4 c5 c6 c7 c8 hT hN HUP;generalize up[i]=pu at *;exact AcC):P:=h
theorem aBq.AcC(h:P:=by
 by_cases h1:id=(i:Int)
 case' neg=>
  have hq:(id == (i:Int))=false:=Aap
  have HN:=Hq (show¬PR from λh=>h1 (HNI h))
  clear HNI HNP SS VT xS h1 hTR
  as_aux_lemma=>
   go_in
   go_upto_region 1 with fail
   clear hW c0 c1 c2 t0 q1
   refine aEJ Aab Aab ?_
   repeat (first|go_big_quiet_step (fail)|quiet_step (fail))
   refine aE2 ?_
   intro _ hw'
   obtain⟨⟨dq,osq⟩,hw''⟩:=hw'
   subst hw''
   clear y0 y1 y2 yt yu
   go_wp2_with fail
   go_ret
   exact .no HN (gK.trans ((aEV _ dq osq).mono gK.size))
 have hq:(id == (i:Int))=true:=Aap
 by_cases h2:par=pu
 case' neg=>
  have hq2:(par == pu)=false:=Abm
  have HN:=Hq (show¬PR from λh=>h2 (HNP h))
  clear HNI HNP SS VT xS h1 h2 hTR
  as_aux_lemma=>
   go_in
   go_upto_region 1 with fail
   clear hW c0 c1 c2 t0 q1
   refine aEJ Aab Aab ?_
   repeat (first|go_big_quiet_step (fail)|quiet_step (fail))
   refine aE2 ?_
   intro _ hw'
   obtain⟨⟨dq,osq⟩,hw''⟩:=hw'
   subst hw''
   clear y0 y1 y2 yt yu
   go_wp2_with fail
   go_ret
   exact .no HN (gK.trans ((aEV _ dq osq).mono gK.size))
 have hq2:(par == pu)=true:=Abm
 have HYN:=Hq (SS h1 h2);clear HNI HNP SS h1 h2;go_in
 exact aw6):P:=h
theorem aBr.AcC(h:P:=by
 by_cases h1:id=(i:Int)
 case' neg=>
  have hq:(id == (i:Int))=false:=Aap
  have HN:=Hq (show¬PR from λh=>h1 (HNI h))
  clear HNI HNP SS VT xS h1 hTR
  as_aux_lemma=>
   go_in
   go_upto_region 1 with fail
   clear hW c0 c1 c2 t0 q1
   refine aEJ Aab Aab ?_
   repeat (first|go_big_quiet_step (fail)|quiet_step (fail))
   refine aE2 ?_
   intro _ hw'
   obtain⟨⟨dq,osq⟩,hw''⟩:=hw'
   subst hw''
   clear y0 y1 y2 yt yu
   go_wp2_with fail
   go_ret
   exact .no HN (gK.trans ((aEV _ dq osq).mono gK.size))
 have hq:(id == (i:Int))=true:=Aap
 by_cases h2:par=pu
 case' neg=>
  have hq2:(par == pu)=false:=Abm
  have HN:=Hq (show¬PR from λh=>h2 (HNP h))
  clear HNI HNP SS VT xS h1 h2 hTR
  as_aux_lemma=>
   go_in
   go_upto_region 1 with fail
   clear hW c0 c1 c2 t0 q1
   refine aEJ Aab Aab ?_
   repeat (first|go_big_quiet_step (fail)|quiet_step (fail))
   refine aE2 ?_
   intro _ hw'
   obtain⟨⟨dq,osq⟩,hw''⟩:=hw'
   subst hw''
   clear y0 y1 y2 yt yu
   go_wp2_with fail
   go_ret
   exact .no HN (gK.trans ((aEV _ dq osq).mono gK.size))
 have hq2:(par == pu)=true:=Abm
 have HYN:=Hq (SS h1 h2);clear HNI HNP SS h1 h2;go_in
 exact aw6):P:=h
theorem av9(h:P:=by
 have hTO:= @aFl prog 305 _ ReflectliteType.typeOf func305 Aab Aab Aab Aab;have hAT:= @aFl prog 357 _ (ReflectliteType.relation "AssignableTo" ReflectliteType.assignableTo) func357 Aab Aab Aab Aab;open avG in exact ahy):P:=h
theorem aBs.Adj(h:P:=by
 have el:=As.elemV a t (((w.alloc (.cells #[.pointer (some ⟨6,328,none⟩),.pointer (some a),.int .u64 150] 359)).alloc (.cells #[.iface 324 (.agg #[.iface 326 (.agg #[.int .i64 p])])] 324)).alloc (.cells #[.iface 326 (.agg #[.int .i64 p])] 324))
  (by rw [aEO _ _ a Aae,aEO _ _ a Aae,aEO _ _ a hal];exact ha)
 have st:=As.setNo t ⟨w.heap.size+1+1+1,0,none⟩ p old ((((w.alloc (.cells #[.pointer (some ⟨6,328,none⟩),.pointer (some a),.int .u64 150] 359)).alloc (.cells #[.iface 324 (.agg #[.iface 326 (.agg #[.int .i64 p])])] 324)).alloc (.cells #[.iface 326 (.agg #[.int .i64 p])] 324)).alloc (.cells #[.int .i64 p] 326))
  (by rw [World.cell?_alloc_at _ _ _ _ Aac];rfl)
  (by rw [aEO _ _ t Aae,aEO _ _ t Aae,aEO _ _ t Aae,aEO _ _ t htl];exact ht)
  (by rw [aFv _ _ t Aae,aFv _ _ t Aae,aFv _ _ t Aae,aFv _ _ t (Nat.ne_of_lt htl)];exact hf)
 go_in
 go_wp2
 refine wp_loop_rounds 3 ?_;iterate 3 (rw [rounds_succ];go_wp2)
 go_ret;exact⟨rfl,by exact(((((aEK _ _).alloc Aaa _).alloc Aae _).alloc Aae _).alloc Aae _).setCell (aEx _) _⟩):P:=h
theorem aBt.Adj(h:P:=by
 have el:=As.elemV a t ((w.alloc (.cells #[.pointer (some ⟨6,328,none⟩),.pointer (some a),.int .u64 150] 359)).alloc (.cells #[.iface 326 (.agg #[.int .i64 p])] 324))
  (by rw [aEO _ _ a Aae,aEO _ _ a hal];exact ha)
 have st:=As.setNo t ⟨w.heap.size+1+1,0,none⟩ p old (((w.alloc (.cells #[.pointer (some ⟨6,328,none⟩),.pointer (some a),.int .u64 150] 359)).alloc (.cells #[.iface 326 (.agg #[.int .i64 p])] 324)).alloc (.cells #[.int .i64 p] 326))
  (by rw [World.cell?_alloc_at _ _ _ _ Aac];rfl)
  (by rw [aEO _ _ t Aae,aEO _ _ t Aae,aEO _ _ t htl];exact ht)
  (by rw [aFv _ _ t Aae,aFv _ _ t Aae,aFv _ _ t (Nat.ne_of_lt htl)];exact hf)
 go_in
 go_wp2
 refine wp_loop_rounds 2 ?_;iterate 2 (rw [rounds_succ];go_wp2)
 go_ret;exact⟨rfl,by exact((((aEK _ _).alloc Aaa _).alloc Aae _).alloc Aae _).setCell (aEx _) _⟩):P:=h
theorem awc(h:P:=by
 refine Ip 20 ?_;refine tk [0,1,2,3,4,5,6,7,8,9,10,11,12,13] ?_;iterate 14 (refine iy (λK hK=>?_);go_simp;refine hK _ ?_;clear hK K)
 refine jm ?_;clear y4 y8 z1 z2;refine eu 14 rfl Aab Aah (λx hx=>?_);go_simp;refine(JV x (GR.At.below vL.at.p hx)).mono ?_;rintro e y ⟨v,rfl,hne,hrow,hby⟩;refine⟨hby,?_⟩;obtain⟨av,cv,rfl,_⟩:=GR.own_at (enc:=fO) (sz:=4) aP hrow;have HRW:=Hq hrow;have HXY:=Hq (Ge.trans hx hby);have hxs:=hx.size;clear hx hby hne hrow JV;refine tk [15,16,17,18,19] ?_;iterate 5 (refine iy (λK hK=>?_);go_simp;refine hK _ ?_;clear hK K)
 refine jm ?_;refine dJ Aab (λz hz=>?_);have HZ:=Hq (Ge.trans HXY hz);have HRZ:=Hq (GR.own_below HRW hz);have OM:=Hq (aj mq HZ);have aev:=Hq (aj tV HZ);have Ir:=Hq (vL.kc (k:=9) (KC.of_below HZ) Aaa);have tZ:=Hq (HB1.trans (HZ.mono HB1.size));have hgz:g < z.heap.size:=aEH hg HZ.size;clear hz HXY HRW;go_simp;obtain⟨c0,c1,c2,c3,c4,c5,c6,c7,c8⟩:=nine OM;obtain⟨⟨d0,d1,d2,d3,d4,d5,d6,d7,d8⟩,f0,f1,f2,f3,f4,f5,f6,f7,f8⟩:=iG aev;have hnl:=ay OM;have hrl:=ay aev;exact Aee):P:=h
theorem aBu.Aee(h:P:=by
 go_wp2_with fail;refine jW results99 rfl rfl rfl aev (λW' e4 eX=>?_);have HAT:=Hq (λW'' (ho:Out c w W' W'')=>(Ir.kc (k:=9) ((KC.keeps eX (λx hx=>by have:x=w.heap.size+1:=Aad;rw [this];exact aY Aaa)).trans (KC.out H9 ho)) Aaa).rm);have qG:Hid (Below B w W'):=(tZ.mono hB).trans (eX.below (λx hx=>by have:x=w.heap.size+1:=Aad;omega) (aEA hB (tZ.mono hB).size));have xA:=Hq (Apart.keeps (c:=c) (Apart.of_below tZ) (tZ.mono hB).size eX (λx hx=>by have:x=w.heap.size+1:=Aad;omega));clear e4 eX;exact⟨(⟨a_k,(some ⟨gp,0,none⟩),iV,iM,(some ⟨g,0,none⟩),cZ,fD,dW,dw,dG⟩:bg),rfl,HAT,qG,xA⟩):P:=h
theorem aBv.Aee(h:P:=by
 have q3z:z.cell? ⟨g,i*4+3,none⟩=some (.int .i64 0):=(HZ.cell (p:=⟨g,i*4+3,none⟩) hg).trans HQ3
 have g3:z.frozen? ⟨g,i*4+3,none⟩=false:=by
  obtain⟨g',rest,e',_,hb'⟩:=wS Ir.r (show 0 < n.reqs.length by omega);simp only[aFR,Addr.mk.injEq,and_true] at e';obtain rfl:=e';exact aA hb' _
 have f4n:=aA OM 4
 have hgn:g≠w.heap.size:=λe=>by
  have h1:=Ir.cr g ((hgb g).2 rfl)
  rw [e] at h1
  have h2:newC w.heap.size 9 c w.heap.size=9:=aY (aEx _)
  rw [h2] at h1
  cases h1
 have aB0:g≠w.heap.size+1:=λe=>by
  have h1:=Ir.cr g ((hgb g).2 rfl)
  rw [e] at h1
  have h2:newC w.heap.size 9 c (w.heap.size+1)=9:=aY Aaa
  rw [h2] at h1
  cases h1
 go_upto_region 13 with fail;refine wp_at (λZ2 hZ=>?_);have jV:Hid (Z2.heap[w.heap.size]?=some (.cells (vG n.id n.par a_k n.kids.length cZ n.next av RL.length cv iV n.out.length dW iM n.seen.length dw n.old (some ⟨g,0,none⟩) n.reqs.length dG) 53 (0,0))):=by rw [hZ];exact(aEU _ _ _ _ (Ne.symm hgn)).trans (Dg OM)
 have mJ:Hid (Z2.heap[w.heap.size+1]?=some (.cells kH 53 (0,0))):=by rw [hZ];exact((aEU _ _ _ _ (Ne.symm aB0)).trans (aEU _ _ _ _ (show w.heap.size+1≠w.heap.size by omega))).trans aev
 have pU:=Ir.kc (k:=9) (KC.set (g:=w.heap.size) (i:=4) (v:= .slice av RL.length cv) (aY (aEx _))) Aaa;have kB:KC (newC w.heap.size 9 c) 6 (z.setCell ⟨w.heap.size,4,none⟩ (.slice av RL.length cv)) Z2:=by rw [hZ];exact KC.set (pU.cr g ((hgb g).2 rfl))
 have hwx:w.heap.size < x.heap.size/\g < x.heap.size:=by
  have:=ay mq;omega
 have hpz:Z2.ownsRow x.heap.size 142 4 (.slice av RL.length cv) RL.length (GR.flat fO RL):=by
  rw [hZ];exact dA (dA HRZ (aC.set _) (λy hy=>by have:y=w.heap.size:=Aar;omega)) (aC.set _) (λy hy=>by have:y=g:=Aar;omega)
 have hrz:=(pU.r.stored (i*4+3) (.int .i64 2)).1;rw [PY 2 n.reqs i hi,<-hZ] at hrz;have aat:=Hq (And.intro (kB.w pU.k pU.ck Aaa) (And.intro hpz (And.intro (kB.own pU.o pU.co Aaa) (And.intro (kB.seenQ pU.sq pU.c4 pU.ci Aaa Aaa) hrz))));have jr:=Hq (And.intro pU.ck (And.intro pU.co (And.intro pU.c4 (And.intro pU.ci (And.intro pU.cr pU.ni)))))
 have ajF:Hid (Below B w Z2):=by
  have hg0:B<=g:=hBg;rw [hZ];exact((tZ.mono hB).setCell (p:=⟨w.heap.size,4,none⟩) hB _).setCell (p:=⟨g,i*4+3,none⟩) hg0 _
 have azL:Hid (Apart c w Z2):=λx hx hc=>by
  have hxg:x≠g:=λe=>by
   have h1:=Ir.cr g ((hgb g).2 rfl)
   rw [<-e,eY hx] at h1
   omega
  rw [hZ]
  exact(aEU _ _ _ _ hxg).trans ((aEU _ _ _ _ (Nat.ne_of_lt hx)).trans (tZ.block x hx))
 clear hZ pU kB hpz hrz q3z g3 f4n c0 c1 c2 c3 c4 c5 c6 c7 c8 d0 d1 d2 d3 d4 d5 d6 d7 d8 f0 f1 f2 f3 f4 f5 f6 f7 f8 hnl hrl;obtain⟨c0,c1,c2,c3,c4,c5,c6,c7,c8⟩:=nine jV;obtain⟨⟨d0,d1,d2,d3,d4,d5,d6,d7,d8⟩,f0,f1,f2,f3,f4,f5,f6,f7,f8⟩:=iG mJ;have hnl:=ay jV;have hrl:=ay mJ;go_wp2_with fail;refine jW (u1:= .int .i64 0) results99 rfl rfl rfl mJ (λW' e4 eX=>?_)
 have HAT:=Hq (λW'' (ho:Out c w W' W'')=>(show RM W'' ⟨a_k,av,iV,iM,(some ⟨g,0,none⟩),cZ,cv,dW,dw,dG⟩ (eD (setPu n RL) (n.reqs.set i (pz n.reqs[i]))) from by
  have kF:KC (newC w.heap.size 9 c) 9 Z2 W'':=(KC.keeps eX (λy hy=>by have:y=w.heap.size+1:=Aar;rw [this];exact aY Aaa)).trans (KC.out H9 ho)
  have hpF:W''.ownsRow x.heap.size 142 4 (.slice av RL.length cv) RL.length (GR.flat fO RL):=by
   obtain⟨F,hk,hF⟩:=ho;exact dA (dA aat.2.1 eX (λy hy=>by have:y=w.heap.size+1:=Aar;have:=ay tV;omega)) hk (λy hy=>by have:=(hF y hy).1;have:=ay tV;omega)
  have hp9:∀g',av.map (λy=>y.block)=some g'->6 < newC w.heap.size 9 c g':=λg' hg'=>by
   have h1:=uM hpF (sH hpF hg')
   have h2:=ay tV
   rw [aY Aaa]
   omega
  have hrF:W''.ownsRow B 133 4 (.slice (some ⟨g,0,none⟩) (n.reqs.set i (pz n.reqs[i])).length dG) (n.reqs.set i (pz n.reqs[i])).length (GR.flat aM (n.reqs.set i (pz n.reqs[i]))):=by
   rw [aGd];exact kF.own aat.2.2.2.2 jr.2.2.2.2.1 Aaa
  exact RM.of (n:=eD (setPu n RL) (n.reqs.set i (pz n.reqs[i]))) (A:=⟨a_k,av,iV,iM,(some ⟨g,0,none⟩),cZ,cv,dW,dw,dG⟩) (c:=newC w.heap.size 9 c) (kF.w aat.1 jr.1 Aaa) jr.1 (kF.seenQ aat.2.2.2.1 jr.2.2.1 jr.2.2.2.1 Aaa Aaa) jr.2.2.1 jr.2.2.2.1 jr.2.2.2.2.2
   (GR.own_ati aP hpF) (λg' hg' _=> .inr (hp9 g' hg')) (kF.own aat.2.2.1 jr.2.1 Aaa) (λy hy=> .inl (jr.2.1 y hy)) hrF (λy hy=> .inl (jr.2.2.2.2.1 y hy))
   (λg' hg' _ h6=>⟨λe=>by have:=jr.2.1 g' e;omega,λe=>by have:=jr.2.2.2.2.1 g' e;omega⟩) (λy hy h6=>by have:=jr.2.1 y hy;omega)))
 have qG:Hid (Below B w W'):=ajF.trans (eX.below (λx hx=>by have:x=w.heap.size+1:=Aad;omega) (aEA hB ajF.size));have xA:=Hq (Apart.keeps (c:=c) azL ajF.size eX (λx hx=>by have:x=w.heap.size+1:=Aad;omega));clear e4 eX;exact⟨⟨a_k,av,iV,iM,(some ⟨g,0,none⟩),cZ,cv,dW,dw,dG⟩,by rw [show gP (eD (setPu n RL) (n.reqs.set i (pz n.reqs[i]))) ⟨a_k,av,iV,iM,(some ⟨g,0,none⟩),cZ,cv,dW,dw,dG⟩= .agg (vG n.id n.par a_k n.kids.length cZ n.next av RL.length cv iV n.out.length dW iM n.seen.length dw n.old (some ⟨g,0,none⟩) n.reqs.length dG) from by simp[gP,dR,eD,setPu]],HAT,qG,xA⟩):P:=h
theorem aj0(h:P:=by
 have hb:=au W0 (.cells #[] 104);have hW1:W1=W0.alloc (.cells #[] 104):=by rw [hW,<-hW0]
 rw [<-hW1] at hb;have HN:=Hq (aj e1 hb);have HO:=Hq (aj e2 hb);have HR:=Hq (aj e3 hb);have HB1:=Hq (e4.trans (hb.mono e4.size));clear hW hW0 hW1 e1 e2 e3 e4 hb;obtain⟨c0,c1,c2,c3,c4,c5,c6,c7,c8⟩:=nine HN;obtain⟨⟨p0,p1,p2,p3,p4,p5,p6,p7,p8,p9,nI⟩,_⟩:=aJ HO;have hnl:=ay HN;have hol:=ay HO;go_wp2_with fail;refine(nD W1 HB1).mono ?_;rintro e W2 ⟨rfl,hb2⟩;have jV:=Hq (aj HN hb2);have Iw:=Hq (aj HO hb2);have mJ:=Hq (aj HR hb2);have HB2:=Hq (HB1.trans (hb2.mono HB1.size));clear hb2 c0 c1 c2 c3 c4 c5 c6 c7 c8 p0 p1 p2 p3 p4 p5 p6 p7 p8 p9 nI hnl hol nD HN HO HR HB1;exact AbT):P:=h
theorem aBw.AbT(h:P:=by
 obtain⟨c0,c1,c2,c3,c4,c5,c6,c7,c8⟩:=nine jV;have hnl:=ay jV;go_wp2_with fail;refine(Ol W2 HB2).mono ?_;rintro e W3 ⟨A1,G1,cc,rfl,hNO,hb3,_,_⟩;have pX:=Hq (aj mJ hb3);have HB3:=Hq (HB2.trans (hb3.mono HB2.size));have jD:=Hq hNO;have hrs:=ay mJ;clear hb3 hNO c0 c1 c2 c3 c4 c5 c6 c7 c8 hnl Ol jV Iw mJ;exact axf):P:=h
theorem aBx.AbT(h:P:=by
 open ap5 in exact awv):P:=h
theorem aBy.AbT(h:P:=by
 open ap4 in exact awv):P:=h
theorem awd(h:P:=by
 go_wp2_with (go_at_call 91;refine(aef _ ajH.at).mono ?_;rintro e wh ⟨rfl,rfl⟩)
 exact Adn):P:=h
theorem amZ.Adn(h:P:=by
 exact axa):P:=h
theorem am0.Adn(h:P:=by
 refine(SL W7 aen.at.p).mono ?_;rintro e W8 ⟨v8,rfl,aCh,acf,IY⟩;obtain⟨av,cv,rfl,_⟩:=GR.own_at (enc:=fO) (sz:=4) aP acf;have HRW:=Hq (zH.own aP acf);have amc:=Hq (aj aak IY);have vD:=Hq (aj rF IY);have amw:=Hq (aj aek IY);have IC:=Hq (aj vP IY);have amL:=Hq (aj aeA IY);have amq:=Hq (ajH.below IY);have ajM:=Hq (aen.kc (k:=9) (KC.of_below IY) Aaa);have ajC:=Hq (ajB.trans (IY.mono Aaa));have ajK:=Hq (ajJ.step Aaa IY);have hz8:W7.heap.size<=W8.heap.size:=IY.size;clear IY aCh acf SL aef c0 c1 c2 c3 c4 c5 c6 c7 c8 m0 m1 m2 m3 m4 m5 m6 s70 s71 s72 hnl hml aCt aak rF aek vP aeA ajH aen ajB ajJ;by_cases hgn:ok=true/\(bV s0 mL).length < 40
 .obtain⟨rfl,hgn⟩:=hgn;obtain rfl:=r3 hhas rfl hgn;clear r2 r3;obtain⟨c0,c1,c2,c3,c4,c5,c6,c7,c8⟩:=nine vD;have cf:=aA vD 4;have hnl:=ay vD;have aBT:decide ((40:Int)<=((bV s0 mL).length:Int))=false:=aEw Aaa;go_upto_region 22 with fail;refine wp_at (λW9 hW9=>?_);have hnb:w.heap.size≠gi:=Aaa
  have Xb:aC [w.heap.size] W8 W9:=by rw [hW9];exact aC.set _
  have Dy:Hid (W9.heap[w.heap.size]?=some (.cells (vG n.id n.par a_k n.kids.length cZ n.next av RL.length cv iV n.out.length dW (some ⟨G.s,0,none⟩) n.seen.length dw n.old jd n.reqs.length dG) 53 (0,0))):=by rw [hW9];exact aT vD 4 _
  have ael:=Hq (Xb.obj amw (λhx=>Aay));have zB:=Hq (Xb.obj IC (λhx=>Aay));have aay:=Hq (Xb.obj amL (λhx=>Aaj));have amd:=Hq (Xb.obj amc (λhx=>Aaj));have ajI:=Hq (amq.keeps Xb (λx hx hm=>by have h1:=(dz hx).1;simp at hm;omega));have aeo:=Hq (ajM.kc (k:=9) (KC.keeps Xb (λx hx=>by have:x=w.heap.size:=Aad;rw [this];exact Ev _ (aEx _) hnb)) Aaa);have aed:=Hq (ajC.trans (Xb.below (B:=B) (λx hx=>Aaj) Aaa));have aeg:=Hq (Apart.keeps (c:=c) ajK Aaa Xb (λx hx=>by have:x=w.heap.size:=Aad;omega));have HP9:=Hq (HRW.keeps Xb (λx hx=>Aaj));have hz9:W8.heap.size<=W9.heap.size:=Xb.size;clear hW9 Xb HRW vD amw IC amL amc amq ajM ajC ajK c0 c1 c2 c3 c4 c5 c6 c7 c8 cf hnl;obtain⟨m0,m1,m2,m3,m4,m5,m6⟩:=jA ael;have hml:=ay ael;obtain⟨pos,hpos⟩:∃pos,((bV s0 mL).takeWhile (λy=>decide (y < mI))).length=pos:=⟨_,rfl⟩;have HIN:=Hq (show kW (bV s0 mL) mI=(bV s0 mL).take pos++([mI]++(bV s0 mL).drop pos) by rw [<-hpos];exact acD _ _);have hpl:pos<=(bV s0 mL).length:=by rw [<-hpos];exact azv _ _
  have JR:=Hq hpos;clear hpos;go_upto_block 4 with fail;go_cut [14] from 15 (λj wx=>j= .int .i64 (pos:Nat)/\Ge W9 wx)
  case first=>
   go_wp2_with fail;go_loopw [14] (λj wr=>∃x q:Nat,x<=(bV s0 mL).length/\j= .int .i64 x/\(∀y (hy:y < (bV s0 mL).length),y < x->(bV s0 mL)[y] < mI)/\wr=W9.drewN q) (λj _=>(bV s0 mL).length - (intOf j).toNat)
   case atStart=>exact⟨0,0,aEN _,rfl,λy hy h=>Aaa,rfl⟩
   case round=>
    obtain⟨x,q,hx,rfl,hlo,rfl⟩:=hrel;have HLO:=Hq hlo;clear hlo;by_cases hlt:x < (bV s0 mL).length
    .obtain⟨_,hgb,hcell⟩:=(ah ajI) x hlt;open arH in exact awS
    .have hje:x=(bV s0 mL).length:=Aaa
     subst hje;have HJ:=Hq (adQ (l:=bV s0 mL) (x:=mI) (aEx _) HLO (λh=>absurd h (Nat.lt_irrefl _)));have ab3:decide (((bV s0 mL).length:Int) < ((bV s0 mL).length:Int))=false:=Aac
     exact ahR
  case rest=>
   obtain⟨rfl,hge⟩:=hcut;clear m0 m1 m2 m3 m4 m5 m6 hml;go_upto_region 25 with fail;refine wp_at (λTz aBL=>?_);subst aBL;have ags:=Hq (aj Dy hge);have aao:=Hq (aj ael hge);have agv:=Hq (aj zB hge);have aav:=Hq (aj aay hge);have agc:=Hq (aj amd hge);have VP:=Hq (ajI.below hge);have agr:=Hq (aeo.kc (k:=9) (KC.of_below hge) Aaa);have agf:=Hq (aed.trans (hge.mono Aaa));have agm:=Hq (aeg.step Aaa hge);have aer:=Hq (HP9.below hge);have aD2:W9.heap.size<=Tz.heap.size:=hge.size;clear hge Dy ael zB aay amd ajI aeo aed aeg HP9;have ayB:=ay aav;have aDx:∀x∈fp gi (bV s0 mL),x < Tz.heap.size:=av3 VP;go_cut [14] from 15 (λ_ wx=>∃g2 cq2,Tz.heap.size<=g2/\wx.ownsRow Tz.heap.size 3 1 (.slice (some ⟨g2,0,none⟩) ((bV s0 mL).length+1) cq2) ((bV s0 mL).length+1) (GR.flat aW (kW (bV s0 mL) mI))/\wx.heap[sb]?=some (.cells #[.int .i64 mF,.int .i64 (fH s0 mL),.slice (some ⟨g2,0,none⟩) ((bV s0 mL).length+1) cq2] 144 (0,0))/\aC [sb] Tz wx)
   case first=>
    obtain⟨m0,m1,m2,m3,m4,m5,m6⟩:=jA aao;have hml:=ay aao;have hwb:Tz.heap.size<=Tz.heap.size:=aEx _;have y3:=bZ hml m3;clear m0 m1 m2 m3 m4 m5 m6;have hpc:pos<=Yc:=Aaa
    have LJ:=Hq (show aK Tz (some ⟨gi,0,none⟩) ((bV s0 mL).take pos) from GR.At.take VP.at pos)
    obtain⟨AD,hAD,hDR⟩:∃AD,(if Yc=pos then some (⟨gi,0,none⟩:Addr) else some ⟨gi,pos,none⟩)=AD/\aK Tz AD ((bV s0 mL).drop pos):=by
     by_cases hcz:Yc=pos
     .refine⟨_,rfl,?_⟩;rw [show(bV s0 mL).drop pos=[] by apply aFM;omega];exact GR.at_nil _ _
     .refine⟨_,rfl,?_⟩;rw [aEG hcz];have h:=GR.At.drop VP.at pos;rw [Nat.mul_one] at h;exact h
    have HDR:=Hq hDR;clear hDR;refine rg 14 (RB Tz.heap.size) 15 ?_;refine tk [1,2,3,5,6,9,10,11] ?_;iterate 8 (refine tkB 20 (Rb _) (λK hK=>?_);go_simp;(first|refine hK _ ?_|(apply Exists.intro;refine⟨λ_=>?_,hK _ ?_⟩;rfl));clear hK K)
    refine jm ?_;clear y3;have hlt1:((bV s0 mL).take pos).length=pos:=Abi
    have akV:((bV s0 mL).drop pos).length=(bV s0 mL).length - pos:=by rw [aE8]
    have HE:=Hq (show(bV s0 mL).take pos++[mI]++(bV s0 mL).drop pos=kW (bV s0 mL) mI by rw [ah HIN,aFa]);have zy:=Hq (show(kW (bV s0 mL) mI).length=(bV s0 mL).length+1 by rw [<-ah HE];simp;omega);refine Hw (enc:=aW) (sz:=1) (e:=mI) (i:=i0) (ve:= .int .i64 mI) 0 4 7 8 12 127 131 134 135 139 133 130 138 aU Aaa (λx u hu=>by simp at hu;subst hu;rfl) underlying22 hi0 hz0 hz1' hz2 rfl LJ HDR hlt1 akV Aaa Aag Aag rfl rfl rfl Aab ⟨rfl,rfl,rfl,rfl⟩ ⟨rfl,rfl,rfl,rfl⟩ ⟨rfl,rfl,rfl,rfl⟩ ⟨rfl,rfl,rfl,rfl⟩ ⟨rfl,rfl,rfl,rfl⟩ Aab (H:=λv0 v4 v7 v8 v12 y5 hG hV=>?_);have tQ:=Hq hG;rw [ah HE,ah zy] at hV
    obtain⟨g,cv,rfl,hbg⟩:∃g cv,v12= .slice (some ⟨g,0,none⟩) ((bV s0 mL).length+1) cv/\Tz.heap.size<=g:=by
     rcases hV.2 with⟨_,hn⟩|⟨g,cap,_,hv,hbg,_⟩
     .omega
     .exact⟨g,cap,hv,hbg⟩
    have HV5:=Hq hV;clear hG hV;have aCw:Tz.heap.size<=y5.heap.size:=tQ.size;refine tk [13] ?_;open ar9 in exact agH
   case rest=>
    obtain⟨g2,cq2,hg2,hown2,ayu,Mr⟩:=hcut;have aaw:=Hq ayu;have VU:=Hq (Mr.obj ags (λhx=>Aaj));have agw:=Hq (Mr.obj agv (λhx=>Aaj));have agd:=Hq (Mr.obj agc (λhx=>Aaj));have aap:=Hq (agr.kc (k:=9) (KC.keeps Mr (λx hx=>by have:x=sb:=Aad;rw [this];exact Ev _ Aaa Aaa)) Aaa);have agh:=Hq (agf.trans (Mr.below (B:=B) (λx hx=>Aaj) Aaa));have agn:=Hq (Apart.keeps (c:=c) agm Aaa Mr (λx hx=>by have:x=sb:=Aad;omega));have amD:=Hq (aer.keeps Mr (λx hx=>Aaj));have aD3:Tz.heap.size<=wc.heap.size:=Mr.size;have ab0:(kW (bV s0 mL) mI).length=(bV s0 mL).length+1:=by rw [ah HIN];simp;omega
    have ab8:wc.ownsRow Tz.heap.size 3 1 (.slice (some ⟨g2,0,none⟩) (kW (bV s0 mL) mI).length cq2) (kW (bV s0 mL) mI).length (GR.flat aW (kW (bV s0 mL) mI)):=by rw [ab0];exact hown2
    have HW2:=Hq (WO.of_own (agA (l:=kW (bV s0 mL) mI) aU ab8) ab8 (λe=>by rw [e] at ab0;simp at ab0))
    have DC:Hid (∀g,av.map (λy=>y.block)=some g->0 < RL.length->W7.heap.size<=g/\g < Tz.heap.size):=λg hg hp=>by
     obtain⟨g',off,e,hgl,_⟩:=aer.1 0 hp
     have h2:=aer.2 g' off e
     rw [e] at hg
     cases hg
     exact⟨h2,hgl⟩
    have aDw:g2 < wc.heap.size:=(hown2.lt g2 rfl).2;have akW:g2≠gi:=Aaa
    have ayj:i < (n.seen.set i ⟨mF,fH s0 mL,bV s0 mL⟩).length:=by rw [aGd];exact hi
    have HNP:=Hq (aap.seenPut i ayj ⟨mF,fH s0 mL,kW (bV s0 mL) mI⟩ (some ⟨g2,0,none⟩) cq2 g2 HW2 (λx hx=>by rw [(dz hx).1];exact Ev _ Aaa akW));obtain⟨T,hT,hlT,hrT⟩:=aap.s;obtain⟨_,_,hcT⟩:=hT i (by rw [hlT];exact ayj);open aod in exact awf
 .have hgn:ok=false\/40<=(bV s0 mL).length:=by
   cases ok
   .exact .inl rfl
   .exact .inr (by have:¬(bV s0 mL).length < 40:=λh=>hgn ⟨rfl,h⟩;omega)
  obtain rfl:=r2 hhas hgn;clear r2 r3;have hb9:=au W8 (.cells #[] 104);have Dy:=Hq (aj vD hb9);have zB:=Hq (aj IC hb9);have aeo:=Hq (ajM.kc (k:=9) (KC.of_below hb9) Aaa);have aed:=Hq (ajC.trans (hb9.mono Aaa));have aeg:=Hq (ajK.step Aaa hb9);have hz9:(W8.alloc (.cells #[] 104)).heap.size=W8.heap.size+1:=Aac
  clear hb9;obtain⟨c0,c1,c2,c3,c4,c5,c6,c7,c8⟩:=nine vD;obtain⟨⟨d0,d1,d2,d3,d4,d5,d6,d7,d8⟩,f0,f1,f2,f3,f4,f5,f6,f7,f8⟩:=iG zB;have hnl:=ay vD;have hrl:=ay zB;cases ok
  .exact axb
  .have h40:40<=(bV s0 mL).length:=by
    rcases hgn with h|h
    .cases h
    .exact h
   have aBT:decide ((40:Int)<=((bV s0 mL).length:Int))=true:=aEy Aaa;exact axb):P:=h
theorem aj1(h:P:=by
 have HN:=Hq (λw1=>aL n true w1 hn);have HP:=Hq (show R=(decide (no=0)&&true&&true&&lK ⟨mK,mF,mT,mI,mL,mk,mN⟩) by rw [<-ah HR];simp[bC,hk,hn]);open auK in exact ahd):P:=h
theorem am1.Ab6(h:P:=by
 have hX:W.heap[w.heap.size+1]?=some (.cells (bE 4 0 k n 0 0 0 0 0 ⟨#[]⟩ 0) 106 (0,0)):=Abn
 have hY:W.heap[w.heap.size]?=some (.cells (bE 4 no k n mK mF mT mI mL mk mN) 106 (0,0)):=Abo
 exact akm):P:=h
theorem am2.Ab6(h:P:=by
 have hX:W.heap[w.heap.size+1]?=some (.cells (bE 3 0 k n 0 0 0 0 0 ⟨#[]⟩ 0) 106 (0,0)):=Abn
 have hY:W.heap[w.heap.size]?=some (.cells (bE 3 no k n mK mF mT mI mL mk mN) 106 (0,0)):=Abo
 exact akm):P:=h
theorem am3.Ab6(h:P:=by
 have hX:W.heap[w.heap.size+1]?=some (.cells (bE 0 0 k n 0 0 0 0 0 ⟨#[]⟩ 0) 106 (0,0)):=Abn
 have hY:W.heap[w.heap.size]?=some (.cells (bE 0 no k n mK mF mT mI mL mk mN) 106 (0,0)):=Abo
 exact akm):P:=h
theorem aeD(h:P:=by
 have hrs:(iB (tl s a)).size<=maxLen:=by have:=tq (tl s a);rw [wY] at this;unfold maxLen;omega
 have HG:=Hq (MQ (iB (tl s a)) 0 hrs w hH);have hub:=Vd (iB (tl s a)) 0;have hsz:=tq (tl s a);have hz1:Bj (tl s a)<=1002:=by unfold Bj;omega
 have e1:jU (iB (tl s a)) 0=Ec (tl s a):=rfl;have e2:iR (iB (tl s a)) 0=Bj (tl s a):=rfl;rw [e1,e2] at HG;exact AbF):P:=h
theorem am4.AbF(h:P:=by
 generalize Bj (tl s a)=z at *;clear e1 e2 hrs hub hsz hH hcap hs;generalize Ec (tl s a)=tx at *;generalize iB (tl s a)=rs at *;have HC:=Hq hc;clear hc;rw [h4];clear h4;exact axc):P:=h
theorem am5.AbF(h:P:=by
 generalize Bj (tl s a)=z at *;clear e1 e2 hrs hub hsz hH hcap;generalize Ec (tl s a)=tx at *;generalize iB (tl s a)=rs at *;have HC:=Hq hc;clear hc;exact axc):P:=h
theorem am6.AbF(h:P:=by
 open asF in exact agM):P:=h
theorem am7.AbF(h:P:=by
 open asE in exact agM):P:=h
theorem aj2(h:P:=by
 open at7 in exact ag4):P:=h
theorem am8.Ab7(h:P:=by
 open asx in exact aaJ):P:=h
theorem am9.Ab7(h:P:=by
 obtain⟨g,e0,hBg,hgb⟩:∃g,jd=some ⟨g,0,none⟩/\B<=g/\(∀x,(Value.slice jd n.reqs.length dG).ownBlock=some x↔x=g):=by
  exact awW
 obtain⟨g',off,e0',hg,q0,q1,q2,q3⟩:=fJ.four vL.at.r i hi;rw [e0] at e0';simp only[aFR,Addr.mk.injEq,and_true] at e0';obtain⟨rfl,rfl⟩:=e0';rw [aFq] at q0 q1 q2 q3;rw [ah HST] at q3;open asw in exact aaJ):P:=h
theorem ana.Ab7(h:P:=by
 obtain⟨g,off,e0,hg,q0,q1,q2,q3⟩:=fJ.four vL.at.r i hi;rw [ah HST] at q3;open asv in exact aaJ):P:=h
theorem aeE(h:P:=by
 have h1:uH F=true:=by unfold mG at hr;simp only[aED] at hr;exact hr.1.1
 have h2:uH T=true:=by unfold mG at hr;simp only[aED] at hr;exact hr.1.2
 have hft:¬F=T:=by unfold mG at hr;simp only[aED,aE3] at hr;exact hr.2
 have H1:=Hq (λw1=>nH F true w1 h1);have H2:=Hq (λw1=>nH T true w1 h2);clear h1 h2;exact AbA):P:=h
theorem anb.AbA(h:P:=by
 have HP:=Hq (show bJ ⟨K,F,T,I,L,k,N⟩=false by simp[bJ,hr,k0,k1,k2]);clear hr;exact ahZ):P:=h
theorem ane.AbA(h:P:=by
 cases hc2:fC I
 case' false=>
  have HP:=Hq (show bJ ⟨2,F,T,I,L,k,N⟩=false by simp[bJ,hr,hc2]);have Iq:=Hq (λw1=>dZ I false w1 hc2);exact akn
 have Iq:=Hq (λw1=>dZ I true w1 hc2);by_cases hz:k.size=0
 case' neg=>
  have hne:k.toList.isEmpty=false:=ku k Aaa;have HP:=Hq (show bJ ⟨2,F,T,I,L,k,N⟩=false by simp[bJ,hr,hc2,hz]);exact akn
 obtain rfl:=eq_empty k hz;by_cases hzN:N=0
 case' neg=>
  have HP:=Hq (show bJ ⟨2,F,T,I,L,ByteArray.empty,N⟩=false by simp[bJ,hr,hc2,hz,hzN]);have he:(N == 0)=false:=by simp[hzN]
  exact axC
 subst hzN;by_cases hzL:L=0
 case' neg=>
  have HP:=Hq (show bJ ⟨2,F,T,I,L,ByteArray.empty,0⟩=false by simp[bJ,hr,hc2,hz,hzL]);have he:(L == 0)=false:=by simp[hzL]
  exact axC
 subst hzL;have HP:=Hq (show bJ ⟨2,F,T,I,0,ByteArray.empty,0⟩=true by simp[bJ,hr,hc2,hz]);exact akn):P:=h
theorem anf.AbA(h:P:=by
 cases hc2:keyOk k.data.toList
 case' false=>
  have HP:=Hq (show bJ ⟨1,F,T,I,L,k,N⟩=false by simp[bJ,hr,hc2]);exact axE
 have Iq:=Hq (λw1=>nY k true w1 hs hc2);cases hc3:fC N
 case' false=>
  have HP:=Hq (show bJ ⟨1,F,T,I,L,k,N⟩=false by simp[bJ,hr,hc2,hc3]);have HC3:=Hq (λw1=>dZ N false w1 hc3);exact akl
 have HC3:=Hq (λw1=>dZ N true w1 hc3);cases hc4:fC I
 case' false=>
  have HP:=Hq (show bJ ⟨1,F,T,I,L,k,N⟩=false by simp[bJ,hr,hc2,hc3,hc4]);have HC4:=Hq (λw1=>dZ I false w1 hc4);clear hr hc2 hc3 hc4;go_in
  go_wp2_with (first|(go_at_call_of 90 F;refine(H1 _).mono ?_;rintro e w1 ⟨rfl,rfl⟩)|(go_at_call_of 90 T;refine(H2 _).mono ?_;rintro e w1 ⟨rfl,rfl⟩)|(go_at_call_of 62 k;refine(Iq _).mono ?_;rintro e w1 ⟨rfl,rfl⟩)|(go_at_call_of 59 N;refine(HC3 _).mono ?_;rintro e w1 ⟨rfl,rfl⟩)|(go_at_call_of 59 I;refine(HC4 _).mono ?_;rintro e w1 ⟨rfl,rfl⟩))
  exact xH
 have HC4:=Hq (λw1=>dZ I true w1 hc4);cases FB:decide (1<=L/\L<=I)
 case' false=>
  have HP:=Hq (show bJ ⟨1,F,T,I,L,k,N⟩=false by simp[bJ,hr,hc2,hc3,hc4,FB]);have HC5:=Hq (λw1=>yO L 1 I false w1 FB);exact axt
 have HC5:=Hq (λw1=>yO L 1 I true w1 FB);have HP:=Hq (show bJ ⟨1,F,T,I,L,k,N⟩=true by simp[bJ,hr,hc2,hc3,hc4,FB]);exact axt):P:=h
theorem ang.AbA(h:P:=by
 cases hc2:keyOk k.data.toList
 case' false=>
  have HP:=Hq (show bJ ⟨0,F,T,I,L,k,N⟩=false by simp[bJ,hr,hc2]);exact axE
 have Iq:=Hq (λw1=>nY k true w1 hs hc2);cases hc3:fC N
 case' false=>
  have HP:=Hq (show bJ ⟨0,F,T,I,L,k,N⟩=false by simp[bJ,hr,hc2,hc3]);have HC3:=Hq (λw1=>dZ N false w1 hc3);exact akl
 have HC3:=Hq (λw1=>dZ N true w1 hc3);by_cases hzI:I=0
 case' neg=>
  have HP:=Hq (show bJ ⟨0,F,T,I,L,k,N⟩=false by simp[bJ,hr,hc2,hc3,hzI]);have he:(I == 0)=false:=by simp[hzI]
  exact axw
 subst hzI;by_cases hzL:L=0
 case' neg=>
  have HP:=Hq (show bJ ⟨0,F,T,0,L,k,N⟩=false by simp[bJ,hr,hc2,hc3,hzL]);have he:(L == 0)=false:=by simp[hzL]
  exact axw
 subst hzL;have HP:=Hq (show bJ ⟨0,F,T,0,0,k,N⟩=true by simp[bJ,hr,hc2,hc3]);exact akl):P:=h
theorem XQ(h:P:=by
 have y0:=aEv c0;have y1:=aEv c1;have y2:=aEv c2;have y3:=aEv c3;have y4:=aEv c4;have y5:=aEv c5;have y6:=aEv c6;have y7:=aEv c7;have y8:=aEv c8;exact AaV):P:=h
theorem anh.AaV(h:P:=by
 have x0:=aEv d0;have x1:=aEv d1;have x2:=aEv d2;have x3:=aEv d3;clear c0 c1 c2 c3 c4 c5 c6 c7 c8 c9 d0 d1 d2 d3 HR3;refine rg 7 Ge 8 ?_;refine tk [0,1,2,3,4,5,6] ?_;iterate 6 (refine iy (λK hK=>?_);go_simp;refine hK _ ?_;clear hK K)
 (refine iy (λK hK=>?_);go_simp;(first|refine hK _ ?_|(apply Exists.intro;refine⟨λ_=>?_,hK _ ?_⟩;(exact azX _)));clear hK K)
 refine jm ?_;clear y0 y1 y2 y3 y4 y5 y6 y7 y8 x0 x1 x2 x3;refine aS Aab (λx hx=>?_);have JU:=Hq (HSY x cc vv k hk ⟨qK,qF,qT,qI,qL,qk,qN⟩ HKk (zD.step hx));clear hx zD;refine an 7 ?_;go_simp;refine JU.mono ?_;rintro e y ⟨rfl,c',v',hY⟩;have HY:=Hq hY;clear hY JU;refine ad ?_;go_simp;go_wp2_with fail;go_roundw
 case rel=>exact⟨k+1,c',v',Aaa,Aaf,by rw [ah HT];exact HY⟩
 case measure=>simp[intOf];omega):P:=h
theorem ani.AaV(h:P:=by
 have z1:=aEv p1;have z2:=aEv p2;clear c0 c1 c2 c3 c4 c5 c6 c7 c8 c9 p0 p1 p2 p3 p4 p5 p6 kU HW1;by_cases hT:mT=n.id
 .have hq:(mT == n.id)=true:=by simpa using hT
  have HD:=Hq (show(decide (mT=n.id)&&nb)=nb by rw [aEy hT];rfl);exact axi
 .have hq:(mT == n.id)=false:=by simpa using hT
  have HD:=Hq (show(decide (mT=n.id)&&nb)=false by rw [aEw hT];rfl);exact axi):P:=h
theorem anj.AaV(h:P:=by
 have y9:=aEv c9;have y10:=aEv c10;clear e0 e1 c0 c1 c2 c3 c4 c5 c6 c7 c8 c9 c10;generalize bC ⟨s[0].toNat,N1,TX,N2,⟨mK,mF,mT,mI,mL,mk,mN⟩⟩=bo at *;refine Ip 15 ?_;refine tk [0,1,2,3,4,5,6,7,8,9,10,11,12,13,14] ?_;iterate 12 (refine iy (λK hK=>?_);go_simp;refine hK _ ?_;clear hK K)
 (refine iy (λK hK=>?_);go_simp;(first|refine hK _ ?_|(apply Exists.intro;refine⟨λ_=>?_,hK _ ?_⟩;(exact nD _)));clear hK K)
 open auj in exact EP):P:=h
theorem ank.AaV(h:P:=by
 have x0:=aEv s0;have x1:=aEv s1;have x2:=aEv s2;have x3:=aEv s3;have hnz:=ay OM;have hsz:=ay ajV;clear c0 c1 c2 c3 c4 c5 c6 c7 c8 s0 s1 s2 s3;refine rg 5 Ge 8 ?_;refine tk [0,1,2] ?_;iterate 3 (refine iy (λK hK=>?_);go_simp;refine hK _ ?_;clear hK K)
 refine jm ?_;clear y0 y1 y2 y3 y4 y5 y6 y7 y8 x0 x1 x2 x3 hnz hsz OM ajV;refine dB 3 rfl Aab Aah (λx hx=>?_);go_simp;refine(IB x hx).mono ?_;rintro e y ⟨rfl,hby⟩;refine⟨hby,?_⟩;have HY:=Hq (Ge.trans hx hby);clear hx hby IB;refine VI 4 rfl rfl Aab Aah Aah Aag (λz hz=>?_) (λz hz=>?_)
 .have HZ:=Hq (Ge.trans HY hz);clear hz HY;go_simp;refine⟨au z _,?_⟩;refine aS Aab (λz2 hz2=>?_);have HZ2:=Hq (Ge.trans HZ (Ge.trans (au z _) hz2));have HM2:=Hq (aj (aEu z (.cells (bH qK qF qT qI qL qk qN) 104)) hz2);have OP:=Hq (aj ajU HZ2);have hmz:w.heap.size+1 < z.heap.size:=aEH (ay ajU) HZ.size;clear hz2;obtain⟨⟨d0,d1,d2,d3,d4,d5,d6,d7,d8⟩,f0,f1,f2,f3,f4,f5,f6,f7,f8⟩:=iG OP;have hrl:=ay OP;refine an 5 ?_;go_simp;refine an 6 ?_;go_simp;refine an 7 ?_;go_simp;refine ad ?_;go_simp;clear d0 d1 d2 d3 d4 d5 d6 d7 d8 f0 f1 f2 f3 f4 f5 f6 f7 f8 hrl;go_wp2_with fail;refine eB (u1:= .slice (some ⟨z.heap.size,0,none⟩) 1 1) (u2:= .int .i64 0) results102 rfl rfl rfl rfl OP (λW' e4 eX=>?_);have HFI:=Hq (Ew W' z.heap.size ((aC.of_below HZ2).trans eX) (eX.obj HM2 (λhm=>by have:z.heap.size=w.heap.size+1:=Aax;omega)) Aaa);clear e4 eX;exact⟨⟨a_k,av,a6,iM,jd,cZ,cv,c6,dw,dG⟩,some ⟨z.heap.size,0,none⟩,1,by rw [ah HNV],HFI.1,HFI.2.1,HFI.2.2.1,HFI.2.2.2⟩
 .have HZ:=Hq (Ge.trans HY hz);have OP:=Hq (aj ajU HZ);clear hz HY;obtain⟨⟨d0,d1,d2,d3,d4,d5,d6,d7,d8⟩,f0,f1,f2,f3,f4,f5,f6,f7,f8⟩:=iG OP;have hrl:=ay OP;go_simp;refine an 4 ?_;go_simp;refine an 6 ?_;go_simp;refine an 7 ?_;go_simp;refine ad ?_;go_simp;clear d0 d1 d2 d3 d4 d5 d6 d7 d8 f0 f1 f2 f3 f4 f5 f6 f7 f8;go_wp2_with fail;refine fQ (λW' hW'=>?_)
  obtain⟨SW,hSW,hsz,hk0,e3⟩:∃SW:World,W'=SW.alloc (.cells (bH qK qF qT qI qL qk qN) 104)/\SW.heap.size=z.heap.size/\aC [w.heap.size+1] z SW/\SW.heap[w.heap.size+1]?=some (.cells (vG n.id n.par a_k n.kids.length cZ (n.next+1) av RL.length cv a6 (n.out.length+1) c6 iM n.seen.length dw n.old jd n.reqs.length dG) 53 (0,0)):=
   ⟨GR.setW z (w.heap.size+1) 0 (vG n.id n.par a_k n.kids.length cZ (n.next+1) av RL.length cv a6 (n.out.length+1) c6 iM n.seen.length dw n.old jd n.reqs.length dG).toList,hW',by simp[GR.setW],eP (vG n.id n.par a_k n.kids.length cZ (n.next+1) av RL.length cv a6 (n.out.length+1) c6 iM n.seen.length dw n.old jd n.reqs.length dG).toList z 0,GR.setW_blk (vG n.id n.par a_k n.kids.length cZ (n.next+1) av RL.length cv a6 (n.out.length+1) c6 iM n.seen.length dw n.old jd n.reqs.length dG).toList (o:=0) (xs:=kH.toList) OP⟩
  have e4:W'.heap[w.heap.size+1]?=some (.cells (vG n.id n.par a_k n.kids.length cZ (n.next+1) av RL.length cv a6 (n.out.length+1) c6 iM n.seen.length dw n.old jd n.reqs.length dG) 53 (0,0)):=by rw [hSW];exact aj e3 (au SW _)
  have eX:aC [w.heap.size+1] z W':=by rw [hSW];exact hk0.trans (aC.of_below (au SW _))
  have hm:W'.heap[z.heap.size]?=some (.cells (bH qK qF qT qI qL qk qN) 104 (0,0)):=by rw [hSW,<-hsz];exact aEu SW _
  have HFI:=Hq (Ew W' z.heap.size ((aC.of_below HZ).trans eX) hm (by have:=ay OP;omega));obtain⟨x0,x1,x2,x3,x4,x5,x6,x7,x8⟩:=nine e4;clear hW' e4 eX hm hSW hsz hk0 e3;exact aEE (v:= .tuple #[.agg (vG n.id n.par a_k n.kids.length cZ (n.next+1) av RL.length cv a6 (n.out.length+1) c6 iM n.seen.length dw n.old jd n.reqs.length dG),.slice (some ⟨z.heap.size,0,none⟩) 1 1,.int .i64 0]) (by simp[results,results102,go_sem,x0,x1,x2,x3,x4,x5,x6,x7,x8]) rfl ⟨⟨a_k,av,a6,iM,jd,cZ,cv,c6,dw,dG⟩,some ⟨z.heap.size,0,none⟩,1,by rw [ah HNV],HFI.1,HFI.2.1,HFI.2.2.1,HFI.2.2.2⟩):P:=h
theorem anl.AaV(h:P:=by
 have z1:=aEv p1;clear c0 c1 c2 c3 c4 c5 c6 c7 c8 c9 p0 p1 p2 p3 p4 p5 p6;refine Ip 8 ?_;refine tk [0,1,2,3,4,5,6,7] ?_;iterate 6 (refine iy (λK hK=>?_);go_simp;refine hK _ ?_;clear hK K)
 (refine iy (λK hK=>?_);go_simp;(first|refine hK _ ?_|(apply Exists.intro;refine⟨λ_=>?_,hK _ ?_⟩;(exact HKD _ (Tw _))));clear hK K)
 (refine iy (λK hK=>?_);go_simp;refine hK _ ?_;clear hK K)
 refine jm ?_;refine dJ Aab (λz hz=>?_);have HZ:=Hq (HW1.step hz);exact AaG):P:=h
theorem anm.AaV(h:P:=by
 clear c0 c1 c2 c3 c4 c5 c6 c7 c8;refine rg 3 Ge 6 ?_;refine tk [0,1] ?_;open aui in exact EP):P:=h
theorem xE(h:P:=by
 have hke:k=l.length:=Aaa
 subst hke;have hnlt:decide ((l.length:Int) < (l.length:Int))=false:=Aac
 exact AaL):P:=h
theorem ano.AaL(h:P:=by
 have HX:=Hq (show aD l key=⟨key,0,0,0⟩ by
  have h:=ah HN
  rw [aEW] at h
  unfold aD
  rw [h]
  rfl)
 go_wp2_with fail;refine aEE (v:= .agg (iK key 0 0 0)) (by simp[results,results143,go_sem]) rfl ⟨by rw [ah HX],?_⟩;exact(aEK _ _).alloc (aEx _) _):P:=h
theorem anp.AaL(h:P:=by
 have h:=ah HN;rw [aEW] at h;have HF:=Hq h;clear h;go_wp2_with fail;go_ret;exact⟨aF HF.symm,rfl⟩):P:=h
theorem anq.AaL(h:P:=by
 go_wp2_with fail;go_ret;exact⟨rfl,⟨T,I,HB,hTl,HI,HIM⟩,aO⟩):P:=h
theorem anr.AaL(h:P:=by
 have h:=ah HN;rw [aEW] at h;have HF:=Hq h;clear h;go_wp2_with fail;go_ret;exact⟨⟨-1,rfl,by rw [ah HF];rfl⟩,rfl⟩):P:=h
theorem ant.AaL(h:P:=by
 have HX:=Hq (show aD l key=⟨key,0,0,0⟩ by
  have h:=ah HN
  rw [aEW] at h
  unfold aD
  rw [h]
  rfl)
 go_wp2_with fail;refine(jr _).mono ?_;rintro e w1 ⟨rfl,hb1⟩;have hB:w1.heap[w.heap.size]?=some (.cells (iK ⟨#[]⟩ 0 0 0) 142 (0,0)):=by rw [hb1.block _ afm];exact H7
 have HB:=Hq hB;have HB2:=Hq (aO.trans (hb1.mono aO.size));obtain⟨⟨r0,r1,r2,r3⟩,s0,s1,s2,s3⟩:=fG hB;clear hB hb1;go_wp2_with fail;clear r0 r1 r2 r3;refine Fo.bodyPost_at (λW' hW'=>?_);obtain⟨⟨r0,r1,r2,r3⟩,_⟩:=fG (show W'.heap[w.heap.size]?=some (.cells (iK key 0 0 0) 142 (0,0)) by rw [hW'];exact Fo.four_set HB);have hbb:aG w W':=by rw [hW'];exact Fo.four_below HB2 (aEx _)
 refine aEE (v:= .agg (iK key 0 0 0)) (by simp[results,results249,go_sem,r0,r1,r2,r3]) rfl ⟨by rw [ah HX],hbb⟩):P:=h
theorem anu.AaL(h:P:=by
 go_wp2_with fail;go_ret;exact⟨a',c',g,hg,rfl,HB,aO⟩):P:=h
theorem anw.AaL(h:P:=by
 go_wp2_with fail;go_ret2
 have h:=ah HP;rw [aEW] at h;exact⟨_,_,_,rfl,h,aO⟩):P:=h
theorem anx.AaL(h:P:=by
 go_wp2_with fail;go_ret;have h1:=ah HMM;have h2:=ah HIN;rw [aEW,<-ah HML,aEW] at h1;rw [<-ah HML,aEW] at h2;exact⟨rfl,M,h1,HB,h2,aO⟩):P:=h
theorem anz.AaL(h:P:=by
 have zq:=Hq (place_at l pk l.length (aEx _) kS (λh=>absurd h (Nat.lt_irrefl _))).1;exact ait):P:=h
theorem anA.AaL(h:P:=by
 go_wp2_with fail;go_ret;exact⟨_,rfl,GR.own_below HO aO,HB1.trans (aO.mono HB1.size)⟩):P:=h
theorem anB.AaL(h:P:=by
 have HF:=Hq (Y8 kS);go_wp2_with fail;go_ret;exact⟨aF (by rw [ah HF];simp<;>omega),aO⟩):P:=h
theorem anC.AaL(h:P:=by
 go_wp2_with fail;go_ret;have h:=ah kS;rw [aEW] at h;exact⟨z,rfl,aO,.inr ⟨hz0,hz1,Aaa,h⟩⟩):P:=h
theorem anD.AaL(h:P:=by
 have HP:=Hq (take_same HN HT);go_wp2_with fail;go_ret;exact .yes HP aO):P:=h
theorem anE.AaL(h:P:=by
 go_wp2_with fail;go_ret;have h:=ah kS;rw [aEW] at h;exact⟨z,rfl,.inr ⟨hz0,hz1,Aaa,h⟩,aO⟩):P:=h
theorem anF.AaL(h:P:=by
 go_wp2_with fail;go_ret;exact⟨rfl,aO⟩):P:=h
theorem anG.AaL(h:P:=by
 go_wp2_with fail;go_ret;have h:=ah HB;rw [aEW,Nat.sub_self,List.replicate_zero,aFF] at h;exact⟨rfl,h,aO⟩):P:=h
theorem aeF(h:P:=by
 have hbw:aG wr W1:=by rw [hW1];exact au wr _
 have BA:=Hq (aj H7 hbw);have xu:=Hq (aO.trans (hbw.mono aO.size));exact Aa6):P:=h
theorem anH.Aa6(h:P:=by
 have HI1:=Hq (GR.At.below HI hbw);have hgw1:=hbw.size;have VT:=Hq (GR.At.below HA xu)
 have Dz:Hid ((k=0/\pv=true)\/∃(j:Nat) (y:Int),k=j+1/\pv=decide (y < fr)/\W1.cell? ⟨g,off+j*3,none⟩=some (.int .i64 y)):=by
  rcases zq with h|⟨j,y,h1,h2,h3⟩
  .exact .inl h
  .exact .inr ⟨j,y,h1,h2,(hbw.cell (p:=⟨g,off+j*3,none⟩) hgw).trans h3⟩
 clear hW1 hbw q0 q1 q2 c0 c1 c2 c3 c4 c5 c6 zq HI H7;obtain⟨d0,d1,d2⟩:=three HW1;open arW in exact agC):P:=h
theorem anI.Aa6(h:P:=by
 have hgw1:=hbw.size
 have Dz:Hid ((k=0/\pv=true)\/∃(j:Nat) (y:Int),k=j+1/\pv=decide (y < si)/\W1.cell? ⟨g,off+j*4,none⟩=some (.int .i64 y)):=by
  exact air
 clear hW1 hbw q0 q1 q2 q3 c0 c1 c2 c3 c4 c5 c6 c7 c8 zq H7;obtain⟨d0,d1,d2,d3⟩:=iq HW1;open arV in exact agC):P:=h
theorem anJ.Aa6(h:P:=by
 clear hW1 hbw q0 q1 q2 q3 H7;obtain⟨d0,d1,d2,d3⟩:=iq HW1;go_cut [56] (λr wx=>r= .bool bb/\wx=W1)
 case first=>
  by_cases g1:y < si
  case' neg=>
   have hb1:decide (si<=y)=true:=aEy Aaa
   have HV:=Hq (show bb=true by rw [<-ah eG];simp[g1])
   clear eG Bu
   go_wp2_with (fail)
   go_meet
   case rel=>exact⟨Aam,rfl⟩
  have hb1:decide (si<=y)=false:=aEw Aaa;cases g2:qM si
  case' false=>
   have Hg2:=Hq (λw1=>jY si false w1 g2)
   have HV:=Hq (show bb=true by rw [<-ah eG];simp[g2])
   clear eG Bu
   go_wp2_with (first|(go_at_call 198;refine(Hg2 _).mono ?_;rintro e w9 ⟨rfl,rfl⟩))
   go_meet
   case rel=>exact⟨Aam,rfl⟩
  have Hg2:=Hq (λw1=>jY si true w1 g2);cases g3:keyOk sx.data.toList
  case' false=>
   have Hg3:=Hq (λw1=>gW sx false w1 g3)
   have HV:=Hq (show bb=true by rw [<-ah eG];simp[g3])
   clear eG Bu
   go_wp2_with (first|(go_at_call 198;refine(Hg2 _).mono ?_;rintro e w9 ⟨rfl,rfl⟩)|(go_at_call 195;refine(Hg3 _).mono ?_;rintro e w9 ⟨rfl,rfl⟩))
   go_meet
   case rel=>exact⟨Aam,rfl⟩
  have Hg3:=Hq (λw1=>gW sx true w1 g3);cases g4:fC sn
  case' false=>
   have Hg4:=Hq (λw1=>aL sn false w1 g4)
   have HV:=Hq (show bb=true by rw [<-ah eG];simp[g4])
   clear eG Bu
   go_wp2_with (first|(go_at_call 198;refine(Hg2 _).mono ?_;rintro e w9 ⟨rfl,rfl⟩)|(go_at_call 195;refine(Hg3 _).mono ?_;rintro e w9 ⟨rfl,rfl⟩)|(go_at_call 179;refine(Hg4 _).mono ?_;rintro e w9 ⟨rfl,rfl⟩))
   go_meet
   case rel=>exact⟨Aam,rfl⟩
  have Hg4:=Hq (λw1=>aL sn true w1 g4);by_cases g5:0<=st
  case' neg=>
   have hb5:decide (st < 0)=true:=aEy Aaa
   have HV:=Hq (show bb=true by rw [<-ah eG];simp[g5])
   clear eG Bu
   go_wp2_with (first|(go_at_call 198;refine(Hg2 _).mono ?_;rintro e w9 ⟨rfl,rfl⟩)|(go_at_call 195;refine(Hg3 _).mono ?_;rintro e w9 ⟨rfl,rfl⟩)|(go_at_call 179;refine(Hg4 _).mono ?_;rintro e w9 ⟨rfl,rfl⟩))
   go_meet
   case rel=>exact⟨Aam,rfl⟩
  have hb5:decide (st < 0)=false:=aEw Aaa;by_cases g6:st<=2
  case' neg=>
   have hb6:decide (2 < st)=true:=aEy Aaa
   have HV:=Hq (show bb=true by rw [<-ah eG];simp[g6])
   clear eG Bu
   go_wp2_with (first|(go_at_call 198;refine(Hg2 _).mono ?_;rintro e w9 ⟨rfl,rfl⟩)|(go_at_call 195;refine(Hg3 _).mono ?_;rintro e w9 ⟨rfl,rfl⟩)|(go_at_call 179;refine(Hg4 _).mono ?_;rintro e w9 ⟨rfl,rfl⟩))
   go_meet
   case rel=>exact⟨Aam,rfl⟩
  have hb6:decide (2 < st)=false:=aEw Aaa;have HV:=Hq (show bb=false by rw [<-ah eG];simp[g1,g2,g3,g4,g5,g6]);clear eG Bu;go_wp2_with (first|(go_at_call 198;refine(Hg2 _).mono ?_;rintro e w9 ⟨rfl,rfl⟩)|(go_at_call 195;refine(Hg3 _).mono ?_;rintro e w9 ⟨rfl,rfl⟩)|(go_at_call 179;refine(Hg4 _).mono ?_;rintro e w9 ⟨rfl,rfl⟩))
  go_meet
  case rel=>exact⟨Aam,rfl⟩
 case rest=>
  obtain⟨rfl,rfl⟩:=hcut;clear eG;cases hbv:bb
  .have HG:=Hq (show gL KB RR (reqs.take (k+1))=true by rw [ah Bu,hbv];rfl);subst hbv;clear HBAD Bu;go_wp2_with fail;go_roundw
   case rel=>exact⟨k+1,si,Aaa,Aaf,rfl,zy.symm,HG,BA,xu⟩
   case measure=>simp[intOf];omega
  .have HP:=Hq (HBAD (by rw [ah Bu,hbv];rfl));subst hbv;clear HBAD Bu;go_wp2_with fail;go_ret;exact⟨aF HP.symm,xu⟩):P:=h
end Go.Proofs.YtfachhcijcjbpaaGreatDoor
