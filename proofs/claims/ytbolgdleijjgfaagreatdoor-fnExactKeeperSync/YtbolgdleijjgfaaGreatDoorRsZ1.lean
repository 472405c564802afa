/-
  Parts of proofs that stand more than once, each said once.
-/
import Derived.Test.YtbolgdleijjgfaaGreatDoorRows
import Derived.WalkSpells
import Derived.ShutString
import Derived.Lib.QuietBelow
import Derived.Laws.Cover1
import Derived.Laws.AppendOwnNone
import Derived.Lib.BufferWrite
import Derived.Laws.CopyOwn
import Derived.Deep.DeepCutAuto
import Derived.Deep.CutBlock
import Derived.Lib.ItoaLen
import Derived.Shelf.SortM.Plain
import Derived.Shelf.SortM.SortNone
import Derived.Shelf.SlicesE.Clone
import Derived.Sort.OwnSortedInts
import Derived.Deep.AppendLies
import Derived.Deep.RegionHeldLaw
import Derived.ProofKit
import Derived.Shelf.Spec.SearchS
import Derived.Stop.Asserts
import Derived.Shelf.Spec.SlicesInsertGrow
import Derived.Maps.Ext
import Derived.Lib.SlMapFilter
import Derived.Shelf.SlIterI.Nil
import Derived.Laws.EntriesVeiled
import Derived.Conc.MuLone
import Derived.Great.BuildSlice
import Derived.Deep.SlicePairs
import Derived.Stop.LaidTwo
import Derived.OpenVars
import Derived.OpenShut
import Derived.LaidMore
import Derived.Stop.Joined
namespace Go.Proofs.YtbolgdleijjgfaaGreatDoor
open Go.Proofs.Tryz
set_option maxRecDepth 100000
section
open Go.RowKit
set_option linter.defProp false
def aEK:= @heap_alloc_new
def aEL:= @cell_regrown
def aEM:= @Nat.le_refl
def aEN:= @decide_eq_false
def aEO:= @decide_eq_true
def aEP:= @Nat.le_trans
def aEQ:= @List.getElem?_eq_getElem
def aER:= @List.length_append
def aES:= @Bool.and_eq_true
def aET:= @bodyPost_ret
def aEU:= @Nat.lt_of_lt_of_le
def aEV:= @List.take_succ_eq_append_getElem
def aEW:= @cell_of_row
def aEX:= @if_neg
def aEY:= @Below.refl
def aEZ:= @Below.heap_alloc
def aE0:= @wp_region_quiet_below
def aE1:= @Nat.zero_le
def aE2:= @List.getElem_mem
def aE3:= @List.mem_singleton
def aE4:= @World.cell?_alloc_lt
def aE5:= @of_decide_eq_true
def aE6:= @List.mem_append
def aE7:= @if_pos
def aE8:= @List.mem_cons
def aE9:= @Below.heap_setCell
def aFa:= @decide_eq_true_eq
def aFb:= @DataW.trod_int
def aFc:= @List.mem_append_left
def aFd:= @List.take_length
def aFe:= @below_regrown
def aFf:= @List.length_take
def aFg:= @List.eq_nil_of_length_eq_zero
def aFh:= @List.mem_append_right
def aFi:= @List.getElem_set_self
def aFj:= @List.getElem_set_ne
def aFk:= @Calls.regrown_of
def aFl:= @List.getD_eq_getElem?_getD
def aFm:= @info_parts
def aFo:= @decide_eq_true_iff
def aFp:= @Nat.add_assoc
def aFq:= @World.cell?_of_block
def aFr:= @List.append_assoc
def aFs:= @wpQuiet_nil
def aFt:= @List.length_drop
def aFu:= @Array.length_toList
def aFv:= @wp_region_list
def aFw:= @World.ownsRow_lit
def aFx:= @BigFrame.wpList_want
def aFy:= @List.drop_eq_getElem_cons
def aFz:= @Nat.zero_add
def aFA:= @World.news_of_block
def aFB:= @ByteArray.toList_eq
def aFC:= @run_callFunc_extern
def aFD:= @Option.some.inj
def aFE:= @List.take_append_drop
def aFF:= @List.getElem?_eq_some_iff
def aFG:= @wpList_append_own
def aFH:= @List.size_toArray
def aFI:= @Value.slice.injEq
def aFJ:= @Array.getElem?_eq_none
def aFK:= @List.length_eraseIdx_of_lt
def aFL:= @List.length_map
def aFM:= @List.pairwise_cons
def aFN:= @World.frozen?_alloc_old
def aFO:= @World.block_lt_of_cell?
def aFP:= @List.mem_range
def aFQ:= @List.pairwise_iff_getElem
def aFR:= @List.not_mem_nil
def aFS:= @Int.toNat_natCast
def aFT:= @run_string_add_sum
def aFU:= @Nat.min_eq_left
def aFV:= @World.cell?_setCell_other
def aFW:= @List.nodup_append
def aFX:= @Nat.lt_or_ge
def aFY:= @List.mem_iff_getElem
def aFZ:= @List.append_nil
def aF0:= @List.nil_append
def aF1:= @List.length_set
def aF2:= @Bool.eq_iff_iff
def aF3:= @ByteArray.ext
def aF4:= @DataW.trod_struct
def aF5:= @List.getElem?_set_ne
def aF6:= @List.dropWhile_sublist
def aF7:= @List.drop_eq_nil_of_le
def aF8:= @List.getElem?_append_left
def aF9:= @List.length_cons
def aGa:= @List.mem_flatMap
def aGb:= @List.set_append_right
def aGc:= @Option.some.injEq
def aGd:= @Lib.run_eql_slice_nil
def aGe:= @Nat.mul_le_mul_right
def aGf:= @Lib.extract_data
def aGg:= @List.takeWhile_sublist
def aGh:= @List.take_of_length_le
def aGi:= @List.getElem?_toArray
def aGj:= @Lib.extract_toList
def aGk:= @List.mem_map
def aGl:= @DataW.trod_string
def aGm:= @beq_eq_false_iff_ne
def aGn:= @run_convert_bytes_back
def aGo:= @List.getElem_cons_zero
def aGp:= @World.frozen?_of_block
def aGq:= @ByteArray.size_extract
def aGr:= @List.getElem?_set_self
def aGs:= @List.setIfInBounds_toArray
def aGt:= @wpList_load_mid
def aGu:= @List.takeWhile_append_dropWhile
def aGv:= @World.cell?_setCell_same
def aGw:= @Nat.add_zero
def aGx:= @Nat.add_mul
def aGy:= @Array.toList_append
def aGz:= @List.all_eq_true
def aGA:= @List.take_zero
def aGB:= @List.take_take
def aGC:= @List.take_left
def aGD:= @bodyPost_end
def aGE:= @List.length_filter_le
def aGF:= @Nat.mul_comm
def aGG:= @List.mem_filter
def aGH:= @Addr.add_lit
def aGI:= @Bool.eq_false_iff
def aGJ:= @Lib.wp_append_run
def aGK:= @Region.noSelect_spec
def aGL:= @List.findIdx_getElem
def aGM:= @decide_eq_false_iff_not
def aGN:= @wpList_store_mid
def aGO:= @Region.free_spec
def aGP:= @List.mem_cons_of_mem
def aGQ:= @List.range_succ
end
variable{P:Prop}
theorem Aaa(h:P:=by omega):P:=h
theorem Aab(h:P:=by kernel_rfl):P:=h
theorem Aac(h:P:=by simp):P:=h
theorem Aad(h:P:=by rfl):P:=h
theorem Aae(h:P:=by decide):P:=h
theorem Aaf(h:P:=by go_num):P:=h
theorem Aag(h:P:=by simpa using hx):P:=h
theorem Aah(h:P:=by simp;omega):P:=h
theorem Aai(h:P:=by simp[hx]):P:=h
theorem Aaj(h:P:=by unfold maxLen;omega):P:=h
theorem Aak(h:P:=by simp at hx;omega):P:=h
theorem Aal(h:P:=by unfold maxLen;dsimp only;omega):P:=h
theorem Aam(h:P:=by rw [ah HV]):P:=h
theorem Aan(h:P:=by simpa using hgl):P:=h
theorem Aao(h:P:=by simp[Act.eval]):P:=h
theorem Aap(h:P:=by rw [e]):P:=h
theorem Aaq(h:P:=by simp[World.setCell]):P:=h
theorem Aar(h:P:=by simpa using hy):P:=h
theorem Aas(h:P:=by simpa using hi):P:=h
theorem Aat(h:P:=by simp at hi):P:=h
theorem Aau(h:P:=by simpa using DZ):P:=h
theorem Aav(h:P:=by rw [ah HP]):P:=h
theorem Aaw(h:P:=by simpa using h1):P:=h
theorem Aax(h:P:=by simp[results,results238,go_sem,xE]):P:=h
theorem Aay(h:P:=by simpa using hm):P:=h
theorem Aaz(h:P:=by simp at hx):P:=h
theorem Aba(h:P:=by simp at hx;simp[hx]):P:=h
theorem Abb(h:P:=by cases h):P:=h
theorem Abc(h:P:=by simp[h1]):P:=h
theorem Abd(h:P:=by rw [hz2];omega):P:=h
theorem Abe(h:P:=by simpa using hj):P:=h
theorem Abf(h:P:=by rw [ah HM]):P:=h
theorem Abg(h:P:=by simpa using hpar):P:=h
theorem Abh(h:P:=by simpa using hq):P:=h
theorem Abi(h:P:=by rw [hf];simp):P:=h
theorem Abj(h:P:=by rw [ah xX]):P:=h
theorem Abk(h:P:=by rw [aFf];omega):P:=h
theorem Abl(h:P:=by simpa [Value.ownBlock] using hx):P:=h
theorem Abm(h:P:=by simpa using h):P:=h
theorem Abn(h:P:=by simp only[ByteArray.size_append];omega):P:=h
theorem Abo(h:P:=by rw [hW];exact(lD w _ _).2):P:=h
theorem Abp(h:P:=by rw [hW];exact(lD w _ _).1):P:=h
theorem Abq(h:P:=by rw [ah HML];exact hlt):P:=h
theorem Abr(h:P:=by rw [hml];exact hlt):P:=h
theorem Abs(h:P:=by simp[Act.eval,Act.put]):P:=h
theorem Abt(h:P:=by simp at hi;omega):P:=h
theorem Abu(h:P:=by rw [hW];exact qg kS):P:=h
theorem Abv(h:P:=by rw [hW];exact iP eT hgl):P:=h
theorem Abw(h:P:=by rw [gW,aFt]):P:=h
theorem Abx(h:P:=by simp[Pg];omega):P:=h
theorem Aby(h:P:=by rw [hW];simp[World.setCell]):P:=h
theorem Abz(h:P:=by rw [hW1];exact aEK _ _):P:=h
theorem Aca(h:P:=by rw [show VC=_ from ah Ll];kernel_rfl):P:=h
theorem Acb(h:P:=by unfold maxLen at hcm;omega):P:=h
theorem Acd(h:P:=by simpa using hf):P:=h
theorem Ace(h:P:=by rw [e];omega):P:=h
theorem Acf(h:P:=by simpa using hk):P:=h
theorem Acg(h:P:=by simp[fp] at hx):P:=h
theorem Ach(h:P:=by simp[go_sem]):P:=h
theorem Aci(h:P:=by simpa using h3):P:=h
theorem Acj(h:P:=by simp[results,results195,go_sem]):P:=h
theorem Ack(h:P:=by rw [ah iE,ah jr,ah Ez];rfl):P:=h
theorem Acl(h:P:=by rw [hW];exact aEK _ _):P:=h
theorem Acm(h:P:=by simp at hm;omega):P:=h
theorem Acn(h:P:=by rw [ah HS,ah HA,ah HK];rfl):P:=h
theorem Aco(h:P:=by rw [hl];kernel_rfl):P:=h
theorem Acp(h:P:=by simp[results,results99,go_sem,x0,x1,x2,x3,x4,x5,x6,x7,x8]):P:=h
theorem Acr(h:P:=by simp[results,results95,go_sem,r0,r1,r2,r3,r4,r5,r6,r7,r8,r9,r10]):P:=h
theorem Acs(h:P:=by simp[results,results184,go_sem]):P:=h
theorem Acu(h:P:=by simp[results,results48,go_sem]):P:=h
theorem Acv(h:P:=by cases hk;exact aEM _):P:=h
theorem Acw(h:P:=by rw [show cur.toList.length=cur.size from aFu,hcs];omega):P:=h
theorem Acx(h:P:=by simp[results,results272,go_sem];try rfl):P:=h
theorem Acy(h:P:=by rw [aE3.1 hx];omega):P:=h
theorem Acz(h:P:=by rw [aE3.1 hf];omega):P:=h
theorem Ada(h:P:=by rw [aE3.1 hx];exact aEM _):P:=h
theorem Adb(h:P:=by simp[results,results271,go_sem,r0,r1,r2,r3,r4,r5,r6]):P:=h
theorem Adc(h:P:=by simp[results,results124,go_sem,r0,r1,r2,r3,r4,r5,r6]):P:=h
theorem Ade(h:P:=by simp[results,results222,go_sem,x0,x1,x2,x3,x4,x5,x6]):P:=h
theorem Adf(h:P:=by unfold sQ at hhas;rw [hd] at hhas;simpa using hhas):P:=h
theorem Adg(h:P:=by rw [aEV hlt,E9,<-hm];rfl):P:=h
theorem Adh(h:P:=by simp[results,results128,go_sem,x0,x1,x2,x3,x4,x5,x6,x7,x8]):P:=h
theorem Adi(h:P:=by simp[results,results235,go_sem,r0,r1,r2,r3,r4,r5,r6]):P:=h
theorem Adj(h:P:=by rw [show cur.toList.length=cur.size from aFu,hcs]):P:=h
theorem Zk0(h:P:=by
 open aBr in exact ajU):P:=h
theorem Zk1(h:P:=by
 obtain⟨c0,c1,c2,c3,c4,c5,c6,c7,c8,c9⟩:=jN HWS.wk.blk
 have e0:A'.s=some ⟨G'.s,0,none⟩:=by
  obtain⟨_,_,e0,_⟩:=dZ.three HWS.wk.no.s i (by rw [ah HSL];exact hi);exact e0
 rw [e0,ah HSL] at c6;obtain⟨⟨p0,p1,p2,p3,p4,p5,p6⟩,_⟩:=eD eT;have hwl:=ay HWS.wk.blk;have hBl:=ay eT;go_upto_region 5 with fail;have y6:=aEL c6;have z1:=aEL p1;clear c0 c1 c2 c3 c4 c5 c6 c7 c8 c9 p0 p1 p2 p3 p4 p5 p6;refine rg 11 Ge 12 ?_;refine tk [0,1,2,3,4,5,6,7,8] ?_;iterate 9 (refine iO (λK hK=>?_);go_simp;refine hK _ ?_;clear hK K)
 refine jf ?_;clear y6 z1;refine dG 9 rfl Aab Aad (λx hx=>?_);go_simp;have HX:=Hq (HWS.step hx);have HJX:Hid (∀j mm,jQ w j mm->jQ x j mm):=λj mm hj=>aj (HJW j mm hj) hx
 have HSO:=Hq (Zp sb mb kk mF (fQ s0 mL) l2 x HLEN ad6 HX.bk HX.si);clear hx;refine HSO.mono ?_;rintro e y ⟨v2,rfl,hrow,hby⟩;refine⟨hby,?_⟩;obtain⟨b2,c2,g2,rfl,hW2,hg2,_⟩:=GR.W.of_own (enc:=bf) aW hrow;have HY:Hid (WK w0 y wb n' A' G' (newC x.heap.size 5 c') v L):=(HX.wk.recol (c':=newC x.heap.size 5 c') (λz hz=>fC hz)).step hby;have HI2:=Hq hW2;have HJY:Hid (∀j mm,jQ w j mm->jQ y j mm):=λj mm hj=>aj (HJX j mm hj) hby
 have HC5:Hid (∀z∈fp g2 l2,newC x.heap.size 5 c' z=5/\z∉mX G'.i n'.seen):=λz hz=>⟨aX (hg2 z hz).1,λhm=>by
  have h1:=(vD HX.wk.no.s).2 z hm
  have h2:=(hg2 z hz).1
  omega⟩
 clear hrow hby hW2 hg2 HSO HX HWS;refine tk [10] ?_;(refine iO (λK hK=>?_);go_simp;refine hK _ ?_;clear hK K)
 refine jf ?_;refine aU Aab (λx3 hx3=>?_);have HY3:=Hq (HY.step hx3);have HI3:=Hq (HI2.below hx3);have HJ6:Hid (∀j mm,jQ w j mm->jQ x3 j mm):=λj mm hj=>aj (HJY j mm hj) hx3
 obtain⟨b0,cc0,_,hg0,⟨q0,q1,q2⟩,⟨f0,f1⟩,_⟩:=dZ.three HY3.no.s i (by rw [ah HSL];exact hi)
 have f2:x3.frozen? ⟨G'.s,i*3+2,none⟩=false:=by
  obtain⟨T,hT,hl,_⟩:=HY3.no.s;have:=(hT i (by rw [hl,ah HSL];exact hi)).2.2 2 Aaa;exact this.2
 have aAh:=Hq (HY3.seenPut i (by rw [ah HSL];exact hi) ⟨mF,fQ s0 mL,l2⟩ b2 c2 g2 HI3 HC5)
 have HJF:Hid (∀j mm,jQ w j mm->jQ (GR.setW x3 G'.s (i*3) [.int .i64 mF,.int .i64 (fQ s0 mL),.slice b2 l2.length c2]) j mm):=λj mm hj=>by
  have h3:=ah HJ6 j mm hj
  have hne:=Qt h3 q2
  unfold jQ
  rw [GR.setW_other hne]
  exact h3
 clear hx3 HY HI2;refine an 11 ?_;go_simp;refine ad ?_;go_simp;clear q0 q1 q2 f0 f1 f2;go_wp2_with fail;go_ret;exact⟨by rw [ah HTE];first|done|rfl,⟨A',_,_,by rw [ah HTE];exact aAh⟩,HJF⟩):P:=h
theorem Zk2(h:P:=by
 have hnl:=ay e1;clear hW e1 e2 p0 p1 p2 p3 p4 p5 p6 p7 p8 p9 oD;obtain⟨⟨p0,p1,p2,p3,p4,p5,p6,p7,p8,p9,oD⟩,_⟩:=aJ Sb;have aD5:=ay Sb;have y0:=aEL c0;have z0:=aEL p0;have z1:=aEL p1;have z2:=aEL p2;have z3:=aEL p3;have z4:=aEL p4;have z5:=aEL p5;have z6:=aEL p6;have z7:=aEL p7;have z8:=aEL p8;have z9:=aEL p9;have z10:=aEL oD;clear p0 p1 p2 p3 p4 p5 p6 p7 p8 p9 oD c0;refine rg 5 Ge 7 ?_;refine tk [0,1,2,3,4] ?_;iterate 5 (refine iO (λK hK=>?_);go_simp;refine hK _ ?_;clear hK K)
 refine jf ?_;clear y0 z0 z1 z2 z3 z4 z5 z6 z7 z8 z9 z10;refine aU Aab (λx hx=>?_);have HXX:=Hq (HX x (HW4.step hx));clear hx;refine an 5 ?_;go_simp;refine HXX.mono ?_;rintro e y ⟨rfl,A',G',c',v',hY⟩;have HY:=Hq hY;clear hY HXX;refine an 6 ?_;go_simp;refine ad ?_;go_simp;go_wp2_with fail;go_ret;exact⟨rfl,A',G',c',v',HY⟩):P:=h
theorem Zk3(h:P:=by
 unfold gH;have H9:=Hq h9;clear h9;have JK:=Hq (λW (ha:aG W A.p n.pu)=>wT A.p A.cp n.pu key W hl ha);rw [hpp] at JK;unfold yc at JK;clear hpp;have hbw0:=au w (.cells (dH n A) 39);have mP:=Hq (h.nine hB);clear h;go_in
 go_upto_region 1 with fail;refine wp_at (λW0 hW=>?_);obtain⟨e1,e2,e3⟩:=fU w (.cells (dH n A) 39) (.cells kR 39);open apS in exact awU):P:=h
theorem Zk4(h:P:=by
 clear hu;unfold iV at jJ;have EG:=Hq (λW=>jE ⟨0,no,k,nn,⟨mK,mF,mT,mI,mL,mk,mN⟩⟩ W Aal Aal);open aBo in exact ES):P:=h
theorem Zk5(h:P:=by
 rw [hR];have HR:=Hq hR;clear hR;cases hk:keyOk k.data.toList
 .have HK:=Hq (λw1=>oz k false w1 hs hk);cases hn:fH n
  .have HN:=Hq (λw1=>eG n false w1 hn);have HP:=Hq (show R=(decide (no=0)&&false&&false&&lU ⟨mK,mF,mT,mI,mL,mk,mN⟩) by rw [<-ah HR];simp[bH,hk,hn]);clear HR;clear hk hn;go_in
   go_wp2_with (first|(go_at_call_of 93 k;refine(HK _).mono ?_;rintro e w1 ⟨rfl,rfl⟩)|(go_at_call_of 90 n;refine(HN _).mono ?_;rintro e w1 ⟨rfl,rfl⟩))
   all_goals
    go_ret
    refine⟨aF ?_,au w _⟩
    rw [ah HP]
    simp[lU, *]
  .have HN:=Hq (λw1=>eG n true w1 hn);have HP:=Hq (show R=(decide (no=0)&&false&&true&&lU ⟨mK,mF,mT,mI,mL,mk,mN⟩) by rw [<-ah HR];simp[bH,hk,hn]);clear HR;clear hk hn;go_in
   go_wp2_with (first|(go_at_call_of 93 k;refine(HK _).mono ?_;rintro e w1 ⟨rfl,rfl⟩)|(go_at_call_of 90 n;refine(HN _).mono ?_;rintro e w1 ⟨rfl,rfl⟩))
   all_goals
    go_ret
    refine⟨aF ?_,au w _⟩
    rw [ah HP]
    simp[lU, *]
 .have HK:=Hq (λw1=>oz k true w1 hs hk);cases hn:fH n
  .have HN:=Hq (λw1=>eG n false w1 hn);have HP:=Hq (show R=(decide (no=0)&&true&&false&&lU ⟨mK,mF,mT,mI,mL,mk,mN⟩) by rw [<-ah HR];simp[bH,hk,hn]);clear HR;clear hk hn;go_in
   go_wp2_with (first|(go_at_call_of 93 k;refine(HK _).mono ?_;rintro e w1 ⟨rfl,rfl⟩)|(go_at_call_of 90 n;refine(HN _).mono ?_;rintro e w1 ⟨rfl,rfl⟩))
   all_goals
    go_ret
    refine⟨aF ?_,au w _⟩
    rw [ah HP]
    simp[lU, *]
  .have HN:=Hq (λw1=>eG n true w1 hn);have HP:=Hq (show R=(decide (no=0)&&true&&true&&lU ⟨mK,mF,mT,mI,mL,mk,mN⟩) by rw [<-ah HR];simp[bH,hk,hn]);clear HR;clear hk hn;go_in
   go_wp2_with (first|(go_at_call_of 93 k;refine(HK _).mono ?_;rintro e w1 ⟨rfl,rfl⟩)|(go_at_call_of 90 n;refine(HN _).mono ?_;rintro e w1 ⟨rfl,rfl⟩))
   all_goals
    go_ret
    refine⟨aF ?_,au w _⟩
    rw [ah HP]
    simp[lU, *]):P:=h
theorem Zk6(h:P:=by
 open Sk5 in exact Yk0):P:=h
theorem Zk7(h:P:=by
 by_cases hmK:mK=0
 case' neg=>
  have aCv:¬(0:Int)=mK:=λe=>hmK e.symm
  go_wp2_with fail;go_ret;exact⟨aF (by rw [ah HP];simp[lU,hmK]),iK⟩
 subst hmK;by_cases hmF:mF=0
 case' neg=>
  have aCt:¬(0:Int)=mF:=λe=>hmF e.symm
  go_wp2_with fail;go_ret;exact⟨aF (by rw [ah HP];simp[lU,hmF]),iK⟩
 subst hmF;by_cases hmT:mT=0
 case' neg=>
  have aCy:¬(0:Int)=mT:=λe=>hmT e.symm
  go_wp2_with fail;go_ret;exact⟨aF (by rw [ah HP];simp[lU,hmT]),iK⟩
 subst hmT;by_cases hmI:mI=0
 case' neg=>
  have aCu:¬(0:Int)=mI:=λe=>hmI e.symm
  go_wp2_with fail;go_ret;exact⟨aF (by rw [ah HP];simp[lU,hmI]),iK⟩
 subst hmI;by_cases hmL:mL=0
 case' neg=>
  have aCw:¬(0:Int)=mL:=λe=>hmL e.symm
  go_wp2_with fail;go_ret;exact⟨aF (by rw [ah HP];simp[lU,hmL]),iK⟩
 subst hmL;by_cases hmk:mk.toList=[]
 case' neg=>
  go_wp2_with fail;go_ret;exact⟨aF (by rw [ah HP];simp[lU,hmk]),iK⟩
 by_cases hmN:mN=0
 case' neg=>
  have aCx:¬(0:Int)=mN:=λe=>hmN e.symm
  go_wp2_with fail;go_ret;exact⟨aF (by rw [ah HP];simp[lU,hmk,hmN]),iK⟩
 subst hmN;go_wp2_with fail;go_ret;exact⟨aF (by rw [ah HP];simp[lU,hmk]),iK⟩):P:=h
theorem Zk8(h:P:=by
 open Sk4 in exact Yk0):P:=h
theorem Zk9(h:P:=by
 open aAV in exact aww):P:=h
theorem axi(h:P:=by
 open Sk3 in exact Yk0):P:=h
theorem aj9(h:P:=by
 obtain⟨⟨p0,p1,p2,p3,p4,p5,p6,p7,p8,p9,oD⟩,_⟩:=aJ Xy;have hol:=ay Xy;obtain⟨c0,c1,c2,c3,c4,c5,c6,c7,c8⟩:=nine mU;obtain⟨⟨d0,d1,d2,d3,d4,d5,d6,d7,d8⟩,f0,f1,f2,f3,f4,f5,f6,f7,f8⟩:=iM BM;have hnl:=ay mU;have hrl:=ay BM;clear q0;dsimp only at e0;subst e0;go_wp2_with fail;go_quiet (fail);go_wp2_with fail;refine kC results128 rfl rfl rfl BM (λW' e4 fq=>?_);have fq:=aA.trans (a:=W1) (b:=W1.drewN nq) ⟨rfl,rfl,rfl,aEM _,λ_ _ _=>rfl⟩ fq;have HAT:=Hq (λW'' (ho:Out c w W' W'')=>(yu.kc (k:=9) ((KC.keeps fq (λx hx=>by have:x=w.heap.size+2:=Aag;rw [this];exact aX Aaa)).trans (KC.out H9 ho)) Aaa).rm);have qZ:Hid (Below B w W'):=(HB1.mono hB).trans (fq.below (λx hx=>by have:x=w.heap.size+2:=Aag;omega) (aEP hB (HB1.mono hB).size));have xS:=Hq (Apart.keeps (c:=c) (Apart.of_below (HB1)) (HB1.mono hB).size fq (λx hx=>by have:x=w.heap.size+2:=Aag;omega));clear e4 fq;exact⟨(⟨a_k,rG,je,iU,(some ⟨g,off,none⟩),dz,fJ,dX,dA,dK⟩:bq),rfl,HAT,qZ,xS⟩):P:=h
theorem akb(h:P:=by
 open avd in exact aha):P:=h
theorem OV(h:P:=by
 clear HR;clear hk hn ho;go_in
 go_wp2_with (first|(go_at_call_of 93 k;refine(HK _).mono ?_;rintro e w1 ⟨rfl,rfl⟩)|(go_at_call_of 90 n;refine(HN _).mono ?_;rintro e w1 ⟨rfl,rfl⟩)|(go_at_call_of 90 no;refine(HO _).mono ?_;rintro e w1 ⟨rfl,rfl⟩))
 all_goals
  go_ret
  refine⟨aF ?_,au w _⟩
  rw [ah HP]
  simp[lU, *]):P:=h
theorem aeL(h:P:=by
 open apj in exact aj3):P:=h
theorem axl(h:P:=by
 open ang in exact aeE):P:=h
theorem SS(h:P:=by
 open asb in exact agC):P:=h
theorem axo(h:P:=by
 open anf in exact aeE):P:=h
theorem axp(h:P:=by
 rw [hR];have hd:decide (o.no<=n.old)=false:=aEN hc;open asv in exact aaD):P:=h
theorem axq(h:P:=by
 open aAA in exact Yk3):P:=h
theorem axr(h:P:=by
 rw [hR];have hiI:(i:Int) < (n.reqs.length:Int):=Aaa
 have HST:=Hq hst;clear hR hst;have hp:=iT hok;have Ow:=Hq (λW1 (ha:fT W1 jq n.reqs)=>Bq n (⟨a_k,rG,je,iU,jq,dz,fJ,dX,dA,dK⟩:bq) no W1 Aaa hp.1 ha);rw [hJ] at Ow;clear hp hok;unfold iW;have H9:=Hq h9;clear h9;have hbw0:=au w (.cells (dH n (⟨a_k,rG,je,iU,jq,dz,fJ,dX,dA,dK⟩:bq)) 39);open ash in exact VK):P:=h
theorem axu(h:P:=by
 go_wp2_with fail;go_quiet (fail);have ab8:(wr.drewN nq).ownsRow W2.heap.size 145 4 (.slice a (FL k).length cp) (FL k).length (GR.flat aM (FL k)):=ah HO;have hnk:=ah HNK;obtain⟨hi,hz0,hz1,hz2⟩:=ah HI;have hwb:W2.heap.size<=wr.heap.size:=iK.size;go_wp2_with (at_builtin;refine aFG _ rfl _ _ 35 rfl W2.heap.size 145 i0 (.agg (gI 0 0 ByteArray.empty 0)) 4 40 underlying35 hi hz0 hz1 hz2 rfl Aae _ _ _ rfl (ab8.alloc _) ⟨wr.heap.size,0,none⟩ 1 1 (aM ⟨si,st,sk,sn⟩) rfl rfl ?c1 ?c2 ?c3 ?c4 ?c5 ?_)
 case c1=>exact aFA (aEK (wr.drewN nq) _)
 case c2=>exact yN _
 case c3=>unfold maxLen;omega
 case c4=>omega
 case c5=>exact aEP hwb (au (wr.drewN nq) _).size
 intro v' w5 hown' hgrow _;obtain⟨an,cn,hv,_⟩:=GR.own_at (enc:=aM) (sz:=4) (l:=FL k++[⟨si,st,sk,sn⟩]) aR (by rw [aER,jk];exact hown');rw [aER] at hv;have hv':v'= .slice an ((FL k).length+1) cn:=hv;clear hv;subst hv'
 have JI:Hid (w5.ownsRow W2.heap.size 145 4 (.slice an FK.length cn) FK.length (GR.flat aM FK)):=by
  unfold Hid;rw [ah HX,aER,jk];exact hown'
 have gQ:Hid (aH W2 w5):=(iK.trans (Below.trans (b:=wr.drewN nq) ⟨rfl,rfl,rfl,aEM _,λ_ _=>rfl⟩ ((au (wr.drewN nq) (.cells (gI si st sk sn) 145)).mono hwb))).trans ⟨hgrow.os,hgrow.tape,hgrow.output,hgrow.size,λx hx=>hgrow.block x (aEU hx (aEP hwb (au (wr.drewN nq) _).size)) (λe=>by have:=vw ab8 e.symm;omega)⟩;clear hown' hgrow ab8 hi hz0 hz1 hz2 c0 c1 c2 c3 c4 c5 c6 c7 c8 m0 m1 m2 m3 m4 m5 m6 s0 s1 s2 s3;go_wp2_with fail;go_roundw
 case rel=>exact⟨k+1,an,cn,Aaa,by rw [ah HX0,ah HX,aER];rfl,Aaf,by rw [ah HX0];exact JI,gQ⟩
 case measure=>simp[intOf];omega):P:=h
theorem akc(h:P:=by
 dsimp only at q0 q1 q2 q3 hkk;have hkm:pk.size<=maxLen:=hkk;unfold maxLen at hkk;go_wp2_with fail;refine(wC _).mono ?_;rintro e w5 ⟨rfl,hb5⟩;have fI:=Hq (aY.trans (hb5.mono aY.size));clear hb5 q0 q1 q2 q3;dsimp only;by_cases hc:(pk.size:Int)<=z
 .rw [aE7 hc];have hn2:decide (z - (pk.size:Int) < 0)=false:=aEN Aaa;go_wp2_with fail;go_roundw
  case rel=>
   refine⟨k+1,z - pk.size,Aaa,Aaf,rfl,Aaa,Aaa,?_,fI⟩;intro p hp;rw [ah HT] at hp;rcases aE6.1 hp with h|h
   .exact jr p h
   .rw [aE3] at h;subst h;show pk.size<=1048576
    omega
  case measure=>simp[intOf];omega
 .rw [aEX hc];go_wp2_with fail;go_ret;exact⟨-1,rfl,fI,.inl rfl⟩):P:=h
theorem axw(h:P:=by
 by_cases hk:k.toList=[]
 case' neg=>
  go_wp2_with fail;go_ret;exact⟨aF (by rw [ah HP];simp[lU,hk]),iK⟩
 by_cases hn:n=0
 case' neg=>
  have hn':¬(0:Int)=n:=λe=>hn e.symm
  go_wp2_with fail;go_ret;exact⟨aF (by rw [ah HP];simp[lU,hk,hn]),iK⟩
 subst hn;by_cases hmK:mK=0
 case' neg=>
  have aCv:¬(0:Int)=mK:=λe=>hmK e.symm
  go_wp2_with fail;go_ret;exact⟨aF (by rw [ah HP];simp[lU,hk,hmK]),iK⟩
 subst hmK;by_cases hmF:mF=0
 case' neg=>
  have aCt:¬(0:Int)=mF:=λe=>hmF e.symm
  go_wp2_with fail;go_ret;exact⟨aF (by rw [ah HP];simp[lU,hk,hmF]),iK⟩
 subst hmF;by_cases hmT:mT=0
 case' neg=>
  have aCy:¬(0:Int)=mT:=λe=>hmT e.symm
  go_wp2_with fail;go_ret;exact⟨aF (by rw [ah HP];simp[lU,hk,hmT]),iK⟩
 subst hmT;by_cases hmI:mI=0
 case' neg=>
  have aCu:¬(0:Int)=mI:=λe=>hmI e.symm
  go_wp2_with fail;go_ret;exact⟨aF (by rw [ah HP];simp[lU,hk,hmI]),iK⟩
 subst hmI;by_cases hmL:mL=0
 case' neg=>
  have aCw:¬(0:Int)=mL:=λe=>hmL e.symm
  go_wp2_with fail;go_ret;exact⟨aF (by rw [ah HP];simp[lU,hk,hmL]),iK⟩
 subst hmL;by_cases hmk:mk.toList=[]
 case' neg=>
  go_wp2_with fail;go_ret;exact⟨aF (by rw [ah HP];simp[lU,hk,hmk]),iK⟩
 by_cases hmN:mN=0
 case' neg=>
  have aCx:¬(0:Int)=mN:=λe=>hmN e.symm
  go_wp2_with fail;go_ret;exact⟨aF (by rw [ah HP];simp[lU,hk,hmk,hmN]),iK⟩
 subst hmN;go_wp2_with fail;go_ret;exact⟨aF (by rw [ah HP];simp[lU,hk,hmk]),iK⟩):P:=h
theorem axx(h:P:=by
 refine jc 11 rfl Aab Aad Aae (λxf hxf=>?_);have HGg:=Hq (Ge.trans HGf hxf);have HQg:=Hq (aj HQf hxf);have HDg:=Hq (Ge.trans HDf hxf);clear hxf;obtain⟨⟨d0,d1,d2,d3,d4,d5,d6,d7,d8⟩,f0,f1,f2,f3,f4,f5,f6,f7,f8⟩:=iM HQg;have hrl:=ay HQg;go_simp;have hkq:aA [qf] xf (GR.setW xf qf 0 (dH m' A3).toList):=gB (g:=qf) _ xf 0;refine⟨hkq.below (λx hx=>by rw [aE3.1 hx];exact hqV) HGg.size,?_⟩;have HBQ:=Hq (GR.setW_blk (dH m' A3).toList (o:=0) (xs:=kR.toList) HQg);have HKD:=Hq (aA.trans (F:=[qf]) (aA.of_below HDg) hkq);have wY:=Hq (Below.trans HGg (hkq.below (B:=wr.heap.size) (λx hx=>by rw [aE3.1 hx];exact hqV) HGg.size));clear hkq d0 d1 d2 d3 d4 d5 d6 d7 d8 f0 f1 f2 f3 f4 f5 f6 f7 f8 hrl;have hwp:=wY.size;refine tk [12] ?_;(refine JD 20 (QS _) (λK hK=>?_);go_simp;first|refine hK _ ?_|(apply Exists.intro;refine⟨λ_=>?_,hK _ ?_⟩;rfl);clear hK K)
 refine jf ?_;clear hwp;refine qb Aab (λz hz=>?_);have azS:=Hq (aj HBQ hz);have HNz:=Hq (((HNL.or hqd HKD).step hz).mono (aEP hsz hxs));have azT:=Hq (wY.trans (hz.mono wY.size));clear hz HBQ HKD wY;refine an 13 ?_;go_simp;refine ad ?_;go_simp;go_wp2_with fail;go_meet
 case rel=>exact⟨qf,A3,rfl,azS,HNz,azT⟩):P:=h
theorem SV(h:P:=by
 open am7 in exact uz):P:=h
theorem axy(h:P:=by
 refine eH (u1:= .slice (some ⟨ab,0,none⟩) 1 1) (u2:= .int .i64 0) results158 rfl rfl rfl rfl wB (λW' e4 fq=>?_);have ab9:w.heap.size+2≠gi:=Aaa
 have HNF:=Hq (aeh.kc (k:=9) (KC.keeps fq (λx hx=>by have:x=w.heap.size+2:=Aag;rw [this];exact Ey _ Aaa ab9)) Aaa);open arC in exact axg):P:=h
theorem axz(h:P:=by
 go_wp2_with fail;refine eH (u1:= .slice (some ⟨W8.heap.size,0,none⟩) 0 0) (u2:= .int .i64 1) results158 rfl rfl rfl rfl zM (λW' e4 fq=>?_);have ab9:w.heap.size+2≠gi:=Aaa
 have HNF:=Hq (aei.kc (k:=9) (KC.keeps fq (λx hx=>by have:x=w.heap.size+2:=Aag;rw [this];exact Ey _ Aaa ab9)) Aaa);open arB in exact axg):P:=h
theorem akd(h:P:=by
 clear hm;have e1:(m:Int)+1+1=m+2:=Aaa
 have e3:(m:Int)+2+1=m+3:=Aaa
 go_wp2_with fail;go_region_with (go_at_call 35;refine(ED _ _ Aaa).mono ?_;rintro e w1 ⟨rfl,hb1⟩;have hc0:=(fE hb1).1 g (k*4) Aan;have hc1:=(fE hb1).1 g (k*4+1) Aan;have hc2:=(fE hb1).1 g (k*4+2) Aan;have hc3:=(fE hb1).1 g (k*4+3) Aan;have oF:=Hq (aY.trans (((aEY _ _).drew.trans hb1).mono aY.size));clear hb1)
 all_goals
  go_wp2_with fail
  go_roundw
  case rel=>exact⟨k+1,m+4,Aaa,Aaf,Aaf,by have:=ah HM;omega,oF⟩
  case measure=>simp[intOf];omega):P:=h
theorem abm(h:P:=by
 have HP:=Hq (HD Aai);clear HD HE;go_upto_region 6 with fail;go_quiet (fail);go_wp2_with fail;go_ret;exact .no HP (fG _ aY)):P:=h
theorem yK(h:P:=by
 exact⟨Aam,aFe _ dq osq⟩):P:=h
theorem axA(h:P:=by
 open avh in exact ahc):P:=h
theorem axB(h:P:=by
 have hold:=(mP.kc (k:=9) ((KC.of_below uy).trans (KC.out H9 ho)) Aaa);have hr:=(ah HLZ).out (w:=w) Aaa ho;rcases Sz with hp|⟨rfl,rfl⟩
 .have hp:=hp.out (w:=w) Aaa ho
  have hp9:∀g',pa.map (λy=>y.block)=some g'->6 < newC w.heap.size 9 c g':=λg' hg'=>by
   have h1:=hp.lo (tq hp hg')
   rw [aX Aaa]
   omega
  exact NQ.put hold hold _ _ rfl rfl rfl rfl (hp.lies aP).1 (λg' hg' _=> .inr (hp9 g' hg')) hold.o (λy hy=> .inl (hold.co y hy)) hr (λy hy=> .inr (by have h1:=hr.lo hy;rw [aX Aaa];omega))
   (λg' hg' _ h6=>⟨λe=>by have:=hold.co g' e;omega,hp.ne hr Aae (tq hp hg')⟩) (λy hy h6=>by have:=hold.co y hy;omega)
 .exact NQ.put hold hold _ _ rfl rfl rfl rfl hold.p.at (λg' hg' hp'=> .inl (hold.cpB hold g' hg' hp')) hold.o (λy hy=> .inl (hold.co y hy)) hr (λy hy=> .inr (by have h1:=hr.lo hy;rw [aX Aaa];omega))
   (λg' hg' hp' h6=>by have:=hold.cpB hold g' hg' hp';omega) (λy hy h6=>by have:=hold.co y hy;omega)):P:=h
theorem xW(h:P:=by
 go_ret;exact⟨aF HP.symm,au w _⟩):P:=h
theorem axC(h:P:=by
 open aoT in exact aj0):P:=h
theorem XQ(h:P:=by
 open am6 in exact uz):P:=h
theorem XR(h:P:=by
 open am5 in exact uz):P:=h
theorem abn(h:P:=by
 have hlen:(l.take k).length=k:=Aah
 rw [aGb _ _ Aaa,hlen,Nat.sub_self];have e:l.length - k=(l.length - (k+1))+1:=Aaa
 rw [e,List.replicate_succ,aEV hk,aFr];rfl):P:=h
theorem axD(h:P:=by
 obtain⟨⟨d0,d1,d2,d3,d4,d5,d6,d7,d8⟩,f0,f1,f2,f3,f4,f5,f6,f7,f8⟩:=iM qx;have hrl:=ay qx;go_wp2_with fail;refine iy (λW' hW'=>?_)
 have e4:W'.heap[w.heap.size+2]?=some (.cells (dH n A1) 39 (0,0)):=by
  rw [hW'];exact GR.setW_blk (dH n A1).toList (o:=0) (xs:=kR.toList) qx
 have hkc:KC cc 0 W3 W':=by
  rw [hW'];exact KC.setW (o:=0) (dH n A1).toList (mP.lo _ hrs)
 have HAT:=Hq (λW'' (ho:yh w W' W'')=>((mP.kc0 hkc).kc0 (ho.kc (λx hx=>mP.lo x Aaa))).rm)
 have qZ:Hid (aH w W'):=by
  rw [hW'];exact GR.setW_below Aaa (dH n A1).toList (o:=0) HB3
 obtain⟨x0,x1,x2,x3,x4,x5,x6,x7,x8⟩:=nine e4;clear hW' e4 hkc;exact aET (v:= .tuple #[(gM n A1),.slice (some ⟨W0.heap.size,0,none⟩) 0 0,.int .i64 3]) Acp rfl ⟨A1,some ⟨W0.heap.size,0,none⟩,0,rfl,HAT,λW'' _ i hi=>Aat,qZ⟩):P:=h
theorem SY(h:P:=by
 open am4 in exact uz):P:=h
theorem axE(h:P:=by
 open aAH in exact Yk6):P:=h
theorem ake(h:P:=by
 have HK:=Hq (λw1=>iq k false w1 hk);cases hn:fH n
 .have HN:=Hq (λw1=>aO n false w1 hn);have HP:=Hq (show R=(decide (no=0)&&false&&false&&lU ⟨mK,mF,mT,mI,mL,mk,mN⟩) by rw [<-ah HR];simp[bH,hk,hn]);exact akb
 .have HN:=Hq (λw1=>aO n true w1 hn);have HP:=Hq (show R=(decide (no=0)&&false&&true&&lU ⟨mK,mF,mT,mI,mL,mk,mN⟩) by rw [<-ah HR];simp[bH,hk,hn]);exact akb):P:=h
theorem zT(h:P:=by
 go_ret;exact⟨aF (HP.symm.trans HQ),hB⟩):P:=h
theorem akf(h:P:=by
 clear hr hc0;go_in
 go_wp2_with (first|(go_at_call 342;refine(HR _).mono ?_;rintro e w2 ⟨rfl,hb2⟩;have hA:=aI (aEK w _) hb2;have hB:=(au w _).trans (hb2.mono Aac);obtain⟨c0,c1,c2,c3,c4,c5⟩:=LD hA;have hz:=cK hA;clear hA hb2)|(go_at_call_of 170 I;refine(NV _).mono ?_;rintro e w1 ⟨rfl,rfl⟩))
 exact zT):P:=h
theorem aeM(h:P:=by
 obtain⟨e,hg,hc⟩:=h i hi;exact⟨e,hg,⟨by simpa using(hc 0 Aaa).1,by simpa using(hc 1 Aaa).1,by simpa using(hc 2 Aaa).1,by simpa using(hc 3 Aaa).1⟩,by simpa using(hc 0 Aaa).2,(hc 1 Aaa).2,(hc 2 Aaa).2,(hc 3 Aaa).2⟩):P:=h
theorem XT(h:P:=by
 have hb:aH w w1:=(au w _).grown hgrow Aac (λk hk=>Acv);clear hown' hgrow hlit;go_wp2
 go_ret;exact⟨_,rfl,HO,hb⟩):P:=h
theorem akg(h:P:=by
 open avQ in exact VU):P:=h
theorem abo(h:P:=by
 open am3 in exact uz):P:=h
theorem aeN(h:P:=by
 open am2 in exact uz):P:=h
theorem axF(h:P:=by
 open aoQ in exact awK):P:=h
theorem axG(h:P:=by
 rw [ah HD];clear HD hT;go_in
 go_upto_region 1 with fail;refine I9 18 ?_;refine tk [0,1,2,3,4,5,6,7,8,9,10,11,12,13,14,15,16,17] ?_;iterate 15 (refine iO (λK hK=>?_);go_simp;refine hK _ ?_;clear hK K)
 (refine iO (λK hK=>?_);go_simp;first|refine hK _ ?_|(apply Exists.intro;refine⟨λ_=>?_,hK _ ?_⟩;(exact Sw _ (SE _)));clear hK K)
 open auQ in exact ET):P:=h
theorem axH(h:P:=by
 open auC in exact OM):P:=h
theorem akh(h:P:=by
 open ar5 in exact agz):P:=h
theorem abp(h:P:=by
 go_wp2_with fail;refine H.mono ?_;rintro e w1 ⟨a1,c1,g,hg,rfl,hblk,hb⟩;have HK:=Hq hblk;have HB:=Hq hb;clear hblk hb;go_wp2_with fail;go_ret2
 exact⟨_,_,g,hg,rfl,HK,HB⟩):P:=h
theorem aki(h:P:=by
 open asx in exact agG):P:=h
theorem axI(h:P:=by
 open aoP in exact awK):P:=h
theorem axJ(h:P:=by
 subst hx;by_cases hx:x3=y3
 case' neg=>
  have hq:(x3 == y3)=false:=Aag
  exact abm
 subst hx;have HT2:=Hq (HE rfl);clear HE HD;go_upto_region 6 with fail;go_quiet (fail);go_wp2_with fail;go_roundw
 case rel=>exact⟨k+1,Aaa,Aaf,fG _ aY,HT2⟩
 case measure=>simp[intOf];omega):P:=h
theorem axK(h:P:=by
 obtain⟨k,hk,rfl,rfl,rfl⟩:=hrel;have hb:=Mth.sums_lt (s.data.toList.take k);by_cases hlt:k < s.size
 .have HS:Hid (Mth.sums (s.data.toList.take (k+1))=Mth.sumStep (Mth.sums (s.data.toList.take k)) s[k]):=by rw [Mth.take_snoc s k hlt];exact Mth.sums_snoc _ _
  have hc:s[k].toNat < 256:=s[k].toNat_lt;go_wp2
  go_round
  case rel=>exact⟨k+1,Aaa,Aaf,by rw [HS.out];simp[Mth.sumStep],by rw [HS.out];simp[Mth.sumStep]⟩
  case measure=>simp[intOf];omega
 .rw [Mth.take_all s k hlt];rw [Mth.take_all s k hlt] at hb;go_wp2
  go_ret;exact⟨mD Aaa,rfl⟩):P:=h
theorem axL(h:P:=by
 rcases hcase with rfl|⟨r0,r1,hqq⟩
 .go_wp2_with fail;go_ret;exact⟨-1,rfl,.inl rfl,fI⟩
 .have hn2:decide (r < 0)=false:=aEN Aaa;have HQQ:=Hq hqq;clear hqq;go_wp2_with fail;go_roundw
  case rel=>
   refine⟨k+1,r,Aaa,Aaf,rfl,Aaa,Aaa,?_,fI⟩;intro p hp;rw [ah HT] at hp;rcases aE6.1 hp with h|h
   .exact jr p h
   .rw [aE3] at h;subst h;exact HQQ
  case measure=>simp[intOf];omega):P:=h
theorem axM(h:P:=by
 have e1:(w.alloc a).heap.size=w.heap.size+1:=Aac
 have e2:((w.alloc a).alloc b).heap.size=w.heap.size+1+1:=Aac
 have h2:=aEZ ((w.alloc a).alloc b) c (w.heap.size+1) Aaa;have h3:=aEK ((w.alloc a).alloc b) c;have h4:=aEK (w.alloc a) b;have h5:=aEZ ((w.alloc a).alloc b) c w.heap.size Aaa;have h6:=aEZ (w.alloc a) b w.heap.size Aaa;rw [e2] at h3;rw [e1] at h4;exact⟨h5.trans (h6.trans (aEK w a)),h2.trans h4,h3,((au w a).alloc Aaa b).alloc Aaa c⟩):P:=h
theorem axN(h:P:=by
 open ane in exact aeE):P:=h
theorem axO(h:P:=by
 clear hr hc0 hc1 hc2;go_in
 go_wp2_with (first|(go_at_call 342;refine(HR _).mono ?_;rintro e w2 ⟨rfl,hb2⟩;have hA:=aI (aEK w _) hb2;have hB:=(au w _).trans (hb2.mono Aac);obtain⟨c0,c1,c2,c3,c4,c5⟩:=LD hA;have hz:=cK hA;clear hA hb2)|(go_at_call_of 170 I;refine(NV _).mono ?_;rintro e w1 ⟨rfl,rfl⟩)|(go_at_call_of 190 k;refine(NW _).mono ?_;rintro e w1 ⟨rfl,rfl⟩)|(go_at_call_of 170 N;refine(CY _).mono ?_;rintro e w1 ⟨rfl,rfl⟩))
 exact zT):P:=h
theorem akj(h:P:=by
 open atf in exact agP):P:=h
theorem axP(h:P:=by
 go_wp2_with fail;refine iw (λW' hW'=>?_);obtain⟨⟨r0,r1,r2,r3,r4,r5,r6,r7,r8,r9,r10⟩,_⟩:=aJ (show W'.heap[w.heap.size]?=some (.cells (bJ 0 0 ⟨#[]⟩ 0 0 0 0 0 0 ⟨#[]⟩ 0) 73 (0,0)) by rw [hW'];exact lF HR);have hbb:aH w W':=by rw [hW'];exact iF HB (aEM _)
 exact aET (v:= .tuple #[.agg (bJ 0 0 ⟨#[]⟩ 0 0 0 0 0 0 ⟨#[]⟩ 0),.bool false]) Acr rfl ⟨Abj,hbb⟩):P:=h
theorem XU(h:P:=by
 exact⟨0,z0 - l.length,aE1 _,rfl,Aaf,Aaa,Aaa,λp hp=>by simp at hp,aEY _ _⟩):P:=h
theorem axQ(h:P:=by
 obtain⟨s0,s1,s2,s3⟩:=tC.four gQ k Aaa;open atv in exact aaI):P:=h
theorem axR(h:P:=by
 clear hr hc2 hc3 hc4 DY;go_in
 go_wp2_with (first|(go_at_call_of 121 F;refine(H1 _).mono ?_;rintro e w1 ⟨rfl,rfl⟩)|(go_at_call_of 121 T;refine(H2 _).mono ?_;rintro e w1 ⟨rfl,rfl⟩)|(go_at_call_of 93 k;refine(CY _).mono ?_;rintro e w1 ⟨rfl,rfl⟩)|(go_at_call_of 90 N;refine(HC3 _).mono ?_;rintro e w1 ⟨rfl,rfl⟩)|(go_at_call_of 90 I;refine(HC4 _).mono ?_;rintro e w1 ⟨rfl,rfl⟩)|(go_at_call 47;refine(HC5 _).mono ?_;rintro e w1 ⟨rfl,rfl⟩))
 exact xW):P:=h
theorem axS(h:P:=by
 clear hr hc0 hc1;go_in
 go_wp2_with (first|(go_at_call 342;refine(HR _).mono ?_;rintro e w2 ⟨rfl,hb2⟩;have hA:=aI (aEK w _) hb2;have hB:=(au w _).trans (hb2.mono Aac);obtain⟨c0,c1,c2,c3⟩:=LC hA;have hz:=cK hA;clear hA hb2)|(go_at_call_of 190 k;refine(NV _).mono ?_;rintro e w1 ⟨rfl,rfl⟩)|(go_at_call_of 170 N;refine(NW _).mono ?_;rintro e w1 ⟨rfl,rfl⟩))
 exact zT):P:=h
theorem aeO(h:P:=by
 have HD:=Hq (show¬n=m from λh=>hx (by rw [h]));clear hx HZ HA HB;go_in
 go_wp2_with fail;go_ret;exact .no HD (zU _ _ _)):P:=h
theorem axT(h:P:=by
 open aA8 in exact XI):P:=h
theorem Te(h:P:=by
 go_wp2_with fail;go_ret;exact⟨_,rfl,World.ownsRow_nil _ _ _ _,aEY _ _⟩):P:=h
theorem axU(h:P:=by
 open ar4 in exact agz):P:=h
theorem BP(h:P:=by
 exact⟨0,aE1 _,rfl,aEY _ _⟩):P:=h
theorem axV(h:P:=by
 clear hr hc0;go_in
 go_wp2_with (first|(go_at_call 342;refine(HR _).mono ?_;rintro e w2 ⟨rfl,hb2⟩;have hA:=aI (aEK w _) hb2;have hB:=(au w _).trans (hb2.mono Aac);obtain⟨c0,c1,c2⟩:=cells3 hA;have hz:=cK hA;clear hA hb2)|(go_at_call_of 170 I;refine(NV _).mono ?_;rintro e w1 ⟨rfl,rfl⟩))
 exact zT):P:=h
theorem axW(h:P:=by
 go_wp2_with fail;refine(NY _ (GR.At.below HA HB1)).mono ?_;rintro e w2 ⟨v,rfl,hnn,hrow,hb2⟩;have HNN:=Hq hnn;have HR:=Hq (own_lower hrow HB1.size);have HB2:=Hq (HB1.trans (hb2.mono HB1.size));clear hrow hb2 hnn;go_wp2_with fail;refine aET (v:= .tuple #[v,.bool false]) Acs rfl ⟨v,rfl,HNN,HR,HB2⟩):P:=h
theorem aeP(h:P:=by
 go_wp2_with (go_at_call 267;refine(yZ _ _).mono ?_;rintro e w' ⟨rfl,rfl⟩)
 go_ret3
 exact⟨adl HR,rfl⟩):P:=h
theorem akk(h:P:=by
 go_wp2_with fail;refine HNN.mono ?_;rintro e w9 ⟨rfl,hb9⟩;have HKK:=Hq (HS.keep.trans (dJ.of_below hb9));clear hb9;go_wp2_with fail;exact⟨rfl,.inr ⟨hno,_,rfl⟩,HKK⟩):P:=h
theorem XV(h:P:=by
 go_wp2_with fail;go_ret;exact⟨rfl,(aEY _ _).alloc (aEM _) _⟩):P:=h
theorem aeQ(h:P:=by
 have HD:=Hq (show¬n=m from λh=>by have:=hr.2 (by rw [h]);cases this);clear hr;go_wp2_with fail;go_ret;exact .no HD HL):P:=h
theorem axX(h:P:=by
 open ate in exact agP):P:=h
theorem axY(h:P:=by
 constructor
 .intro hf;have e:l=l.take i++l[i]::l.drop (i+1):=by rw [<-aFy hi,aFE]
  have h2:(l.take i++l[i]::l.drop (i+1)).find? f=some l[i]:=by
   rw [List.find?_append,h,List.find?_cons,hf];rfl
  rw [<-e] at h2;exact h2
 .intro hf;rw [aEV hi,List.find?_append,h,List.find?_cons,hf];rfl):P:=h
theorem axZ(h:P:=by
 clear eT;refine aE0 Aab Aab ?_;repeat (first|go_big_quiet_step ((first|(go_at_call_of 47 si;exact a1 _ _)|(go_at_call 93;exact a2 _ _)|(go_at_call 90;exact a3 _ _)|(go_at_call_of 47 st;exact a4 _ _)))|quiet_step ((first|(go_at_call_of 47 si;exact a1 _ _)|(go_at_call 93;exact a2 _ _)|(go_at_call 90;exact a3 _ _)|(go_at_call_of 47 st;exact a4 _ _))))
 exact akg):P:=h
theorem ax0(h:P:=by
 clear eT;refine aE0 Aab Aab ?_;repeat (first|go_big_quiet_step ((first|(go_at_call 47;exact a1 _ _)|(go_at_call 92;exact a2 _ _)|(go_at_call 93;exact a3 _ _)|(go_at_call 90;exact a4 _ _)))|quiet_step ((first|(go_at_call 47;exact a1 _ _)|(go_at_call 92;exact a2 _ _)|(go_at_call 93;exact a3 _ _)|(go_at_call 90;exact a4 _ _))))
 exact akg):P:=h
theorem aeR(h:P:=by
 have HBAD:=Hq (oh hlt (show og l (j+1)=false by rw [ah nU];simp[iB,hA]));clear nU iE hA;exact Zk0):P:=h
theorem akl(h:P:=by
 have HN:=Hq (λw1=>aO n false w1 hn);have HP:=Hq (show R=(decide (no=0)&&true&&false&&lU ⟨mK,mF,mT,mI,mL,mk,mN⟩) by rw [<-ah HR];simp[bH,hk,hn]);exact akb):P:=h
theorem XW(h:P:=by
 exact⟨0,s,aE1 _,rfl,rfl,rfl,by rw [acV];exact HA,aA.refl _ _⟩):P:=h
theorem aeS(h:P:=by
 have HBAD:=Hq (oh hlt (show og l 0=false by rw [ah nU];simp[iB,hA]));clear nU iE hA;exact Zk0):P:=h
theorem aeT(h:P:=by
 go_wp2_with (go_at_call 187;refine(H1 _).mono ?_;rintro e w1 ⟨rfl,rfl⟩)
 go_ret;exact⟨aF HV.symm,pJ⟩):P:=h
theorem ax1(h:P:=by
 have CY:=Hq (λw1=>oz k false w1 hs hc2);clear hr hc2;go_in
 go_wp2_with (first|(go_at_call_of 121 F;refine(H1 _).mono ?_;rintro e w1 ⟨rfl,rfl⟩)|(go_at_call_of 121 T;refine(H2 _).mono ?_;rintro e w1 ⟨rfl,rfl⟩)|(go_at_call_of 93 k;refine(CY _).mono ?_;rintro e w1 ⟨rfl,rfl⟩))
 exact xW):P:=h
theorem akm(h:P:=by
 have HP:=Hq (HD Aai);clear HD HE hx;go_upto_region 6 with fail;go_quiet (fail);go_wp2_with fail;go_ret;exact .no HP (fG _ aY)):P:=h
theorem Wj(h:P:=by
 have h:=ah jr;rw [aFd] at h;exact mW.trans h):P:=h
theorem akn(h:P:=by
 have HF:Hid (TT=true):=by
  exact Wj
 go_wp2_with fail;go_ret;exact⟨aF HF.symm,aY⟩):P:=h
theorem aBT(h:P:=by
 rw [Et s a Aaa];have h:=uH hc (a+4) (s.size - (a+4)) (s.size - (a+4)) Aaa;rw [h,show a+min (s.size - a) 1006=a+4+(s.size - (a+4)) by omega]):P:=h
theorem ax2(h:P:=by
 have h2:=ih (w.setCell ⟨g,o,none⟩ v) (o+1) (λj' hj'=>by
  obtain⟨v1,hv1⟩:=h (j'+1) (by simpa using hj')
  refine⟨v1,(aFV _ _ _ _ (by simp<;>omega)).trans ?_⟩
  rw [<-hv1,show o+1+j'=o+(j'+1) by omega]) j Abe
 rw [show o+1+j=o+(j+1) by omega] at h2;exact h2):P:=h
theorem ax3(h:P:=by
 have h1:=(bE hok).1;have h2:=(bE hok).2.2.1;have h3:=wM h1;rw [xR h1,aES,aFa] at h2;have h4:=congrArg List.length h2.1;rw [aFL,qR] at h4;unfold eu at h1;simp only[aES,aFa] at h1;split at h3<;>omega):P:=h
theorem ax4(h:P:=by
 refine aGn (P:=prog) w 127 9 5 ⟨g,0,none⟩ 1 [UInt8.ofNat K.toNat] underlying127 underlying5 underlying9 ?_;intro j hj;obtain rfl:j=0:=Abe
 show w.cell? ⟨g,0,none⟩=_
 rw [hc];simp only[aGo];rw [toNat_byte _ Aaa];congr 2
 omega):P:=h
theorem ax5(h:P:=by
 clear hbad;go_in
 go_wp2_with (first|(go_at_call 266;refine(HS _).mono ?_;rintro e w1 ⟨rfl,rfl⟩;simp only[rX])|(go_at_call 267;refine(yZ _ _).mono ?_;rintro e w' ⟨rfl,rfl⟩))
 go_ret3
 exact⟨by rw [ah HR];rfl,aEY _ _⟩):P:=h
theorem ax6(h:P:=by
 clear eT;refine aE0 Aab Aab ?_;repeat (first|go_big_quiet_step ((first|(go_at_call 92;exact cN _ _)|(go_at_call 90;exact cS _ _)))|quiet_step ((first|(go_at_call 92;exact cN _ _)|(go_at_call 90;exact cS _ _))))
 exact akg):P:=h
theorem ako(h:P:=by
 have hp':tmps[p]?.getD undef= .pointer (some ⟨g,0,none⟩):=by simpa using hp
 simp[results,h,hp',asAddr,run_loadVar_mid w g 0 ty cs d hc hu hd hi]):P:=h
theorem aeU(h:P:=by
 go_wp2_with fail;go_ret;exact⟨rfl,((aEY _ _).alloc (aEM _) _).alloc Aac _⟩):P:=h
theorem Tf(h:P:=by
 simp only[aFS] at h;rw [e] at h;exact h):P:=h
theorem Tg(h:P:=by
 exact⟨0,s,aE1 _,rfl,rfl,rfl,aEY _ _⟩):P:=h
theorem ahA(h:P:=by
 open am1 in exact uz):P:=h
theorem axj(h:P:=by
 rw [Et s a Aaa];have h:=uH hc (a+4) 1002 1002 Aaa;rw [h,show a+min (s.size - a) 1006=a+4+1002 by omega]):P:=h
theorem ahB(h:P:=by
 go_wp2_with (go_at_call 47;first|(refine(nG _ _ _ _ ?_ ?_).mono ?_;omega;omega;rintro e w' ⟨rfl,rfl⟩)|(refine(qC _ _ _ _ ?_).mono ?_;omega;rintro e w' ⟨rfl,rfl⟩))
 go_ret;exact⟨aF (by rw [ah HF];simp;omega),rfl⟩):P:=h
theorem ahC(h:P:=by
 open am0 in exact uz):P:=h
theorem VW(h:P:=by
 exact(((aEY _ _).alloc (aEM _) _).alloc Aac _).alloc Aah _):P:=h
theorem ahD(h:P:=by
 clear HR;clear ho;go_in
 go_wp2_with (first|(go_at_call_of 90 no;refine(HO _).mono ?_;rintro e w1 ⟨rfl,rfl⟩))
 all_goals
  go_ret
  refine⟨aF ?_,au w _⟩
  rw [ah HP]
  simp[lU, *]):P:=h
theorem aa6(h:P:=by
 have HBAD:=Hq (oh hlt (show og l (j+1)=false by rw [ah nU];simp[hsl]));clear nU iE hsl;exact Zk0):P:=h
theorem ahE(h:P:=by
 have hA':=aFM.1 hA;have hB':=aFM.1 hB;by_cases hab:a=b
 .grind
 .have haB:a∈B:=by
   rcases aE8.1 (hs a Aac) with h|h
   .exact absurd h hab
   .exact h
  grind):P:=h
theorem ahF(h:P:=by
 have e1:(w.alloc a).heap.size=w.heap.size+1:=Aac
 have h1:=aEK w a;have h2:=aEK (w.alloc a) b;rw [e1] at h2;refine⟨?_,h2,(au w _).alloc Aac _⟩;rw [aEZ _ _ _ (by rw [e1];omega)];exact h1):P:=h
theorem ahG(h:P:=by
 rw [e0] at e2;injection e2 with e2
 injection e2 with e2 e3
 subst e2 e3;refine⟨_,?_,.inr ⟨j,_,rfl,rfl,p0⟩⟩;have h:=ah Ey j hlt;rw [ah jr] at h;exact h):P:=h
theorem ahH(h:P:=by
 have hw:Region.wanted o (yielded ops a.tmps)=true:=by simp[Region.wanted,hgd]
 rw [aE7 hw];exact wp_append_own w s x t ho base e i z size bytes ht hi hz hsize hby hzs hsz v n xs hs hown ad m c news hx hl hnews h1 h63 hbytes hbase h):P:=h
theorem ahI(h:P:=by
 open avn in exact ahd):P:=h
theorem ahJ(h:P:=by
 intro vs;induction vs with
 |nil=>intro w o _;rfl
 |cons v vs ih=>
  intro w o h;rw [aF9] at h;exact(ih (w.setCell ⟨g,o,none⟩ v) (o+1) Aaa).trans (aFV _ _ _ _ (by simp<;>omega))):P:=h
theorem ahK(h:P:=by
 go_wp2_with fail;go_quiet (fail);go_wp2_with fail;go_meet
 case rel=>exact⟨by rw [<-ah JK,ah HJ],⟨rfl,rfl,rfl,aEM _,λ_ _=>rfl⟩⟩):P:=h
theorem VY(h:P:=by
 unfold World.setCell;simp only[Array.getElem?_modify];rw [aE7 trivial,h];rfl):P:=h
theorem ahL(h:P:=by
 unfold iY at h;rcases aE6.1 h with h|h
 .exact .inr ((aGg _).mem h)
 .rcases aE8.1 h with h|h
  .exact .inl h
  .exact .inr ((aF6 _).mem (He l p.k q h))):P:=h
theorem ahM(h:P:=by
 open amZ in exact uz):P:=h
theorem ahN(h:P:=by
 open avP in exact VU):P:=h
theorem ahO(h:P:=by
 have HP:Hid (TT=false):=ah HBAD (by rw [ah BD,hbv];rfl);subst hbv;clear HBAD iE eT mW BD;go_wp2_with fail;go_ret;exact⟨aF HP.symm,zD⟩):P:=h
theorem ahP(h:P:=by
 go_wp2_with fail;refine HKP.mono ?_;rintro e wz ⟨rfl,A5,G5,c5,hfin⟩;have zH:=Hq hfin;clear hfin;go_wp2_with fail;go_ret;rw [ah HAD];exact⟨rfl,A5,G5,c5,zH⟩):P:=h
theorem ahQ(h:P:=by
 clear hbad;open avb in exact aaV):P:=h
theorem VZ(h:P:=by
 go_wp2_with fail
 all_goals
  go_ret
  exact⟨by simp[*],au w _⟩):P:=h
theorem ahR(h:P:=by
 go_in
 go_wp2_with (first|(go_at_call_of 121 F;refine(H1 _).mono ?_;rintro e w1 ⟨rfl,rfl⟩)|(go_at_call_of 121 T;refine(H2 _).mono ?_;rintro e w1 ⟨rfl,rfl⟩))
 exact xW):P:=h
theorem ahS(h:P:=by
 subst hbv;clear HBAD iE eT mW BD;go_wp2_with fail;go_roundw
 case rel=>exact⟨k+1,Aaa,Aaf,HG,ajr,zD⟩
 case measure=>simp[intOf];omega):P:=h
theorem ahT(h:P:=by
 by_cases h:0<=iZ s i
 .exact(iJ h).2.2.2.1
 .unfold iZ at h;unfold j6;cases hG:textOf s i.toNat (ig s i) with
  |none=>simp[ZN]
  |some p=>rw [hG] at h;exact absurd (by simp[Rz]) h):P:=h
theorem OQ(h:P:=by
 go_wp2_with fail;go_ret;exact .no HP (aEY _ _)):P:=h
theorem aa7(h:P:=by
 rcases aFX g w.heap.size with h'|h'
 .exact h'
 .rw [aFJ h'] at h;cases h):P:=h
theorem ahU(h:P:=by
 exact⟨e,aEU hg hk.size,λj hj=>⟨(aFq (w:=w) (hk.block g hg hne)).trans (hc j hj).1,(aGp (w:=w) (hk.block g hg hne)).trans (hc j hj).2⟩⟩):P:=h
theorem OU(h:P:=by
 repeat (refine Below.setNew ?_ Aaa)
 exact HB1):P:=h
theorem ahV(h:P:=by
 obtain⟨g',off',e,hg',hc⟩:=hat i hi;cases e
 refine⟨rfl,hg',λj hj=>⟨?_,?_⟩⟩
 .have:=hc j hj;rwa [aFz] at this
 .unfold World.frozen?;rw [hblk];simp):P:=h
theorem Wh(h:P:=by
 go_wp2_with fail;go_ret;exact⟨-1,rfl,aEY _ _,.inl rfl⟩):P:=h
theorem aa8(h:P:=by
 rintro e w' ⟨rfl,A',G',c',hW'⟩;exact⟨rfl,A',G',c',v,by rw [aFZ];exact hW'⟩):P:=h
theorem ahW(h:P:=by
 rcases aE6.1 h1 with h1|h1
 .have:=c5 x h1;omega
 .have:=c6 x h1;omega):P:=h
theorem OW(h:P:=by
 go_wp2_with fail;go_ret;exact⟨rfl,rfl⟩):P:=h
theorem ahX(h:P:=by
 generalize l[k]=y at *;go_wp2_with fail;go_round
 case rel=>exact⟨k+1,Aaa,Aaf,by rw [ah HS,ah HN];rfl⟩
 case measure=>simp[intOf];omega):P:=h
theorem ahY(h:P:=by
 have hc:∀i,w.cell? ⟨g,i,none⟩=#[v0,v1,v2,v3,v4,v5,v6,v7,v8,v9,v10][i]?:=λi=>aEW w g i _ t (0,0) h
 exact⟨hc 0,hc 1,hc 2,hc 3,hc 4,hc 5,hc 6,hc 7,hc 8,hc 9,hc 10⟩):P:=h
theorem ahZ(h:P:=by
 go_wp2_with fail;refine(HO _).mono ?_;rintro e w1 ⟨rfl,hb1⟩;have hB:=(au w _).trans (hb1.mono Aac);clear hb1 HO;go_wp2_with fail;go_ret;exact⟨rfl,hB⟩):P:=h
theorem ah0(h:P:=by
 exact aET (v:= .tuple #[.agg (bQ 0 0 0 0 0 ⟨#[]⟩ 0),.bool false]) Adb rfl ⟨Abj,hbb⟩):P:=h
theorem ah1(h:P:=by
 exact aET (v:= .tuple #[.agg (bQ 0 0 0 0 0 ⟨#[]⟩ 0),.bool false]) Adc rfl ⟨Abj,hbb⟩):P:=h
theorem axk(h:P:=by
 obtain⟨g,rest,e,hb,_⟩:=xK yu.r (show 0 < n.reqs.length by omega);exact⟨g,e,hb,λx=>by rw [show jq=some ⟨g,0,none⟩ from e];simp[Value.ownBlock,eq_comm]⟩):P:=h
theorem aa9(h:P:=by
 go_ret;exact⟨aF HN.symm,au w _⟩):P:=h
theorem OX(h:P:=by
 go_ret;exact⟨aF HP.symm,dP w _⟩):P:=h
theorem ah2(h:P:=by
 go_wp2_with fail;refine(HO _).mono ?_;rintro e w1 ⟨rfl,hb1⟩;have hB:=(au w _).trans (hb1.mono Aac);clear hb1;go_wp2_with fail;go_ret;exact⟨rfl,hB⟩):P:=h
theorem ah3(h:P:=by
 go_wp2_with fail;go_quiet (fail);go_wp2_with fail;go_meet
 case rel=>exact⟨by rw [ah HJ],⟨rfl,rfl,rfl,aEM _,λ_ _=>rfl⟩⟩):P:=h
theorem ah4(h:P:=by
 exact(aN (aN (aN (aN (aN (aN (aN (aN (aN h 0 b0) 1 b1) 2 b2) 3 b3) 4 b4) 5 b5) 6 b6) 7 b7) 8 b8).trans Aab):P:=h
theorem ah5(h:P:=by
 go_wp2_with fail;exact aET (v:= .tuple #[xE ⟨0,F,T,I,L,k,N⟩,.bool false]) Aax rfl ⟨Aav,fI⟩):P:=h
theorem ah6(h:P:=by
 go_wp2_with fail;exact aET (v:= .tuple #[xE ⟨2,F,T,I,L,k,N⟩,.bool false]) Aax rfl ⟨Aav,fI⟩):P:=h
theorem OY(h:P:=by
 exact⟨0,aE1 _,rfl,aEY _ _,rfl⟩):P:=h
theorem ah7(h:P:=by
 rcases aFX 0 w.heap.size with h'|h'
 .exact h'
 .have h:=hH;unfold Handle World.cell? at h;rw [aFJ h'] at h;cases h):P:=h
theorem ah8(h:P:=by
 rw [ej,<-hf,hu] at h2;injection e with e
 subst e;have ea:(⟨g,off,none⟩:Addr).add j=⟨g,off+j,none⟩:=by unfold Addr.add;split<;>simp_all
 rw [ea];exact h2):P:=h
theorem ah9(h:P:=by
 exact⟨e,aEU hg hs,λj hj=>⟨(aFq (w:=w) hbx).trans (hc j hj).1,(aGp (w:=w) hbx).trans (hc j hj).2⟩⟩):P:=h
theorem aia(h:P:=by
 have h:=ah jJ k hlt;have h2:=ah jr;rw [<-ah HY] at h;exact h.trans (by rw [show(λs t:Int=>iL s t)=iL from rfl,h2];rfl)):P:=h
theorem aib(h:P:=by
 intro vs;induction vs with
 |nil=>intro w o;rfl
 |cons v vs ih=>intro w o;exact(ih (w.setCell ⟨g,o,none⟩ v) (o+1)).trans (by rw [World.frozen?_setCell])):P:=h
theorem aic(h:P:=by
 generalize iZ s ((a:Int)+4)=E at *;generalize mJ (kQ (j6 s ((a:Int)+4)))=bW at *;generalize kQ (j6 s ((a:Int)+4))=nn at *;exact Zk9):P:=h
theorem aie(h:P:=by
 go_in
 go_wp2_with (go_at_call 39;refine(HI _).mono ?_;rintro e w1 ⟨rfl,rfl⟩)
 go_ret;exact⟨rfl,au w _⟩):P:=h
theorem aif(h:P:=by
 intro vs;induction vs with
 |nil=>intro w o;rfl
 |cons v vs ih=>intro w o;exact(ih (w.setCell ⟨g,o,none⟩ v) (o+1)).trans Aaq):P:=h
theorem aii(h:P:=by
 rcases Sc with h|⟨j,y,h1,h2,h3⟩
 .exact .inl h
 .exact .inr ⟨j,y,h1,h2,(hbw.cell (p:=⟨g,off+j*4,none⟩) hgw).trans h3⟩):P:=h
theorem aij(h:P:=by
 rw [aFj Aaa];unfold vF;rw [aEX e];exact hi2.keeps hkp (λx hx=>by simpa using hg4 x (jw hil x hx))):P:=h
theorem aik(h:P:=by
 go_wp2_with fail;go_quiet (fail);go_wp2_with fail;go_meet
 case rel=>exact⟨by rw [ah Sc],_,BU w1 _ _⟩):P:=h
theorem Wi(h:P:=by
 rw [h1];exact⟨h2r,by rw [aX Aaa];omega⟩):P:=h
theorem abb(h:P:=by
 go_in
 go_wp2
 go_ret;exact⟨rfl,rfl⟩):P:=h
theorem axm(h:P:=by
 have hy3:(x == par)=true:=by simp[hx3]
 have HP:=Hq (HBAD (by rw [ah iE];simp[kE,hx3]));clear HBAD iE hx3;exact aeL):P:=h
theorem axn(h:P:=by
 have hy2:(x == id)=true:=by simp[hx2]
 have HP:=Hq (HBAD (by rw [ah iE];simp[kE,hx2]));clear HBAD iE hx2;exact aeL):P:=h
theorem ail(h:P:=by
 clear HD h1;go_in
 go_wp2_with (go_at_call 170;refine(H1 _).mono ?_;rintro e w1 ⟨rfl,rfl⟩)
 exact xW):P:=h
theorem ain(h:P:=by
 clear h1 HD;go_in
 go_wp2_with (go_at_call 193;refine(H1 _).mono ?_;rintro e w9 ⟨rfl,rfl⟩)
 exact xW):P:=h
theorem aio(h:P:=by
 exact⟨0,aE1 _,rfl,by unfold tC GR.Blk;rw [aGA,aF0,Nat.sub_zero];exact aEK w _,dP w _⟩):P:=h
theorem aip(h:P:=by
 go_in
 go_wp2_with (first|(go_at_call_of 187 F;refine(H1 _).mono ?_;rintro e w1 ⟨rfl,rfl⟩))
 exact xW):P:=h
theorem aiq(h:P:=by
 rw [aGm];intro h;rw [aFB,aFB] at h;exact hp (aF3 (Array.ext' h))):P:=h
theorem air(h:P:=by
 go_in
 go_wp2_with (first|(go_at_call_of 121 F;refine(H1 _).mono ?_;rintro e w1 ⟨rfl,rfl⟩))
 exact xW):P:=h
theorem abd(h:P:=by
 go_in
 go_wp2
 go_ret;exact⟨rfl,rfl⟩):P:=h
theorem abe(h:P:=by
 go_in
 go_wp2
 go_ret;exact⟨rfl,rfl⟩):P:=h
theorem ais(h:P:=by
 have h:=(bE hok).1;unfold eu at h;simp only[aES,aFa] at h;exact aEN Aaa):P:=h
theorem ait(h:P:=by
 exact⟨0,aE1 _,rfl,by unfold GR.Blk;rw [aGA,aF0,Nat.sub_zero];exact aEK w _,dP w _⟩):P:=h
theorem aiu(h:P:=by
 refine⟨h.1,?_⟩;rcases h.2 with h2|⟨g,cap,cur,hv,hg,hr⟩
 .exact .inl h2
 .exact .inr ⟨g,cap,cur,hv,aEP hb hg,hr⟩):P:=h
theorem aiv(h:P:=by
 go_in
 go_wp2_with (go_at_call 187;refine(HA _).mono ?_;rintro e w1 ⟨rfl,rfl⟩)
 exact aa9):P:=h
theorem aiw(h:P:=by
 subst hx;by_cases hx:x2=y2
 case' neg=>
  have hq:(x2 == y2)=false:=Aag
  exact abm
 exact axJ):P:=h
theorem abf(h:P:=by
 go_in
 go_wp2
 go_ret;exact⟨rfl,rfl⟩):P:=h
theorem aix(h:P:=by
 obtain⟨g,off,e,hg,hc⟩:=h i hi;refine⟨g,off,e,hg,?_,?_,?_,?_⟩
 .simpa using hc 0 Aaa
 .grind
 .grind
 .grind):P:=h
theorem aiy(h:P:=by
 have hj9:j < 9:=(aFF.1 hj).1;rcases uY hj9 with rfl|rfl|rfl|rfl|rfl|rfl|rfl|rfl|rfl<;>exact hj):P:=h
theorem aiz(h:P:=by
 go_in
 go_wp2_with (go_at_call 122;refine HH.mono ?_;rintro e w1 ⟨rfl,rfl⟩)
 exact aa9):P:=h
theorem aiA(h:P:=by
 go_in
 go_wp2
 refine wp_loop_rounds 1 ?_;rw [rounds_succ];go_wp2
 go_ret;exact⟨rfl,rfl⟩):P:=h
theorem aiB(h:P:=by
 have hl:=aZ s;unfold kb;cases hd:s.data.toList with
 |nil=>rw [hd] at hl;simp at hl;omega
 |cons b r=>simp):P:=h
theorem aiC(h:P:=by
 rw [aFi];unfold vF;rw [aE7 rfl];exact hi.keeps hkp (λx hx=>by simpa using hgi x hx)):P:=h
theorem aiD(h:P:=by
 go_wp2_with fail;go_roundw
 case rel=>exact⟨k+1,Aaa,Aaf,HB1⟩
 case measure=>simp[intOf];omega):P:=h
theorem aiE(h:P:=by
 go_wp2_with fail;go_roundw
 case rel=>exact⟨k+1,Aaa,Aaf,HS⟩
 case measure=>simp[intOf];omega):P:=h
theorem abg(h:P:=by
 exact((aEY _ _).alloc (aEM _) _).alloc Aac _):P:=h
theorem aiF(h:P:=by
 go_wp2_with (go_at_call 47;refine(yT _ _ _ r _ h).mono ?_;rintro e w1 ⟨rfl,rfl⟩)
 go_ret;exact⟨rfl,rfl⟩):P:=h
theorem aiG(h:P:=by
 obtain⟨c0,c1,c2,c3,c4,c5,c6,c7,c8,c9⟩:=jN h.blk;clear h;go_in
 exact OW):P:=h
theorem aiH(h:P:=by
 go_round
 case rel=>exact⟨k+1,x,Aaa,Aaf,rfl,zL.symm,HV⟩
 case measure=>simp[intOf];omega):P:=h
theorem aiI(h:P:=by
 rcases hrow.2 with⟨rfl,h0⟩|⟨g,cap,cur,rfl,_⟩
 .exact⟨none,0,by rw [h0]⟩
 .exact⟨_,_,rfl⟩):P:=h
theorem aiJ(h:P:=by
 rw [aER,aER,gW,aFf,aFt,aFt];omega):P:=h
theorem Wl(h:P:=by
 simpa [aFp] using hc 1 Aaa):P:=h
theorem Wm(h:P:=by
 simpa [aFp] using hc 2 Aaa):P:=h
theorem Wn(h:P:=by
 simpa [aFp] using hc 3 Aaa):P:=h
theorem aiK(h:P:=by
 obtain⟨a,cp,he,ha⟩:=GR.own_at (enc:=aM) (sz:=4) (l:=n.out) aR h.o;cases he
 exact ha):P:=h
theorem aiL(h:P:=by
 obtain⟨a,cp,he,ha⟩:=GR.own_at (enc:=aL) (sz:=4) (l:=n.reqs) aV h.r;cases he
 exact ha):P:=h
theorem abh(h:P:=by
 simp only[aES,aFa] at h;omega):P:=h
theorem aiM(h:P:=by
 exact hk2.seen (hk1.seen hno.s hno.c4 hno.ci Aaa Aaa) hno.c4 hno.ci Aaa Aaa):P:=h
theorem aiN(h:P:=by
 have h:=ah jJ k hlt;have h2:=ah jr;rw [<-ah HY] at h;rw [h,h2];rfl):P:=h
theorem aiO(h:P:=by
 subst hji;exact hy.wpOp hi (hR.ge hx) λy hy'=>⟨hR.ge hy',wX (Ge.trans hx hy') H⟩):P:=h
theorem abj(h:P:=by
 go_ret2
 exact⟨rfl,hb1.trans (hb2.mono hb1.size)⟩):P:=h
theorem aiP(h:P:=by
 clear hf HC;go_in
 go_wp2_with fail;go_ret;exact .no HP hbz):P:=h
theorem aiQ(h:P:=by
 rw [aER,aER,aFf,aFt,h1];show _+4+_=_
 omega):P:=h
theorem aiR(h:P:=by
 go_in
 go_wp2
 go_ret;exact⟨aF HF.symm,rfl⟩):P:=h
theorem axt(h:P:=by
 have HP:=Hq (HBAD (by rw [ah iE];simp[kE,hx1]));clear HBAD iE;exact aeL):P:=h
theorem aiS(h:P:=by
 refine AZ hi h hf.symm ?_;have:=Mf hs hL;rw [hf] at this;exact this):P:=h
theorem aiT(h:P:=by
 split at h
 .omega
 .split at h
  .omega
  .split at h
   .omega
   .cases h):P:=h
theorem aiU(h:P:=by
 go_simp;go_wp2_with fail;go_ret;exact⟨rfl,A,G,c,v,by rw [aFZ];exact HZ⟩):P:=h
theorem aiV(h:P:=by
 rw [<-xP s i j k hk hlt,RH s i j k m v hk hlt hu h,Nat.mod_eq_of_lt Aaa]):P:=h
theorem aiW(h:P:=by
 rcases aE6.1 h1 with h1|h1
 .have:=c4 x h1;omega
 .exact ahW):P:=h
theorem aiX(h:P:=by
 clear hv2 hu2 hv5 hu;go_wp2
 go_ret2
 exact⟨get_none HR,aEY _ _⟩):P:=h
theorem aiY(h:P:=by
 unfold dY sRk;generalize jd (QX s n) n.seen=z at *;unfold QX sOk sPk at h;omega):P:=h
theorem abk(h:P:=by
 exact⟨0,aE1 _,rfl,rfl,aEY _ _⟩):P:=h
theorem aiZ(h:P:=by
 cases sp with
 |nil=>simp at ace;omega
 |cons s0 sp'=>exact⟨s0,sp',rfl⟩):P:=h
theorem ai0(h:P:=by
 cases v.ownBlock with
 |none=>exact .inl rfl
 |some k=>exact .inr (by intro e;cases e)):P:=h
theorem ai1(h:P:=by
 obtain⟨D,⟨es,clock,h1,h2⟩,ha⟩:=h;exact⟨D,⟨es,clock,hb.trans h1,h2⟩,ha⟩):P:=h
theorem ai2(h:P:=by
 rintro e w' ⟨rfl,rfl⟩;exact⟨rfl,A,G,c,v,by rw [aFZ];exact h⟩):P:=h
theorem abl(h:P:=by
 go_wp2_with fail;go_ret;exact⟨rfl,HB1⟩):P:=h
theorem ai3(h:P:=by
 rw [aEX Aaa,aEX ej];exact h.nd i j hi' hj hij Aaa h1 h2):P:=h
theorem ai4(h:P:=by
 exact⟨k+1,Aaa,Aaf,iK.trans ((Ge.trans Lp zN).mono iK.size)⟩):P:=h
theorem axv(h:P:=by
 show(takeN n o.m).1.id=n.id
 unfold takeN;split
 .rfl
 .split<;>rfl):P:=h
theorem ai5(h:P:=by
 have HV:=Hq (HBM (by rw [ah iE];simp[D7,h1]));exact axC):P:=h
theorem ai6(h:P:=by
 unfold dw rR at *;split at h
 .cases h
 .rename_i hc
  rw [aEX hc]):P:=h
theorem Yk0(h:P:=by
 open aBS in exact ajV):P:=h
theorem Sk0.Kk0(h:P:=by
 have HCQ:=Hq (BL.nine (aE1 _));open aBA in exact SK):P:=h
theorem Sk1.Kk0(h:P:=by
 open aBz in exact SK):P:=h
theorem Sk2.Kk0(h:P:=by
 open aBy in exact SK):P:=h
theorem Sk3.Kk0(h:P:=by
 open aBx in exact SK):P:=h
theorem Sk4.Kk0(h:P:=by
 open aBw in exact SK):P:=h
theorem Sk5.Kk0(h:P:=by
 open aBv in exact SK):P:=h
theorem Sk6.Kk0(h:P:=by
 open aBu in exact SK):P:=h
theorem Yk1(h:P:=by
 have HX:=Hq hx;have HKQ:=Hq hK;clear hx hK;generalize fD n o=TT at *;open aBd in exact aeD):P:=h
theorem Sk7.Kk1(h:P:=by
 have c0:W.cell? ⟨w2.heap.size,5,none⟩=some (.func (.func 204) #[.pointer (some ⟨wb,0,none⟩)] #[]):=aEW W _ 5 _ _ (0,0) e1;exact Zk2):P:=h
theorem Sk8.Kk1(h:P:=by
 have c0:W.cell? ⟨w2.heap.size,4,none⟩=some (.func (.func 203) #[.pointer (some ⟨wb,0,none⟩)] #[]):=aEW W _ 4 _ _ (0,0) e1;exact Zk2):P:=h
theorem Sk9.Kk1(h:P:=by
 have c0:W.cell? ⟨w2.heap.size,3,none⟩=some (.func (.func 202) #[.pointer (some ⟨wb,0,none⟩)] #[]):=aEW W _ 3 _ _ (0,0) e1;exact Zk2):P:=h
theorem aAq.Kk1(h:P:=by
 have c0:W.cell? ⟨w2.heap.size,2,none⟩=some (.func (.func 201) #[.pointer (some ⟨wb,0,none⟩)] #[]):=aEW W _ 2 _ _ (0,0) e1;exact Zk2):P:=h
theorem aAr.Kk1(h:P:=by
 have c0:W.cell? ⟨w2.heap.size,1,none⟩=some (.func (.func 200) #[.pointer (some ⟨wb,0,none⟩)] #[]):=aEW W _ 1 _ _ (0,0) e1;exact Zk2):P:=h
theorem aAs.Kk1(h:P:=by
 have c0:W.cell? ⟨w2.heap.size,0,none⟩=some (.func (.func 199) #[.pointer (some ⟨wb,0,none⟩)] #[]):=aEW W _ 0 _ _ (0,0) e1;exact Zk2):P:=h
theorem Yk2(h:P:=by
 open aoE in exact XK):P:=h
theorem aAt.Kk2(h:P:=by
 go_wp2_with fail;exact aET (v:= .tuple #[xE ⟨2,F,T,I,0,ByteArray.empty,0⟩,.bool true]) Aax rfl ⟨Aav,fI⟩):P:=h
theorem aAu.Kk2(h:P:=by
 go_wp2_with fail;exact aET (v:= .tuple #[xE ⟨2,F,T,I,0,ByteArray.empty,N⟩,.bool false]) Aax rfl ⟨Aav,fI⟩):P:=h
theorem aAv.Kk2(h:P:=by
 go_wp2_with fail;exact aET (v:= .tuple #[xE ⟨2,F,T,I,0,k,N⟩,.bool false]) Aax rfl ⟨Aav,fI⟩):P:=h
theorem aAw.Kk2(h:P:=by
 exact ah6):P:=h
theorem Yk3(h:P:=by
 open ao2 in exact awN):P:=h
theorem aAx.Kk3(h:P:=by
 obtain⟨c0,c1,c2,c3,c4,c5,c6,c7,c8⟩:=nine ku;have hml:=ay BK;have hnl:=ay ku;go_wp2_with fail;refine(HGV W2 (aEP hB HB2.size) Hy).mono ?_;open aqV in exact aw6):P:=h
theorem aAy.Kk3(h:P:=by
 obtain⟨c0,c1,c2,c3,c4,c5,c6,c7,c8⟩:=nine ku;have hml:=ay BK;have hnl:=ay ku;have pJ:=Hq (aFw (base:=W2.heap.size) (e:=145) (size:=4) W2 #[] 0 (aEM _) Aae rfl);go_wp2_with fail;clear m0 m1 m2 m3 m4 m5 m6 c0 c1 c2 c3 c4 c5 c6 c7 c8 hml hnl;go_loopw [7,8] (λv i wr=>∃(k:Nat) (a:Option Addr) (cp:Nat),k<=n.out.length/\v= .slice a (FL k).length cp/\i= .int .i64 k/\wr.ownsRow W2.heap.size 145 4 (.slice a (FL k).length cp) (FL k).length (GR.flat aM (FL k))/\aH W2 wr) (λ_ i _=>n.out.length - (intOf i).toNat)
 case atStart=>exact⟨0,some ⟨W2.heap.size,0,none⟩,0,aE1 _,by rw [ah HF0];rfl,rfl,by rw [ah HF0];exact pJ,au W2 _⟩
 case round=>
  obtain⟨k,a,cp,hk,rfl,rfl,hown,hbw⟩:=hrel;have HO:=Hq hown;have iK:=Hq hbw;have sG:=Hq (aj ku hbw);have Xv:=Hq (aj BK hbw);have HNK:=Hq (HFN k);clear hown hbw;obtain⟨m0,m1,m2,m3,m4,m5,m6⟩:=jM Xv;obtain⟨c0,c1,c2,c3,c4,c5,c6,c7,c8⟩:=nine sG;have hml:=ay Xv;have hnl:=ay sG;by_cases hlt:k < n.out.length
  .have PE:(k:Int) < (n.out.length:Int):=Aaa
   have HFK:=Hq (HFS k hlt);obtain⟨g,off,e0,hg,s0,s1,s2,s3⟩:=SentAt.four (GR.At.below Hy.at.o iK) k hlt;rw [e0] at c5;clear e0;generalize n.out[k]=sk at *;obtain⟨si,st,sk,sn⟩:=sk;dsimp only at s0 s1 s2 s3 HFK;obtain⟨FK,hFK⟩:∃FK,FL (k+1)=FK:=⟨_,rfl⟩;have HX0:=Hq hFK;rw [hFK] at HFK;clear hFK;by_cases hA:si=mI
   .by_cases hB2:st=mF
    .have HX:Hid (FK=FL k):=by unfold Hid;rw [ah HFK,aE7 ⟨hA,hB2⟩]
     have x0:(si != mI)=false:=by simp[hA]
     have x1:(st != mF)=false:=by simp[hB2]
     clear hA hB2 HFK;go_wp2_with fail;go_quiet (fail);go_wp2_with fail;go_roundw
     case rel=>exact⟨k+1,a,cp,Aaa,by rw [ah HX0,ah HX],Aaf,by rw [ah HX0,ah HX];exact HO,iK.trans (Below.mono (B:=(wr.drewN nq).heap.size) ⟨rfl,rfl,rfl,aEM _,λ_ _=>rfl⟩ iK.size)⟩
     case measure=>simp[intOf];omega
    .have HX:Hid (FK=FL k++[⟨si,st,sk,sn⟩]):=by unfold Hid;rw [ah HFK,aEX (λe=>hB2 e.2)]
     have x0:(si != mI)=false:=by simp[hA]
     have x1:(st != mF)=true:=by simpa using hB2
     clear hA hB2 HFK;exact axu
   .have HX:Hid (FK=FL k++[⟨si,st,sk,sn⟩]):=by unfold Hid;rw [ah HFK,aEX (λe=>hA e.1)]
    have x0:(si != mI)=true:=by simpa using hA
    clear hA HFK;exact axu
  .open avB in exact ahk):P:=h
theorem aAz.Kk3(h:P:=by
 obtain⟨c0,c1,c2,c3,c4,c5,c6,c7,c8⟩:=nine ku;have hml:=ay BK;have hnl:=ay ku;go_wp2_with fail;refine(OI W2 (aEP hB HB2.size) Hy).mono ?_;open aqU in exact aw6):P:=h
theorem aAA.Kk3(h:P:=by
 have hml:=ay BK;have xU:=Hq (aj mZ (au W2 (.cells #[] 70)));have N8:=Hq (Hy.kc (k:=9) (KC.of_below (au W2 (.cells #[] 70))) Aaa);have vT:=Hq (HB2.trans ((au W2 (.cells #[] 70)).mono HB2.size));obtain⟨c0,c1,c2,c3,c4,c5,c6,c7,c8⟩:=nine ku;obtain⟨⟨d0,d1,d2,d3,d4,d5,d6,d7,d8⟩,f0,f1,f2,f3,f4,f5,f6,f7,f8⟩:=iM xU;have hnl:=ay ku;open apx in exact awQ):P:=h
theorem Yk4(h:P:=by
 cases h1:decide (old+1<=si/\si<=1000000000)
 case' false=>
  have a1:=rIn si (old+1) 1000000000 false W1 h1
  have HV:=Hq (show bb=true by rw [<-ah eT];simp[h1])
  clear eT
  refine aE0 Aab Aab ?_
  repeat (first|go_big_quiet_step ((first|(go_at_call_of 47 si;exact a1 _ _)))|quiet_step ((first|(go_at_call_of 47 si;exact a1 _ _))))
  refine aFs ?_
  intro _ hw'
  obtain⟨⟨dq,osq⟩,hw''⟩:=hw'
  subst hw''
  go_wp2_with fail
  go_meet
  case rel=>exact yK
 have a1:=rIn si (old+1) 1000000000 true W1 h1;cases h2:keyOk sx.data.toList
 case' false=>
  have a2:=afN sx false W1 (aEP hks Aaj) h2
  have HV:=Hq (show bb=true by rw [<-ah eT];simp[h2])
  clear eT
  refine aE0 Aab Aab ?_
  repeat (first|go_big_quiet_step ((first|(go_at_call_of 47 si;exact a1 _ _)|(go_at_call 93;exact a2 _ _)))|quiet_step ((first|(go_at_call_of 47 si;exact a1 _ _)|(go_at_call 93;exact a2 _ _))))
  refine aFs ?_
  intro _ hw'
  obtain⟨⟨dq,osq⟩,hw''⟩:=hw'
  subst hw''
  go_wp2_with fail
  go_meet
  case rel=>exact yK
 have a2:=afN sx true W1 (aEP hks Aaj) h2;cases h3:fH sn
 case' false=>
  have a3:=Kv sn false W1 h3
  have HV:=Hq (show bb=true by rw [<-ah eT];simp[h3])
  clear eT
  refine aE0 Aab Aab ?_
  repeat (first|go_big_quiet_step ((first|(go_at_call_of 47 si;exact a1 _ _)|(go_at_call 93;exact a2 _ _)|(go_at_call 90;exact a3 _ _)))|quiet_step ((first|(go_at_call_of 47 si;exact a1 _ _)|(go_at_call 93;exact a2 _ _)|(go_at_call 90;exact a3 _ _))))
  refine aFs ?_
  intro _ hw'
  obtain⟨⟨dq,osq⟩,hw''⟩:=hw'
  subst hw''
  go_wp2_with fail
  go_meet
  case rel=>exact yK
 have a3:=Kv sn true W1 h3;cases h4:decide (0<=st/\st<=2)
 case' false=>
  have a4:=rIn st 0 2 false W1 h4
  have HV:=Hq (show bb=true by rw [<-ah eT];simp[h4])
  clear eT
  refine aE0 Aab Aab ?_
  repeat (first|go_big_quiet_step ((first|(go_at_call_of 47 si;exact a1 _ _)|(go_at_call 93;exact a2 _ _)|(go_at_call 90;exact a3 _ _)|(go_at_call_of 47 st;exact a4 _ _)))|quiet_step ((first|(go_at_call_of 47 si;exact a1 _ _)|(go_at_call 93;exact a2 _ _)|(go_at_call 90;exact a3 _ _)|(go_at_call_of 47 st;exact a4 _ _))))
  refine aFs ?_
  intro _ hw'
  obtain⟨⟨dq,osq⟩,hw''⟩:=hw'
  subst hw''
  go_wp2_with fail
  go_meet
  case rel=>exact yK
 have a4:=rIn st 0 2 true W1 h4;exact Kk4):P:=h
theorem aAB.Kk4(h:P:=by
 by_cases hp:y < si
 case' neg=>
  have hy:decide (si<=y)=true:=aEO Aaa
  have HV:=Hq (show bb=true by rw [<-ah eT];simp[hp])
  clear eT
  refine aE0 Aab Aab ?_
  repeat (first|go_big_quiet_step ((first|(go_at_call_of 47 si;exact a1 _ _)|(go_at_call 93;exact a2 _ _)|(go_at_call 90;exact a3 _ _)|(go_at_call_of 47 st;exact a4 _ _)))|quiet_step ((first|(go_at_call_of 47 si;exact a1 _ _)|(go_at_call 93;exact a2 _ _)|(go_at_call 90;exact a3 _ _)|(go_at_call_of 47 st;exact a4 _ _))))
  refine aFs ?_
  intro _ hw'
  obtain⟨⟨dq,osq⟩,hw''⟩:=hw'
  subst hw''
  go_wp2_with fail
  go_meet
  case rel=>exact yK
 have hy:decide (si<=y)=false:=aEN Aaa;have HV:=Hq (show bb=false by rw [<-ah eT];simp[h1,h2,h3,h4,hp]);exact axZ):P:=h
theorem aAC.Kk4(h:P:=by
 have HV:=Hq (show bb=false by rw [<-ah eT];simp[h1,h2,h3,h4]);exact axZ):P:=h
theorem Yk5(h:P:=by
 cases h1:decide (1<=si/\si<=next - 1)
 case' false=>
  have a1:=rIn si 1 (next - 1) false W1 h1
  have HV:=Hq (show bb=true by rw [<-ah eT];simp[h1])
  clear eT
  refine aE0 Aab Aab ?_
  repeat (first|go_big_quiet_step ((first|(go_at_call 47;exact a1 _ _)))|quiet_step ((first|(go_at_call 47;exact a1 _ _))))
  refine aFs ?_
  intro _ hw'
  obtain⟨⟨dq,osq⟩,hw''⟩:=hw'
  subst hw''
  go_wp2_with fail
  go_meet
  case rel=>exact yK
 have a1:=rIn si 1 (next - 1) true W1 h1;cases h2:NN st
 case' false=>
  have a2:=ah R7 st false W1 oF h2
  have HV:=Hq (show bb=true by rw [<-ah eT];simp[h2])
  clear eT
  refine aE0 Aab Aab ?_
  repeat (first|go_big_quiet_step ((first|(go_at_call 47;exact a1 _ _)|(go_at_call 92;exact a2 _ _)))|quiet_step ((first|(go_at_call 47;exact a1 _ _)|(go_at_call 92;exact a2 _ _))))
  refine aFs ?_
  intro _ hw'
  obtain⟨⟨dq,osq⟩,hw''⟩:=hw'
  subst hw''
  go_wp2_with fail
  go_meet
  case rel=>exact yK
 have a2:=ah R7 st true W1 oF h2;cases h3:keyOk sx.data.toList
 case' false=>
  have a3:=afN sx false W1 (aEP hks Aaj) h3
  have HV:=Hq (show bb=true by rw [<-ah eT];simp[h3])
  clear eT
  refine aE0 Aab Aab ?_
  repeat (first|go_big_quiet_step ((first|(go_at_call 47;exact a1 _ _)|(go_at_call 92;exact a2 _ _)|(go_at_call 93;exact a3 _ _)))|quiet_step ((first|(go_at_call 47;exact a1 _ _)|(go_at_call 92;exact a2 _ _)|(go_at_call 93;exact a3 _ _))))
  refine aFs ?_
  intro _ hw'
  obtain⟨⟨dq,osq⟩,hw''⟩:=hw'
  subst hw''
  go_wp2_with fail
  go_meet
  case rel=>exact yK
 have a3:=afN sx true W1 (aEP hks Aaj) h3;cases h4:fH sn
 case' false=>
  have a4:=Kv sn false W1 h4
  have HV:=Hq (show bb=true by rw [<-ah eT];simp[h4])
  clear eT
  refine aE0 Aab Aab ?_
  repeat (first|go_big_quiet_step ((first|(go_at_call 47;exact a1 _ _)|(go_at_call 92;exact a2 _ _)|(go_at_call 93;exact a3 _ _)|(go_at_call 90;exact a4 _ _)))|quiet_step ((first|(go_at_call 47;exact a1 _ _)|(go_at_call 92;exact a2 _ _)|(go_at_call 93;exact a3 _ _)|(go_at_call 90;exact a4 _ _))))
  refine aFs ?_
  intro _ hw'
  obtain⟨⟨dq,osq⟩,hw''⟩:=hw'
  subst hw''
  go_wp2_with fail
  go_meet
  case rel=>exact yK
 have a4:=Kv sn true W1 h4;exact Kk5):P:=h
theorem aAD.Kk5(h:P:=by
 by_cases hp:y < si
 case' neg=>
  have hy:decide (si<=y)=true:=aEO Aaa
  have HV:=Hq (show bb=true by rw [<-ah eT];simp[hp])
  clear eT
  refine aE0 Aab Aab ?_
  repeat (first|go_big_quiet_step ((first|(go_at_call 47;exact a1 _ _)|(go_at_call 92;exact a2 _ _)|(go_at_call 93;exact a3 _ _)|(go_at_call 90;exact a4 _ _)))|quiet_step ((first|(go_at_call 47;exact a1 _ _)|(go_at_call 92;exact a2 _ _)|(go_at_call 93;exact a3 _ _)|(go_at_call 90;exact a4 _ _))))
  refine aFs ?_
  intro _ hw'
  obtain⟨⟨dq,osq⟩,hw''⟩:=hw'
  subst hw''
  go_wp2_with fail
  go_meet
  case rel=>exact yK
 have hy:decide (si<=y)=false:=aEN Aaa;have HV:=Hq (show bb=false by rw [<-ah eT];simp[h1,h2,h3,h4,hp]);exact ax0):P:=h
theorem aAE.Kk5(h:P:=by
 have HV:=Hq (show bb=false by rw [<-ah eT];simp[h1,h2,h3,h4]);exact ax0):P:=h
theorem Yk6(h:P:=by
 have hiI:(i:Int) < (n.reqs.length:Int):=Aaa
 have amr:=Hq hrq;clear hrq;have hp:=iT hok;have Ow:=Hq (λW1 (ha:fT W1 jq n.reqs)=>Bq n (⟨a_k,rG,je,iU,jq,dz,fJ,dX,dA,dK⟩:bq) no W1 Aaa hp.1 ha);rw [hJ] at Ow;clear hp hok hJ;open asX in exact aaF):P:=h
theorem aAF.Kk6(h:P:=by
 dsimp only at q0 q1 q2 q3 h1 h2;exact aj9):P:=h
theorem aAG.Kk6(h:P:=by
 dsimp only at q0 q1 q2 q3 h1;exact aj9):P:=h
theorem aAH.Kk6(h:P:=by
 dsimp only at q0 q1 q2 q3 h1 h2 h3;exact aj9):P:=h
theorem Yk7(h:P:=by
 open aoD in exact XK):P:=h
theorem aAI.Kk7(h:P:=by
 go_wp2_with fail;exact aET (v:= .tuple #[xE ⟨0,F,T,0,0,k,N⟩,.bool true]) Aax rfl ⟨Aav,fI⟩):P:=h
theorem aAJ.Kk7(h:P:=by
 go_wp2_with fail;exact aET (v:= .tuple #[xE ⟨0,F,T,0,L,k,N⟩,.bool false]) Aax rfl ⟨Aav,fI⟩):P:=h
theorem aAK.Kk7(h:P:=by
 exact ah5):P:=h
theorem Yk8(h:P:=by
 have hiI:(i:Int) < (n.reqs.length:Int):=Aaa
 have HST:=Hq hst;have HUN:=Hq (λW (ha:aG W (some ⟨gp,0,none⟩) n.pu)=>Rv gp 0 fJ n.pu n.reqs[i].k n.reqs[i].n W (aEP hz.p Aaa) yP hz.pk (hz.rk _ (aE2 hi)) ha);unfold iV at HUN;rw [hu] at HUN;clear hR hst hz yP hu;have hp:=iT hok;have Ow:=Hq (λW1 (ha:fT W1 jq n.reqs)=>Bq n (⟨a_k,(some ⟨gp,0,none⟩),je,iU,jq,dz,fJ,dX,dA,dK⟩:bq) no W1 Aaa hp.1 ha);rw [hJ] at Ow;clear hp hok;unfold iW;have H9:=Hq h9;clear h9;have hbw0:=au w (.cells (dH n (⟨a_k,(some ⟨gp,0,none⟩),je,iU,jq,dz,fJ,dX,dA,dK⟩:bq)) 39);open asg in exact VK):P:=h
theorem aAL.Kk8(h:P:=by
 open aBN in exact awD):P:=h
theorem aAM.Kk8(h:P:=by
 open aBM in exact awD):P:=h
theorem Yk9(h:P:=by
 have HW:=Hq h;obtain⟨K,no,k,nn,⟨mK,mF,mT,mI,mL,mk,mN⟩⟩:=o;dsimp only at *;open aoM in exact XL):P:=h
theorem aAN.Kk9(h:P:=by
 go_in
 open aA7 in exact XI):P:=h
theorem aAO.Kk9(h:P:=by
 go_in
 open aA6 in exact XI):P:=h
theorem aAP.Kk9(h:P:=by
 go_in
 exact axT):P:=h
theorem aAQ.Kk9(h:P:=by
 go_in
 open aA5 in exact XI):P:=h
theorem aAR.Kk9(h:P:=by
 go_in
 open aA4 in exact XI):P:=h
theorem aAS.Kk9(h:P:=by
 go_in
 exact axT):P:=h
theorem aAT.Kk9(h:P:=by
 go_in
 open aA3 in exact XI):P:=h
theorem aww(h:P:=by
 generalize getOp (j6 s ((a:Int)+4))=oc at *;generalize j6 s ((a:Int)+4)=TX at *;obtain⟨K,no,k,n,⟨mK,mF,mT,mI,mL,mk,mN⟩⟩:=oc;go_wp2_with fail;refine(Hw _).mono ?_;rintro e w1 ⟨rfl,hb1⟩;have HB1:=Hq hb1;clear hb1;go_wp2_with fail;refine(EG _).mono ?_;rintro e w2 ⟨rfl,hb2⟩;have HB2:=Hq (HB1.trans (hb2.mono HB1.size));clear hb2 HB1;go_upto_region 6 with fail;refine wp_at (λW hW=>?_);have iK:Hid (aH wr W):=by rw [hW];exact HB2.trans ((au w2 _).mono HB2.size)
 have HOW:Hid (W.heap[w2.heap.size]?=some (.cells (bJ K no k n mK mF mT mI mL mk mN) 73 (0,0))):=by rw [hW];exact aEK w2 _
 clear hW HB2;refine I9 17 ?_;refine tk [0,1,2,3,4,5,6,7,8,9,10,11,12,13,14,15,16] ?_;iterate 11 (refine iO (λK hK=>?_);go_simp;refine hK _ ?_;clear hK K)
 (refine iO (λK hK=>?_);go_simp;first|refine hK _ ?_|(apply Exists.intro;refine⟨λ_=>?_,hK _ ?_⟩;((simp only[hw4];rw [aE7 hw5,aE7 hw6,hw7];exact⟨rfl,rfl⟩)));clear hK K)
 (refine iO (λK hK=>?_);go_simp;refine hK _ ?_;clear hK K)
 (refine iO (λK hK=>?_);go_simp;first|refine hK _ ?_|(apply Exists.intro;refine⟨λ_=>?_,hK _ ?_⟩;((first|exact(HC _).mono (λe z ⟨he,hz⟩=>⟨he,hz▸aEY _ _⟩)|exact HW _)));clear hK K)
 (refine iO (λK hK=>?_);go_simp;first|refine hK _ ?_|(apply Exists.intro;refine⟨λ_=>?_,hK _ ?_⟩;((first|exact(HC _).mono (λe z ⟨he,hz⟩=>⟨he,hz▸aEY _ _⟩)|exact HW _)));clear hK K)
 open auP in exact ET):P:=h
theorem aAU.AaD(h:P:=by
 have HOZ:=Hq (aI HOW hz);clear hz iK HOW;obtain⟨⟨c0,c1,c2,c3,c4,c5,c6,c7,c8,c9,c10⟩,_⟩:=aJ HOZ;have hzl:=cK HOZ;have ajC:=Hq (own_below HOWN uy);have ad8:=Hq (aY.trans (uy.mono aY.size));have hLl:=HS.1;go_simp;go_wp2_with (at_builtin;refine aFG _ rfl _ _ 93 rfl w.heap.size 73 i0 (.agg (bJ 0 0 ByteArray.empty 0 0 0 0 0 0 ByteArray.empty 0)) 11 104 underlying93 hi hz0 hz1 hz2 rfl Aae _ _ _ rfl (ajC.alloc _) ⟨z.heap.size,0,none⟩ 1 1 (nW ⟨K,no,k,n,⟨mK,mF,mT,mI,mL,mk,mN⟩⟩) rfl rfl ?c1 ?c2 ?c3 ?c4 ?c5 ?_)
 case c1=>exact aFA (aEK z _)
 case c2=>exact Pm _
 case c3=>unfold maxLen;omega
 case c4=>omega
 case c5=>have:=ad8.size;simp;omega
 intro v' w6 hown' hgrow _;have Oh:=Hq (GR.below_append ad8 ad8.size ajC hgrow);have aml:Hid (w6.ownsRow w.heap.size 73 11 v' (L++[(⟨K,no,k,n,⟨mK,mF,mT,mI,mL,mk,mN⟩⟩:gJ)]).length (GR.flat nW (L++[(⟨K,no,k,n,⟨mK,mF,mT,mI,mL,mk,mN⟩⟩:gJ)]))):=by rw [aER,yO];exact hown'
 clear hgrow hown' ajC ad8 aY HOWN uy HOZ c0 c1 c2 c3 c4 c5 c6 c7 c8 c9 c10;go_wp2_with fail;go_roundw
 case rel=>exact⟨E,_,rfl,aml,Oh,.inl ⟨hsm,iE⟩⟩
 case measure=>simp[intOf];omega):P:=h
theorem aAV.AaD(h:P:=by
 clear hz iK HOW;go_simp;go_wp2_with fail;exact aET (v:= .tuple #[.slice va L.length vc,.int .i64 a]) Acu rfl (J2 HOWN aY HS HST uy)):P:=h
theorem SI(h:P:=by
 refine aE0 Aab Aab ?_;repeat (first|go_big_quiet_step (exact cO _ _)|quiet_step (exact cO _ _))
 refine aFs ?_;intro _ hw';obtain⟨⟨dq,osq⟩,hw''⟩:=hw';subst hw'';have fI:=Hq (wY.trans ((aFe _ dq osq).mono wY.size));exact AaB):P:=h
theorem aAW.AaB(h:P:=by
 clear y0 y1 y2 y3 y4 cO
 all_goals
  go_wp2_with fail
  go_roundw
  case rel=>exact⟨(j+1)+1,Aaa,Aaf,Ack,fI⟩
  case measure=>simp[intOf];omega):P:=h
theorem aAX.AaB(h:P:=by
 clear y0 y1 y2 y3 cO
 all_goals
  go_wp2_with fail
  go_roundw
  case rel=>exact⟨0+1,Aaa,Aaf,Ack,fI⟩
  case measure=>simp[intOf];omega):P:=h
theorem aAY.AaB(h:P:=by
 clear y0 y1 y2 y3 cO
 all_goals
  go_wp2_with fail
  go_ret
  exact⟨aF HBAD.symm,fI⟩):P:=h
theorem aAZ.AaB(h:P:=by
 clear cO y0 y1 y2 y3 y4 y5 y6;exact ah6):P:=h
theorem aA0.AaB(h:P:=by
 clear cO y0 y1 y2 y3 y4 y5 y6;go_wp2_with fail;exact aET (v:= .tuple #[xE ⟨1,F,T,I,L,k,N⟩,.bool false]) Aax rfl ⟨Aav,fI⟩):P:=h
theorem aA1.AaB(h:P:=by
 clear cO y0 y1 y2 y3 y4 y5 y6;exact ah5):P:=h
theorem aA2.AaB(h:P:=by
 clear y0 y1 y2 y3 y4 cO
 all_goals
  go_wp2_with fail
  go_ret
  exact⟨aF HBAD.symm,fI⟩):P:=h
theorem XI(h:P:=by
 go_upto_region 1 with fail;have y7:=aEL c7;have z1:=aEL p1;clear c0 c1 c2 c3 c4 c5 c6 c7 c8 c9 p0 p1 p2 p3 p4 p5 p6 p7 p8 p9 oD;refine I9 8 ?_;refine tk [0,1,2,3,4,5,6,7] ?_;iterate 8 (refine iO (λK hK=>?_);go_simp;refine hK _ ?_;clear hK K)
 refine jf ?_;refine dS Aab (λz hz=>?_);have HZ:=Hq (HW1.step hz);have Sz:=Hq (aj wu hz);clear hz y7 z1 HW1 wu;go_simp;exact AaE):P:=h
theorem aA3.AaE(h:P:=by
 clear h hc;open apQ in exact awT):P:=h
theorem aA4.AaE(h:P:=by
 open ars in exact axc):P:=h
theorem aA5.AaE(h:P:=by
 open arq in exact axc):P:=h
theorem aA6.AaE(h:P:=by
 clear h hc;open auk in exact ag1):P:=h
theorem aA7.AaE(h:P:=by
 clear h hc he hz;open apP in exact awT):P:=h
theorem aA8.AaE(h:P:=by
 clear h hc;go_wp2_with fail;go_ret;exact⟨rfl,A,G,c,HZ⟩):P:=h
theorem aeD(h:P:=by
 have hwl:=ay h.blk;have HIO:=Hq (λw1=>P8 o w1);rw [ho] at HIO;obtain⟨K,no,k,nn,⟨mK,mF,mT,mI,mL,mk,mN⟩⟩:=o;dsimp only at *;open aoL in exact XL):P:=h
theorem aA9.AaH(h:P:=by
 obtain rfl:=ah HKQ;obtain⟨⟨p0,p1,p2,p3,p4,p5,p6,p7,p8,p9,oD⟩,_⟩:=aJ qY;have ak1:=ay qY;go_wp2_with fail;refine(HAD w2 HW2).mono ?_;rintro e w3 ⟨rfl,hb3⟩;have HW3:=Hq (HW2.step hb3);have Sy:=Hq (aj qY hb3);clear hb3 HAD;go_upto_region 4 with fail;refine wp_at (λW hW=>?_);have e1:W.heap[w3.heap.size]?=some (.cells #[.func (.func 199) #[.pointer (some ⟨wb,0,none⟩)] #[],.func (.func 200) #[.pointer (some ⟨wb,0,none⟩)] #[],.func (.func 201) #[.pointer (some ⟨wb,0,none⟩)] #[],.func (.func 202) #[.pointer (some ⟨wb,0,none⟩)] #[],.func (.func 203) #[.pointer (some ⟨wb,0,none⟩)] #[],.func (.func 204) #[.pointer (some ⟨wb,0,none⟩)] #[],.func (.func 205) #[.pointer (some ⟨wb,0,none⟩)] #[]] 227 (0,0)):=Acl
 have e2:=au w3 (.cells #[.func (.func 199) #[.pointer (some ⟨wb,0,none⟩)] #[],.func (.func 200) #[.pointer (some ⟨wb,0,none⟩)] #[],.func (.func 201) #[.pointer (some ⟨wb,0,none⟩)] #[],.func (.func 202) #[.pointer (some ⟨wb,0,none⟩)] #[],.func (.func 203) #[.pointer (some ⟨wb,0,none⟩)] #[],.func (.func 204) #[.pointer (some ⟨wb,0,none⟩)] #[],.func (.func 205) #[.pointer (some ⟨wb,0,none⟩)] #[]] 227);rw [<-hW] at e2;have HW4:=Hq (HW3.step e2);have Sb:=Hq (aj Sy e2);have c0:W.cell? ⟨w3.heap.size,6,none⟩=some (.func (.func 205) #[.pointer (some ⟨wb,0,none⟩)] #[]):=aEW W _ 6 _ _ (0,0) e1;exact Zk2):P:=h
theorem aBa.AaH(h:P:=by
 obtain⟨⟨p0,p1,p2,p3,p4,p5,p6,p7,p8,p9,oD⟩,_⟩:=aJ qY;have ak1:=ay qY;have hK6:=ah HK6;go_wp2_with fail;refine(HAD w2 HW2).mono ?_;rintro e w3 ⟨rfl,hb3⟩;have HW3:=Hq (HW2.step hb3);clear hb3 p0 p1 p2 p3 p4 p5 p6 p7 p8 p9 oD HAD;go_wp2_with fail;go_ret;exact⟨rfl,A,G,c,v,by rw [aFZ];exact HW3⟩):P:=h
theorem aBb.AaH(h:P:=by
 go_wp2_with fail;go_ret;exact⟨rfl,A,G,c,v,by rw [aFZ];exact HW2⟩):P:=h
theorem aBd.AaH(h:P:=by
 obtain rfl:=ah HKQ;obtain⟨⟨p0,p1,p2,p3,p4,p5,p6,p7,p8,p9,oD⟩,_⟩:=aJ qY;have ak1:=ay qY;go_upto_region 4 with fail;refine wp_at (λW hW=>?_);have e1:W.heap[w2.heap.size]?=some (.cells #[.func (.func 199) #[.pointer (some ⟨wb,0,none⟩)] #[],.func (.func 200) #[.pointer (some ⟨wb,0,none⟩)] #[],.func (.func 201) #[.pointer (some ⟨wb,0,none⟩)] #[],.func (.func 202) #[.pointer (some ⟨wb,0,none⟩)] #[],.func (.func 203) #[.pointer (some ⟨wb,0,none⟩)] #[],.func (.func 204) #[.pointer (some ⟨wb,0,none⟩)] #[],.func (.func 205) #[.pointer (some ⟨wb,0,none⟩)] #[]] 227 (0,0)):=Acl
 have e2:=au w2 (.cells #[.func (.func 199) #[.pointer (some ⟨wb,0,none⟩)] #[],.func (.func 200) #[.pointer (some ⟨wb,0,none⟩)] #[],.func (.func 201) #[.pointer (some ⟨wb,0,none⟩)] #[],.func (.func 202) #[.pointer (some ⟨wb,0,none⟩)] #[],.func (.func 203) #[.pointer (some ⟨wb,0,none⟩)] #[],.func (.func 204) #[.pointer (some ⟨wb,0,none⟩)] #[],.func (.func 205) #[.pointer (some ⟨wb,0,none⟩)] #[]] 227);rw [<-hW] at e2;have HW4:=Hq (HW2.step e2);have Sb:=Hq (aj qY e2);exact Kk1):P:=h
theorem ES(h:P:=by
 rw [hop] at EG;unfold jP at EG;clear hop;have NY:=Hq (λW (h:aH w W)=>mG n A W hz (ha.below h));clear hz ha hok;go_in
 go_upto_region 2 with fail;refine wp_at (λW1 hW=>?_);exact AaA):P:=h
theorem aBe.AaA(h:P:=by
 open aqX in exact aw7):P:=h
theorem aBf.AaA(h:P:=by
 obtain⟨e1,e2,e3,e4⟩:=gu w (.cells (dH n A) 39) (.cells (bJ 2 no k nn mK mF mT mI mL mk mN) 73) (.cells kR 39);have hsz:(((w.alloc (.cells (dH n A) 39)).alloc (.cells (bJ 2 no k nn mK mF mT mI mL mk mN) 73)).alloc (.cells kR 39)).heap.size=w.heap.size+3:=Aac
 generalize hW0:((w.alloc (.cells (dH n A) 39)).alloc (.cells (bJ 2 no k nn mK mF mT mI mL mk mN) 73)).alloc (.cells kR 39)=W0 at *;exact Zk6):P:=h
theorem aBg.AaA(h:P:=by
 obtain⟨e1,e2,e3,e4⟩:=gu w (.cells (dH n A) 39) (.cells (bJ 1 no k nn mK mF mT mI mL mk mN) 73) (.cells kR 39);have hsz:(((w.alloc (.cells (dH n A) 39)).alloc (.cells (bJ 1 no k nn mK mF mT mI mL mk mN) 73)).alloc (.cells kR 39)).heap.size=w.heap.size+3:=Aac
 generalize hW0:((w.alloc (.cells (dH n A) 39)).alloc (.cells (bJ 1 no k nn mK mF mT mI mL mk mN) 73)).alloc (.cells kR 39)=W0 at *;exact Zk6):P:=h
theorem aBh.AaA(h:P:=by
 open aqZ in exact aw8):P:=h
theorem aBi.AaA(h:P:=by
 obtain⟨e1,e2,e3,e4⟩:=gu w (.cells (dH n A) 39) (.cells (bJ 6 no k nn mK mF mT mI mL mk mN) 73) (.cells kR 39);have hsz:(((w.alloc (.cells (dH n A) 39)).alloc (.cells (bJ 6 no k nn mK mF mT mI mL mk mN) 73)).alloc (.cells kR 39)).heap.size=w.heap.size+3:=Aac
 generalize hW0:((w.alloc (.cells (dH n A) 39)).alloc (.cells (bJ 6 no k nn mK mF mT mI mL mk mN) 73)).alloc (.cells kR 39)=W0 at *;exact Zk8):P:=h
theorem aBj.AaA(h:P:=by
 open aqY in exact aw8):P:=h
theorem aBk.AaA(h:P:=by
 open arb in exact aw9):P:=h
theorem aBl.AaA(h:P:=by
 open arf in exact axa):P:=h
theorem aBm.AaA(h:P:=by
 obtain⟨e1,e2,e3,e4⟩:=gu w (.cells (dH n A) 39) (.cells (bJ 5 no k nn mK mF mT mI mL mk mN) 73) (.cells kR 39);have hsz:(((w.alloc (.cells (dH n A) 39)).alloc (.cells (bJ 5 no k nn mK mF mT mI mL mk mN) 73)).alloc (.cells kR 39)).heap.size=w.heap.size+3:=Aac
 generalize hW0:((w.alloc (.cells (dH n A) 39)).alloc (.cells (bJ 5 no k nn mK mF mT mI mL mk mN) 73)).alloc (.cells kR 39)=W0 at *;open Sk1 in exact Yk0):P:=h
theorem aBn.AaA(h:P:=by
 open ara in exact aw9):P:=h
theorem aBo.AaA(h:P:=by
 open ard in exact axa):P:=h
theorem ajU(h:P:=by
 go_wp2_with fail;refine wp_region_quiet_lit Aab Aab ?_;repeat (first|go_big_quiet_step ((first|(go_at_call 93;exact azB _ _ hks hkb' _ _)|(go_at_call_of 91 (IntKind.i64.wrap (pf+ps));exact qAm _ _ g4 _ _)|(go_at_call_of 91 (pf+ps);exact qAm _ _ g5 _ _)|(go_at_call_of 91 pm;exact qAm _ _ g1 _ _)|(go_at_call_of 91 pf;exact qAm _ _ g2 _ _)|(go_at_call_of 91 ps;exact qAm _ _ g3 _ _)))|quiet_step ((first|(go_at_call 93;exact azB _ _ hks hkb' _ _)|(go_at_call_of 91 (IntKind.i64.wrap (pf+ps));exact qAm _ _ g4 _ _)|(go_at_call_of 91 (pf+ps);exact qAm _ _ g5 _ _)|(go_at_call_of 91 pm;exact qAm _ _ g1 _ _)|(go_at_call_of 91 pf;exact qAm _ _ g2 _ _)|(go_at_call_of 91 ps;exact qAm _ _ g3 _ _))))
 refine aFs ?_;intro _ hw';obtain⟨nq,hw''⟩:=hw';subst hw'';go_wp2_with fail;exact AaC):P:=h
theorem aBp.AaC(h:P:=by
 go_roundw
 case rel=>exact⟨(j+1)+1,Aaa,Aaf,Ack,(aY.alloc aY.size _).trans ⟨rfl,rfl,rfl,aEM _,λ_ _=>rfl⟩⟩
 case measure=>simp[intOf];omega):P:=h
theorem aBq.AaC(h:P:=by
 go_roundw
 case rel=>exact⟨0+1,Aaa,Aaf,Ack,(aY.alloc aY.size _).trans ⟨rfl,rfl,rfl,aEM _,λ_ _=>rfl⟩⟩
 case measure=>simp[intOf];omega):P:=h
theorem aBr.AaC(h:P:=by
 go_ret;exact⟨aF HBAD.symm,(aY.alloc aY.size _).trans ⟨rfl,rfl,rfl,aEM _,λ_ _=>rfl⟩⟩):P:=h
theorem awx(h:P:=by
 generalize Bw (tl s a)=z at *;clear e1 e2 hrs hub hsz hH hcap;generalize mJ (kQ (Ei (tl s a)))=bW at *;generalize kQ (Ei (tl s a))=n at *;generalize s.extract a (a+4)=hd at *;have HQ:=Hq hq;clear hn hq;have hz2:¬(z < 0):=Aaa
 have hz3:decide (z < 0)=false:=aEN hz2;generalize Ei (tl s a)=tx at *;generalize iI (tl s a)=rs at *;have HC:=Hq hc;clear hc;open avg in exact ahc):P:=h
theorem aBs.AaG(h:P:=by
 exact aET (v:= .tuple #[.string tx,.int .i64 (a+4+z)]) Acj rfl ⟨rfl,uy⟩):P:=h
theorem aBt.AaG(h:P:=by
 exact aET (v:= .tuple #[.string ⟨#[]⟩,.int .i64 (-1)]) Acj rfl ⟨rfl,uy⟩):P:=h
theorem SK(h:P:=by
 clear e5 hkx d0 d1 d2 d3 d4 d5 d6 d7 d8 f0 f1 f2 f3 f4 f5 f6 f7 f8 p0 p1 p2 p3 p4 p5 p6 p7 p8 p9 oD hnl hol sG Lg qx HB3 mP gQ;obtain⟨c0,c1,c2,c3,c4,c5,c6,c7,c8⟩:=nine iE;obtain⟨⟨p0,p1,p2,p3,p4,p5,p6,p7,p8,p9,oD⟩,_⟩:=aJ HOX;have hnl:=ay iE;have hol:=ay HOX;exact AaF):P:=h
theorem aBu.AaF(h:P:=by
 open apE in exact awR):P:=h
theorem aBv.AaF(h:P:=by
 go_wp2_with fail;refine(jJ X A1 G1 c (aE1 _) H9 HPR BL).mono ?_;rintro e W5 ⟨A2,rfl,hat,hb5,hap⟩;open atn in exact agR):P:=h
theorem aBw.AaF(h:P:=by
 go_wp2_with fail;refine(jJ X A1 G1 c (aE1 _) H9 HPR BL).mono ?_;rintro e W5 ⟨A2,ma,mc,rfl,hat,hmt,hb5,hap⟩;have aeb:=Hq hmt;clear hmt;open atm in exact agR):P:=h
theorem aBx.AaF(h:P:=by
 go_upto_region 23 with fail;clear p0 p1 p2 p3 p4 p5 p6 p7 p8 p9 oD hol;obtain⟨⟨d0,d1,d2,d3,d4,d5,d6,d7,d8⟩,f0,f1,f2,f3,f4,f5,f6,f7,f8⟩:=iM sD;have hrl:=ay sD;go_wp2_with fail;refine eH (u1:= .slice (some ⟨w.heap.size+1+1+1,0,none⟩) 0 0) (u2:= .int .i64 1) results99 rfl rfl rfl rfl sD (λW' e4 fq=>?_);open auY in exact ag7):P:=h
theorem aBy.AaF(h:P:=by
 go_upto_region 26 with fail;have hrx:=ay sD;have y0:=bZ (b:=w.heap.size+2) Aaa c0;have y1:=bZ (b:=w.heap.size+2) Aaa c1;have y2:=bZ (b:=w.heap.size+2) Aaa c2;have y3:=bZ (b:=w.heap.size+2) Aaa c3;have y4:=bZ (b:=w.heap.size+2) Aaa c4;have y5:=bZ (b:=w.heap.size+2) Aaa c5;have y6:=bZ (b:=w.heap.size+2) Aaa c6;have y7:=bZ (b:=w.heap.size+2) Aaa c7;have y8:=bZ (b:=w.heap.size+2) Aaa c8;have z2:=bZ (b:=w.heap.size+2) Aaa p2;have z3:=bZ (b:=w.heap.size+2) Aaa p3;have hwb:w.heap.size+2<=X.heap.size:=Aaa
 clear c0 c1 c2 c3 c4 c5 c6 c7 c8 p0 p1 p2 p3 p4 p5 p6 p7 p8 p9 oD;refine rg 12 (RB (w.heap.size+2)) 14 ?_;refine tk [0,1,2,3,4,5,6,7,8,9] ?_;iterate 10 (refine JD 20 (QS _) (λK hK=>?_);go_simp;first|refine hK _ ?_|(apply Exists.intro;refine⟨λ_=>?_,hK _ ?_⟩;rfl);clear hK K)
 refine jf ?_;clear y0 y1 y2 y3 y4 y5 y6 y7 y8 z2 z3 hwb hnl hol iE HOX;refine vH 10 11 rfl rfl Aab Aad Aad Aae Aae (λx hx=>?_) (λx hx=>?_)
 .go_simp;refine⟨(au x _).mono (by have:=hx.size;omega),?_⟩;have zC:=Hq (Ge.trans hx (au x (.cells (bQ 0 n.id n.par 0 0 k nn) 70)));have Xu:=Hq (aEK x (.cells (bQ 0 n.id n.par 0 0 k nn) 70));have hxs:=hx.size;clear hx;refine jc 11 rfl Aab Aad Aae (λy hy=>?_);have HY:=Hq (Ge.trans zC hy);have HMY:=Hq (aj Xu hy);have HRY:=Hq (aj sD HY);clear hy Xu zC;obtain⟨⟨d0,d1,d2,d3,d4,d5,d6,d7,d8⟩,f0,f1,f2,f3,f4,f5,f6,f7,f8⟩:=iM HRY;have hrl:=ay HRY;go_simp;have fq:aA [w.heap.size+2] y (GR.setW y (w.heap.size+2) 0 (dH n A1).toList):=gB (dH n A1).toList y 0;refine⟨fq.below (λx hx=>by have:x=w.heap.size+2:=Aag;omega) (by have:=ay HRY;omega),?_⟩;clear fq d0 d1 d2 d3 d4 d5 d6 d7 d8 f0 f1 f2 f3 f4 f5 f6 f7 f8 hrl;refine qb Aab (λz hz=>?_);have HRZ:=Hq (aj (GR.setW_blk (dH n A1).toList (o:=0) (xs:=kR.toList) HRY) hz);have fq:aA [w.heap.size+2] X z:=(aA.of_below HY).trans ((gB (dH n A1).toList y 0).trans (aA.of_below hz));have HMZ:=Hq (aj ((gB (dH n A1).toList y 0).obj HMY (λhm=>by have:x.heap.size=w.heap.size+2:=Aay;omega)) hz);clear hz HY HRY HMY;have hmb:w.heap.size<=x.heap.size:=Aaa
  open aoG in exact awI
 .have HRY:=Hq (aj sD hx);have hxs:=hx.size;obtain⟨⟨d0,d1,d2,d3,d4,d5,d6,d7,d8⟩,f0,f1,f2,f3,f4,f5,f6,f7,f8⟩:=iM HRY;have hrl:=ay HRY;go_simp;have hkx:aA [w.heap.size+2] x (GR.setW x (w.heap.size+2) 0 (dH n A1).toList):=gB (dH n A1).toList x 0;refine⟨hkx.below (λx hx=>by have:x=w.heap.size+2:=Aag;omega) (by have:=ay HRY;omega),?_⟩;have zx:=Hq ((aA.of_below hx).trans hkx);have HR1:=Hq (GR.setW_blk (dH n A1).toList (o:=0) (xs:=kR.toList) HRY);clear hx hkx d0 d1 d2 d3 d4 d5 d6 d7 d8 f0 f1 f2 f3 f4 f5 f6 f7 f8 hrl HRY;refine jc 10 rfl Aab Aad Aae (λy hy=>?_);go_simp;have oH:=Hq (zx.trans (aA.of_below hy));have HR2:=Hq (aj HR1 hy);clear hy zx HR1;refine⟨(au y _).mono (by have:=ay HR2;omega),?_⟩;refine qb Aab (λz hz=>?_);have HRZ:=Hq (aj (aj HR2 (au y (.cells (bQ 0 n.id n.par 0 0 k nn) 70))) hz);have fq:aA [w.heap.size+2] X z:=oH.trans ((aA.of_below (au y (.cells (bQ 0 n.id n.par 0 0 k nn) 70))).trans (aA.of_below hz));have HMZ:=Hq (aj (aEK y (.cells (bQ 0 n.id n.par 0 0 k nn) 70)) hz);have hmb:w.heap.size<=y.heap.size:=by have:=ay HR2;omega
  clear hz oH HR2;open aoF in exact awI):P:=h
theorem aBz.AaF(h:P:=by
 go_upto_region 19 with fail;open anw in exact XJ):P:=h
theorem aBA.AaF(h:P:=by
 open apD in exact awR):P:=h
theorem awy(h:P:=by
 open arF in exact aj8):P:=h
theorem aBB.AaJ(h:P:=by
 have Sz:=Hq (aj Lh hz);clear hz y0 y1 y2 y3 y4 y5 y6 y7 y8 z1 SE;go_simp;obtain⟨⟨p0,p1,p2,p3,p4,p5,p6⟩,_⟩:=eD Sz;have hBz:=ay Sz;go_wp2_with fail;refine(Iq z HZ).mono ?_;rintro e y ⟨rfl,A',G',c',v',hY⟩;have HY:=Hq hY;clear hY Iq p0 p1 p2 p3 p4 p5 p6;go_wp2_with fail;go_ret;exact⟨rfl,A',G',c',v',HY⟩):P:=h
theorem aBC.AaJ(h:P:=by
 clear hz y0 y1 y2 y3 y4 y5 y6 y7 y8 z1 SE;exact aiU):P:=h
theorem awz(h:P:=by
 cases h3:fH lo
 case' false=>
  have cS:=Kv lo false W1 h3
  have HV:=Hq (show bb=true by rw [<-ah eT];simp[h3])
  clear eT
  refine aE0 Aab Aab ?_
  repeat (first|go_big_quiet_step ((first|(go_at_call 92;exact cN _ _)|(go_at_call 90;exact cS _ _)))|quiet_step ((first|(go_at_call 92;exact cN _ _)|(go_at_call 90;exact cS _ _))))
  refine aFs ?_
  intro _ hw'
  obtain⟨⟨dq,osq⟩,hw''⟩:=hw'
  subst hw''
  go_wp2_with fail
  go_meet
  case rel=>exact yK
 have cS:=Kv lo true W1 h3;by_cases h4:ids.length<=40
 case' neg=>
  have hq:decide ((40:Int) < ids.length)=true:=aEO Aaa
  have HV:=Hq (show bb=true by rw [<-ah eT];simp[h4])
  clear eT
  refine aE0 Aab Aab ?_
  repeat (first|go_big_quiet_step ((first|(go_at_call 92;exact cN _ _)|(go_at_call 90;exact cS _ _)))|quiet_step ((first|(go_at_call 92;exact cN _ _)|(go_at_call 90;exact cS _ _))))
  refine aFs ?_
  intro _ hw'
  obtain⟨⟨dq,osq⟩,hw''⟩:=hw'
  subst hw''
  go_wp2_with fail
  go_meet
  case rel=>exact yK
 have hq:decide ((40:Int) < ids.length)=false:=aEN Aaa;exact AaI):P:=h
theorem aBD.AaI(h:P:=by
 have HV:=Hq (show bb=false by rw [<-ah eT];simp[h1,h3,h4,h2]);exact ax6):P:=h
theorem aBE.AaI(h:P:=by
 have HV:=Hq (show bb=false by rw [<-ah eT];simp[h1,h3,h4]);exact ax6):P:=h
theorem aaZ(h:P:=by
 go_upto_region 6 with fail;refine Fo.wp_at (λV hV=>?_);open auJ in exact ag3):P:=h
theorem aBF.AaM(h:P:=by
 open arv in exact axd):P:=h
theorem aBG.AaM(h:P:=by
 open aru in exact axd):P:=h
theorem aBH.AaM(h:P:=by
 open awm in exact ahw):P:=h
theorem aBI.AaM(h:P:=by
 clear hblk hV c0 c1 c2 c3;open avr in exact ahf):P:=h
theorem aBJ.AaM(h:P:=by
 clear hblk hV c0 c1 c2 c3;open avo in exact ahe):P:=h
theorem awC(h:P:=by
 have hTO:= @aFC prog 300 _ ReflectliteType.typeOf func300 Aab Aab Aab Aab;have hAT:= @aFC prog 350 _ (ReflectliteType.relation "AssignableTo" ReflectliteType.assignableTo) func350 Aab Aab Aab Aab;open awh in exact ahv):P:=h
theorem aBK.Ael(h:P:=by
 have el:=As.elemV a t (((w.alloc (.cells #[.pointer (some ⟨6,291,none⟩),.pointer (some a),.int .u64 150] 322)).alloc (.cells #[.iface 287 (.agg #[.iface 289 (.agg #[.int .i64 p])])] 287)).alloc (.cells #[.iface 289 (.agg #[.int .i64 p])] 287))
  (by rw [aE4 _ _ a Aah,aE4 _ _ a Aah,aE4 _ _ a hal];exact ha)
 have st:=As.setNo t ⟨w.heap.size+1+1+1,0,none⟩ p old ((((w.alloc (.cells #[.pointer (some ⟨6,291,none⟩),.pointer (some a),.int .u64 150] 322)).alloc (.cells #[.iface 287 (.agg #[.iface 289 (.agg #[.int .i64 p])])] 287)).alloc (.cells #[.iface 289 (.agg #[.int .i64 p])] 287)).alloc (.cells #[.int .i64 p] 289))
  (by rw [World.cell?_alloc_at _ _ _ _ Aac];rfl)
  (by rw [aE4 _ _ t Aah,aE4 _ _ t Aah,aE4 _ _ t Aah,aE4 _ _ t htl];exact ht)
  (by rw [aFN _ _ t Aah,aFN _ _ t Aah,aFN _ _ t Aah,aFN _ _ t (Nat.ne_of_lt htl)];exact hf)
 go_in
 go_wp2
 refine wp_loop_rounds 3 ?_;iterate 3 (rw [rounds_succ];go_wp2)
 go_ret;exact⟨rfl,by exact(((((aEY _ _).alloc Aaa _).alloc Aah _).alloc Aah _).alloc Aah _).setCell (aEM _) _⟩):P:=h
theorem aBL.Ael(h:P:=by
 have el:=As.elemV a t ((w.alloc (.cells #[.pointer (some ⟨6,291,none⟩),.pointer (some a),.int .u64 150] 322)).alloc (.cells #[.iface 289 (.agg #[.int .i64 p])] 287))
  (by rw [aE4 _ _ a Aah,aE4 _ _ a hal];exact ha)
 have st:=As.setNo t ⟨w.heap.size+1+1,0,none⟩ p old (((w.alloc (.cells #[.pointer (some ⟨6,291,none⟩),.pointer (some a),.int .u64 150] 322)).alloc (.cells #[.iface 289 (.agg #[.int .i64 p])] 287)).alloc (.cells #[.int .i64 p] 289))
  (by rw [World.cell?_alloc_at _ _ _ _ Aac];rfl)
  (by rw [aE4 _ _ t Aah,aE4 _ _ t Aah,aE4 _ _ t htl];exact ht)
  (by rw [aFN _ _ t Aah,aFN _ _ t Aah,aFN _ _ t (Nat.ne_of_lt htl)];exact hf)
 go_in
 go_wp2
 refine wp_loop_rounds 2 ?_;iterate 2 (rw [rounds_succ];go_wp2)
 go_ret;exact⟨rfl,by exact((((aEY _ _).alloc Aaa _).alloc Aah _).alloc Aah _).setCell (aEM _) _⟩):P:=h
theorem awD(h:P:=by
 refine I9 20 ?_;refine tk [0,1,2,3,4,5,6,7,8,9,10,11,12,13] ?_;iterate 14 (refine iO (λK hK=>?_);go_simp;refine hK _ ?_;clear hK K)
 refine jf ?_;clear y4 y8 z1 z2;refine eZ 14 rfl Aab Aad (λx hx=>?_);go_simp;refine(HUN x (GR.At.below yu.at.p hx)).mono ?_;rintro e y ⟨v,rfl,hne,hrow,hby⟩;refine⟨hby,?_⟩;obtain⟨av,cv,rfl,_⟩:=GR.own_at (enc:=fu) (sz:=4) aP hrow;have HRW:=Hq hrow;have HXY:=Hq (Ge.trans hx hby);have hxs:=hx.size;clear hx hby hne hrow HUN;refine tk [15,16,17,18,19] ?_;iterate 5 (refine iO (λK hK=>?_);go_simp;refine hK _ ?_;clear hK K)
 refine jf ?_;refine dS Aab (λz hz=>?_);have HZ:=Hq (Ge.trans HXY hz);have HRZ:=Hq (GR.own_below HRW hz);have Ov:=Hq (aj mU HZ);have aen:=Hq (aj sD HZ);have Il:=Hq (yu.kc (k:=9) (KC.of_below HZ) Aaa);have uy:=Hq (HB1.trans (HZ.mono HB1.size));have hgz:g < z.heap.size:=aEU hg HZ.size;clear hz HXY HRW;go_simp;obtain⟨c0,c1,c2,c3,c4,c5,c6,c7,c8⟩:=nine Ov;obtain⟨⟨d0,d1,d2,d3,d4,d5,d6,d7,d8⟩,f0,f1,f2,f3,f4,f5,f6,f7,f8⟩:=iM aen;have hnl:=ay Ov;have hrl:=ay aen;exact AeI):P:=h
theorem aBM.AeI(h:P:=by
 go_wp2_with fail;refine kC results129 rfl rfl rfl aen (λW' e4 fq=>?_);have HAT:=Hq (λW'' (ho:Out c w W' W'')=>(Il.kc (k:=9) ((KC.keeps fq (λx hx=>by have:x=w.heap.size+1:=Aag;rw [this];exact aX Aaa)).trans (KC.out H9 ho)) Aaa).rm);have qZ:Hid (Below B w W'):=(uy.mono hB).trans (fq.below (λx hx=>by have:x=w.heap.size+1:=Aag;omega) (aEP hB (uy.mono hB).size));have xS:=Hq (Apart.keeps (c:=c) (Apart.of_below uy) (uy.mono hB).size fq (λx hx=>by have:x=w.heap.size+1:=Aag;omega));clear e4 fq;exact⟨(⟨a_k,(some ⟨gp,0,none⟩),je,iU,(some ⟨g,0,none⟩),dz,fJ,dX,dA,dK⟩:bq),rfl,HAT,qZ,xS⟩):P:=h
theorem aBN.AeI(h:P:=by
 have q3z:z.cell? ⟨g,i*4+3,none⟩=some (.int .i64 0):=(HZ.cell (p:=⟨g,i*4+3,none⟩) hg).trans HQ3
 have g3:z.frozen? ⟨g,i*4+3,none⟩=false:=by
  obtain⟨g',rest,e',_,hb'⟩:=xK Il.r (show 0 < n.reqs.length by omega);simp only[aGc,Addr.mk.injEq,and_true] at e';obtain rfl:=e';exact aC hb' _
 have f4n:=aC Ov 4
 have hgn:g≠w.heap.size:=λe=>by
  have h1:=Il.cr g ((hgb g).2 rfl)
  rw [e] at h1
  have h2:newC w.heap.size 9 c w.heap.size=9:=aX (aEM _)
  rw [h2] at h1
  cases h1
 have aCk:g≠w.heap.size+1:=λe=>by
  have h1:=Il.cr g ((hgb g).2 rfl)
  rw [e] at h1
  have h2:newC w.heap.size 9 c (w.heap.size+1)=9:=aX Aaa
  rw [h2] at h1
  cases h1
 go_upto_region 13 with fail;refine wp_at (λZ2 hZ=>?_);have ku:Hid (Z2.heap[w.heap.size]?=some (.cells (vW n.id n.par a_k n.kids.length dz n.next av RL.length cv je n.out.length dX iU n.seen.length dA n.old (some ⟨g,0,none⟩) n.reqs.length dK) 39 (0,0))):=by rw [hZ];exact(aE9 _ _ _ _ (Ne.symm hgn)).trans (Dl Ov)
 have mZ:Hid (Z2.heap[w.heap.size+1]?=some (.cells kR 39 (0,0))):=by rw [hZ];exact((aE9 _ _ _ _ (Ne.symm aCk)).trans (aE9 _ _ _ _ (show w.heap.size+1≠w.heap.size by omega))).trans aen
 have qj:=Il.kc (k:=9) (KC.set (g:=w.heap.size) (i:=4) (v:= .slice av RL.length cv) (aX (aEM _))) Aaa;have kB:KC (newC w.heap.size 9 c) 6 (z.setCell ⟨w.heap.size,4,none⟩ (.slice av RL.length cv)) Z2:=by rw [hZ];exact KC.set (qj.cr g ((hgb g).2 rfl))
 have hwx:w.heap.size < x.heap.size/\g < x.heap.size:=by
  have:=ay mU;omega
 have hpz:Z2.ownsRow x.heap.size 155 4 (.slice av RL.length cv) RL.length (GR.flat fu RL):=by
  rw [hZ];exact dD (dD HRZ (aA.set _) (λy hy=>by have:y=w.heap.size:=Aar;omega)) (aA.set _) (λy hy=>by have:y=g:=Aar;omega)
 have hrz:=(qj.r.stored (i*4+3) (.int .i64 2)).1;rw [Pq 2 n.reqs i hi,<-hZ] at hrz;have aan:=Hq (And.intro (kB.w qj.k qj.ck Aaa) (And.intro hpz (And.intro (kB.own qj.o qj.co Aaa) (And.intro (kB.seenQ qj.sq qj.c4 qj.ci Aaa Aaa) hrz))));have jJ:=Hq (And.intro qj.ck (And.intro qj.co (And.intro qj.c4 (And.intro qj.ci (And.intro qj.cr qj.ni)))))
 have ajt:Hid (Below B w Z2):=by
  have hg0:B<=g:=hBg;rw [hZ];exact((uy.mono hB).setCell (p:=⟨w.heap.size,4,none⟩) hB _).setCell (p:=⟨g,i*4+3,none⟩) hg0 _
 have az2:Hid (Apart c w Z2):=λx hx hc=>by
  have hxg:x≠g:=λe=>by
   have h1:=Il.cr g ((hgb g).2 rfl)
   rw [<-e,fC hx] at h1
   omega
  rw [hZ]
  exact(aE9 _ _ _ _ hxg).trans ((aE9 _ _ _ _ (Nat.ne_of_lt hx)).trans (uy.block x hx))
 clear hZ qj kB hpz hrz q3z g3 f4n c0 c1 c2 c3 c4 c5 c6 c7 c8 d0 d1 d2 d3 d4 d5 d6 d7 d8 f0 f1 f2 f3 f4 f5 f6 f7 f8 hnl hrl;obtain⟨c0,c1,c2,c3,c4,c5,c6,c7,c8⟩:=nine ku;obtain⟨⟨d0,d1,d2,d3,d4,d5,d6,d7,d8⟩,f0,f1,f2,f3,f4,f5,f6,f7,f8⟩:=iM mZ;have hnl:=ay ku;have hrl:=ay mZ;go_wp2_with fail;refine kC (u1:= .int .i64 0) results129 rfl rfl rfl mZ (λW' e4 fq=>?_)
 have HAT:=Hq (λW'' (ho:Out c w W' W'')=>(show RM W'' ⟨a_k,av,je,iU,(some ⟨g,0,none⟩),dz,cv,dX,dA,dK⟩ (eO (setPu n RL) (n.reqs.set i (pX n.reqs[i]))) from by
  have kF:KC (newC w.heap.size 9 c) 9 Z2 W'':=(KC.keeps fq (λy hy=>by have:y=w.heap.size+1:=Aar;rw [this];exact aX Aaa)).trans (KC.out H9 ho)
  have hpF:W''.ownsRow x.heap.size 155 4 (.slice av RL.length cv) RL.length (GR.flat fu RL):=by
   obtain⟨F,hk,hF⟩:=ho;exact dD (dD aan.2.1 fq (λy hy=>by have:y=w.heap.size+1:=Aar;have:=ay sD;omega)) hk (λy hy=>by have:=(hF y hy).1;have:=ay sD;omega)
  have hp9:∀g',av.map (λy=>y.block)=some g'->6 < newC w.heap.size 9 c g':=λg' hg'=>by
   have h1:=vw hpF (tq hpF hg')
   have h2:=ay sD
   rw [aX Aaa]
   omega
  have hrF:W''.ownsRow B 148 4 (.slice (some ⟨g,0,none⟩) (n.reqs.set i (pX n.reqs[i])).length dK) (n.reqs.set i (pX n.reqs[i])).length (GR.flat aL (n.reqs.set i (pX n.reqs[i]))):=by
   rw [aF1];exact kF.own aan.2.2.2.2 jJ.2.2.2.2.1 Aaa
  exact RM.of (n:=eO (setPu n RL) (n.reqs.set i (pX n.reqs[i]))) (A:=⟨a_k,av,je,iU,(some ⟨g,0,none⟩),dz,cv,dX,dA,dK⟩) (c:=newC w.heap.size 9 c) (kF.w aan.1 jJ.1 Aaa) jJ.1 (kF.seenQ aan.2.2.2.1 jJ.2.2.1 jJ.2.2.2.1 Aaa Aaa) jJ.2.2.1 jJ.2.2.2.1 jJ.2.2.2.2.2
   (GR.own_ati aP hpF) (λg' hg' _=> .inr (hp9 g' hg')) (kF.own aan.2.2.1 jJ.2.1 Aaa) (λy hy=> .inl (jJ.2.1 y hy)) hrF (λy hy=> .inl (jJ.2.2.2.2.1 y hy))
   (λg' hg' _ h6=>⟨λe=>by have:=jJ.2.1 g' e;omega,λe=>by have:=jJ.2.2.2.2.1 g' e;omega⟩) (λy hy h6=>by have:=jJ.2.1 y hy;omega)))
 have qZ:Hid (Below B w W'):=ajt.trans (fq.below (λx hx=>by have:x=w.heap.size+1:=Aag;omega) (aEP hB ajt.size));have xS:=Hq (Apart.keeps (c:=c) az2 ajt.size fq (λx hx=>by have:x=w.heap.size+1:=Aag;omega));clear e4 fq;exact⟨⟨a_k,av,je,iU,(some ⟨g,0,none⟩),dz,cv,dX,dA,dK⟩,by rw [show gM (eO (setPu n RL) (n.reqs.set i (pX n.reqs[i]))) ⟨a_k,av,je,iU,(some ⟨g,0,none⟩),dz,cv,dX,dA,dK⟩= .agg (vW n.id n.par a_k n.kids.length dz n.next av RL.length cv je n.out.length dX iU n.seen.length dA n.old (some ⟨g,0,none⟩) n.reqs.length dK) from by simp[gM,dH,eO,setPu]],HAT,qZ,xS⟩):P:=h
theorem awE(h:P:=by
 go_wp2_with (go_at_call 122;refine(ad9 _ ajw.at).mono ?_;rintro e wh ⟨rfl,rfl⟩)
 exact Adu):P:=h
theorem aBO.Adu(h:P:=by
 exact axy):P:=h
theorem aBP.Adu(h:P:=by
 refine(Sd W7 aeh.at.p).mono ?_;rintro e W8 ⟨v8,rfl,aCA,acd,IE⟩;obtain⟨av,cv,rfl,_⟩:=GR.own_at (enc:=fu) (sz:=4) aP acd;have HRW:=Hq (zO.own aP acd);have alW:=Hq (aj aae IE);have vQ:=Hq (aj rU IE);have amf:=Hq (aj aee IE);have Ir:=Hq (aj wB IE);have amA:=Hq (aj aev IE);have al9:=Hq (ajw.below IE);have ajB:=Hq (aeh.kc (k:=9) (KC.of_below IE) Aaa);have ajq:=Hq (ajp.trans (IE.mono Aaa));have ajz:=Hq (ajy.step Aaa IE);have hz8:W7.heap.size<=W8.heap.size:=IE.size;clear IE aCA acd Sd ad9 c0 c1 c2 c3 c4 c5 c6 c7 c8 m0 m1 m2 m3 m4 m5 m6 s70 s71 s72 hnl hml aCM aae rU aee wB aev ajw aeh ajp ajy;by_cases hgn:ok=true/\(bX s0 mL).length < 40
 .obtain⟨rfl,hgn⟩:=hgn;obtain rfl:=r3 hhas rfl hgn;clear r2 r3;obtain⟨c0,c1,c2,c3,c4,c5,c6,c7,c8⟩:=nine vQ;have cf:=aC vQ 4;have hnl:=ay vQ;have aCd:decide ((40:Int)<=((bX s0 mL).length:Int))=false:=aEN Aaa;go_upto_region 22 with fail;refine wp_at (λW9 hW9=>?_);have hnb:w.heap.size≠gi:=Aaa
  have WE:aA [w.heap.size] W8 W9:=by rw [hW9];exact aA.set _
  have DK:Hid (W9.heap[w.heap.size]?=some (.cells (vW n.id n.par a_k n.kids.length dz n.next av RL.length cv je n.out.length dX (some ⟨G.s,0,none⟩) n.seen.length dA n.old jq n.reqs.length dK) 39 (0,0))):=by rw [hW9];exact aN vQ 4 _
  have aef:=Hq (WE.obj amf (λhx=>Aaz));have zM:=Hq (WE.obj Ir (λhx=>Aaz));have aas:=Hq (WE.obj amA (λhx=>Aak));have alX:=Hq (WE.obj alW (λhx=>Aak));have ajx:=Hq (al9.keeps WE (λx hx hm=>by have h1:=(cu hx).1;simp at hm;omega));have aei:=Hq (ajB.kc (k:=9) (KC.keeps WE (λx hx=>by have:x=w.heap.size:=Aag;rw [this];exact Ey _ (aEM _) hnb)) Aaa);have ad7:=Hq (ajq.trans (WE.below (B:=B) (λx hx=>Aak) Aaa));have aea:=Hq (Apart.keeps (c:=c) ajz Aaa WE (λx hx=>by have:x=w.heap.size:=Aag;omega));have HP9:=Hq (HRW.keeps WE (λx hx=>Aak));have hz9:W8.heap.size<=W9.heap.size:=WE.size;clear hW9 WE HRW vQ amf Ir amA alW al9 ajB ajq ajz c0 c1 c2 c3 c4 c5 c6 c7 c8 cf hnl;obtain⟨m0,m1,m2,m3,m4,m5,m6⟩:=jM aef;have hml:=ay aef;obtain⟨pos,hpos⟩:∃pos,((bX s0 mL).takeWhile (λy=>decide (y < mI))).length=pos:=⟨_,rfl⟩;have HIN:=Hq (show lq (bX s0 mL) mI=(bX s0 mL).take pos++([mI]++(bX s0 mL).drop pos) by rw [<-hpos];exact acy _ _);have hpl:pos<=(bX s0 mL).length:=by rw [<-hpos];exact azM _ _
  have JK:=Hq hpos;clear hpos;go_upto_block 4 with fail;go_cut [14] from 15 (λj wx=>j= .int .i64 (pos:Nat)/\Ge W9 wx)
  case first=>
   go_wp2_with fail;go_loopw [14] (λj wr=>∃x q:Nat,x<=(bX s0 mL).length/\j= .int .i64 x/\(∀y (hy:y < (bX s0 mL).length),y < x->(bX s0 mL)[y] < mI)/\wr=W9.drewN q) (λj _=>(bX s0 mL).length - (intOf j).toNat)
   case atStart=>exact⟨0,0,aE1 _,rfl,λy hy h=>Aaa,rfl⟩
   case round=>
    obtain⟨x,q,hx,rfl,hlo,rfl⟩:=hrel;have HLO:=Hq hlo;clear hlo;by_cases hlt:x < (bX s0 mL).length
    .obtain⟨_,hgb,hcell⟩:=(ah ajx) x hlt;open arJ in exact agw
    .have hje:x=(bX s0 mL).length:=Aaa
     subst hje;have HJ:=Hq (adL (l:=bX s0 mL) (x:=mI) (aEM _) HLO (λh=>absurd h (Nat.lt_irrefl _)));have abW:decide (((bX s0 mL).length:Int) < ((bX s0 mL).length:Int))=false:=Aac
     exact ahK
  case rest=>
   obtain⟨rfl,hge⟩:=hcut;clear m0 m1 m2 m3 m4 m5 m6 hml;go_upto_region 25 with fail;refine wp_at (λSG aB5=>?_);subst aB5;have agm:=Hq (aj DK hge);have aai:=Hq (aj aef hge);have agq:=Hq (aj zM hge);have aap:=Hq (aj aas hge);have af7:=Hq (aj alX hge);have Vo:=Hq (ajx.below hge);have agl:=Hq (aei.kc (k:=9) (KC.of_below hge) Aaa);have af9:=Hq (ad7.trans (hge.mono Aaa));have agh:=Hq (aea.step Aaa hge);have aek:=Hq (HP9.below hge);have aEi:W9.heap.size<=SG.heap.size:=hge.size;clear hge DK aef zM aas alX ajx aei ad7 aea HP9;have ayT:=ay aap;have aDM:∀x∈fp gi (bX s0 mL),x < SG.heap.size:=XH Vo;go_cut [14] from 15 (λ_ wx=>∃g2 cq2,SG.heap.size<=g2/\wx.ownsRow SG.heap.size 3 1 (.slice (some ⟨g2,0,none⟩) ((bX s0 mL).length+1) cq2) ((bX s0 mL).length+1) (GR.flat bf (lq (bX s0 mL) mI))/\wx.heap[sb]?=some (.cells #[.int .i64 mF,.int .i64 (fQ s0 mL),.slice (some ⟨g2,0,none⟩) ((bX s0 mL).length+1) cq2] 130 (0,0))/\aA [sb] SG wx)
   case first=>
    obtain⟨m0,m1,m2,m3,m4,m5,m6⟩:=jM aai;have hml:=ay aai;have hwb:SG.heap.size<=SG.heap.size:=aEM _;have y3:=bZ hml m3;clear m0 m1 m2 m3 m4 m5 m6;have hpc:pos<=Yb:=Aaa
    have Lj:=Hq (show bC SG (some ⟨gi,0,none⟩) ((bX s0 mL).take pos) from GR.At.take Vo.at pos)
    obtain⟨AD,hAD,hDR⟩:∃AD,(if Yb=pos then some (⟨gi,0,none⟩:Addr) else some ⟨gi,pos,none⟩)=AD/\bC SG AD ((bX s0 mL).drop pos):=by
     by_cases hcz:Yb=pos
     .refine⟨_,rfl,?_⟩;rw [show(bX s0 mL).drop pos=[] by apply aF7;omega];exact GR.at_nil _ _
     .refine⟨_,rfl,?_⟩;rw [aEX hcz];have h:=GR.At.drop Vo.at pos;rw [Nat.mul_one] at h;exact h
    have HDR:=Hq hDR;clear hDR;refine rg 14 (RB SG.heap.size) 15 ?_;refine tk [1,2,3,5,6,9,10,11] ?_;iterate 8 (refine JD 20 (QS _) (λK hK=>?_);go_simp;first|refine hK _ ?_|(apply Exists.intro;refine⟨λ_=>?_,hK _ ?_⟩;rfl);clear hK K)
    refine jf ?_;clear y3;have hlt1:((bX s0 mL).take pos).length=pos:=Abk
    have akT:((bX s0 mL).drop pos).length=(bX s0 mL).length - pos:=by rw [aFt]
    have HE:=Hq (show(bX s0 mL).take pos++[mI]++(bX s0 mL).drop pos=lq (bX s0 mL) mI by rw [ah HIN,aFr]);have zL:=Hq (show(lq (bX s0 mL) mI).length=(bX s0 mL).length+1 by rw [<-ah HE];simp;omega);refine Hr (enc:=bf) (sz:=1) (e:=mI) (i:=i0) (ve:= .int .i64 mI) 0 4 7 8 12 127 131 134 135 139 133 130 138 aW Aaa (λx u hu=>by simp at hu;subst hu;rfl) underlying22 hi0 hz0 hz1' hz2 rfl Lj HDR hlt1 akT Aaa Aae Aae rfl rfl rfl Aab ⟨rfl,rfl,rfl,rfl⟩ ⟨rfl,rfl,rfl,rfl⟩ ⟨rfl,rfl,rfl,rfl⟩ ⟨rfl,rfl,rfl,rfl⟩ ⟨rfl,rfl,rfl,rfl⟩ Aab (H:=λv0 v4 v7 v8 v12 y5 hG hV=>?_);have uo:=Hq hG;rw [ah HE,ah zL] at hV
    obtain⟨g,cv,rfl,hbg⟩:∃g cv,v12= .slice (some ⟨g,0,none⟩) ((bX s0 mL).length+1) cv/\SG.heap.size<=g:=by
     rcases hV.2 with⟨_,hn⟩|⟨g,cap,_,hv,hbg,_⟩
     .omega
     .exact⟨g,cap,hv,hbg⟩
    have HV5:=Hq hV;clear hG hV;have aCP:SG.heap.size<=y5.heap.size:=uo.size;refine tk [13] ?_;open ar9 in exact agB
   case rest=>
    obtain⟨g2,cq2,hg2,hown2,ayP,Mc⟩:=hcut;have aaq:=Hq ayP;have Vr:=Hq (Mc.obj agm (λhx=>Aak));have agr:=Hq (Mc.obj agq (λhx=>Aak));have af8:=Hq (Mc.obj af7 (λhx=>Aak));have aaj:=Hq (agl.kc (k:=9) (KC.keeps Mc (λx hx=>by have:x=sb:=Aag;rw [this];exact Ey _ Aaa Aaa)) Aaa);have aga:=Hq (af9.trans (Mc.below (B:=B) (λx hx=>Aak) Aaa));have agi:=Hq (Apart.keeps (c:=c) agh Aaa Mc (λx hx=>by have:x=sb:=Aag;omega));have amm:=Hq (aek.keeps Mc (λx hx=>Aak));have aEj:SG.heap.size<=wc.heap.size:=Mc.size;have abT:(lq (bX s0 mL) mI).length=(bX s0 mL).length+1:=by rw [ah HIN];simp;omega
    have ab6:wc.ownsRow SG.heap.size 3 1 (.slice (some ⟨g2,0,none⟩) (lq (bX s0 mL) mI).length cq2) (lq (bX s0 mL) mI).length (GR.flat bf (lq (bX s0 mL) mI)):=by rw [abT];exact hown2
    have HW2:=Hq (WO.of_own (agv (l:=lq (bX s0 mL) mI) aW ab6) ab6 (λe=>by rw [e] at abT;simp at abT))
    have N9:Hid (∀g,av.map (λy=>y.block)=some g->0 < RL.length->W7.heap.size<=g/\g < SG.heap.size):=λg hg hp=>by
     obtain⟨g',off,e,hgl,_⟩:=aek.1 0 hp
     have h2:=aek.2 g' off e
     rw [e] at hg
     cases hg
     exact⟨h2,hgl⟩
    have aDL:g2 < wc.heap.size:=(hown2.lt g2 rfl).2;have akU:g2≠gi:=Aaa
    have ayF:i < (n.seen.set i ⟨mF,fQ s0 mL,bX s0 mL⟩).length:=by rw [aF1];exact hi
    have HNP:=Hq (aaj.seenPut i ayF ⟨mF,fQ s0 mL,lq (bX s0 mL) mI⟩ (some ⟨g2,0,none⟩) cq2 g2 HW2 (λx hx=>by rw [(cu hx).1];exact Ey _ Aaa akU));obtain⟨T,hT,hlT,hrT⟩:=aaj.s;obtain⟨_,_,hcT⟩:=hT i (by rw [hlT];exact ayF);open anV in exact awG
 .have hgn:ok=false\/40<=(bX s0 mL).length:=by
   cases ok
   .exact .inl rfl
   .exact .inr (by have:¬(bX s0 mL).length < 40:=λh=>hgn ⟨rfl,h⟩;omega)
  obtain rfl:=r2 hhas hgn;clear r2 r3;have hb9:=au W8 (.cells #[] 70);have DK:=Hq (aj vQ hb9);have zM:=Hq (aj Ir hb9);have aei:=Hq (ajB.kc (k:=9) (KC.of_below hb9) Aaa);have ad7:=Hq (ajq.trans (hb9.mono Aaa));have aea:=Hq (ajz.step Aaa hb9);have hz9:(W8.alloc (.cells #[] 70)).heap.size=W8.heap.size+1:=Aac
  clear hb9;obtain⟨c0,c1,c2,c3,c4,c5,c6,c7,c8⟩:=nine vQ;obtain⟨⟨d0,d1,d2,d3,d4,d5,d6,d7,d8⟩,f0,f1,f2,f3,f4,f5,f6,f7,f8⟩:=iM zM;have hnl:=ay vQ;have hrl:=ay zM;cases ok
  .exact axz
  .have h40:40<=(bX s0 mL).length:=by
    rcases hgn with h|h
    .cases h
    .exact h
   have aCd:decide ((40:Int)<=((bX s0 mL).length:Int))=true:=aEO Aaa;exact axz):P:=h
theorem ajV(h:P:=by
 have hb:=au W0 (.cells #[] 70);have hW1:W1=W0.alloc (.cells #[] 70):=by rw [hW,<-hW0]
 rw [<-hW1] at hb;have HN:=Hq (aj e1 hb);have HO:=Hq (aj e2 hb);have HR:=Hq (aj e3 hb);have HB1:=Hq (e4.trans (hb.mono e4.size));clear hW hW0 hW1 e1 e2 e3 e4 hb;obtain⟨c0,c1,c2,c3,c4,c5,c6,c7,c8⟩:=nine HN;obtain⟨⟨p0,p1,p2,p3,p4,p5,p6,p7,p8,p9,oD⟩,_⟩:=aJ HO;have hnl:=ay HN;have hol:=ay HO;go_wp2_with fail;refine(mW W1 HB1).mono ?_;rintro e W2 ⟨rfl,hb2⟩;have ku:=Hq (aj HN hb2);have Ip:=Hq (aj HO hb2);have mZ:=Hq (aj HR hb2);have HB2:=Hq (HB1.trans (hb2.mono HB1.size));clear hb2 c0 c1 c2 c3 c4 c5 c6 c7 c8 p0 p1 p2 p3 p4 p5 p6 p7 p8 p9 oD hnl hol mW HN HO HR HB1;exact Ab5):P:=h
theorem aBQ.Ab5(h:P:=by
 obtain⟨c0,c1,c2,c3,c4,c5,c6,c7,c8⟩:=nine ku;have hnl:=ay ku;go_wp2_with fail;refine(NY W2 HB2).mono ?_;rintro e W3 ⟨A1,G1,cc,rfl,hNO,hb3,_,_⟩;have qx:=Hq (aj mZ hb3);have HB3:=Hq (HB2.trans (hb3.mono HB2.size));have mP:=Hq hNO;have hrs:=ay mZ;clear hb3 hNO c0 c1 c2 c3 c4 c5 c6 c7 c8 hnl NY ku Ip mZ;exact axD):P:=h
theorem aBR.Ab5(h:P:=by
 open apW in exact awW):P:=h
theorem aBS.Ab5(h:P:=by
 open apV in exact awW):P:=h
theorem uz(h:P:=by
 have hke:k=l.length:=Aaa
 subst hke;have hnlt:decide ((l.length:Int) < (l.length:Int))=false:=Aac
 exact AaK):P:=h
theorem amP.AaK(h:P:=by
 have HX:=Hq (show aD l key=⟨key,0,0,0⟩ by
  have h:=ah HN
  rw [aFd] at h
  unfold aD
  rw [h]
  rfl)
 go_wp2_with fail;refine aET (v:= .agg (iR key 0 0 0)) (by simp[results,results159,go_sem]) rfl ⟨by rw [ah HX],?_⟩;exact(aEY _ _).alloc (aEM _) _):P:=h
theorem amQ.AaK(h:P:=by
 have h:=ah HN;rw [aFd] at h;have HF:=Hq h;clear h;go_wp2_with fail;go_ret;exact⟨aF HF.symm,rfl⟩):P:=h
theorem amR.AaK(h:P:=by
 have h:=ah HN;rw [aFd] at h;have HF:=Hq h;clear h;go_wp2_with fail;go_ret;exact⟨⟨-1,rfl,by rw [ah HF];rfl⟩,rfl⟩):P:=h
theorem amS.AaK(h:P:=by
 go_wp2_with fail;go_ret;exact⟨rfl,⟨T,I,HB,hTl,HI,HIM⟩,aY⟩):P:=h
theorem amT.AaK(h:P:=by
 have h:=ah HM;rw [aFd] at h;have HME:=Hq h;clear hm h;go_wp2_with fail;go_ret;exact⟨mD (by rw [ah HME]),aY⟩):P:=h
theorem amU.AaK(h:P:=by
 have h:=ah HM;rw [aFd] at h;have HME:=Hq h;have hS:=ah HR;rw [afB] at hS;have HS:=Hq hS;clear hm h hS;go_wp2_with fail;go_ret;exact⟨mD (by rw [ah HME]),HS,HK⟩):P:=h
theorem amV.AaK(h:P:=by
 have HX:=Hq (show aD l key=⟨key,0,0,0⟩ by
  have h:=ah HN
  rw [aFd] at h
  unfold aD
  rw [h]
  rfl)
 go_wp2_with fail;refine(jJ _).mono ?_;rintro e w1 ⟨rfl,hb1⟩;have hB:w1.heap[w.heap.size]?=some (.cells (iR ⟨#[]⟩ 0 0 0) 155 (0,0)):=by rw [hb1.block _ afk];exact Hu
 have HB:=Hq hB;have HB2:=Hq (aY.trans (hb1.mono aY.size));obtain⟨⟨r0,r1,r2,r3⟩,s0,s1,s2,s3⟩:=fP hB;clear hB hb1;go_wp2_with fail;clear r0 r1 r2 r3;refine Fo.bodyPost_at (λW' hW'=>?_);obtain⟨⟨r0,r1,r2,r3⟩,_⟩:=fP (show W'.heap[w.heap.size]?=some (.cells (iR key 0 0 0) 155 (0,0)) by rw [hW'];exact Fo.four_set HB);have hbb:aH w W':=by rw [hW'];exact Fo.four_below HB2 (aEM _)
 refine aET (v:= .agg (iR key 0 0 0)) (by simp[results,results244,go_sem,r0,r1,r2,r3]) rfl ⟨by rw [ah HX],hbb⟩):P:=h
theorem amW.AaK(h:P:=by
 go_wp2_with fail;go_ret;exact⟨a',c',g,hg,rfl,HB,aY⟩):P:=h
theorem amX.AaK(h:P:=by
 go_wp2_with fail;go_ret2
 have h:=ah HP;rw [aFd] at h;exact⟨_,_,_,rfl,h,aY⟩):P:=h
theorem amY.AaK(h:P:=by
 have Sc:=Hq (place_at l pk l.length (aEM _) jr (λh=>absurd h (Nat.lt_irrefl _))).1;exact aik):P:=h
theorem amZ.AaK(h:P:=by
 go_wp2_with fail;go_ret;exact⟨_,rfl,GR.own_below HO aY,HB1.trans (aY.mono HB1.size)⟩):P:=h
theorem am0.AaK(h:P:=by
 have HF:=Hq (Za jr);go_wp2_with fail;go_ret;exact⟨aF (by rw [ah HF];simp<;>omega),aY⟩):P:=h
theorem am1.AaK(h:P:=by
 go_wp2_with fail;go_ret;have h:=ah jr;rw [aFd] at h;exact⟨z,rfl,.inr ⟨hz0,hz1,Aaa,h⟩,aY⟩):P:=h
theorem am2.AaK(h:P:=by
 go_wp2_with fail;go_ret;have h:=ah jr;rw [aFd] at h;exact⟨z,rfl,aY,.inr ⟨hz0,hz1,Aaa,h⟩⟩):P:=h
theorem am3.AaK(h:P:=by
 have HP:=Hq (take_same HN HT);go_wp2_with fail;go_ret;exact .yes HP aY):P:=h
theorem am4.AaK(h:P:=by
 go_wp2_with fail;go_ret;exact⟨rfl,aY⟩):P:=h
theorem am5.AaK(h:P:=by
 clear hm;go_wp2_with fail;go_ret;exact⟨mD (by have:=ah HM;omega),aY⟩):P:=h
theorem am6.AaK(h:P:=by
 clear hm;go_wp2_with fail;go_ret;exact⟨mD (by have:=ah HM;omega),HR,HK⟩):P:=h
theorem am7.AaK(h:P:=by
 go_wp2_with fail;go_ret;have h:=ah HB;rw [aFd,Nat.sub_self,List.replicate_zero,aFZ] at h;exact⟨rfl,h,aY⟩):P:=h
theorem ajW(h:P:=by
 have HN:=Hq (λw1=>aO n true w1 hn);have HP:=Hq (show R=(decide (no=0)&&true&&true&&lU ⟨mK,mF,mT,mI,mL,mk,mN⟩) by rw [<-ah HR];simp[bH,hk,hn]);open avc in exact aha):P:=h
theorem am8.AcJ(h:P:=by
 have hX:W.heap[w.heap.size+1]?=some (.cells (bJ 4 0 k n 0 0 0 0 0 ⟨#[]⟩ 0) 73 (0,0)):=Abo
 have hY:W.heap[w.heap.size]?=some (.cells (bJ 4 no k n mK mF mT mI mL mk mN) 73 (0,0)):=Abp
 exact aki):P:=h
theorem am9.AcJ(h:P:=by
 have hX:W.heap[w.heap.size+1]?=some (.cells (bJ 3 0 k n 0 0 0 0 0 ⟨#[]⟩ 0) 73 (0,0)):=Abo
 have hY:W.heap[w.heap.size]?=some (.cells (bJ 3 no k n mK mF mT mI mL mk mN) 73 (0,0)):=Abp
 exact aki):P:=h
theorem ana.AcJ(h:P:=by
 have hX:W.heap[w.heap.size+1]?=some (.cells (bJ 0 0 k n 0 0 0 0 0 ⟨#[]⟩ 0) 73 (0,0)):=Abo
 have hY:W.heap[w.heap.size]?=some (.cells (bJ 0 no k n mK mF mT mI mL mk mN) 73 (0,0)):=Abp
 exact aki):P:=h
theorem aeE(h:P:=by
 have hrs:(iI (tl s a)).size<=maxLen:=by have:=tO (tl s a);rw [xQ] at this;unfold maxLen;omega
 have HG:=Hq (Mv (iI (tl s a)) 0 hrs w hH);have hub:=UD (iI (tl s a)) 0;have hsz:=tO (tl s a);have hz1:Bw (tl s a)<=1002:=by unfold Bw;omega
 have e1:j6 (iI (tl s a)) 0=Ei (tl s a):=rfl;have e2:iZ (iI (tl s a)) 0=Bw (tl s a):=rfl;rw [e1,e2] at HG;exact AbK):P:=h
theorem anb.AbK(h:P:=by
 generalize Bw (tl s a)=z at *;clear e1 e2 hrs hub hsz hH hcap hs;generalize Ei (tl s a)=tx at *;generalize iI (tl s a)=rs at *;have HC:=Hq hc;clear hc;rw [h4];clear h4;exact axA):P:=h
theorem ane.AbK(h:P:=by
 generalize Bw (tl s a)=z at *;clear e1 e2 hrs hub hsz hH hcap;generalize Ei (tl s a)=tx at *;generalize iI (tl s a)=rs at *;have HC:=Hq hc;clear hc;exact axA):P:=h
theorem anf.AbK(h:P:=by
 open asS in exact agL):P:=h
theorem ang.AbK(h:P:=by
 open asR in exact agL):P:=h
theorem ajX(h:P:=by
 open auE in exact ag2):P:=h
theorem anh.AbU(h:P:=by
 open asG in exact aaE):P:=h
theorem ani.AbU(h:P:=by
 obtain⟨g,e0,hBg,hgb⟩:∃g,jq=some ⟨g,0,none⟩/\B<=g/\(∀x,(Value.slice jq n.reqs.length dK).ownBlock=some x↔x=g):=by
  exact axk
 obtain⟨g',off,e0',hg,q0,q1,q2,q3⟩:=fT.four yu.at.r i hi;rw [e0] at e0';simp only[aGc,Addr.mk.injEq,and_true] at e0';obtain⟨rfl,rfl⟩:=e0';rw [aFz] at q0 q1 q2 q3;rw [ah HST] at q3;open asF in exact aaE):P:=h
theorem anj.AbU(h:P:=by
 obtain⟨g,off,e0,hg,q0,q1,q2,q3⟩:=fT.four yu.at.r i hi;rw [ah HST] at q3;open asE in exact aaE):P:=h
theorem aeF(h:P:=by
 have h1:uV F=true:=by unfold mV at hr;simp only[aES] at hr;exact hr.1.1
 have h2:uV T=true:=by unfold mV at hr;simp only[aES] at hr;exact hr.1.2
 have hft:¬F=T:=by unfold mV at hr;simp only[aES,aFo] at hr;exact hr.2
 have H1:=Hq (λw1=>nQ F true w1 h1);have H2:=Hq (λw1=>nQ T true w1 h2);clear h1 h2;exact AbM):P:=h
theorem ank.AbM(h:P:=by
 have HP:=Hq (show bV ⟨K,F,T,I,L,k,N⟩=false by simp[bV,hr,k0,k1,k2]);clear hr;exact ahR):P:=h
theorem anl.AbM(h:P:=by
 cases hc2:fH I
 case' false=>
  have HP:=Hq (show bV ⟨2,F,T,I,L,k,N⟩=false by simp[bV,hr,hc2]);have CY:=Hq (λw1=>eG I false w1 hc2);exact akj
 have CY:=Hq (λw1=>eG I true w1 hc2);by_cases hz:k.size=0
 case' neg=>
  have hne:k.toList.isEmpty=false:=kJ k Aaa;have HP:=Hq (show bV ⟨2,F,T,I,L,k,N⟩=false by simp[bV,hr,hc2,hz]);exact akj
 obtain rfl:=eq_empty k hz;by_cases hzN:N=0
 case' neg=>
  have HP:=Hq (show bV ⟨2,F,T,I,L,ByteArray.empty,N⟩=false by simp[bV,hr,hc2,hz,hzN]);have he:(N == 0)=false:=by simp[hzN]
  exact axX
 subst hzN;by_cases hzL:L=0
 case' neg=>
  have HP:=Hq (show bV ⟨2,F,T,I,L,ByteArray.empty,0⟩=false by simp[bV,hr,hc2,hz,hzL]);have he:(L == 0)=false:=by simp[hzL]
  exact axX
 subst hzL;have HP:=Hq (show bV ⟨2,F,T,I,0,ByteArray.empty,0⟩=true by simp[bV,hr,hc2,hz]);exact akj):P:=h
theorem anm.AbM(h:P:=by
 cases hc2:keyOk k.data.toList
 case' false=>
  have HP:=Hq (show bV ⟨1,F,T,I,L,k,N⟩=false by simp[bV,hr,hc2]);exact ax1
 have CY:=Hq (λw1=>oz k true w1 hs hc2);cases hc3:fH N
 case' false=>
  have HP:=Hq (show bV ⟨1,F,T,I,L,k,N⟩=false by simp[bV,hr,hc2,hc3]);have HC3:=Hq (λw1=>eG N false w1 hc3);exact akh
 have HC3:=Hq (λw1=>eG N true w1 hc3);cases hc4:fH I
 case' false=>
  have HP:=Hq (show bV ⟨1,F,T,I,L,k,N⟩=false by simp[bV,hr,hc2,hc3,hc4]);have HC4:=Hq (λw1=>eG I false w1 hc4);clear hr hc2 hc3 hc4;go_in
  go_wp2_with (first|(go_at_call_of 121 F;refine(H1 _).mono ?_;rintro e w1 ⟨rfl,rfl⟩)|(go_at_call_of 121 T;refine(H2 _).mono ?_;rintro e w1 ⟨rfl,rfl⟩)|(go_at_call_of 93 k;refine(CY _).mono ?_;rintro e w1 ⟨rfl,rfl⟩)|(go_at_call_of 90 N;refine(HC3 _).mono ?_;rintro e w1 ⟨rfl,rfl⟩)|(go_at_call_of 90 I;refine(HC4 _).mono ?_;rintro e w1 ⟨rfl,rfl⟩))
  exact xW
 have HC4:=Hq (λw1=>eG I true w1 hc4);cases DY:decide (1<=L/\L<=I)
 case' false=>
  have HP:=Hq (show bV ⟨1,F,T,I,L,k,N⟩=false by simp[bV,hr,hc2,hc3,hc4,DY]);have HC5:=Hq (λw1=>yT L 1 I false w1 DY);exact axR
 have HC5:=Hq (λw1=>yT L 1 I true w1 DY);have HP:=Hq (show bV ⟨1,F,T,I,L,k,N⟩=true by simp[bV,hr,hc2,hc3,hc4,DY]);exact axR):P:=h
theorem ano.AbM(h:P:=by
 cases hc2:keyOk k.data.toList
 case' false=>
  have HP:=Hq (show bV ⟨0,F,T,I,L,k,N⟩=false by simp[bV,hr,hc2]);exact ax1
 have CY:=Hq (λw1=>oz k true w1 hs hc2);cases hc3:fH N
 case' false=>
  have HP:=Hq (show bV ⟨0,F,T,I,L,k,N⟩=false by simp[bV,hr,hc2,hc3]);have HC3:=Hq (λw1=>eG N false w1 hc3);exact akh
 have HC3:=Hq (λw1=>eG N true w1 hc3);by_cases hzI:I=0
 case' neg=>
  have HP:=Hq (show bV ⟨0,F,T,I,L,k,N⟩=false by simp[bV,hr,hc2,hc3,hzI]);have he:(I == 0)=false:=by simp[hzI]
  exact axU
 subst hzI;by_cases hzL:L=0
 case' neg=>
  have HP:=Hq (show bV ⟨0,F,T,0,L,k,N⟩=false by simp[bV,hr,hc2,hc3,hzL]);have he:(L == 0)=false:=by simp[hzL]
  exact axU
 subst hzL;have HP:=Hq (show bV ⟨0,F,T,0,0,k,N⟩=true by simp[bV,hr,hc2,hc3]);exact akh):P:=h
theorem XJ(h:P:=by
 have y0:=aEL c0;have y1:=aEL c1;have y2:=aEL c2;have y3:=aEL c3;have y4:=aEL c4;have y5:=aEL c5;have y6:=aEL c6;have y7:=aEL c7;have y8:=aEL c8;exact AaX):P:=h
theorem anp.AaX(h:P:=by
 have x0:=aEL d0;have x1:=aEL d1;have x2:=aEL d2;have x3:=aEL d3;clear c0 c1 c2 c3 c4 c5 c6 c7 c8 c9 d0 d1 d2 d3 HR3;refine rg 7 Ge 8 ?_;refine tk [0,1,2,3,4,5,6] ?_;iterate 6 (refine iO (λK hK=>?_);go_simp;refine hK _ ?_;clear hK K)
 (refine iO (λK hK=>?_);go_simp;first|refine hK _ ?_|(apply Exists.intro;refine⟨λ_=>?_,hK _ ?_⟩;(exact aAg _));clear hK K)
 refine jf ?_;clear y0 y1 y2 y3 y4 y5 y6 y7 y8 x0 x1 x2 x3;refine aU Aab (λx hx=>?_);have JM:=Hq (HSY x cc vv k hk ⟨qK,qF,qT,qI,qL,qk,qN⟩ HKk (wZ.step hx));clear hx wZ;refine an 7 ?_;go_simp;refine JM.mono ?_;rintro e y ⟨rfl,c',v',hY⟩;have HY:=Hq hY;clear hY JM;refine ad ?_;go_simp;go_wp2_with fail;go_roundw
 case rel=>exact⟨k+1,c',v',Aaa,Aaf,by rw [ah HT];exact HY⟩
 case measure=>simp[intOf];omega):P:=h
theorem anq.AaX(h:P:=by
 have z1:=aEL p1;have z2:=aEL p2;clear c0 c1 c2 c3 c4 c5 c6 c7 c8 c9 p0 p1 p2 p3 p4 p5 p6 wu HW1;by_cases hT:mT=n.id
 .have hq:(mT == n.id)=true:=by simpa using hT
  have HD:=Hq (show(decide (mT=n.id)&&nb)=nb by rw [aEO hT];rfl);exact axG
 .have hq:(mT == n.id)=false:=by simpa using hT
  have HD:=Hq (show(decide (mT=n.id)&&nb)=false by rw [aEN hT];rfl);exact axG):P:=h
theorem anr.AaX(h:P:=by
 have y9:=aEL c9;have y10:=aEL c10;clear e0 e1 c0 c1 c2 c3 c4 c5 c6 c7 c8 c9 c10;generalize bH ⟨s[0].toNat,N1,TX,N2,⟨mK,mF,mT,mI,mL,mk,mN⟩⟩=bo at *;refine I9 15 ?_;refine tk [0,1,2,3,4,5,6,7,8,9,10,11,12,13,14] ?_;iterate 12 (refine iO (λK hK=>?_);go_simp;refine hK _ ?_;clear hK K)
 (refine iO (λK hK=>?_);go_simp;first|refine hK _ ?_|(apply Exists.intro;refine⟨λ_=>?_,hK _ ?_⟩;(exact mW _));clear hK K)
 open auO in exact ET):P:=h
theorem ant.AaX(h:P:=by
 have x0:=aEL s0;have x1:=aEL s1;have x2:=aEL s2;have x3:=aEL s3;have hnz:=ay Ov;have hsz:=ay ajM;clear c0 c1 c2 c3 c4 c5 c6 c7 c8 s0 s1 s2 s3;refine rg 5 Ge 8 ?_;refine tk [0,1,2] ?_;iterate 3 (refine iO (λK hK=>?_);go_simp;refine hK _ ?_;clear hK K)
 refine jf ?_;clear y0 y1 y2 y3 y4 y5 y6 y7 y8 x0 x1 x2 x3 hnz hsz Ov ajM;refine dG 3 rfl Aab Aad (λx hx=>?_);go_simp;refine(Iq x hx).mono ?_;rintro e y ⟨rfl,hby⟩;refine⟨hby,?_⟩;have HY:=Hq (Ge.trans hx hby);clear hx hby Iq;refine Vi 4 rfl rfl Aab Aad Aad Aae (λz hz=>?_) (λz hz=>?_)
 .have HZ:=Hq (Ge.trans HY hz);clear hz HY;go_simp;refine⟨au z _,?_⟩;refine aU Aab (λz2 hz2=>?_);have HZ2:=Hq (Ge.trans HZ (Ge.trans (au z _) hz2));have Vq:=Hq (aj (aEK z (.cells (bQ qK qF qT qI qL qk qN) 70)) hz2);have Oz:=Hq (aj ajJ HZ2);have hmz:w.heap.size+1 < z.heap.size:=aEU (ay ajJ) HZ.size;clear hz2;obtain⟨⟨d0,d1,d2,d3,d4,d5,d6,d7,d8⟩,f0,f1,f2,f3,f4,f5,f6,f7,f8⟩:=iM Oz;have hrl:=ay Oz;refine an 5 ?_;go_simp;refine an 6 ?_;go_simp;refine an 7 ?_;go_simp;refine ad ?_;go_simp;clear d0 d1 d2 d3 d4 d5 d6 d7 d8 f0 f1 f2 f3 f4 f5 f6 f7 f8 hrl;go_wp2_with fail;refine eH (u1:= .slice (some ⟨z.heap.size,0,none⟩) 1 1) (u2:= .int .i64 0) results132 rfl rfl rfl rfl Oz (λW' e4 fq=>?_);have HFI:=Hq (zH W' z.heap.size ((aA.of_below HZ2).trans fq) (fq.obj Vq (λhm=>by have:z.heap.size=w.heap.size+1:=Aay;omega)) Aaa);clear e4 fq;exact⟨⟨a_k,av,a6,iU,jq,dz,cv,c6,dA,dK⟩,some ⟨z.heap.size,0,none⟩,1,by rw [ah HNV],HFI.1,HFI.2.1,HFI.2.2.1,HFI.2.2.2⟩
 .have HZ:=Hq (Ge.trans HY hz);have Oz:=Hq (aj ajJ HZ);clear hz HY;obtain⟨⟨d0,d1,d2,d3,d4,d5,d6,d7,d8⟩,f0,f1,f2,f3,f4,f5,f6,f7,f8⟩:=iM Oz;have hrl:=ay Oz;go_simp;refine an 4 ?_;go_simp;refine an 6 ?_;go_simp;refine an 7 ?_;go_simp;refine ad ?_;go_simp;clear d0 d1 d2 d3 d4 d5 d6 d7 d8 f0 f1 f2 f3 f4 f5 f6 f7 f8;go_wp2_with fail;refine iy (λW' hW'=>?_)
  obtain⟨SW,hSW,hsz,hk0,e3⟩:∃SW:World,W'=SW.alloc (.cells (bQ qK qF qT qI qL qk qN) 70)/\SW.heap.size=z.heap.size/\aA [w.heap.size+1] z SW/\SW.heap[w.heap.size+1]?=some (.cells (vW n.id n.par a_k n.kids.length dz (n.next+1) av RL.length cv a6 (n.out.length+1) c6 iU n.seen.length dA n.old jq n.reqs.length dK) 39 (0,0)):=
   ⟨GR.setW z (w.heap.size+1) 0 (vW n.id n.par a_k n.kids.length dz (n.next+1) av RL.length cv a6 (n.out.length+1) c6 iU n.seen.length dA n.old jq n.reqs.length dK).toList,hW',by simp[GR.setW],gB (vW n.id n.par a_k n.kids.length dz (n.next+1) av RL.length cv a6 (n.out.length+1) c6 iU n.seen.length dA n.old jq n.reqs.length dK).toList z 0,GR.setW_blk (vW n.id n.par a_k n.kids.length dz (n.next+1) av RL.length cv a6 (n.out.length+1) c6 iU n.seen.length dA n.old jq n.reqs.length dK).toList (o:=0) (xs:=kR.toList) Oz⟩
  have e4:W'.heap[w.heap.size+1]?=some (.cells (vW n.id n.par a_k n.kids.length dz (n.next+1) av RL.length cv a6 (n.out.length+1) c6 iU n.seen.length dA n.old jq n.reqs.length dK) 39 (0,0)):=by rw [hSW];exact aj e3 (au SW _)
  have fq:aA [w.heap.size+1] z W':=by rw [hSW];exact hk0.trans (aA.of_below (au SW _))
  have hm:W'.heap[z.heap.size]?=some (.cells (bQ qK qF qT qI qL qk qN) 70 (0,0)):=by rw [hSW,<-hsz];exact aEK SW _
  have HFI:=Hq (zH W' z.heap.size ((aA.of_below HZ).trans fq) hm (by have:=ay Oz;omega));obtain⟨x0,x1,x2,x3,x4,x5,x6,x7,x8⟩:=nine e4;clear hW' e4 fq hm hSW hsz hk0 e3;exact aET (v:= .tuple #[.agg (vW n.id n.par a_k n.kids.length dz (n.next+1) av RL.length cv a6 (n.out.length+1) c6 iU n.seen.length dA n.old jq n.reqs.length dK),.slice (some ⟨z.heap.size,0,none⟩) 1 1,.int .i64 0]) (by simp[results,results132,go_sem,x0,x1,x2,x3,x4,x5,x6,x7,x8]) rfl ⟨⟨a_k,av,a6,iU,jq,dz,cv,c6,dA,dK⟩,some ⟨z.heap.size,0,none⟩,1,by rw [ah HNV],HFI.1,HFI.2.1,HFI.2.2.1,HFI.2.2.2⟩):P:=h
theorem anu.AaX(h:P:=by
 have z1:=aEL p1;clear c0 c1 c2 c3 c4 c5 c6 c7 c8 c9 p0 p1 p2 p3 p4 p5 p6;refine I9 8 ?_;refine tk [0,1,2,3,4,5,6,7] ?_;iterate 6 (refine iO (λK hK=>?_);go_simp;refine hK _ ?_;clear hK K)
 (refine iO (λK hK=>?_);go_simp;first|refine hK _ ?_|(apply Exists.intro;refine⟨λ_=>?_,hK _ ?_⟩;(exact HKD _ (SE _)));clear hK K)
 (refine iO (λK hK=>?_);go_simp;refine hK _ ?_;clear hK K)
 refine jf ?_;refine dS Aab (λz hz=>?_);have HZ:=Hq (HW1.step hz);exact AaJ):P:=h
theorem anw.AaX(h:P:=by
 clear c0 c1 c2 c3 c4 c5 c6 c7 c8;refine rg 3 Ge 6 ?_;refine tk [0,1] ?_;open auN in exact ET):P:=h
theorem aeG(h:P:=by
 have hbw:aH wr W1:=by rw [hW1];exact au wr _
 have BJ:=Hq (aj Hu hbw);have oF:=Hq (aY.trans (hbw.mono aY.size));exact AbI):P:=h
theorem anx.AbI(h:P:=by
 have HI1:=Hq (GR.At.below HI hbw);have hgw1:=hbw.size;have HKI:=Hq (GR.At.below HA oF)
 have DR:Hid ((k=0/\pv=true)\/∃(j:Nat) (y:Int),k=j+1/\pv=decide (y < fr)/\W1.cell? ⟨g,off+j*3,none⟩=some (.int .i64 y)):=by
  rcases Sc with h|⟨j,y,h1,h2,h3⟩
  .exact .inl h
  .exact .inr ⟨j,y,h1,h2,(hbw.cell (p:=⟨g,off+j*3,none⟩) hgw).trans h3⟩
 clear hW1 hbw q0 q1 q2 c0 c1 c2 c3 c4 c5 c6 Sc HI Hu;obtain⟨d0,d1,d2⟩:=three HW1;open ar7 in exact agA):P:=h
theorem anz.AbI(h:P:=by
 have hgw1:=hbw.size
 have DR:Hid ((k=0/\pv=true)\/∃(j:Nat) (y:Int),k=j+1/\pv=decide (y < si)/\W1.cell? ⟨g,off+j*4,none⟩=some (.int .i64 y)):=by
  exact aii
 clear hW1 hbw q0 q1 q2 q3 c0 c1 c2 c3 c4 c5 c6 c7 c8 Sc Hu;obtain⟨d0,d1,d2,d3⟩:=iD HW1;open ar6 in exact agA):P:=h
theorem anA.AbI(h:P:=by
 clear hW1 hbw q0 q1 q2 q3 Hu;obtain⟨d0,d1,d2,d3⟩:=iD HW1;go_cut [56] (λr wx=>r= .bool bb/\wx=W1)
 case first=>
  by_cases g1:y < si
  case' neg=>
   have hb1:decide (si<=y)=true:=aEO Aaa
   have HV:=Hq (show bb=true by rw [<-ah eT];simp[g1])
   clear eT BD
   go_wp2_with (fail)
   go_meet
   case rel=>exact⟨Aam,rfl⟩
  have hb1:decide (si<=y)=false:=aEN Aaa;cases g2:rA si
  case' false=>
   have Hg2:=Hq (λw1=>kD si false w1 g2)
   have HV:=Hq (show bb=true by rw [<-ah eT];simp[g2])
   clear eT BD
   go_wp2_with (first|(go_at_call 193;refine(Hg2 _).mono ?_;rintro e w9 ⟨rfl,rfl⟩))
   go_meet
   case rel=>exact⟨Aam,rfl⟩
  have Hg2:=Hq (λw1=>kD si true w1 g2);cases g3:keyOk sx.data.toList
  case' false=>
   have Hg3:=Hq (λw1=>iq sx false w1 g3)
   have HV:=Hq (show bb=true by rw [<-ah eT];simp[g3])
   clear eT BD
   go_wp2_with (first|(go_at_call 193;refine(Hg2 _).mono ?_;rintro e w9 ⟨rfl,rfl⟩)|(go_at_call 190;refine(Hg3 _).mono ?_;rintro e w9 ⟨rfl,rfl⟩))
   go_meet
   case rel=>exact⟨Aam,rfl⟩
  have Hg3:=Hq (λw1=>iq sx true w1 g3);cases g4:fH sn
  case' false=>
   have Hg4:=Hq (λw1=>aO sn false w1 g4)
   have HV:=Hq (show bb=true by rw [<-ah eT];simp[g4])
   clear eT BD
   go_wp2_with (first|(go_at_call 193;refine(Hg2 _).mono ?_;rintro e w9 ⟨rfl,rfl⟩)|(go_at_call 190;refine(Hg3 _).mono ?_;rintro e w9 ⟨rfl,rfl⟩)|(go_at_call 170;refine(Hg4 _).mono ?_;rintro e w9 ⟨rfl,rfl⟩))
   go_meet
   case rel=>exact⟨Aam,rfl⟩
  have Hg4:=Hq (λw1=>aO sn true w1 g4);by_cases g5:0<=st
  case' neg=>
   have hb5:decide (st < 0)=true:=aEO Aaa
   have HV:=Hq (show bb=true by rw [<-ah eT];simp[g5])
   clear eT BD
   go_wp2_with (first|(go_at_call 193;refine(Hg2 _).mono ?_;rintro e w9 ⟨rfl,rfl⟩)|(go_at_call 190;refine(Hg3 _).mono ?_;rintro e w9 ⟨rfl,rfl⟩)|(go_at_call 170;refine(Hg4 _).mono ?_;rintro e w9 ⟨rfl,rfl⟩))
   go_meet
   case rel=>exact⟨Aam,rfl⟩
  have hb5:decide (st < 0)=false:=aEN Aaa;by_cases g6:st<=2
  case' neg=>
   have hb6:decide (2 < st)=true:=aEO Aaa
   have HV:=Hq (show bb=true by rw [<-ah eT];simp[g6])
   clear eT BD
   go_wp2_with (first|(go_at_call 193;refine(Hg2 _).mono ?_;rintro e w9 ⟨rfl,rfl⟩)|(go_at_call 190;refine(Hg3 _).mono ?_;rintro e w9 ⟨rfl,rfl⟩)|(go_at_call 170;refine(Hg4 _).mono ?_;rintro e w9 ⟨rfl,rfl⟩))
   go_meet
   case rel=>exact⟨Aam,rfl⟩
  have hb6:decide (2 < st)=false:=aEN Aaa;have HV:=Hq (show bb=false by rw [<-ah eT];simp[g1,g2,g3,g4,g5,g6]);clear eT BD;go_wp2_with (first|(go_at_call 193;refine(Hg2 _).mono ?_;rintro e w9 ⟨rfl,rfl⟩)|(go_at_call 190;refine(Hg3 _).mono ?_;rintro e w9 ⟨rfl,rfl⟩)|(go_at_call 170;refine(Hg4 _).mono ?_;rintro e w9 ⟨rfl,rfl⟩))
  go_meet
  case rel=>exact⟨Aam,rfl⟩
 case rest=>
  obtain⟨rfl,rfl⟩:=hcut;clear eT;cases hbv:bb
  .have HG:=Hq (show gV KB RR (reqs.take (k+1))=true by rw [ah BD,hbv];rfl);subst hbv;clear HBAD BD;go_wp2_with fail;go_roundw
   case rel=>exact⟨k+1,si,Aaa,Aaf,rfl,zL.symm,HG,BJ,oF⟩
   case measure=>simp[intOf];omega
  .have HP:=Hq (HBAD (by rw [ah BD,hbv];rfl));subst hbv;clear HBAD BD;go_wp2_with fail;go_ret;exact⟨aF HP.symm,oF⟩):P:=h
theorem anB.AbI(h:P:=by
 clear hW1 hbw q0 q1 q2 q3 Hu;obtain⟨d0,d1,d2,d3⟩:=iD HW1;obtain⟨c0,c1,c2,c3,c4,c5,c6,c7,c8⟩:=nine BJ;go_cut [46] (λr wx=>r= .bool bb/\aH W1 wx)
 case first=>
  by_cases h1:y < si
  case' neg=>
   have HV:=Hq (show bb=true by rw [<-ah eT];simp[h1])
   have hb1:decide (si<=y)=true:=aEO Aaa
   clear eT BD
   go_wp2_with fail
   go_meet
   case rel=>exact⟨Aam,aEY _ _⟩
  have hb1:decide (si<=y)=false:=aEN Aaa;by_cases h2:si < next
  case' neg=>
   have HV:=Hq (show bb=true by rw [<-ah eT];simp[h2])
   have hb2:decide (next<=si)=true:=aEO Aaa
   clear eT BD
   go_wp2_with fail
   go_meet
   case rel=>exact⟨Aam,aEY _ _⟩
  have hb2:decide (next<=si)=false:=aEN Aaa;go_wp2_with fail;refine(R7 _ _ oF).mono ?_;rintro e w2 ⟨rfl,hb3⟩;have HB3:=Hq hb3;have HW2:=Hq (aj HW1 hb3);clear hb3 d0 d1 d2 d3 c0 c1 c2 c3 c4 c5 c6 c7 c8;obtain⟨d0,d1,d2,d3⟩:=iD HW2;cases h3:NN st
  case' false=>
   have HV:=Hq (show bb=true by rw [<-ah eT];simp[h3])
   clear eT BD h3
   go_wp2_with fail
   go_meet
   case rel=>exact⟨Aam,HB3⟩
  cases h4:keyOk sx.data.toList
  case' false=>
   have HV:=Hq (show bb=true by rw [<-ah eT];simp[h4])
   have H4:=Hq (λw1=>iq sx false w1 h4)
   clear eT BD h3 h4
   go_wp2_with (go_at_call 190;refine(H4 _).mono ?_;rintro e w9 ⟨rfl,rfl⟩)
   go_meet
   case rel=>exact⟨Aam,HB3⟩
  have H4:=Hq (λw1=>iq sx true w1 h4);have HV:=Hq (show bb= !fH sn by rw [<-ah eT];simp[h1,h2,h3,h4]);have H5:=Hq (λw1=>aO sn _ w1 rfl);clear eT BD h3 h4;go_wp2_with (first|(go_at_call 190;refine(H4 _).mono ?_;rintro e w9 ⟨rfl,rfl⟩)|(go_at_call 170;refine(H5 _).mono ?_;rintro e w9 ⟨rfl,rfl⟩))
  go_meet
  case rel=>exact⟨Aam,HB3⟩
 case rest=>
  obtain⟨rfl,hbx⟩:=hcut;open as6 in exact VP):P:=h
theorem awF(h:P:=by
 clear hz hok hm hL he HR hw hF hks hb HID;generalize (takeN n o.m).1=n' at *;open arE in exact aj8):P:=h
theorem anC.Ac2(h:P:=by
 obtain⟨c0,c1,c2,c3,c4,c5,c6,c7,c8,c9⟩:=jN HY.blk;obtain⟨⟨p0,p1,p2,p3,p4,p5,p6⟩,_⟩:=eD Iq;have ak3:=ay HY.blk;have aDB:=ay Iq;go_upto_region 10 with fail;have y0:=aEL c0;have z1:=aEL p1;have z3:=aEL p3;clear c0 c1 c2 c3 c4 c5 c6 c7 c8 c9 p0 p1 p2 p3 p4 p5 p6;refine rg 11 Ge 12 ?_;refine tk [0,1,2,3,4,5,6,7,8,9,10] ?_;iterate 11 (refine iO (λK hK=>?_);go_simp;refine hK _ ?_;clear hK K)
 refine jf ?_;clear y0 z1 z3;refine aU Aab (λx hx=>?_);have JM:=Hq (HSY x A' G' c' n' (HY.step hx));clear hx;refine an 11 ?_;go_simp;refine JM.mono ?_;rintro e z ⟨rfl,c2,v2,hZ⟩;have HZ:=Hq hZ;clear hZ JM;refine ad ?_;go_simp;go_wp2_with fail;go_ret;exact⟨rfl,A',G',c2,v2,HZ⟩):P:=h
theorem anD.Ac2(h:P:=by
 go_wp2_with fail;go_ret;exact⟨rfl,A',G',c',v,by rw [aFZ];exact HY⟩):P:=h
theorem OP(h:P:=by
 open auz in exact OM):P:=h
theorem anE.AaP(h:P:=by
 clear HO p0 p1 p2 p3 p4 p5 p6;have f1:=acW;open aAZ in exact SI):P:=h
theorem anF.AaP(h:P:=by
 clear HO HM p0 p1 p2 p3 p4 p5 p6;have f1:=acX;open ao0 in exact aj1):P:=h
theorem anG.AaP(h:P:=by
 clear HO p0 p1 p2 p3 p4 p5 p6;have f1:=acX;open aA0 in exact SI):P:=h
theorem anH.AaP(h:P:=by
 clear HO p0 p1 p2 p3 p4 p5 p6;have f1:=WX;open aA1 in exact SI):P:=h
theorem anI.AaP(h:P:=by
 clear p0 p1 p2 p3 p4 p5 p6;refine I9 30 ?_;refine tk [0,1,2,5,6,7,9,10,11,13,14,15,17,18,19,21,22,23,25,26,27] ?_;open aoO in exact awJ):P:=h
theorem anJ.AaP(h:P:=by
 have y7:=aEL p7;have y8:=aEL p8;have y9:=aEL p9;have y10:=aEL oD;clear p0 p1 p2 p3 p4 p5 p6 p7 p8 p9 oD;refine I9 23 ?_;refine tk [0,1,2,5,6,7,9,10,11,13,14,15,17,18,19,20] ?_;open aoN in exact awJ):P:=h
theorem anK.AaP(h:P:=by
 clear HO HM p0 p1 p2 p3 p4 p5 p6;have f1:=WX;open aoZ in exact aj1):P:=h
theorem anL.AaP(h:P:=by
 clear HO HM p0 p1 p2 p3 p4 p5 p6;have f1:=acW;open aoY in exact aj1):P:=h
theorem aa1(h:P:=by
 rw [hmo] at HMO;unfold nZ at HMO;have R7:=Hq (λW (ha:bC W A.k n.kids)=>GQ n A mF W hkl ha);rw [h2] at R7;clear hmo h2;have mP:=Hq (h.nine hB);clear h;go_in
 go_upto_region 1 with fail;refine wp_at (λW0 hW=>?_);exact Aa2):P:=h
theorem anM.Aa2(h:P:=by
 obtain⟨e1,e2,e3,e4⟩:=gu w (.cells (dH n A) 39) (.cells (bQ 0 mF mT mI mL mk mN) 70) (.cells kR 39);open aAx in exact Yk3):P:=h
theorem anN.Aa2(h:P:=by
 obtain⟨e1,e2,e3,e4⟩:=gu w (.cells (dH n A) 39) (.cells (bQ 0 mF mT mI mL mk mN) 70) (.cells kR 39);exact axq):P:=h
theorem anO.Aa2(h:P:=by
 obtain⟨e1,e2,e3,e4⟩:=gu w (.cells (dH n A) 39) (.cells (bQ mK mF mT mI mL mk mN) 70) (.cells kR 39);exact axq):P:=h
theorem anP.Aa2(h:P:=by
 obtain⟨e1,e2,e3,e4⟩:=gu w (.cells (dH n A) 39) (.cells (bQ 2 mF mT mI mL mk mN) 70) (.cells kR 39);open aAy in exact Yk3):P:=h
theorem anQ.Aa2(h:P:=by
 obtain⟨e1,e2,e3,e4⟩:=gu w (.cells (dH n A) 39) (.cells (bQ 1 mF mT mI mL mk mN) 70) (.cells kR 39);open aAz in exact Yk3):P:=h
theorem ajY(h:P:=by
 obtain⟨pk,pm,pf,ps⟩:=p;unfold iB at hp;simp only[aES] at hp;obtain⟨⟨⟨⟨_,a1⟩,a2⟩,a3⟩,a4⟩:=hp;have b1:0<=pm/\pm<=1000000000:=aE5 a1;have b2:0<=pf/\pf<=1000000000:=aE5 a2;have b3:0<=ps/\ps<=1000000000:=aE5 a3;obtain⟨Oe,a11⟩:=b1;obtain⟨a20,a21⟩:=b2;obtain⟨a30,a31⟩:=b3;obtain⟨h10,h11⟩:=h1;obtain⟨h20,h21⟩:=h2;obtain⟨h30,h31⟩:=h3;clear a1 a2 a3 a4;exact AcA):P:=h
end Go.Proofs.YtbolgdleijjgfaaGreatDoor
