/-
  Parts of proofs that stand more than once, each said once.
-/
import Derived.Test.YtohmklmkjmlpjaaGreatDoorRows
import Derived.WalkSpells
import Derived.ShutString
import Derived.Lib.QuietBelow
import Derived.Laws.Cover1
import Derived.Laws.AppendOwnNone
import Derived.Deep.DeepCutAuto
import Derived.Deep.CutBlock
import Derived.Deep.RegionHeldLaw
import Derived.Deep.AppendLies
import Derived.Lib.BufferWrite
import Derived.Laws.CopyOwn
import Derived.Lib.ItoaLen
import Derived.Shelf.SortM.Plain
import Derived.Shelf.SortM.SortNone
import Derived.Shelf.SlicesE.Clone
import Derived.Sort.OwnSortedInts
import Derived.ProofKit
import Derived.Shelf.Spec.SearchS
import Derived.Stop.Asserts
import Derived.Shelf.Spec.SlicesInsertGrow
import Derived.Maps.Ext
import Derived.Lib.SlMapFilter
import Derived.Shelf.SlIterI.Nil
import Derived.Laws.EntriesVeiled
import Derived.Conc.MuLone
import Derived.Deep.SlicePairs
import Derived.Stop.LaidTwo
import Derived.OpenVars
import Derived.OpenShut
import Derived.LaidMore
import Derived.Stop.Joined
namespace Go.Proofs.YtohmklmkjmlpjaaGreatDoor
open Go.Proofs.Tryz
set_option maxRecDepth 100000
variable{P:Prop}
theorem Aaa(h:P:=by omega):P:=h
theorem Aab(h:P:=by kernel_rfl):P:=h
theorem Aac(h:P:=by simp):P:=h
theorem Aad(h:P:=by rfl):P:=h
theorem Aae(h:P:=by decide):P:=h
theorem Aaf(h:P:=by simpa using hx):P:=h
theorem Aag(h:P:=by simp;omega):P:=h
theorem Aah(h:P:=by go_num):P:=h
theorem Aai(h:P:=by unfold maxLen;omega):P:=h
theorem Aaj(h:P:=by simp[hx]):P:=h
theorem Aak(h:P:=by simp at hx;omega):P:=h
theorem Aal(h:P:=by simp[Act.eval]):P:=h
theorem Aam(h:P:=by unfold maxLen;dsimp only;omega):P:=h
theorem Aan(h:P:=by rw [ah HV]):P:=h
theorem Aao(h:P:=by rw [e]):P:=h
theorem Aap(h:P:=by simpa using hi):P:=h
theorem Aaq(h:P:=by simpa using h1):P:=h
theorem Aar(h:P:=by simp[World.setCell]):P:=h
theorem Aas(h:P:=by simpa using hy):P:=h
theorem Aat(h:P:=by simp at hi):P:=h
theorem Aau(h:P:=by cases h):P:=h
theorem Aav(h:P:=by simp at hx;simp[hx]):P:=h
theorem Aaw(h:P:=by rw [ah HP]):P:=h
theorem Aax(h:P:=by simp[results,results234,go_sem,wB]):P:=h
theorem Aay(h:P:=by simp[results,results58,go_sem,x0,x1,x2,x3,x4,x5,x6,x7,x8]):P:=h
theorem Aaz(h:P:=by simpa using hm):P:=h
theorem Aba(h:P:=by simp[h1]):P:=h
theorem Abb(h:P:=by simpa using hr):P:=h
theorem Abc(h:P:=by rw [hz2];omega):P:=h
theorem Abd(h:P:=by rw [hW];exact aC.set _):P:=h
theorem Abe(h:P:=by simpa using hc):P:=h
theorem Abf(h:P:=by simpa using hj):P:=h
theorem Abg(h:P:=by simpa using hpar):P:=h
theorem Abh(h:P:=by rw [h] at hr;cases hr):P:=h
theorem Abi(h:P:=by simpa using h):P:=h
theorem Abj(h:P:=by rw [hf];simp):P:=h
theorem Abk(h:P:=by simp[results,results107,go_sem,x0,x1,x2,x3,x4,x5,x6,x7,x8]):P:=h
theorem Abl(h:P:=by rw [ah wS]):P:=h
theorem Abm(h:P:=by rw [List.length_take];omega):P:=h
theorem Abn(h:P:=by simpa using hq):P:=h
theorem Abo(h:P:=by simp at hi;omega):P:=h
theorem Abp(h:P:=by simpa [Value.ownBlock] using hx):P:=h
theorem Abq(h:P:=by simp only[ByteArray.size_append];omega):P:=h
theorem Abr(h:P:=by simp[results,results150,go_sem,x0,x1,x2,x3,x4,x5,x6,x7,x8]):P:=h
theorem Abs(h:P:=by simp[results,results108,go_sem,x0,x1,x2,x3,x4,x5,x6,x7,x8]):P:=h
theorem Abt(h:P:=by simp[results,results110,go_sem,x0,x1,x2,x3,x4,x5,x6,x7,x8]):P:=h
theorem Abu(h:P:=by simp at hx):P:=h
theorem Abv(h:P:=by rw [hW];exact(kV w _ _).2):P:=h
theorem Abw(h:P:=by rw [hW];exact(kV w _ _).1):P:=h
theorem Abx(h:P:=by rw [hW];exact oU kH):P:=h
theorem Aby(h:P:=by rw [hW];exact iX eZ hgl):P:=h
theorem Abz(h:P:=by simp[Act.eval,Act.put]):P:=h
theorem Aca(h:P:=by rw [iq,List.length_drop]):P:=h
theorem Acb(h:P:=by rw [hW];simp[World.setCell]):P:=h
theorem Acd(h:P:=by rw [hW1];exact heap_alloc_new _ _):P:=h
theorem Ace(h:P:=by simpa using hE):P:=h
theorem Acf(h:P:=by unfold maxLen at hcm;omega):P:=h
theorem Acg(h:P:=by simpa using hw):P:=h
theorem Ach(h:P:=by simpa using hf):P:=h
theorem Aci(h:P:=by rw [e];omega):P:=h
theorem Acj(h:P:=by simpa using hk):P:=h
theorem Ack(h:P:=by simpa using hz):P:=h
theorem Acl(h:P:=by rw [hW];exact oD hN1):P:=h
theorem Acm(h:P:=by simp at hm;omega):P:=h
theorem Acn(h:P:=by rw [hW];exact heap_alloc_new _ _):P:=h
theorem Aco(h:P:=by rw [ah iG,ah kX,ah Eb];rfl):P:=h
theorem Acp(h:P:=by simp[results,results165,go_sem]):P:=h
theorem Acr(h:P:=by rw [ah HS,ah HA,ah HK];rfl):P:=h
theorem Acs(h:P:=by rw [hl];kernel_rfl):P:=h
theorem Acu(h:P:=by simpa [iN] using h):P:=h
theorem Acv(h:P:=by rw [hW];exact oD hO1):P:=h
theorem Acw(h:P:=by rw [GR.flat_append,GR.flat_one];exact Tp):P:=h
theorem Acx(h:P:=by simp[results,results54,go_sem,r0,r1,r2,r3,r4,r5,r6,r7,r8,r9,Zt]):P:=h
theorem Acy(h:P:=by simp[results,results182,go_sem]):P:=h
theorem Acz(h:P:=by simp[results,results19,go_sem]):P:=h
theorem Ada(h:P:=by cases hk;exact Nat.le_refl _):P:=h
theorem Adb(h:P:=by simp[results,results111,go_sem,x0,x1,x2,x3,x4,x5,x6,x7,x8]):P:=h
theorem Adc(h:P:=by rw [List.length_append,hlt1];rfl):P:=h
theorem Ade(h:P:=by rw [List.length_append,hL1,XC]):P:=h
theorem Adf(h:P:=by rw [GR.flat_append];exact GL):P:=h
theorem Adg(h:P:=by rw [show cur.toList.length=cur.size from Array.length_toList,hcs];omega):P:=h
theorem Adh(h:P:=by simp[results,results259,go_sem];try rfl):P:=h
theorem Adi(h:P:=by rw [List.mem_singleton.1 hf];omega):P:=h
theorem Adj(h:P:=by simp[results,results256,go_sem,r0,r1,r2,r3,r4,r5,r6]):P:=h
theorem Adk(h:P:=by simp[results,results103,go_sem,r0,r1,r2,r3,r4,r5,r6]):P:=h
theorem Adl(h:P:=by unfold rM at hhas;rw [hd] at hhas;simpa using hhas):P:=h
theorem Adm(h:P:=by simp[results,results217,go_sem,x0,x1,x2,x3,x4,x5,x6]):P:=h
theorem Adn(h:P:=by simp[results,results83,go_sem,r0,r1,r2,r3,r4,r5,r6,r7,r8]):P:=h
theorem Ado(h:P:=by simp[results,results228,go_sem,r0,r1,r2,r3,r4,r5,r6]):P:=h
theorem Adp(h:P:=by rw [show cur.toList.length=cur.size from Array.length_toList,hcs]):P:=h
theorem aa1(h:P:=by
 rw [hW'];exact GR.setW_blk (dH n A).toList (o:=0) (xs:=gN.toList) uP):P:=h
theorem Zk0(h:P:=by
 unfold fG;have H9:=Hq h9;clear h9;have Jb:=Hq (λW (ha:aG W A.p n.pu)=>vO A.p A.cp n.pu key W hl ha);rw [hpp] at Jb;unfold wU at Jb;clear hpp;have hbw0:=ay w (.cells (dH n A) 40);have lI:=Hq (h.nine hB);clear h;go_in
 go_upto_region 1 with fail;refine wp_at (λW0 hW=>?_);obtain⟨e1,e2,e3⟩:=iA w (.cells (dH n A) 40) (.cells gN 40);open asl in exact aAR):P:=h
theorem Zk1(h:P:=by
 open axd in exact ahq):P:=h
theorem Zk2(h:P:=by
 open axc in exact ahq):P:=h
theorem Zk3(h:P:=by
 open anZ in exact akH):P:=h
theorem Zk4(h:P:=by
 refine gL 8 rfl Aab Aad Aae (λx4 hx4=>?_);have ZC:=Hq (Wx.trans (hx4.mono Wx.size));have Ph:uI.heap.size<=x4.heap.size:=ZC.size;have Oc:=Hq (GR.own_below WR hx4);have Ee:=Hq (au Gp hx4);clear hx4;obtain⟨v4,y4,XF,Tp,EI,ab4⟩:=gJ x4 uI.heap.size 22 22 3 i0 (.int .i64 0) 1 8 underlying22 hi0 hz0 hz1' hz2 rfl Aae (.slice avR (pos) cvR) (pos) (GR.flat bf ((bg s0 mL).take pos)) Oc ⟨rb,0,none⟩ 1 1 (bf mI) rfl (World.news_of_block Ee) (by intro u hu;simp at hu;subst hu;rfl) Aai Aaa Ph;refine Lib.wp_append_run x4 (.tmp 131) (.tmp 134) 22 22 rfl _ _ Aal Aal v4 y4 XF ?_;refine⟨(Below.refl _ _).grown EI Ph (λb hb=>(Oc.lt b hb).1),?_⟩;go_simp;have ZE:=Hq (ZC.grown EI Ph (λb hb=>(Oc.lt b hb).1));have R8:Hid (y4.ownsRow uI.heap.size 3 1 v4 (pos+1) (GR.flat bf ((bg s0 mL).take pos++[mI]))):=Hq Acw;have ad9:=Hq (show y4.heap[rb]?=some (.cells #[.int .i64 mI] 3 (0,0)) from by rw [EI.block _ (aA (ah Ee)) (λhm=>ah Ww _ hm.symm rfl)];exact Ee);open ayc in exact aaH):P:=h
theorem Zk5(h:P:=by
 obtain⟨c0,c1,c2,c3,c4,c5,c6,c7,c8,c9⟩:=jH HWS.wk.blk
 have e0:A'.s=some ⟨G'.s,0,none⟩:=by
  obtain⟨_,_,e0,_⟩:=iL.three HWS.wk.no.s i (by rw [ah HSL];exact hi);exact e0
 rw [e0,ah HSL] at c6;obtain⟨⟨p0,p1,p2,p3,p4,p5,p6⟩,_⟩:=eT eZ;have hwl:=aA HWS.wk.blk;have hBl:=aA eZ;go_upto_region 5 with fail;have y6:=cell_regrown c6;have z1:=cell_regrown p1;clear c0 c1 c2 c3 c4 c5 c6 c7 c8 c9 p0 p1 p2 p3 p4 p5 p6;refine dD 11 Aab ?_;show fC _ _ _ _ _ 12 (Array.replicate 12 false) _ _
 refine tk [0,1,2,3,4,5,6,7,8] ?_;iterate 9 (refine uS (λK hK=>?_);go_simp;refine hK _ ?_;clear hK K)
 refine jK ?_;clear y6 z1;refine dV 9 rfl Aab Aad (λx hx=>?_);go_simp;have HX:=Hq (HWS.step hx);have HJX:Hid (∀j mm,jL w j mm->jL x j mm):=λj mm hj=>au (HJW j mm hj) hx
 have Z4:=Hq (Yy sb mb kk mF (fJ s0 mL) l2 x HLEN adO HX.bk HX.si);clear hx;refine Z4.mono ?_;rintro e y ⟨v2,rfl,hrow,hby⟩;refine⟨hby,?_⟩;obtain⟨b2,c2,g2,rfl,hW2,hg2,_⟩:=GR.W.of_own (enc:=bf) aX hrow;have HY:Hid (WK w0 y wb n' A' G' (newC x.heap.size 5 c') v L):=(HX.wk.recol (c':=newC x.heap.size 5 c') (λz hz=>fq hz)).step hby;have HI2:=Hq hW2;have HJY:Hid (∀j mm,jL w j mm->jL y j mm):=λj mm hj=>au (HJX j mm hj) hby
 have HC5:Hid (∀z∈fp g2 l2,newC x.heap.size 5 c' z=5/\z∉wR G'.i n'.seen):=λz hz=>⟨bq (hg2 z hz).1,λhm=>by
  have h1:=(uz HX.wk.no.s).2 z hm
  have h2:=(hg2 z hz).1
  omega⟩
 clear hrow hby hW2 hg2 Z4 HX HWS;refine tk [10] ?_;(refine uS (λK hK=>?_);go_simp;refine hK _ ?_;clear hK K)
 refine jK ?_;refine bH Aab (λx3 hx3=>?_);have HY3:=Hq (HY.step hx3);have HI3:=Hq (HI2.below hx3);have HJ6:Hid (∀j mm,jL w j mm->jL x3 j mm):=λj mm hj=>au (HJY j mm hj) hx3
 obtain⟨b0,cc0,_,hg0,⟨q0,q1,q2⟩,⟨f0,f1⟩,_⟩:=iL.three HY3.no.s i (by rw [ah HSL];exact hi)
 have f2:x3.frozen? ⟨G'.s,i*3+2,none⟩=false:=by
  obtain⟨T,hT,hl,_⟩:=HY3.no.s;have:=(hT i (by rw [hl,ah HSL];exact hi)).2.2 2 Aaa;exact this.2
 have aDK:=Hq (HY3.seenPut i (by rw [ah HSL];exact hi) ⟨mF,fJ s0 mL,l2⟩ b2 c2 g2 HI3 HC5)
 have HJF:Hid (∀j mm,jL w j mm->jL (GR.setW x3 G'.s (i*3) [.int .i64 mF,.int .i64 (fJ s0 mL),.slice b2 l2.length c2]) j mm):=λj mm hj=>by
  have h3:=ah HJ6 j mm hj
  have hne:=Qb h3 q2
  unfold jL
  rw [GR.setW_other hne]
  exact h3
 clear hx3 HY HI2;refine aH 11 rfl Aab Aad ?_;go_simp;refine wpAny_done Aab ?_;go_simp;clear q0 q1 q2 f0 f1 f2;go_wp2_with fail;go_ret;exact⟨by rw [ah HTE];first|done|rfl,⟨A',_,_,by rw [ah HTE];exact aDK⟩,HJF⟩):P:=h
theorem Zk6(h:P:=by
 have hnl:=aA e1;clear hW e1 e2 p0 p1 p2 p3 p4 p5 p6 p7 p8 p9 nX;obtain⟨⟨p0,p1,p2,p3,p4,p5,p6,p7,p8,p9,nX⟩,_⟩:=aO WH;have aHu:=aA WH;have y0:=cell_regrown c0;have z0:=cell_regrown p0;have z1:=cell_regrown p1;have z2:=cell_regrown p2;have z3:=cell_regrown p3;have z4:=cell_regrown p4;have z5:=cell_regrown p5;have z6:=cell_regrown p6;have z7:=cell_regrown p7;have z8:=cell_regrown p8;have z9:=cell_regrown p9;have z10:=cell_regrown nX;clear p0 p1 p2 p3 p4 p5 p6 p7 p8 p9 nX c0;refine dD 5 Aab ?_;show fC _ _ _ _ _ 7 (Array.replicate 7 false) _ _
 refine tk [0,1,2,3,4] ?_;iterate 5 (refine uS (λK hK=>?_);go_simp;refine hK _ ?_;clear hK K)
 refine jK ?_;clear y0 z0 z1 z2 z3 z4 z5 z6 z7 z8 z9 z10;refine bH Aab (λx hx=>?_);have HXX:=Hq (HX x (HW4.step hx));clear hx;refine aH 5 rfl Aab Aad ?_;go_simp;refine HXX.mono ?_;rintro e y ⟨rfl,A',G',c',v',hY⟩;have HY:=Hq hY;clear hY HXX;refine aH 6 rfl Aab Aad ?_;go_simp;refine wpAny_done Aab ?_;go_simp;go_wp2_with fail;go_ret;exact⟨rfl,A',G',c',v',HY⟩):P:=h
theorem Zk7(h:P:=by
 go_wp2_with fail;go_loopw [9,10] (λv j wr=>∃k g cp:Nat,k<=s0.ids.length/\j= .int .i64 k/\v= .slice (some ⟨g,0,none⟩) (oC s0 mL k).length cp/\wr.ownsRow W3.heap.size 3 1 v (oC s0 mL k).length (GR.flat bf (oC s0 mL k))/\(oC s0 mL k=[]->cp=0)/\aI W3 wr) (λ_ j _=>s0.ids.length - (intOf j).toNat)
 case atStart=>exact⟨0,_,_,Nat.zero_le _,rfl,rfl,World.ownsRow_lit _ #[] 0 (Nat.le_refl _) Aae rfl,λ_=>rfl,ay _ _⟩
 case round=>
  obtain⟨k,g,cp,hk,rfl,rfl,hown,aCm,hbel⟩:=hrel;have akn:=Hq aCm;clear aCm;have cZ:=Hq hbel;obtain⟨_,s31,s32⟩:=Cb (au aec hbel);clear hbel;by_cases hlt:k < s0.ids.length
  .obtain⟨eb,hgb,hcell⟩:=(am9.below cZ) k hlt;open aw9 in exact aho
  .have hke:k=s0.ids.length:=Aaa
   subst hke;have hd:decide ((s0.ids.length:Int) < (s0.ids.length:Int))=false:=Aac
   rw [Bw] at hown akn;have aHA:(Value.slice (some ⟨g,0,none⟩) (oC s0 mL s0.ids.length).length cp)= .slice (some ⟨g,0,none⟩) (bg s0 mL).length cp:=by rw [Bw]
   rw [Bw];go_wp2_with fail;go_meet
   case rel=>exact⟨g,cp,rfl,hown,akn,cZ⟩):P:=h
theorem Zk8(h:P:=by
 clear Dz pz HKZ Zi;obtain⟨c0,c1,c2,c3,c4,c5,c6,c7,c8⟩:=nine ND;obtain⟨s0,s1,s2,s3⟩:=gG aef;open anz in exact Gt):P:=h
theorem aA5(h:P:=by
 rw [hX];exact GR.setW_blk (dH n A1).toList (o:=0) (xs:=(dH n A).toList) lJ):P:=h
theorem aBe(h:P:=by
 rw [hX];exact aM (dH n A1).toList W3 0):P:=h
theorem Zk9(h:P:=by
 clear hu;unfold iV at jB;have Ec:=Hq (λW=>jv ⟨0,no,k,nn,⟨mK,mF,mT,mI,mL,mk,mN⟩⟩ W Aam Aam);open anS in exact Em):P:=h
theorem aAS(h:P:=by
 open aEJ in exact Kn):P:=h
theorem aAW(h:P:=by
 open aEI in exact Kn):P:=h
theorem aAY(h:P:=by
 open aE4 in exact aAg):P:=h
theorem aA0(h:P:=by
 open aEH in exact Kn):P:=h
theorem akT(h:P:=by
 open aE6 in exact aAh):P:=h
theorem akU(h:P:=by
 rw [hR];have HR:=Hq hR;clear hR;cases hk:keyOk k.data.toList
 .have HK:=Hq (λw1=>nU k false w1 hs hk);cases hn:fK n
  .have HN:=Hq (λw1=>eU n false w1 hn);have HP:=Hq (show R=(decide (no=0)&&false&&false&&lQ ⟨mK,mF,mT,mI,mL,mk,mN⟩) by rw [<-ah HR];simp[cK,hk,hn]);clear HR;clear hk hn;go_in
   go_wp2_with (first|(go_at_call_of 52 k;refine(HK _).mono ?_;rintro e w1 ⟨rfl,rfl⟩)|(go_at_call_of 49 n;refine(HN _).mono ?_;rintro e w1 ⟨rfl,rfl⟩))
   all_goals
    go_ret
    refine⟨aF ?_,ay w _⟩
    rw [ah HP]
    simp[lQ, *]
  .have HN:=Hq (λw1=>eU n true w1 hn);have HP:=Hq (show R=(decide (no=0)&&false&&true&&lQ ⟨mK,mF,mT,mI,mL,mk,mN⟩) by rw [<-ah HR];simp[cK,hk,hn]);clear HR;clear hk hn;go_in
   go_wp2_with (first|(go_at_call_of 52 k;refine(HK _).mono ?_;rintro e w1 ⟨rfl,rfl⟩)|(go_at_call_of 49 n;refine(HN _).mono ?_;rintro e w1 ⟨rfl,rfl⟩))
   all_goals
    go_ret
    refine⟨aF ?_,ay w _⟩
    rw [ah HP]
    simp[lQ, *]
 .have HK:=Hq (λw1=>nU k true w1 hs hk);cases hn:fK n
  .have HN:=Hq (λw1=>eU n false w1 hn);have HP:=Hq (show R=(decide (no=0)&&true&&false&&lQ ⟨mK,mF,mT,mI,mL,mk,mN⟩) by rw [<-ah HR];simp[cK,hk,hn]);clear HR;clear hk hn;go_in
   go_wp2_with (first|(go_at_call_of 52 k;refine(HK _).mono ?_;rintro e w1 ⟨rfl,rfl⟩)|(go_at_call_of 49 n;refine(HN _).mono ?_;rintro e w1 ⟨rfl,rfl⟩))
   all_goals
    go_ret
    refine⟨aF ?_,ay w _⟩
    rw [ah HP]
    simp[lQ, *]
  .have HN:=Hq (λw1=>eU n true w1 hn);have HP:=Hq (show R=(decide (no=0)&&true&&true&&lQ ⟨mK,mF,mT,mI,mL,mk,mN⟩) by rw [<-ah HR];simp[cK,hk,hn]);clear HR;clear hk hn;go_in
   go_wp2_with (first|(go_at_call_of 52 k;refine(HK _).mono ?_;rintro e w1 ⟨rfl,rfl⟩)|(go_at_call_of 49 n;refine(HN _).mono ?_;rintro e w1 ⟨rfl,rfl⟩))
   all_goals
    go_ret
    refine⟨aF ?_,ay w _⟩
    rw [ah HP]
    simp[lQ, *]):P:=h
theorem aA3(h:P:=by
 by_cases hmK:mK=0
 case' neg=>
  have aFW:¬(0:Int)=mK:=λe=>hmK e.symm
  go_wp2_with fail;go_ret;exact⟨aF (by rw [ah HP];simp[lQ,hmK]),iR⟩
 subst hmK;by_cases hmF:mF=0
 case' neg=>
  have aFU:¬(0:Int)=mF:=λe=>hmF e.symm
  go_wp2_with fail;go_ret;exact⟨aF (by rw [ah HP];simp[lQ,hmF]),iR⟩
 subst hmF;by_cases hmT:mT=0
 case' neg=>
  have aFZ:¬(0:Int)=mT:=λe=>hmT e.symm
  go_wp2_with fail;go_ret;exact⟨aF (by rw [ah HP];simp[lQ,hmT]),iR⟩
 subst hmT;by_cases hmI:mI=0
 case' neg=>
  have aFV:¬(0:Int)=mI:=λe=>hmI e.symm
  go_wp2_with fail;go_ret;exact⟨aF (by rw [ah HP];simp[lQ,hmI]),iR⟩
 subst hmI;by_cases hmL:mL=0
 case' neg=>
  have aFX:¬(0:Int)=mL:=λe=>hmL e.symm
  go_wp2_with fail;go_ret;exact⟨aF (by rw [ah HP];simp[lQ,hmL]),iR⟩
 subst hmL;by_cases hmk:mk.toList=[]
 case' neg=>
  go_wp2_with fail;go_ret;exact⟨aF (by rw [ah HP];simp[lQ,hmk]),iR⟩
 by_cases hmN:mN=0
 case' neg=>
  have aFY:¬(0:Int)=mN:=λe=>hmN e.symm
  go_wp2_with fail;go_ret;exact⟨aF (by rw [ah HP];simp[lQ,hmk,hmN]),iR⟩
 subst hmN;go_wp2_with fail;go_ret;exact⟨aF (by rw [ah HP];simp[lQ,hmk]),iR⟩):P:=h
theorem aA4(h:P:=by
 go_wp2_with fail;refine aW (λW' hW'=>?_)
 have e4:W'.heap[w.heap.size+2]?=some (.cells (fP n.id n.par a_k n.kids.length aK n.next (some ⟨gp,0,none⟩) n.pu.length bJ dW n.out.length aQ (some ⟨G.s,0,none⟩) n.seen.length aL n.old gH n.reqs.length aU) 40 (0,0)):=by
  rw [hW'];exact GR.setW_blk (fP n.id n.par a_k n.kids.length aK n.next (some ⟨gp,0,none⟩) n.pu.length bJ dW n.out.length aQ (some ⟨G.s,0,none⟩) n.seen.length aL n.old gH n.reqs.length aU).toList (o:=0) (xs:=gN.toList) kZ
 have gu:aC [w.heap.size+2] (W8.alloc (.cells #[] 98)) W':=by
  rw [hW'];exact aM (fP n.id n.par a_k n.kids.length aK n.next (some ⟨gp,0,none⟩) n.pu.length bJ dW n.out.length aQ (some ⟨G.s,0,none⟩) n.seen.length aL n.old gH n.reqs.length aU).toList (W8.alloc (.cells #[] 98)) 0
 have abZ:w.heap.size+2≠gi:=Aaa
 have HNF:=Hq (ad3.kc (k:=9) (KC.keeps gu (λx hx=>by have:x=w.heap.size+2:=Aaf;rw [this];exact D9 _ Aaa abZ)) Aaa)
 have HAT:Hid (∀W'',Out c w W' W''->RM W'' (⟨a_k,(some ⟨gp,0,none⟩),dW,(some ⟨G.s,0,none⟩),gH,aK,bJ,aQ,aL,aU⟩:bV) (dP n (n.seen.set i ⟨mF,fJ s0 mL,bg s0 mL⟩))):=λW'' ho=>by
  obtain⟨F,hk,hF⟩:=ho
  have hold:=(HNF.kc (k:=9) (KC.keeps hk (λx hx=>HCO x (hF x hx).1 (hF x hx).2)) Aaa)
  have ho:Out c w W' W'':=⟨F,hk,hF⟩
  exact hold.rm
 have Gd:Hid (∀W'',Out c w W' W''->GR.At lu 7 W'' (some ⟨W8.heap.size,0,none⟩) []):=λW'' ho j hj=>(by simp at hj)
 have ow:Hid (Below B w W'):=adP.trans (gu.below (λx hx=>by have:x=w.heap.size+2:=Aaf;omega) (by have h1:=aA kZ;omega));have tq:=Hq (Apart.keeps (c:=c) adT (by have h1:=aA kZ;omega) gu (λx hx=>by have:x=w.heap.size+2:=Aaf;omega));obtain⟨x0,x1,x2,x3,x4,x5,x6,x7,x8⟩:=nine e4;clear hW' e4 gu
 first
  |exact bodyPost_ret (v:= .tuple #[.agg (fP n.id n.par a_k n.kids.length aK n.next (some ⟨gp,0,none⟩) n.pu.length bJ dW n.out.length aQ (some ⟨G.s,0,none⟩) n.seen.length aL n.old gH n.reqs.length aU),.slice (some ⟨W8.heap.size,0,none⟩) 0 0,.int .i64 1]) Abr rfl ⟨(⟨a_k,(some ⟨gp,0,none⟩),dW,(some ⟨G.s,0,none⟩),gH,aK,bJ,aQ,aL,aU⟩:bV),(some ⟨W8.heap.size,0,none⟩),⟨0,by simp[fQ,dH,dP]⟩,HAT,Gd,ow,tq⟩
  |exact bodyPost_ret (v:= .tuple #[.agg (fP n.id n.par a_k n.kids.length aK n.next (some ⟨gp,0,none⟩) n.pu.length bJ dW n.out.length aQ (some ⟨G.s,0,none⟩) n.seen.length aL n.old gH n.reqs.length aU),.slice (some ⟨W8.heap.size,0,none⟩) 0 0,.int .i64 1]) Abr rfl ⟨(⟨a_k,(some ⟨gp,0,none⟩),dW,(some ⟨G.s,0,none⟩),gH,aK,bJ,aQ,aL,aU⟩:bV),(some ⟨W8.heap.size,0,none⟩),0,by simp[fQ,dH,dP],HAT,Gd,ow,tq⟩):P:=h
theorem aA6(h:P:=by
 refine aW (λW' hW'=>?_)
 have e4:W'.heap[w.heap.size+2]?=some (.cells (fP n.id n.par a_k n.kids.length aK n.next jl n.pu.length bJ dW n.out.length aQ (some ⟨G.s,0,none⟩) n.seen.length aL n.old gH n.reqs.length aU) 40 (0,0)):=by
  rw [hW'];exact GR.setW_blk (fP n.id n.par a_k n.kids.length aK n.next jl n.pu.length bJ dW n.out.length aQ (some ⟨G.s,0,none⟩) n.seen.length aL n.old gH n.reqs.length aU).toList (o:=0) (xs:=gN.toList) mP
 have gu:aC [w.heap.size+2] W7 W':=by
  rw [hW'];exact aM (fP n.id n.par a_k n.kids.length aK n.next jl n.pu.length bJ dW n.out.length aQ (some ⟨G.s,0,none⟩) n.seen.length aL n.old gH n.reqs.length aU).toList W7 0
 have abZ:w.heap.size+2≠gi:=Aaa
 have HNF:=Hq (ad1.kc (k:=9) (KC.keeps gu (λx hx=>by have:x=w.heap.size+2:=Aaf;rw [this];exact D9 _ Aaa abZ)) Aaa)
 have HAT:Hid (∀W'',Out c w W' W''->RM W'' (⟨a_k,jl,dW,(some ⟨G.s,0,none⟩),gH,aK,bJ,aQ,aL,aU⟩:bV) (dP n (n.seen.set i ⟨mF,fJ s0 mL,bg s0 mL⟩))):=λW'' ho=>by
  obtain⟨F,hk,hF⟩:=ho
  have hold:=(HNF.kc (k:=9) (KC.keeps hk (λx hx=>HCO x (hF x hx).1 (hF x hx).2)) Aaa)
  have ho:Out c w W' W'':=⟨F,hk,hF⟩
  exact hold.rm
 have Gd:Hid (∀W'',Out c w W' W''->GR.At lu 7 W'' (some ⟨ab,0,none⟩) [⟨2,n.id,mF,mI,0,ByteArray.empty,0⟩]):=λW'' ho j hj=>Sm (gu.obj Zw (λhm=>Acm)) ho Aaa j hj
 have ow:Hid (Below B w W'):=aki.trans (gu.below (λx hx=>by have:x=w.heap.size+2:=Aaf;omega) (by have h1:=aA mP;omega));have tq:=Hq (Apart.keeps (c:=c) akp (by have h1:=aA mP;omega) gu (λx hx=>by have:x=w.heap.size+2:=Aaf;omega));obtain⟨x0,x1,x2,x3,x4,x5,x6,x7,x8⟩:=nine e4;clear hW' e4 gu
 first
  |exact bodyPost_ret (v:= .tuple #[.agg (fP n.id n.par a_k n.kids.length aK n.next jl n.pu.length bJ dW n.out.length aQ (some ⟨G.s,0,none⟩) n.seen.length aL n.old gH n.reqs.length aU),.slice (some ⟨ab,0,none⟩) 1 1,.int .i64 0]) Abr rfl ⟨(⟨a_k,jl,dW,(some ⟨G.s,0,none⟩),gH,aK,bJ,aQ,aL,aU⟩:bV),(some ⟨ab,0,none⟩),⟨1,by simp[fQ,dH,dP]⟩,HAT,Gd,ow,tq⟩
  |exact bodyPost_ret (v:= .tuple #[.agg (fP n.id n.par a_k n.kids.length aK n.next jl n.pu.length bJ dW n.out.length aQ (some ⟨G.s,0,none⟩) n.seen.length aL n.old gH n.reqs.length aU),.slice (some ⟨ab,0,none⟩) 1 1,.int .i64 0]) Abr rfl ⟨(⟨a_k,jl,dW,(some ⟨G.s,0,none⟩),gH,aK,bJ,aQ,aL,aU⟩:bV),(some ⟨ab,0,none⟩),1,by simp[fQ,dH,dP],HAT,Gd,ow,tq⟩):P:=h
theorem akV(h:P:=by
 open ayu in exact ahL):P:=h
theorem OD(h:P:=by
 clear HR;clear hk hn ho;go_in
 go_wp2_with (first|(go_at_call_of 52 k;refine(HK _).mono ?_;rintro e w1 ⟨rfl,rfl⟩)|(go_at_call_of 49 n;refine(HN _).mono ?_;rintro e w1 ⟨rfl,rfl⟩)|(go_at_call_of 49 no;refine(HO _).mono ?_;rintro e w1 ⟨rfl,rfl⟩))
 all_goals
  go_ret
  refine⟨aF ?_,ay w _⟩
  rw [ah HP]
  simp[lQ, *]):P:=h
theorem aBa(h:P:=by
 open aoF in exact aeo):P:=h
theorem aez(h:P:=by
 open arL in exact akQ):P:=h
theorem Si(h:P:=by
 open avp in exact agU):P:=h
theorem aBf(h:P:=by
 open aoE in exact aeo):P:=h
theorem aBg(h:P:=by
 rw [hR];have hd:decide (o.no<=n.old)=false:=decide_eq_false hc;open avy in exact aau):P:=h
theorem aBi(h:P:=by
 go_wp2_with fail;go_quiet (fail);have abY:(wr.drewN nq).ownsRow W2.heap.size 91 4 (.slice a (FL k).length cp) (FL k).length (GR.flat aV (FL k)):=ah HO;have hnk:=ah HNK;obtain⟨hi,hz0,hz1,hz2⟩:=ah HI;have hwb:W2.heap.size<=wr.heap.size:=iR.size;go_wp2_with (at_builtin;refine wpList_append_own _ rfl _ _ 36 rfl W2.heap.size 91 i0 (.agg (fA 0 0 ByteArray.empty 0)) 4 40 underlying36 hi hz0 hz1 hz2 rfl Aae _ _ _ rfl (abY.alloc _) ⟨wr.heap.size,0,none⟩ 1 1 (aV ⟨si,st,sk,sn⟩) rfl rfl ?c1 ?c2 ?c3 ?c4 ?c5 ?_)
 case c1=>exact World.news_of_block (heap_alloc_new (wr.drewN nq) _)
 case c2=>exact tK _
 case c3=>unfold maxLen;omega
 case c4=>omega
 case c5=>exact Nat.le_trans hwb (ay (wr.drewN nq) _).size
 intro v' w5 hown' hgrow _;obtain⟨an,cn,hv,_⟩:=GR.own_at (enc:=aV) (sz:=4) (l:=FL k++[⟨si,st,sk,sn⟩]) bQ (by rw [List.length_append,iW];exact hown');rw [List.length_append] at hv;have hv':v'= .slice an ((FL k).length+1) cn:=hv;clear hv;subst hv'
 have Nj:Hid (w5.ownsRow W2.heap.size 91 4 (.slice an FK.length cn) FK.length (GR.flat aV FK)):=by
  unfold Hid;rw [ah HX,List.length_append,iW];exact hown'
 have gY:Hid (aI W2 w5):=(iR.trans (Below.trans (b:=wr.drewN nq) ⟨rfl,rfl,rfl,Nat.le_refl _,λ_ _=>rfl⟩ ((ay (wr.drewN nq) (.cells (fA si st sk sn) 91)).mono hwb))).trans ⟨hgrow.os,hgrow.tape,hgrow.output,hgrow.size,λx hx=>hgrow.block x (Nat.lt_of_lt_of_le hx (Nat.le_trans hwb (ay (wr.drewN nq) _).size)) (λe=>by have:=qb abY e.symm;omega)⟩;clear hown' hgrow abY hi hz0 hz1 hz2 c0 c1 c2 c3 c4 c5 c6 c7 c8 m0 m1 m2 m3 m4 m5 m6 s0 s1 s2 s3;go_wp2_with fail;go_roundw
 case rel=>exact⟨k+1,an,cn,Aaa,by rw [ah HX0,ah HX,List.length_append];rfl,Aah,by rw [ah HX0];exact Nj,gY⟩
 case measure=>simp[intOf];omega):P:=h
theorem aBj(h:P:=by
 refine gL 11 rfl Aab Aad Aae (λxf hxf=>?_);have HGg:=Hq (Ge.trans HGf hxf);have Zj:=Hq (au HQf hxf);have HDg:=Hq (Ge.trans HDf hxf);clear hxf;obtain⟨d0,d1,d2,d3,d4,d5,d6,d7,d8⟩:=nine Zj;have f0:=aj Zj 0;have f1:=aj Zj 1;have f2:=aj Zj 2;have f3:=aj Zj 3;have f4:=aj Zj 4;have f5:=aj Zj 5;have f6:=aj Zj 6;have f7:=aj Zj 7;have f8:=aj Zj 8;have hrl:=aA Zj;go_simp;have hkq:aC [qf] xf (GR.setW xf qf 0 (dH m' A3).toList):=aM (g:=qf) _ xf 0;refine⟨hkq.below (λx hx=>by rw [List.mem_singleton.1 hx];exact hqV) HGg.size,?_⟩;have HBQ:=Hq (GR.setW_blk (dH m' A3).toList (o:=0) (xs:=gN.toList) Zj);have HKD:=Hq (aC.trans (F:=[qf]) (aC.of_below HDg) hkq);have vW:=Hq (Below.trans HGg (hkq.below (B:=wr.heap.size) (λx hx=>by rw [List.mem_singleton.1 hx];exact hqV) HGg.size));clear hkq d0 d1 d2 d3 d4 d5 d6 d7 d8 f0 f1 f2 f3 f4 f5 f6 f7 f8 hrl;have hwp:=vW.size;refine tk [12] ?_;(refine tkB hwp (λK hK=>?_);go_simp;first|refine hK _ ?_|(apply Exists.intro;refine⟨λ_=>?_,hK _ ?_⟩;rfl);clear hK K)
 refine jK ?_;clear hwp;refine oL Aab (λz hz=>?_);have aDs:=Hq (au HBQ hz);have HNz:=Hq (((HNL.or hqd HKD).step hz).mono (Nat.le_trans hsz hxs));have aDt:=Hq (vW.trans (hz.mono vW.size));clear hz HBQ HKD vW;refine aH 13 rfl Aab Aad ?_;go_simp;refine wpAny_done Aab ?_;go_simp;go_wp2_with fail;go_meet
 case rel=>exact⟨qf,A3,rfl,aDs,HNz,aDt⟩):P:=h
theorem aBk(h:P:=by
 go_wp2_with fail;go_loopw [10] (λi wr=>∃j q:Nat,j<=n.reqs.length/\i= .int .i64 j/\(∀x (hx:x < n.reqs.length),x < j->n.reqs[x].no < no)/\wr=W4.drewN q) (λi _=>n.reqs.length - (intOf i).toNat)
 case atStart=>exact⟨0,0,Nat.zero_le _,rfl,λx hx h=>Aaa,rfl⟩
 case round=>
  obtain⟨j,q,hj,rfl,hlo,rfl⟩:=hrel;have ZI:=Hq hlo;clear hlo;by_cases hlt:j < n.reqs.length
  .obtain⟨g',off',e0,hg',y0,_,_,_⟩:=gF.four HA4 j hlt;cases e0
   rw [Nat.zero_add] at y0
   have HUP:=Hq (fun(h:no<=n.reqs[j].no)=>Me (l:=n.reqs) (no:=no) Gi (i:=j) hj ZI (λx hx hjx=>by
    rcases Nat.lt_or_eq_of_le hjx with h1|h1
    .have:=List.pairwise_iff_getElem.1 Gi j x hlt hx h1;omega
    .subst h1;exact h))
   have ZK:=Hq (fun(h:n.reqs[j].no < no)=>show∀x (hx:x < n.reqs.length),x < j+1->n.reqs[x].no < no from λx hx h2=>by
    by_cases e:x=j
    .subst e;exact h
    .exact ZI x hx Aaa)
   generalize n.reqs[j].no=rn at *;by_cases hcmp:rn < no
   .go_wp2_with fail;go_quiet (fail);go_wp2_with fail;go_roundw
    case rel=>exact⟨j+1,_,Aaa,Aah,ZK hcmp,rfl⟩
    case measure=>simp[intOf];omega
   .have abR:decide (rn < no)=false:=decide_eq_false hcmp;have HJ:=Hq (HUP Aaa);go_wp2_with fail;go_quiet (fail);go_wp2_with fail;go_meet
    case rel=>exact⟨by rw [ah HJ],⟨rfl,rfl,rfl,Nat.le_refl _,λ_ _=>rfl⟩⟩
  .have hje:j=n.reqs.length:=Aaa
   subst hje;have HJ:=Hq (Me (l:=n.reqs) (no:=no) Gi (i:=n.reqs.length) (Nat.le_refl _) ZI (λx hx hjx=>Aaa));have abR:decide ((n.reqs.length:Int) < (n.reqs.length:Int))=false:=Aac
   go_wp2_with fail;go_quiet (fail);go_wp2_with fail;go_meet
   case rel=>exact⟨by rw [ah HJ],⟨rfl,rfl,rfl,Nat.le_refl _,λ_ _=>rfl⟩⟩):P:=h
theorem akW(h:P:=by
 dsimp only at q0 q1 q2 q3 hkk;have hkm:pk.size<=maxLen:=hkk;unfold maxLen at hkk;go_wp2_with fail;refine(uX _).mono ?_;rintro e w5 ⟨rfl,hb5⟩;have fO:=Hq (cZ.trans (hb5.mono cZ.size));clear hb5 q0 q1 q2 q3;dsimp only;by_cases hc:(pk.size:Int)<=z
 .rw [if_pos hc];have hn2:decide (z - (pk.size:Int) < 0)=false:=decide_eq_false Aaa;go_wp2_with fail;go_roundw
  case rel=>
   refine⟨k+1,z - pk.size,Aaa,Aah,rfl,Aaa,Aaa,?_,fO⟩;intro p hp;rw [ah HT] at hp;rcases List.mem_append.1 hp with h|h
   .exact kX p h
   .rw [List.mem_singleton] at h;subst h;show pk.size<=1048576
    omega
  case measure=>simp[intOf];omega
 .rw [if_neg hc];go_wp2_with fail;go_ret;exact⟨-1,rfl,fO,.inl rfl⟩):P:=h
theorem akX(h:P:=by
 go_wp2_with fail;go_loopw [7] (λj wr=>∃x q:Nat,x<=i/\j= .int .i64 x/\wr=W0.drewN q) (λj _=>i - (intOf j).toNat)
 case atStart=>exact⟨0,0,Nat.zero_le _,rfl,rfl⟩
 case round=>
  obtain⟨x,q,hx,rfl,rfl⟩:=hrel;have hxl:x < n.seen.length:=Aaa
  obtain⟨b',c',e',hg',⟨u0,_,_⟩,_,_⟩:=iL.three adZ.s x hxl;by_cases hxi:x=i
  .subst hxi;rw [hs0,hfi] at u0;have hnn:(mF != mF)=false:=Aac
   go_wp2_with fail;go_quiet (fail);go_wp2_with fail;go_meet
   case rel=>exact⟨rfl,⟨rfl,rfl,rfl,Nat.le_refl _,λ_ _=>rfl⟩⟩
  .have hne:=hbef x hxl Aaa;generalize n.seen[x].f=fx at *;have hnn:(fx != mF)=true:=by simpa using hne
   go_wp2_with fail;go_quiet (fail);go_wp2_with fail;go_roundw
   case rel=>exact⟨x+1,_,Aaa,Aah,rfl⟩
   case measure=>simp[intOf];omega):P:=h
theorem aBl(h:P:=by
 by_cases hk:k.toList=[]
 case' neg=>
  go_wp2_with fail;go_ret;exact⟨aF (by rw [ah HP];simp[lQ,hk]),iR⟩
 by_cases hn:n=0
 case' neg=>
  have hn':¬(0:Int)=n:=λe=>hn e.symm
  go_wp2_with fail;go_ret;exact⟨aF (by rw [ah HP];simp[lQ,hk,hn]),iR⟩
 subst hn;by_cases hmK:mK=0
 case' neg=>
  have aFW:¬(0:Int)=mK:=λe=>hmK e.symm
  go_wp2_with fail;go_ret;exact⟨aF (by rw [ah HP];simp[lQ,hk,hmK]),iR⟩
 subst hmK;by_cases hmF:mF=0
 case' neg=>
  have aFU:¬(0:Int)=mF:=λe=>hmF e.symm
  go_wp2_with fail;go_ret;exact⟨aF (by rw [ah HP];simp[lQ,hk,hmF]),iR⟩
 subst hmF;by_cases hmT:mT=0
 case' neg=>
  have aFZ:¬(0:Int)=mT:=λe=>hmT e.symm
  go_wp2_with fail;go_ret;exact⟨aF (by rw [ah HP];simp[lQ,hk,hmT]),iR⟩
 subst hmT;by_cases hmI:mI=0
 case' neg=>
  have aFV:¬(0:Int)=mI:=λe=>hmI e.symm
  go_wp2_with fail;go_ret;exact⟨aF (by rw [ah HP];simp[lQ,hk,hmI]),iR⟩
 subst hmI;by_cases hmL:mL=0
 case' neg=>
  have aFX:¬(0:Int)=mL:=λe=>hmL e.symm
  go_wp2_with fail;go_ret;exact⟨aF (by rw [ah HP];simp[lQ,hk,hmL]),iR⟩
 subst hmL;by_cases hmk:mk.toList=[]
 case' neg=>
  go_wp2_with fail;go_ret;exact⟨aF (by rw [ah HP];simp[lQ,hk,hmk]),iR⟩
 by_cases hmN:mN=0
 case' neg=>
  have aFY:¬(0:Int)=mN:=λe=>hmN e.symm
  go_wp2_with fail;go_ret;exact⟨aF (by rw [ah HP];simp[lQ,hk,hmk,hmN]),iR⟩
 subst hmN;go_wp2_with fail;go_ret;exact⟨aF (by rw [ah HP];simp[lQ,hk,hmk]),iR⟩):P:=h
theorem Sj(h:P:=by
 open apI in exact xP):P:=h
theorem aBm(h:P:=by
 open ayy in exact ahN):P:=h
theorem abh(h:P:=by
 have HP:=Hq (HD Aaj);clear HD HE;go_upto_region 6 with fail;go_quiet (fail);go_wp2_with fail;go_ret;exact .no HP (fI _ cZ)):P:=h
theorem xQ(h:P:=by
 exact⟨Aan,below_regrown _ dq osq⟩):P:=h
theorem aBn(h:P:=by
 open au9 in exact agM):P:=h
theorem wP(h:P:=by
 go_ret;exact⟨aF HP.symm,ay w _⟩):P:=h
theorem aaX(h:P:=by
 intro k ok hk hki hun hno;refine hfree k ok hk hki ?_ hno;by_cases hjk:j=k
 .subst hjk;exact hjun
 .rw [getD_set_ne true hjk] at hun;exact hun):P:=h
theorem aBo(h:P:=by
 open aoI in exact akK):P:=h
theorem aBp(h:P:=by
 open arb in exact akN):P:=h
theorem aBq(h:P:=by
 rw [ah HD];clear HD hT;go_in
 go_upto_region 1 with fail;refine dz Aab ?_;show gT _ _ _ _ 18 (Array.replicate 18 false) _ _
 refine tk [0,1,2,3,4,5,6,7,8,9,10,11,12,13,14] ?_;iterate 15 (refine AJ (λK hK=>?_);go_simp;refine hK _ ?_;clear hK K)
 refine jK ?_;refine aP 15 rfl Aab Aab Aab (λ_ _ _ _ h=>h) (λK hK=>?_);go_simp
 first
  |(refine hK _ ?_;clear hK K)
  |(apply Exists.intro
    refine⟨λ_=>?_,hK _ ?_⟩
    (exact RJ _ (R7 _))
    clear hK K)
 refine tk [16,17] ?_;open ayB in exact aaK):P:=h
theorem aBr(h:P:=by
 open apY in exact aAy):P:=h
theorem akY(h:P:=by
 by_cases hlow:s0.l < mL
 .have hd:decide (s0.l < mL)=true:=decide_eq_true hlow;have HLW:=Hq (show fJ s0 mL=mL from if_pos hlow);go_wp2_with fail;go_meet
  case rel=>exact⟨rfl,by rw [ah HLW];exact aR WQ 1 _,aC.set _⟩
 .have hd:decide (s0.l < mL)=false:=decide_eq_false hlow;have HLW:=Hq (show fJ s0 mL=s0.l from if_neg hlow);go_wp2_with fail;go_meet
  case rel=>exact⟨rfl,by rw [ah HLW];exact WQ,aC.refl _ _⟩):P:=h
theorem abj(h:P:=by
 have hlen:(l.take k).length=k:=Aag
 rw [List.set_append_right _ _ Aaa,hlen,Nat.sub_self];have e:l.length - k=(l.length - (k+1))+1:=Aaa
 rw [e,List.replicate_succ,List.take_succ_eq_append_getElem hk,List.append_assoc];rfl):P:=h
theorem Sk(h:P:=by
 open apH in exact xP):P:=h
theorem aBs(h:P:=by
 open apX in exact aAy):P:=h
theorem akZ(h:P:=by
 have HK:=Hq (λw1=>iC k false w1 hk);cases hn:fK n
 .have HN:=Hq (λw1=>aT n false w1 hn);have HP:=Hq (show R=(decide (no=0)&&false&&false&&lQ ⟨mK,mF,mT,mI,mL,mk,mN⟩) by rw [<-ah HR];simp[cK,hk,hn]);exact akV
 .have HN:=Hq (λw1=>aT n true w1 hn);have HP:=Hq (show R=(decide (no=0)&&false&&true&&lQ ⟨mK,mF,mT,mI,mL,mk,mN⟩) by rw [<-ah HR];simp[cK,hk,hn]);exact akV):P:=h
theorem ze(h:P:=by
 go_ret;exact⟨aF (HP.symm.trans HQ),hB⟩):P:=h
theorem ak0(h:P:=by
 clear hr hc0;go_in
 go_wp2_with (first|(go_at_call 341;refine(HR _).mono ?_;rintro e w2 ⟨rfl,hb2⟩;have hA:=aN (heap_alloc_new w _) hb2;have hB:=(ay w _).trans (hb2.mono Aac);obtain⟨c0,c1,c2,c3,c4,c5⟩:=Kw hA;have hz:=dG hA;clear hA hb2)|(go_at_call_of 169 I;refine(Nf _).mono ?_;rintro e w1 ⟨rfl,rfl⟩))
 exact ze):P:=h
theorem Xb(h:P:=by
 have hb:aI w w1:=(ay w _).grown hgrow Aac (λk hk=>Ada);clear hown' hgrow hlit;go_wp2
 go_ret;exact⟨_,rfl,HO,hb⟩):P:=h
theorem ak1(h:P:=by
 open azu in exact Vr):P:=h
theorem aBt(h:P:=by
 have hold:=(lI.kc (k:=9) ((KC.of_below pz).trans (KC.out H9 ho)) Aaa);have hp:=(ah RY).out (w:=w) Aaa ho;have hr:=(ah HLZ).out (w:=w) Aaa ho
 have hp9:∀g',av.map (λy=>y.block)=some g'->6 < newC w.heap.size 9 c g':=λg' hg'=>by
  have h1:=hp.lo (nR hp hg')
  rw [bq Aaa]
  omega
 exact NQ.put hold hold _ _ rfl rfl rfl rfl (hp.lies aZ).1 (λg' hg' _=> .inr (hp9 g' hg')) hold.o (λy hy=> .inl (hold.co y hy)) hr (λy hy=> .inr (by have h1:=hr.lo hy;rw [bq Aaa];omega))
  (λg' hg' _ h6=>⟨λe=>by have:=hold.co g' e;omega,hp.ne hr Aae (nR hp hg')⟩) (λy hy h6=>by have:=hold.co y hy;omega)):P:=h
theorem abk(h:P:=by
 open apG in exact xP):P:=h
theorem aeA(h:P:=by
 open apF in exact xP):P:=h
theorem aBu(h:P:=by
 open axQ in exact Om):P:=h
theorem ak2(h:P:=by
 open avj in exact agR):P:=h
theorem abl(h:P:=by
 go_wp2_with fail;refine H.mono ?_;rintro e w1 ⟨a1,c1,g,hg,rfl,hblk,hb⟩;have HK:=Hq hblk;have HB:=Hq hb;clear hblk hb;go_wp2_with fail;go_ret2
 exact⟨_,_,g,hg,rfl,HK,HB⟩):P:=h
theorem ak3(h:P:=by
 open avG in exact agZ):P:=h
theorem aBv(h:P:=by
 subst hx;by_cases hx:x3=y3
 case' neg=>
  have hq:(x3 == y3)=false:=Aaf
  exact abh
 subst hx;have HT2:=Hq (HE rfl);clear HE HD;go_upto_region 6 with fail;go_quiet (fail);go_wp2_with fail;go_roundw
 case rel=>exact⟨k+1,Aaa,Aah,fI _ cZ,HT2⟩
 case measure=>simp[intOf];omega):P:=h
theorem aBw(h:P:=by
 obtain⟨k,hk,rfl,rfl,rfl⟩:=hrel;have hb:=Mth.sums_lt (s.data.toList.take k);by_cases hlt:k < s.size
 .have HS:Hid (Mth.sums (s.data.toList.take (k+1))=Mth.sumStep (Mth.sums (s.data.toList.take k)) s[k]):=by rw [Mth.take_snoc s k hlt];exact Mth.sums_snoc _ _
  have hc:s[k].toNat < 256:=s[k].toNat_lt;go_wp2
  go_round
  case rel=>exact⟨k+1,Aaa,Aah,by rw [HS.out];simp[Mth.sumStep],by rw [HS.out];simp[Mth.sumStep]⟩
  case measure=>simp[intOf];omega
 .rw [Mth.take_all s k hlt];rw [Mth.take_all s k hlt] at hb;go_wp2
  go_ret;exact⟨Mf Aaa,rfl⟩):P:=h
theorem aBx(h:P:=by
 rcases hcase with rfl|⟨r0,r1,hqq⟩
 .go_wp2_with fail;go_ret;exact⟨-1,rfl,.inl rfl,fO⟩
 .have hn2:decide (r < 0)=false:=decide_eq_false Aaa;have HQQ:=Hq hqq;clear hqq;go_wp2_with fail;go_roundw
  case rel=>
   refine⟨k+1,r,Aaa,Aah,rfl,Aaa,Aaa,?_,fO⟩;intro p hp;rw [ah HT] at hp;rcases List.mem_append.1 hp with h|h
   .exact kX p h
   .rw [List.mem_singleton] at h;subst h;exact HQQ
  case measure=>simp[intOf];omega):P:=h
theorem aBy(h:P:=by
 have e1:(w.alloc a).heap.size=w.heap.size+1:=Aac
 have e2:((w.alloc a).alloc b).heap.size=w.heap.size+1+1:=Aac
 have h2:=Below.heap_alloc ((w.alloc a).alloc b) c (w.heap.size+1) Aaa;have h3:=heap_alloc_new ((w.alloc a).alloc b) c;have h4:=heap_alloc_new (w.alloc a) b;have h5:=Below.heap_alloc ((w.alloc a).alloc b) c w.heap.size Aaa;have h6:=Below.heap_alloc (w.alloc a) b w.heap.size Aaa;rw [e2] at h3;rw [e1] at h4;exact⟨h5.trans (h6.trans (heap_alloc_new w a)),h2.trans h4,h3,((ay w a).alloc Aaa b).alloc Aaa c⟩):P:=h
theorem aBz(h:P:=by
 open aoD in exact aeo):P:=h
theorem aBA(h:P:=by
 clear hr hc0 hc1 hc2;go_in
 go_wp2_with (first|(go_at_call 341;refine(HR _).mono ?_;rintro e w2 ⟨rfl,hb2⟩;have hA:=aN (heap_alloc_new w _) hb2;have hB:=(ay w _).trans (hb2.mono Aac);obtain⟨c0,c1,c2,c3,c4,c5⟩:=Kw hA;have hz:=dG hA;clear hA hb2)|(go_at_call_of 169 I;refine(Nf _).mono ?_;rintro e w1 ⟨rfl,rfl⟩)|(go_at_call_of 204 k;refine(Rz _).mono ?_;rintro e w1 ⟨rfl,rfl⟩)|(go_at_call_of 169 N;refine(Gl _).mono ?_;rintro e w1 ⟨rfl,rfl⟩))
 exact ze):P:=h
theorem ak4(h:P:=by
 open awF in exact ahh):P:=h
theorem aBB(h:P:=by
 open anF in exact WV):P:=h
theorem aBC(h:P:=by
 have hil:i < l.length:=by simpa using hi'
 by_cases e:i=k
 .subst e;refine⟨b,cc,?_,?_⟩
  .rw [List.getElem_set_self,List.getElem?_set_self hkT]
  .rw [List.getElem_set_self];unfold sG;rw [if_pos rfl];exact hi.keeps hkp (λx hx=>by simpa using hgi x hx)
 .obtain⟨b',c',ht,hi2⟩:=hr i hil;refine⟨b',c',?_,?_⟩
  .rw [List.getElem_set_ne Aaa,List.getElem?_set_ne Aaa];exact ht
  .rw [List.getElem_set_ne Aaa];unfold sG;rw [if_neg e];exact hi2.keeps hkp (λx hx=>by simpa using hg4 x (lV hil x hx))):P:=h
theorem aBD(h:P:=by
 go_wp2_with fail;refine iH (λW' hW'=>?_);obtain⟨⟨r0,r1,r2,r3,r4,r5,r6,r7,r8,r9,Zt⟩,_⟩:=aO (show W'.heap[w.heap.size]?=some (.cells (bY 0 0 ⟨#[]⟩ 0 0 0 0 0 0 ⟨#[]⟩ 0) 100 (0,0)) by rw [hW'];exact lq HR);have hbb:aI w W':=by rw [hW'];exact iJ HB (Nat.le_refl _)
 exact bodyPost_ret (v:= .tuple #[.agg (bY 0 0 ⟨#[]⟩ 0 0 0 0 0 0 ⟨#[]⟩ 0),.bool false]) Acx rfl ⟨Abl,hbb⟩):P:=h
theorem Xc(h:P:=by
 exact⟨0,z0 - l.length,Nat.zero_le _,rfl,Aah,Aaa,Aaa,λp hp=>by simp at hp,Below.refl _ _⟩):P:=h
theorem aBE(h:P:=by
 obtain⟨s0,s1,s2,s3⟩:=rT.four gY k Aaa;open awQ in exact aax):P:=h
theorem aBF(h:P:=by
 clear hr hc2 hc3 hc4 EH;go_in
 go_wp2_with (first|(go_at_call_of 100 F;refine(H1 _).mono ?_;rintro e w1 ⟨rfl,rfl⟩)|(go_at_call_of 100 T;refine(H2 _).mono ?_;rintro e w1 ⟨rfl,rfl⟩)|(go_at_call_of 52 k;refine(Gl _).mono ?_;rintro e w1 ⟨rfl,rfl⟩)|(go_at_call_of 49 N;refine(HC3 _).mono ?_;rintro e w1 ⟨rfl,rfl⟩)|(go_at_call_of 49 I;refine(HC4 _).mono ?_;rintro e w1 ⟨rfl,rfl⟩)|(go_at_call 18;refine(HC5 _).mono ?_;rintro e w1 ⟨rfl,rfl⟩))
 exact wP):P:=h
theorem aBG(h:P:=by
 clear hr hc0 hc1;go_in
 go_wp2_with (first|(go_at_call 341;refine(HR _).mono ?_;rintro e w2 ⟨rfl,hb2⟩;have hA:=aN (heap_alloc_new w _) hb2;have hB:=(ay w _).trans (hb2.mono Aac);obtain⟨c0,c1,c2,c3⟩:=Kv hA;have hz:=dG hA;clear hA hb2)|(go_at_call_of 204 k;refine(Nf _).mono ?_;rintro e w1 ⟨rfl,rfl⟩)|(go_at_call_of 169 N;refine(Rz _).mono ?_;rintro e w1 ⟨rfl,rfl⟩))
 exact ze):P:=h
theorem aeB(h:P:=by
 have HD:=Hq (show¬n=m from λh=>hx (by rw [h]));clear hx HZ HA HB;go_in
 go_wp2_with fail;go_ret;exact .no HD (zf _ _ _)):P:=h
theorem aBH(h:P:=by
 have hold:=(lI.kc (k:=9) ((KC.of_below pz).trans (KC.out H9 ho)) Aaa);have hr:=(ah HLZ).out (w:=w) Aaa ho
 exact NQ.put hold hold _ _ rfl rfl rfl rfl hold.p.at (λg' hg' hp'=> .inl (hold.cpB hold g' hg' hp')) hold.o (λy hy=> .inl (hold.co y hy)) hr (λy hy=> .inr (by have h1:=hr.lo hy;rw [bq Aaa];omega))
  (λg' hg' hp' h6=>by have:=hold.cpB hold g' hg' hp';omega) (λy hy h6=>by have:=hold.co y hy;omega)):P:=h
theorem ak5(h:P:=by
 obtain⟨g,off,e,hg,hc⟩:=h i hi;refine⟨g,off,e,hg,?_,?_,?_,?_⟩
 .simpa using hc 0 Aaa
 .simpa [Nat.add_assoc] using hc 1 Aaa
 .simpa [Nat.add_assoc] using hc 2 Aaa
 .simpa [Nat.add_assoc] using hc 3 Aaa):P:=h
theorem Sl(h:P:=by
 go_wp2_with fail;go_ret;exact⟨_,rfl,World.ownsRow_nil _ _ _ _,Below.refl _ _⟩):P:=h
theorem aBI(h:P:=by
 open avi in exact agR):P:=h
theorem AZ(h:P:=by
 exact⟨0,Nat.zero_le _,rfl,Below.refl _ _⟩):P:=h
theorem aBJ(h:P:=by
 clear hr hc0;go_in
 go_wp2_with (first|(go_at_call 341;refine(HR _).mono ?_;rintro e w2 ⟨rfl,hb2⟩;have hA:=aN (heap_alloc_new w _) hb2;have hB:=(ay w _).trans (hb2.mono Aac);obtain⟨c0,c1,c2⟩:=cells3 hA;have hz:=dG hA;clear hA hb2)|(go_at_call_of 169 I;refine(Nf _).mono ?_;rintro e w1 ⟨rfl,rfl⟩))
 exact ze):P:=h
theorem aFk(h:P:=by
 rw [Zq];exact hW5.W.keeps (aM [.int .i64 mF,.int .i64 (fJ s0 mL),.slice (some ⟨gi,0,none⟩) (bg s0 mL).length OP] _ (i*3)) (λx hx hm=>by have h1:=(eD hx).1;simp at hm;omega)):P:=h
theorem aBK(h:P:=by
 go_wp2_with fail;refine(Ng _ (GR.At.below HA HB1)).mono ?_;rintro e w2 ⟨v,rfl,hnn,hrow,hb2⟩;have HNN:=Hq hnn;have HR:=Hq (own_lower hrow HB1.size);have HB2:=Hq (HB1.trans (hb2.mono HB1.size));clear hrow hb2 hnn;go_wp2_with fail;refine bodyPost_ret (v:= .tuple #[v,.bool false]) Acy rfl ⟨v,rfl,HNN,HR,HB2⟩):P:=h
theorem aBL(h:P:=by
 clear eZ;refine wp_region_quiet_below Aab Aab ?_;repeat (first|go_big_quiet_step ((first|(go_at_call_of 18 si;exact a1 _ _)|(go_at_call 52;exact a2 _ _)|(go_at_call 49;exact a3 _ _)|(go_at_call_of 18 st;exact a4 _ _)))|quiet_step ((first|(go_at_call_of 18 si;exact a1 _ _)|(go_at_call 52;exact a2 _ _)|(go_at_call 49;exact a3 _ _)|(go_at_call_of 18 st;exact a4 _ _))))
 exact ak1):P:=h
theorem aBM(h:P:=by
 clear eZ;refine wp_region_quiet_below Aab Aab ?_;repeat (first|go_big_quiet_step ((first|(go_at_call 18;exact a1 _ _)|(go_at_call 51;exact a2 _ _)|(go_at_call 52;exact a3 _ _)|(go_at_call 49;exact a4 _ _)))|quiet_step ((first|(go_at_call 18;exact a1 _ _)|(go_at_call 51;exact a2 _ _)|(go_at_call 52;exact a3 _ _)|(go_at_call 49;exact a4 _ _))))
 exact ak1):P:=h
theorem aeC(h:P:=by
 go_wp2_with (go_at_call 252;refine(yu _ _).mono ?_;rintro e w' ⟨rfl,rfl⟩)
 go_ret3
 exact⟨ac8 HR,rfl⟩):P:=h
theorem ak6(h:P:=by
 go_wp2_with fail;refine HNN.mono ?_;rintro e w9 ⟨rfl,hb9⟩;have HKK:=Hq (HS.keep.trans (dR.of_below hb9));clear hb9;go_wp2_with fail;exact⟨rfl,.inr ⟨hno,_,rfl⟩,HKK⟩):P:=h
theorem Xd(h:P:=by
 go_wp2_with fail;go_ret;exact⟨rfl,(Below.refl _ _).alloc (Nat.le_refl _) _⟩):P:=h
theorem aeD(h:P:=by
 have HD:=Hq (show¬n=m from λh=>by have:=hr.2 (by rw [h]);cases this);clear hr;go_wp2_with fail;go_ret;exact .no HD HL):P:=h
theorem aBN(h:P:=by
 open awE in exact ahh):P:=h
theorem aBO(h:P:=by
 constructor
 .intro hf;have e:l=l.take i++l[i]::l.drop (i+1):=by rw [<-List.drop_eq_getElem_cons hi,List.take_append_drop]
  have h2:(l.take i++l[i]::l.drop (i+1)).find? f=some l[i]:=by
   rw [List.find?_append,h,List.find?_cons,hf];rfl
  rw [<-e] at h2;exact h2
 .intro hf;rw [List.take_succ_eq_append_getElem hi,List.find?_append,h,List.find?_cons,hf];rfl):P:=h
theorem aeE(h:P:=by
 have HBAD:=Hq (nS hlt (show nQ l (j+1)=false by rw [ah nM];simp[iD,hA]));clear nM iG hA;exact Zk3):P:=h
theorem ak7(h:P:=by
 have HN:=Hq (λw1=>aT n false w1 hn);have HP:=Hq (show R=(decide (no=0)&&true&&false&&lQ ⟨mK,mF,mT,mI,mL,mk,mN⟩) by rw [<-ah HR];simp[cK,hk,hn]);exact akV):P:=h
theorem aFl(h:P:=by
 rw [Zq];exact((aC.set _).mono Aac).trans ((aM [.int .i64 mF,.int .i64 (fJ s0 mL),.slice (some ⟨gi,0,none⟩) (bg s0 mL).length OP] _ (i*3)).mono Aac)):P:=h
theorem aeF(h:P:=by
 have HBAD:=Hq (nS hlt (show nQ l 0=false by rw [ah nM];simp[iD,hA]));clear nM iG hA;exact Zk3):P:=h
theorem aBP(h:P:=by
 have hj9:j < 9:=(List.getElem?_eq_some_iff.1 hj).1;rcases TW hj9 with rfl|rfl|rfl|rfl|rfl|rfl|rfl|rfl|rfl<;>exact hj):P:=h
theorem aeG(h:P:=by
 go_wp2_with (go_at_call 201;refine(H1 _).mono ?_;rintro e w1 ⟨rfl,rfl⟩)
 go_ret;exact⟨aF HV.symm,nL⟩):P:=h
theorem aBQ(h:P:=by
 have Gl:=Hq (λw1=>nU k false w1 hs hc2);clear hr hc2;go_in
 go_wp2_with (first|(go_at_call_of 100 F;refine(H1 _).mono ?_;rintro e w1 ⟨rfl,rfl⟩)|(go_at_call_of 100 T;refine(H2 _).mono ?_;rintro e w1 ⟨rfl,rfl⟩)|(go_at_call_of 52 k;refine(Gl _).mono ?_;rintro e w1 ⟨rfl,rfl⟩))
 exact wP):P:=h
theorem ak8(h:P:=by
 have HP:=Hq (HD Aaj);clear HD HE hx;go_upto_region 6 with fail;go_quiet (fail);go_wp2_with fail;go_ret;exact .no HP (fI _ cZ)):P:=h
theorem VD(h:P:=by
 have h:=ah kX;rw [List.take_length] at h;exact nW.trans h):P:=h
theorem ak9(h:P:=by
 have HF:Hid (TT=true):=by
  exact VD
 go_wp2_with fail;go_ret;exact⟨aF HF.symm,cZ⟩):P:=h
theorem aFm(h:P:=by
 rw [DV s a Aaa];have h:=tJ hc (a+4) (s.size - (a+4)) (s.size - (a+4)) Aaa;rw [h,show a+min (s.size - a) 1006=a+4+(s.size - (a+4)) by omega]):P:=h
theorem aBR(h:P:=by
 have h2:=ih (w.setCell ⟨g,o,none⟩ v) (o+1) (λj' hj'=>by
  obtain⟨v1,hv1⟩:=h (j'+1) (by simpa using hj')
  refine⟨v1,(World.cell?_setCell_other _ _ _ _ (by simp<;>omega)).trans ?_⟩
  rw [<-hv1,show o+1+j'=o+(j'+1) by omega]) j Abf
 rw [show o+1+j=o+(j+1) by omega] at h2;exact h2):P:=h
theorem aBS(h:P:=by
 have h1:=(cu hok).1;have h2:=(cu hok).2.2.1;have h3:=vI h1;rw [wK h1,Bool.and_eq_true,decide_eq_true_eq] at h2;have h4:=congrArg List.length h2.1;rw [List.length_map,ql] at h4;unfold eP at h1;simp only[Bool.and_eq_true,decide_eq_true_eq] at h1;split at h3<;>omega):P:=h
theorem aik(h:P:=by
 refine run_convert_bytes_back (P:=prog) w 162 9 5 ⟨g,0,none⟩ 1 [UInt8.ofNat K.toNat] underlying162 underlying5 underlying9 ?_;intro j hj;obtain rfl:j=0:=Abf
 show w.cell? ⟨g,0,none⟩=_
 rw [hc];simp only[List.getElem_cons_zero];rw [toNat_byte _ Aaa];congr 2
 omega):P:=h
theorem ail(h:P:=by
 clear hbad;go_in
 go_wp2_with (first|(go_at_call 251;refine(HS _).mono ?_;rintro e w1 ⟨rfl,rfl⟩;simp only[rD])|(go_at_call 252;refine(yu _ _).mono ?_;rintro e w' ⟨rfl,rfl⟩))
 go_ret3
 exact⟨by rw [ah HR];rfl,Below.refl _ _⟩):P:=h
theorem ain(h:P:=by
 clear eZ;refine wp_region_quiet_below Aab Aab ?_;repeat (first|go_big_quiet_step ((first|(go_at_call 51;exact cN _ _)|(go_at_call 49;exact cS _ _)))|quiet_step ((first|(go_at_call 51;exact cN _ _)|(go_at_call 49;exact cS _ _))))
 exact ak1):P:=h
theorem Vt(h:P:=by
 go_wp2_with fail;go_ret;exact⟨rfl,((Below.refl _ _).alloc (Nat.le_refl _) _).alloc Aac _⟩):P:=h
theorem En(h:P:=by
 simp only[Int.toNat_natCast] at h;rw [e] at h;exact h):P:=h
theorem aio(h:P:=by
 obtain⟨e,hg,hc⟩:=h i hi;exact⟨e,hg,⟨by simpa using(hc 0 Aaa).1,by simpa using(hc 1 Aaa).1,by simpa using(hc 2 Aaa).1,by simpa using(hc 3 Aaa).1⟩,by simpa using(hc 0 Aaa).2,(hc 1 Aaa).2,(hc 2 Aaa).2,(hc 3 Aaa).2⟩):P:=h
theorem aip(h:P:=by
 open apE in exact xP):P:=h
theorem aAT(h:P:=by
 rcases Nat.lt_or_ge G.s B with h1|h1
 .have h2:=lI.lo G.s h1;rw [fq Aaa,hc4] at h2;omega
 .exact h1):P:=h
theorem aAU(h:P:=by
 rcases zC.2 with⟨h1,_⟩|⟨g1,aG1,aG2,hv1,_,_,aHs,_⟩
 .simp at h1
 .simp only[Value.slice.injEq] at hv1;omega):P:=h
theorem aAV(h:P:=by
 rw [DV s a Aaa];have h:=tJ hc (a+4) 1002 1002 Aaa;rw [h,show a+min (s.size - a) 1006=a+4+1002 by omega]):P:=h
theorem aiq(h:P:=by
 go_wp2_with (go_at_call 18;first|(refine(mW _ _ _ _ ?_ ?_).mono ?_;omega;omega;rintro e w' ⟨rfl,rfl⟩)|(refine(pX _ _ _ _ ?_).mono ?_;omega;rintro e w' ⟨rfl,rfl⟩))
 go_ret;exact⟨aF (by rw [ah HF];simp;omega),rfl⟩):P:=h
theorem air(h:P:=by
 open apD in exact xP):P:=h
theorem Vu(h:P:=by
 exact(((Below.refl _ _).alloc (Nat.le_refl _) _).alloc Aac _).alloc Aag _):P:=h
theorem ais(h:P:=by
 clear HR;clear ho;go_in
 go_wp2_with (first|(go_at_call_of 49 no;refine(HO _).mono ?_;rintro e w1 ⟨rfl,rfl⟩))
 all_goals
  go_ret
  refine⟨aF ?_,ay w _⟩
  rw [ah HP]
  simp[lQ, *]):P:=h
theorem aaS(h:P:=by
 have HBAD:=Hq (nS hlt (show nQ l (j+1)=false by rw [ah nM];simp[hsl]));clear nM iG hsl;exact Zk3):P:=h
theorem ait(h:P:=by
 have e1:(w.alloc a).heap.size=w.heap.size+1:=Aac
 have h1:=heap_alloc_new w a;have h2:=heap_alloc_new (w.alloc a) b;rw [e1] at h2;refine⟨?_,h2,(ay w _).alloc Aac _⟩;rw [Below.heap_alloc _ _ _ (by rw [e1];omega)];exact h1):P:=h
theorem aAX(h:P:=by
 by_cases hcz:aU=pos
 .refine⟨_,rfl,?_⟩;rw [show n.reqs.drop pos=[] by apply List.drop_eq_nil_of_le;omega];exact GR.at_nil _ _
 .refine⟨_,rfl,?_⟩;rw [if_neg hcz];exact GR.At.drop HA5 pos):P:=h
theorem aiu(h:P:=by
 rw [e0] at e2;injection e2 with e2
 injection e2 with e2 e3
 subst e2 e3;refine⟨_,?_,.inr ⟨j,_,rfl,rfl,p0⟩⟩;have h:=ah D9 j hlt;rw [ah kX] at h;exact h):P:=h
theorem aiv(h:P:=by
 have hw:Region.wanted o (yielded ops a.tmps)=true:=by simp[Region.wanted,hgd]
 rw [if_pos hw];exact wp_append_own w s x t ho base e i z size bytes ht hi hz hsize hby hzs hsz v n xs hs hown ad m c news hx hl hnews h1 h63 hbytes hbase h):P:=h
theorem aaT(h:P:=by
 cases fuel with
 |zero=>exact⟨h.1,λy hy=>h.2 y (Ge.trans hx hy)⟩
 |succ fuel=>exact λy hy=>h y (Ge.trans hx hy)):P:=h
theorem aiw(h:P:=by
 open ayG in exact ahO):P:=h
theorem aix(h:P:=by
 intro vs;induction vs with
 |nil=>intro w o _;rfl
 |cons v vs ih=>
  intro w o h;rw [List.length_cons] at h;exact(ih (w.setCell ⟨g,o,none⟩ v) (o+1) Aaa).trans (World.cell?_setCell_other _ _ _ _ (by simp<;>omega))):P:=h
theorem Vv(h:P:=by
 unfold World.setCell;simp only[Array.getElem?_modify];rw [if_pos trivial,h];rfl):P:=h
theorem aAZ(h:P:=by
 rw [hW'];exact GR.setW_blk (fP n.id n.par a_k n.kids.length aK n.next jl n.pu.length bJ dW n.out.length aQ eH n.seen.length aL n.old (some ⟨g,off,none⟩) n.reqs.length aU).toList (o:=0) (xs:=gN.toList) qD):P:=h
theorem aiy(h:P:=by
 unfold je at h;rcases List.mem_append.1 h with h|h
 .exact .inr ((List.takeWhile_sublist _).mem h)
 .rcases List.mem_cons.1 h with h|h
  .exact .inl h
  .exact .inr ((List.dropWhile_sublist _).mem (F7 l p.k q h))):P:=h
theorem aiz(h:P:=by
 open apC in exact xP):P:=h
theorem aiA(h:P:=by
 have hm:l[i]∈rO l key:=by
  rw [head_take];exact List.mem_take_iff_getElem.2 ⟨i,Aaa,rfl⟩
 have:=zB hm;rw [e] at this;exact absurd this (List.lt_irrefl _)):P:=h
theorem aiB(h:P:=by
 open azt in exact Vr):P:=h
theorem aiC(h:P:=by
 have HP:Hid (TT=false):=ah HBAD (by rw [ah Av,hbv];rfl);subst hbv;clear HBAD iG eZ nW Av;go_wp2_with fail;go_ret;exact⟨aF HP.symm,CU⟩):P:=h
theorem aiD(h:P:=by
 go_wp2_with fail;refine HKP.mono ?_;rintro e wz ⟨rfl,A5,G5,c5,hfin⟩;have CV:=Hq hfin;clear hfin;go_wp2_with fail;go_ret;rw [ah HAD];exact⟨rfl,A5,G5,c5,CV⟩):P:=h
theorem aiE(h:P:=by
 clear hbad;open ays in exact aaJ):P:=h
theorem aiF(h:P:=by
 go_wp2_with fail;go_quiet (fail);go_wp2_with fail;go_meet
 case rel=>exact⟨by rw [<-ah Jb,ah HJ],⟨rfl,rfl,rfl,Nat.le_refl _,λ_ _=>rfl⟩⟩):P:=h
theorem aiG(h:P:=by
 intro x hx;rw [hr];refine⟨λh=>Aau,λj hj=>?_⟩;obtain rfl:j=i:=Abf
 refine⟨λe=>absurd e hiE,λ_=>?_⟩;unfold wpOp;simp only[hi];rw [if_pos hw];exact .inl (h x hx)):P:=h
theorem Vw(h:P:=by
 go_wp2_with fail
 all_goals
  go_ret
  exact⟨by simp[*],ay w _⟩):P:=h
theorem aiH(h:P:=by
 go_in
 go_wp2_with (first|(go_at_call_of 100 F;refine(H1 _).mono ?_;rintro e w1 ⟨rfl,rfl⟩)|(go_at_call_of 100 T;refine(H2 _).mono ?_;rintro e w1 ⟨rfl,rfl⟩))
 exact wP):P:=h
theorem aiI(h:P:=by
 subst hbv;clear HBAD iG eZ nW Av;go_wp2_with fail;go_roundw
 case rel=>exact⟨k+1,Aaa,Aah,HG,akk,CU⟩
 case measure=>simp[intOf];omega):P:=h
theorem aiJ(h:P:=by
 by_cases h:0<=jf s i
 .exact(iQ h).2.2.2.1
 .unfold jf at h;unfold jW;cases hG:textOf s i.toNat (iB s i) with
  |none=>simp[YZ]
  |some p=>rw [hG] at h;exact absurd (by simp[Q9]) h):P:=h
theorem aiK(h:P:=by
 have h2I:¬(40:Int)<=(n.out.length:Int):=Aaa
 have q2:decide ((40:Int)<=(n.out.length:Int))=false:=by simpa using h2I
 have q3:decide ((1000000000:Int)<=n.next)=true:=by simpa using h3
 exact Zk0):P:=h
theorem aA1(h:P:=by
 rw [hW'];exact aM (fP n.id n.par a_k n.kids.length aK n.next jl n.pu.length bJ dW n.out.length aQ eH n.seen.length aL n.old (some ⟨g,off,none⟩) n.reqs.length aU).toList W1 0):P:=h
theorem Ov(h:P:=by
 go_wp2_with fail;go_ret;exact .no HP (Below.refl _ _)):P:=h
theorem aaU(h:P:=by
 rcases Nat.lt_or_ge g w.heap.size with h'|h'
 .exact h'
 .rw [Array.getElem?_eq_none h'] at h;cases h):P:=h
theorem aiL(h:P:=by
 exact⟨e,Nat.lt_of_lt_of_le hg hk.size,λj hj=>⟨(World.cell?_of_block (w:=w) (hk.block g hg hne)).trans (hc j hj).1,(World.frozen?_of_block (w:=w) (hk.block g hg hne)).trans (hc j hj).2⟩⟩):P:=h
theorem Ow(h:P:=by
 repeat (refine Below.setNew ?_ Aaa)
 exact HB1):P:=h
theorem aiM(h:P:=by
 rw [KN];exact((show yY aJ 4 (w.heap.size+3) wc (some ⟨gv,1*4,none⟩) IT from⟨HTA,λg off e=>by cases e;exact aGg⟩).keeps (aC.set _) (λx hx=>Aak)).1):P:=h
theorem aiN(h:P:=by
 obtain⟨g',off',e,hg',hc⟩:=hat i hi;cases e
 refine⟨rfl,hg',λj hj=>⟨?_,?_⟩⟩
 .have:=hc j hj;rwa [Nat.zero_add] at this
 .unfold World.frozen?;rw [hblk];simp):P:=h
theorem Vx(h:P:=by
 go_wp2_with fail;go_ret;exact⟨-1,rfl,Below.refl _ _,.inl rfl⟩):P:=h
theorem aaV(h:P:=by
 rintro e w' ⟨rfl,A',G',c',hW'⟩;exact⟨rfl,A',G',c',v,by rw [List.append_nil];exact hW'⟩):P:=h
theorem aiO(h:P:=by
 rcases List.mem_append.1 h1 with h1|h1
 .have:=c5 x h1;omega
 .have:=c6 x h1;omega):P:=h
theorem Oz(h:P:=by
 go_wp2_with fail;go_ret;exact⟨rfl,rfl⟩):P:=h
theorem aiP(h:P:=by
 generalize l[k]=y at *;go_wp2_with fail;go_round
 case rel=>exact⟨k+1,Aaa,Aah,by rw [ah HS,ah HN];rfl⟩
 case measure=>simp[intOf];omega):P:=h
theorem aiQ(h:P:=by
 have hc:∀i,w.cell? ⟨g,i,none⟩=#[v0,v1,v2,v3,v4,v5,v6,v7,v8,v9,v10][i]?:=λi=>cell_of_row w g i _ t (0,0) h
 exact⟨hc 0,hc 1,hc 2,hc 3,hc 4,hc 5,hc 6,hc 7,hc 8,hc 9,hc 10⟩):P:=h
theorem aiR(h:P:=by
 split at h
 .omega
 .split at h
  .omega
  .split at h
   .omega
   .cases h):P:=h
theorem aiS(h:P:=by
 go_wp2_with fail;refine(HO _).mono ?_;rintro e w1 ⟨rfl,hb1⟩;have hB:=(ay w _).trans (hb1.mono Aac);clear hb1 HO;go_wp2_with fail;go_ret;exact⟨rfl,hB⟩):P:=h
theorem aiT(h:P:=by
 exact bodyPost_ret (v:= .tuple #[.agg (bX 0 0 0 0 0 ⟨#[]⟩ 0),.bool false]) Adj rfl ⟨Abl,hbb⟩):P:=h
theorem aiU(h:P:=by
 exact bodyPost_ret (v:= .tuple #[.agg (bX 0 0 0 0 0 ⟨#[]⟩ 0),.bool false]) Adk rfl ⟨Abl,hbb⟩):P:=h
theorem Vy(h:P:=by
 go_wp2_with fail;go_ret;exact .no HP (below_regrown _ dq osq)):P:=h
theorem aA2(h:P:=by
 obtain⟨g,rest,e,hb,_⟩:=wG yO.r (show 0 < n.reqs.length by omega);exact⟨g,e,hb,λx=>by rw [show gH=some ⟨g,0,none⟩ from e];simp[Value.ownBlock,eq_comm]⟩):P:=h
theorem aaW(h:P:=by
 go_ret;exact⟨aF HN.symm,ay w _⟩):P:=h
theorem OA(h:P:=by
 go_ret;exact⟨aF HP.symm,dU w _⟩):P:=h
theorem aiV(h:P:=by
 go_wp2_with fail;refine(HO _).mono ?_;rintro e w1 ⟨rfl,hb1⟩;have hB:=(ay w _).trans (hb1.mono Aac);clear hb1;go_wp2_with fail;go_ret;exact⟨rfl,hB⟩):P:=h
theorem aiW(h:P:=by
 go_wp2_with fail;exact bodyPost_ret (v:= .tuple #[wB ⟨0,F,T,I,L,k,N⟩,.bool false]) Aax rfl ⟨Aaw,fO⟩):P:=h
theorem aiX(h:P:=by
 go_wp2_with fail;exact bodyPost_ret (v:= .tuple #[wB ⟨2,F,T,I,L,k,N⟩,.bool false]) Aax rfl ⟨Aaw,fO⟩):P:=h
theorem OC(h:P:=by
 exact⟨0,Nat.zero_le _,rfl,Below.refl _ _,rfl⟩):P:=h
theorem aiY(h:P:=by
 rcases Nat.lt_or_ge 0 w.heap.size with h'|h'
 .exact h'
 .have h:=hH;unfold Handle World.cell? at h;rw [Array.getElem?_eq_none h'] at h;cases h):P:=h
theorem aiZ(h:P:=by
 rw [ej,<-hf,hu] at h2;injection e with e
 subst e;have ea:(⟨g,off,none⟩:Addr).add j=⟨g,off+j,none⟩:=by unfold Addr.add;split<;>simp_all
 rw [ea];exact h2):P:=h
theorem ai0(h:P:=by
 have h2:=jM.co x h1;rcases hm' with h3|h3
 .rw [bq Aaa] at h2;cases h2
 .rw [fq h3.1] at h2;omega):P:=h
theorem ai1(h:P:=by
 exact⟨e,Nat.lt_of_lt_of_le hg hs,λj hj=>⟨(World.cell?_of_block (w:=w) hbx).trans (hc j hj).1,(World.frozen?_of_block (w:=w) hbx).trans (hc j hj).2⟩⟩):P:=h
theorem ai2(h:P:=by
 intro vs;induction vs with
 |nil=>intro w o;rfl
 |cons v vs ih=>intro w o;exact(ih (w.setCell ⟨g,o,none⟩ v) (o+1)).trans (by rw [World.frozen?_setCell])):P:=h
theorem ai3(h:P:=by
 have h:=ah jB k hlt;have h2:=ah kX;rw [<-ah HY] at h;exact h.trans (by rw [show(λs t:Int=>iN s t)=iN from rfl,h2];rfl)):P:=h
theorem ai4(h:P:=by
 generalize jf s ((a:Int)+4)=E at *;generalize mE (kE (jW s ((a:Int)+4)))=bW at *;generalize kE (jW s ((a:Int)+4))=nn at *;exact aAY):P:=h
theorem Vz(h:P:=by
 have:=ready_mono hj hji;rw [H.1] at this;cases this):P:=h
theorem ai5(h:P:=by
 rw [hr];refine⟨λh=>Aau,λj hj=>?_⟩;obtain rfl:j=i:=Abf
 unfold wpOp;simp only[hi];rw [if_pos hw];exact .inl (h x hx)):P:=h
theorem ai6(h:P:=by
 go_in
 go_wp2_with (go_at_call 39;refine(HI _).mono ?_;rintro e w1 ⟨rfl,rfl⟩)
 go_ret;exact⟨rfl,ay w _⟩):P:=h
theorem ai7(h:P:=by
 rw [List.length_append] at hv6;have hv7:v'= .slice a6 (n.out.length+1) c6:=hv6;subst hv7;exact⟨a6,c6,w',hr,by rw [iW];exact ho,hg,hw⟩):P:=h
theorem ai8(h:P:=by
 intro vs;induction vs with
 |nil=>intro w o;rfl
 |cons v vs ih=>intro w o;exact(ih (w.setCell ⟨g,o,none⟩ v) (o+1)).trans Aar):P:=h
theorem ai9(h:P:=by
 rcases Rs with h|⟨j,y,h1,h2,h3⟩
 .exact .inl h
 .exact .inr ⟨j,y,h1,h2,(hbw.cell (p:=⟨g,off+j*4,none⟩) hgw).trans h3⟩):P:=h
theorem aja(h:P:=by
 go_wp2_with fail;go_quiet (fail);go_wp2_with fail;go_meet
 case rel=>exact⟨by rw [ah Rs],_,Bc w1 _ _⟩):P:=h
theorem VB(h:P:=by
 rw [h1];exact⟨h2r,by rw [bq Aaa];omega⟩):P:=h
theorem aaY(h:P:=by
 go_in
 go_wp2
 go_ret;exact⟨rfl,rfl⟩):P:=h
theorem aA7(h:P:=by
 have hy3:(x == par)=true:=by simp[hx3]
 have HP:=Hq (HBAD (by rw [ah iG];simp[ku,hx3]));clear HBAD iG hx3;exact aez):P:=h
theorem aA8(h:P:=by
 have hy2:(x == id)=true:=by simp[hx2]
 have HP:=Hq (HBAD (by rw [ah iG];simp[ku,hx2]));clear HBAD iG hx2;exact aez):P:=h
theorem ajb(h:P:=by
 clear HD h1;go_in
 go_wp2_with (go_at_call 169;refine(H1 _).mono ?_;rintro e w1 ⟨rfl,rfl⟩)
 exact wP):P:=h
theorem ajc(h:P:=by
 clear h1 HD;go_in
 go_wp2_with (go_at_call 207;refine(H1 _).mono ?_;rintro e w9 ⟨rfl,rfl⟩)
 exact wP):P:=h
theorem ajd(h:P:=by
 exact⟨0,Nat.zero_le _,rfl,by unfold rT GR.Blk;rw [List.take_zero,List.nil_append,Nat.sub_zero];exact heap_alloc_new w _,dU w _⟩):P:=h
theorem aje(h:P:=by
 go_in
 go_wp2_with (first|(go_at_call_of 201 F;refine(H1 _).mono ?_;rintro e w1 ⟨rfl,rfl⟩))
 exact wP):P:=h
theorem ajf(h:P:=by
 rw [beq_eq_false_iff_ne];intro h;rw [ByteArray.toList_eq,ByteArray.toList_eq] at h;exact hp (ByteArray.ext (Array.ext' h))):P:=h
theorem ajg(h:P:=by
 go_in
 go_wp2_with (first|(go_at_call_of 100 F;refine(H1 _).mono ?_;rintro e w1 ⟨rfl,rfl⟩))
 exact wP):P:=h
theorem aaZ(h:P:=by
 go_in
 go_wp2
 go_ret;exact⟨rfl,rfl⟩):P:=h
theorem aa0(h:P:=by
 go_in
 go_wp2
 go_ret;exact⟨rfl,rfl⟩):P:=h
theorem ajh(h:P:=by
 have h:=(cu hok).1;unfold eP at h;simp only[Bool.and_eq_true,decide_eq_true_eq] at h;exact decide_eq_false Aaa):P:=h
theorem aji(h:P:=by
 exact⟨0,Nat.zero_le _,rfl,by unfold GR.Blk;rw [List.take_zero,List.nil_append,Nat.sub_zero];exact heap_alloc_new w _,dU w _⟩):P:=h
theorem ajj(h:P:=by
 refine⟨h.1,?_⟩;rcases h.2 with h2|⟨g,cap,cur,hv,hg,hr⟩
 .exact .inl h2
 .exact .inr ⟨g,cap,cur,hv,Nat.le_trans hb hg,hr⟩):P:=h
theorem ajk(h:P:=by
 have h2I:(40:Int)<=(n.out.length:Int):=Aaa
 have q2:decide ((40:Int)<=(n.out.length:Int))=true:=by simpa using h2I
 exact Zk0):P:=h
theorem ajl(h:P:=by
 go_in
 go_wp2_with (go_at_call 201;refine(HA _).mono ?_;rintro e w1 ⟨rfl,rfl⟩)
 exact aaW):P:=h
theorem ajm(h:P:=by
 subst hx;by_cases hx:x2=y2
 case' neg=>
  have hq:(x2 == y2)=false:=Aaf
  exact abh
 exact aBv):P:=h
theorem aa3(h:P:=by
 unfold wpOp;simp only[hi];rw [if_pos hwi];exact .inl (h1 x hx)):P:=h
theorem aa4(h:P:=by
 unfold wpOp;simp only[hj];rw [if_pos hwj];exact .inl (h2 x hx)):P:=h
theorem aa5(h:P:=by
 go_in
 go_wp2
 go_ret;exact⟨rfl,rfl⟩):P:=h
theorem ajn(h:P:=by
 subst hji;exact(hy.toG hb).wpOp hi hx λy hy'=>⟨hy'.mono (Nat.le_trans hb hx.size),CQ (Ge.trans hx hy') H⟩):P:=h
theorem ajo(h:P:=by
 go_in
 go_wp2_with (go_at_call 101;refine HH.mono ?_;rintro e w1 ⟨rfl,rfl⟩)
 exact aaW):P:=h
theorem ajp(h:P:=by
 go_in
 go_wp2
 refine wp_loop_rounds 1 ?_;rw [rounds_succ];go_wp2
 go_ret;exact⟨rfl,rfl⟩):P:=h
theorem ajq(h:P:=by
 have hl:=bE s;unfold kb;cases hd:s.data.toList with
 |nil=>rw [hd] at hl;simp at hl;omega
 |cons b r=>simp):P:=h
theorem ajr(h:P:=by
 go_wp2_with fail;go_roundw
 case rel=>exact⟨k+1,Aaa,Aah,HB1⟩
 case measure=>simp[intOf];omega):P:=h
theorem aA9(h:P:=by
 obtain⟨g',off',e0,_,h0,_⟩:=gF.four (HL6.lies aS).1 0 Aac;cases e0
 simpa using h0):P:=h
theorem ajs(h:P:=by
 go_wp2_with fail;go_roundw
 case rel=>exact⟨k+1,Aaa,Aah,HS⟩
 case measure=>simp[intOf];omega):P:=h
theorem aa6(h:P:=by
 exact((Below.refl _ _).alloc (Nat.le_refl _) _).alloc Aac _):P:=h
theorem ajt(h:P:=by
 go_wp2_with (go_at_call 18;refine(yc _ _ _ r _ h).mono ?_;rintro e w1 ⟨rfl,rfl⟩)
 go_ret;exact⟨rfl,rfl⟩):P:=h
theorem aBb(h:P:=by
 cases hq:IQ with
 |nil=>have:=ah HLQ;rw [hq] at this;simp at this
 |cons a b=>exact⟨a,b,rfl⟩):P:=h
theorem aju(h:P:=by
 obtain⟨c0,c1,c2,c3,c4,c5,c6,c7,c8,c9⟩:=jH h.blk;clear h;go_in
 exact Oz):P:=h
theorem ajv(h:P:=by
 go_round
 case rel=>exact⟨k+1,x,Aaa,Aah,rfl,Dy.symm,HV⟩
 case measure=>simp[intOf];omega):P:=h
theorem ajw(h:P:=by
 rcases hrow.2 with⟨rfl,h0⟩|⟨g,cap,cur,rfl,_⟩
 .exact⟨none,0,by rw [h0]⟩
 .exact⟨_,_,rfl⟩):P:=h
theorem ajx(h:P:=by
 rw [List.length_append,List.length_append,iq,List.length_take,List.length_drop,List.length_drop];omega):P:=h
theorem ajy(h:P:=by
 obtain⟨a,cp,he,ha⟩:=GR.own_at (enc:=aV) (sz:=4) (l:=n.out) bQ h.o;cases he
 exact ha):P:=h
theorem ajz(h:P:=by
 obtain⟨a,cp,he,ha⟩:=GR.own_at (enc:=aJ) (sz:=4) (l:=n.reqs) aS h.r;cases he
 exact ha):P:=h
theorem aa7(h:P:=by
 simp only[Bool.and_eq_true,decide_eq_true_eq] at h;omega):P:=h
theorem aa8(h:P:=by
 simp only[Bool.and_eq_true,decide_eq_true_eq];omega):P:=h
theorem ajA(h:P:=by
 exact hk2.seen (hk1.seen hno.s hno.c4 hno.ci Aaa Aaa) hno.c4 hno.ci Aaa Aaa):P:=h
theorem ajB(h:P:=by
 have h:=ah jB k hlt;have h2:=ah kX;rw [<-ah HY] at h;rw [h,h2];rfl):P:=h
theorem aa9(h:P:=by
 go_ret2
 exact⟨rfl,hb1.trans (hb2.mono hb1.size)⟩):P:=h
theorem abb(h:P:=by
 have:=eD hx;rw [this.1];exact eG Aaa):P:=h
theorem ajC(h:P:=by
 clear hf HC;go_in
 go_wp2_with fail;go_ret;exact .no HP hbz):P:=h
theorem ajD(h:P:=by
 rw [List.length_append,List.length_append,List.length_take,List.length_drop,h1];show _+4+_=_
 omega):P:=h
theorem ajE(h:P:=by
 rcases List.mem_cons.1 (hs a Aac) with h|h
 .exact absurd h hab
 .exact h):P:=h
theorem ajF(h:P:=by
 refine⟨JK h (λj v hj=>?_),JK h (λj v hj=>?_)⟩
 .exact aBP
 .exact aBP):P:=h
theorem ajG(h:P:=by
 go_in
 go_wp2
 go_ret;exact⟨aF HF.symm,rfl⟩):P:=h
theorem aBd(h:P:=by
 have HP:=Hq (HBAD (by rw [ah iG];simp[ku,hx1]));clear HBAD iG;exact aez):P:=h
theorem ajH(h:P:=by
 refine zT hi h hf.symm ?_;have:=K7 hs hL;rw [hf] at this;exact this):P:=h
theorem abd(h:P:=by
 obtain⟨p,rfl⟩:=regrown_of_below hx;exact hv p):P:=h
theorem ajI(h:P:=by
 go_simp;go_wp2_with fail;go_ret;exact⟨rfl,A,G,c,v,by rw [List.append_nil];exact HZ⟩):P:=h
theorem ajJ(h:P:=by
 rw [<-jk s i j k hk hlt,Rb s i j k m v hk hlt hu h,Nat.mod_eq_of_lt Aaa]):P:=h
theorem ajK(h:P:=by
 rcases List.mem_append.1 h1 with h1|h1
 .have:=c4 x h1;omega
 .exact aiO):P:=h
theorem ajL(h:P:=by
 rcases List.mem_cons.1 h1 with h2|h2
 .exact .inl (.inr h2)
 .exact .inr (hF y h2)):P:=h
theorem ajM(h:P:=by
 rcases List.mem_cons.1 hx with h2|h2
 .omega
 .have:=hA'.1 x h2;omega):P:=h
theorem ajN(h:P:=by
 clear hv2 hu2 hv5 hu;go_wp2
 go_ret2
 exact⟨get_none HR,Below.refl _ _⟩):P:=h
theorem abe(h:P:=by
 exact⟨0,Nat.zero_le _,rfl,rfl,Below.refl _ _⟩):P:=h
theorem ajO(h:P:=by
 cases sp with
 |nil=>simp at ab2;omega
 |cons s0 sp'=>exact⟨s0,sp',rfl⟩):P:=h
theorem ajP(h:P:=by
 cases v.ownBlock with
 |none=>exact .inl rfl
 |some k=>exact .inr (by intro e;cases e)):P:=h
theorem ajQ(h:P:=by
 simp only[Bool.and_eq_true] at h;exact⟨TV (of_decide_eq_true h.1.1.1),zm h.2⟩):P:=h
theorem ajR(h:P:=by
 subst hji;exact hy.wpOp hi hx λy hy'=>⟨hy',vS (Ge.trans hx hy') H⟩):P:=h
theorem ajS(h:P:=by
 subst hji;exact hy.wpOp hi hx λy hy'=>⟨hy',CR (Ge.trans hx hy') H⟩):P:=h
theorem ajT(h:P:=by
 obtain⟨D,⟨es,clock,h1,h2⟩,ha⟩:=h;exact⟨D,⟨es,clock,hb.trans h1,h2⟩,ha⟩):P:=h
theorem ajU(h:P:=by
 subst hji;exact hy.wpOp hi hx λy hy'=>⟨hy',Gc (Ge.trans hx hy') H⟩):P:=h
theorem ajV(h:P:=by
 rintro e w' ⟨rfl,rfl⟩;exact⟨rfl,A,G,c,v,by rw [List.append_nil];exact h⟩):P:=h
theorem abf(h:P:=by
 rw [Nat.add_mul,Nat.one_mul] at this;omega):P:=h
theorem abg(h:P:=by
 go_wp2_with fail;go_ret;exact⟨rfl,HB1⟩):P:=h
theorem ajW(h:P:=by
 rw [if_neg Aaa,if_neg ej];exact h.nd i j hi' hj hij Aaa h1 h2):P:=h
theorem ajX(h:P:=by
 exact⟨k+1,Aaa,Aah,iR.trans ((Ge.trans Ru yT).mono iR.size)⟩):P:=h
theorem aBh(h:P:=by
 show(takeN n o.m).1.id=n.id
 unfold takeN;split
 .rfl
 .split<;>rfl):P:=h
theorem ajY(h:P:=by
 have HV:=Hq (HBM (by rw [ah iG];simp[Bv,h1]));exact aBp):P:=h
theorem ajZ(h:P:=by
 unfold cK at h;split at h
 .omega
 .split at h
  .omega
  .exact aiR):P:=h
theorem aj0(h:P:=by
 unfold dJ qX at *;split at h
 .cases h
 .rename_i hc
  rw [if_neg hc]):P:=h
theorem Yk0(h:P:=by
 open ap0 in exact aAz):P:=h
theorem Sk0.Kk0(h:P:=by
 have HCQ:=Hq (AQ.nine (Nat.zero_le _));open aoj in exact Sg):P:=h
theorem Sk1.Kk0(h:P:=by
 open aoi in exact Sg):P:=h
theorem Sk2.Kk0(h:P:=by
 open aoh in exact Sg):P:=h
theorem Sk3.Kk0(h:P:=by
 open aog in exact Sg):P:=h
theorem Sk4.Kk0(h:P:=by
 open aof in exact Sg):P:=h
theorem Sk5.Kk0(h:P:=by
 open aoe in exact Sg):P:=h
theorem Sk6.Kk0(h:P:=by
 open aod in exact Sg):P:=h
theorem Yk1(h:P:=by
 have HX:=Hq hx;have HKQ:=Hq hK;clear hx hK;generalize fF n o=TT at *;open aFa in exact ael):P:=h
theorem Sk7.Kk1(h:P:=by
 have c0:W.cell? ⟨w2.heap.size,5,none⟩=some (.func (.func 180) #[.pointer (some ⟨wb,0,none⟩)] #[]):=cell_of_row W _ 5 _ _ (0,0) e1;exact Zk6):P:=h
theorem Sk8.Kk1(h:P:=by
 have c0:W.cell? ⟨w2.heap.size,4,none⟩=some (.func (.func 179) #[.pointer (some ⟨wb,0,none⟩)] #[]):=cell_of_row W _ 4 _ _ (0,0) e1;exact Zk6):P:=h
theorem Sk9.Kk1(h:P:=by
 have c0:W.cell? ⟨w2.heap.size,3,none⟩=some (.func (.func 178) #[.pointer (some ⟨wb,0,none⟩)] #[]):=cell_of_row W _ 3 _ _ (0,0) e1;exact Zk6):P:=h
theorem aDS.Kk1(h:P:=by
 have c0:W.cell? ⟨w2.heap.size,2,none⟩=some (.func (.func 177) #[.pointer (some ⟨wb,0,none⟩)] #[]):=cell_of_row W _ 2 _ _ (0,0) e1;exact Zk6):P:=h
theorem aDT.Kk1(h:P:=by
 have c0:W.cell? ⟨w2.heap.size,1,none⟩=some (.func (.func 176) #[.pointer (some ⟨wb,0,none⟩)] #[]):=cell_of_row W _ 1 _ _ (0,0) e1;exact Zk6):P:=h
theorem aDU.Kk1(h:P:=by
 have c0:W.cell? ⟨w2.heap.size,0,none⟩=some (.func (.func 175) #[.pointer (some ⟨wb,0,none⟩)] #[]):=cell_of_row W _ 0 _ _ (0,0) e1;exact Zk6):P:=h
theorem Yk2(h:P:=by
 have XA:aC [sb,G.s] wc W6:=by
  exact aFl
 have HIW:Hid (GR.W bf 1 W6 (some ⟨gi,0,none⟩) gi (bg s0 mL)):=by
  exact aFk
 have aed:Hid (W6.heap[sb]?=some (.cells #[.int .i64 mF,.int .i64 (fJ s0 mL),.slice (some ⟨gi,0,none⟩) (bg s0 mL).length OP] 110 (0,0))):=by rw [Zq];exact gU _ hne1 (gU _ hne1 (gU _ hne1 (aR aad 2 _)))
 have lT:=Hq (XA.obj AR (λhx=>Aak));have adW:=Hq (XA.obj amR (λhx=>Aak));have jD:=Hq (XA.obj NK (λhx=>Aak))
 have hBs:B<=G.s:=by
  exact aAT
 have amD:=Hq ((nK.mono hB).trans (XA.below (B:=B) (λx hx=>Aak) (Nat.le_trans hB nK.size)))
 have amP:=Hq (Apart.keeps (c:=c) (Apart.of_below nK) nK.size XA (λx hx=>by
  have h1:x=sb\/x=G.s:=Aaf
  rcases h1 with rfl|rfl
  .left;omega
  .right;omega))
 have aHc:gi < W6.heap.size:=Nat.lt_of_lt_of_le aFK XA.size;have aHB:w.heap.size+3<=W6.heap.size:=by have:=aA aed;omega
 have HCO:Hid (∀x,x < w.heap.size->6 < c x->uQ gi (bg s0 mL) (newC w.heap.size 9 c) x=9):=λx hx h=>by rw [vw (λhm=>by have:=(eD hm).1;omega),fq hx];exact H9 x h
 have D9:Hid (∀x,w.heap.size<=x->x≠gi->uQ gi (bg s0 mL) (newC w.heap.size 9 c) x=9):=λx hx h=>by rw [vw (λhm=>h (eD hm).1)];exact bq hx
 clear Zq XA hW5 RV y0 y1 y2 x0 x1 x2 s40 s41 s42 sf c0 c1 c2 c3 c4 c5 c6 c7 c8 hnl AR amR NK aad nK;obtain⟨c0,c1,c2,c3,c4,c5,c6,c7,c8⟩:=nine lT;obtain⟨m0,m1,m2,m3,m4,m5,m6⟩:=jG adW;have hnl:=aA lT;have hml:=aA adW;go_upto_region 16 with fail;refine wp_at (λW7 KN=>?_);have uU:=ay W6 (.cells (bX 2 n.id mF mI 0 ⟨#[]⟩ 0) 98);have ha7:=heap_alloc_new W6 (.cells (bX 2 n.id mF mI 0 ⟨#[]⟩ 0) 98);rw [<-KN] at uU ha7;have Zw:=Hq ha7;have pE:=Hq (au lT uU);have adX:=Hq (au adW uU);have mP:=Hq (au jD uU);have aee:=Hq (au aed uU);have adS:=Hq (HIW.below uU);have ad1:=Hq (WE.kc (k:=9) (KC.of_below uU) Aaa);have aki:=Hq (amD.trans (uU.mono (Nat.le_trans hB Aaa)));have akp:=Hq (amP.step Aaa uU);obtain⟨ab,hab⟩:∃ab,W6.heap.size=ab:=⟨_,rfl⟩;have aG6:w.heap.size+3<=ab:=Aaa
 have habs:sb < ab:=by have:=aA aed;omega
 have aG7:gi < ab:=Aaa
 rw [hab] at Zw;rw [hab] at *;have hz7:=aA Zw;clear KN uU ha7 c0 c1 c2 c3 c4 c5 c6 c7 c8 m0 m1 m2 m3 m4 m5 m6 hnl hml lT adW jD aed HIW WE amD amP;obtain⟨m0,m1,m2,m3,m4,m5,m6⟩:=jG adX;obtain⟨s70,s71,s72⟩:=Cb aee;have hml:=aA adX;have aGe:=aA aee;have ZF:=Hq (λW (ha:bZ W (some ⟨gi,0,none⟩) (bg s0 mL))=>Wo (some ⟨gi,0,none⟩) OP (bg s0 mL) mI W Aaa ha);exact Kk2):P:=h
theorem aDV.Kk2(h:P:=by
 open aoy in exact aAt):P:=h
theorem aDW.Kk2(h:P:=by
 open aox in exact aAt):P:=h
theorem aDX.Kk2(h:P:=by
 obtain⟨c0,c1,c2,c3,c4,c5,c6,c7,c8⟩:=nine pE;open awr in exact ahb):P:=h
theorem Yk3(h:P:=by
 open arl in exact aAH):P:=h
theorem aDY.Kk3(h:P:=by
 obtain⟨c0,c1,c2,c3,c4,c5,c6,c7,c8⟩:=nine jQ;have hml:=aA yN;have hnl:=aA jQ;go_wp2_with fail;refine(HGV W2 (Nat.le_trans hB HB2.size) Ke).mono ?_;open atY in exact agt):P:=h
theorem aDZ.Kk3(h:P:=by
 open an3 in exact aAn):P:=h
theorem aD0.Kk3(h:P:=by
 open an2 in exact aAn):P:=h
theorem aD1.Kk3(h:P:=by
 obtain⟨c0,c1,c2,c3,c4,c5,c6,c7,c8⟩:=nine jQ;have hml:=aA yN;have hnl:=aA jQ;have nL:=Hq (World.ownsRow_lit (base:=W2.heap.size) (e:=91) (size:=4) W2 #[] 0 (Nat.le_refl _) Aae rfl);go_wp2_with fail;clear m0 m1 m2 m3 m4 m5 m6 c0 c1 c2 c3 c4 c5 c6 c7 c8 hml hnl;go_loopw [7,8] (λv i wr=>∃(k:Nat) (a:Option Addr) (cp:Nat),k<=n.out.length/\v= .slice a (FL k).length cp/\i= .int .i64 k/\wr.ownsRow W2.heap.size 91 4 (.slice a (FL k).length cp) (FL k).length (GR.flat aV (FL k))/\aI W2 wr) (λ_ i _=>n.out.length - (intOf i).toNat)
 case atStart=>exact⟨0,some ⟨W2.heap.size,0,none⟩,0,Nat.zero_le _,by rw [ah HF0];rfl,rfl,by rw [ah HF0];exact nL,ay W2 _⟩
 case round=>
  obtain⟨k,a,cp,hk,rfl,rfl,hown,hbw⟩:=hrel;have HO:=Hq hown;have iR:=Hq hbw;have lJ:=Hq (au jQ hbw);have Wz:=Hq (au yN hbw);have HNK:=Hq (HFN k);clear hown hbw;obtain⟨m0,m1,m2,m3,m4,m5,m6⟩:=jG Wz;obtain⟨c0,c1,c2,c3,c4,c5,c6,c7,c8⟩:=nine lJ;have hml:=aA Wz;have hnl:=aA lJ;by_cases hlt:k < n.out.length
  .have O9:(k:Int) < (n.out.length:Int):=Aaa
   have HFK:=Hq (HFS k hlt);obtain⟨g,off,e0,hg,s0,s1,s2,s3⟩:=SentAt.four (GR.At.below Ke.at.o iR) k hlt;rw [e0] at c5;clear e0;generalize n.out[k]=sk at *;obtain⟨si,st,sk,sn⟩:=sk;dsimp only at s0 s1 s2 s3 HFK;obtain⟨FK,hFK⟩:∃FK,FL (k+1)=FK:=⟨_,rfl⟩;have HX0:=Hq hFK;rw [hFK] at HFK;clear hFK;by_cases hA:si=mI
   .by_cases hB2:st=mF
    .have HX:Hid (FK=FL k):=by unfold Hid;rw [ah HFK,if_pos ⟨hA,hB2⟩]
     have x0:(si != mI)=false:=by simp[hA]
     have x1:(st != mF)=false:=by simp[hB2]
     clear hA hB2 HFK;go_wp2_with fail;go_quiet (fail);go_wp2_with fail;go_roundw
     case rel=>exact⟨k+1,a,cp,Aaa,by rw [ah HX0,ah HX],Aah,by rw [ah HX0,ah HX];exact HO,iR.trans (Below.mono (B:=(wr.drewN nq).heap.size) ⟨rfl,rfl,rfl,Nat.le_refl _,λ_ _=>rfl⟩ iR.size)⟩
     case measure=>simp[intOf];omega
    .have HX:Hid (FK=FL k++[⟨si,st,sk,sn⟩]):=by unfold Hid;rw [ah HFK,if_neg (λe=>hB2 e.2)]
     have x0:(si != mI)=false:=by simp[hA]
     have x1:(st != mF)=true:=by simpa using hB2
     clear hA hB2 HFK;exact aBi
   .have HX:Hid (FK=FL k++[⟨si,st,sk,sn⟩]):=by unfold Hid;rw [ah HFK,if_neg (λe=>hA e.1)]
    have x0:(si != mI)=true:=by simpa using hA
    clear hA HFK;exact aBi
  .have hke:k=n.out.length:=Aaa
   subst hke;have hnlt:decide ((n.out.length:Int) < (n.out.length:Int))=false:=Aac
   have lK:=Hq (au jC iR);have HN3:=Hq (Ke.kc (k:=9) (KC.of_below iR) Aaa);have HB3:=Hq (HB2.trans (iR.mono HB2.size));have h2r:=aA jC;clear hlt hk HNK HFS HFN HF0 nL iR jQ yN jC Ke HB2;have f5n:=aj lJ 5;go_upto_region 14 with fail;refine wp_at (λZ hZ=>?_);have AR:Hid (Z.heap[w.heap.size]?=some (.cells (fP n.id n.par A.k n.kids.length A.ck n.next A.p n.pu.length A.cp a (FL n.out.length).length cp A.s n.seen.length A.cs n.old A.r n.reqs.length A.cr) 40 (0,0))):=by rw [hZ];exact oD lJ
   have NK:Hid (Z.heap[w.heap.size+2]?=some (.cells gN 40 (0,0))):=by rw [hZ];exact iT lK Aaa
   have HN4:Hid (NQ Z B n A G (newC w.heap.size 9 c)):=by rw [hZ];exact HN3.kc (k:=9) (KC.set (bq (Nat.le_refl _))) Aaa
   have HO4:Hid (Z.ownsRow W2.heap.size 91 4 (.slice a (FL n.out.length).length cp) (FL n.out.length).length (GR.flat aV (FL n.out.length))):=by rw [hZ];exact dM HO (aC.set _) (λy hy=>by have:y=w.heap.size:=Aas;omega)
   have nK:Hid (Below B w Z):=by rw [hZ];exact(HB3.mono hB).setCell (p:=⟨w.heap.size,5,none⟩) hB _
   have HK4:Hid (Apart c w Z):=by rw [hZ];exact(Apart.of_below HB3).keeps HB3.size (aC.set _) (λy hy=>by have:y=w.heap.size:=Aas;omega)
   clear hZ f5n c0 c1 c2 c3 c4 c5 c6 c7 c8 m0 m1 m2 m3 m4 m5 m6 hml hnl lJ Wz lK HN3 HB3 HO;have uP:=Hq (au NK (ay Z (.cells #[] 98)));have uT:=Hq (nK.trans ((ay Z (.cells #[] 98)).mono (Nat.le_trans hB nK.size)));have HKA:=Hq (HK4.step nK.size (ay Z (.cells #[] 98)));have Ni:=Hq (HN4.kc (k:=9) (KC.of_below (ay Z (.cells #[] 98))) Aaa);have HOA:=Hq (GR.own_below HO4 (ay Z (.cells #[] 98)));obtain⟨c0,c1,c2,c3,c4,c5,c6,c7,c8⟩:=nine AR;open aoQ in exact WW):P:=h
theorem aD2.Kk3(h:P:=by
 obtain⟨c0,c1,c2,c3,c4,c5,c6,c7,c8⟩:=nine jQ;have hml:=aA yN;have hnl:=aA jQ;go_wp2_with fail;refine(Ob W2 (Nat.le_trans hB HB2.size) Ke).mono ?_;open atW in exact agt):P:=h
theorem Yk4(h:P:=by
 have hiI:(i:Int) < (n.reqs.length:Int):=Aaa
 have am0:=Hq hrq;clear hrq;have hp:=jc hok;have NJ:=Hq (λW1 (ha:gF W1 gH n.reqs)=>Ah n (⟨a_k,jl,dW,eH,gH,aK,bJ,aQ,aL,aU⟩:bV) no W1 Aaa hp.1 ha);rw [hJ] at NJ;clear hp hok hJ;unfold iF;have H9:=Hq h9;clear h9;have lI:=Hq (h.nine hB);clear h;go_in
 go_upto_region 1 with fail;refine wp_at (λW0 hW=>?_);obtain⟨e1,e2,e3,e4⟩:=gI w (.cells (dH n (⟨a_k,jl,dW,eH,gH,aK,bJ,aQ,aL,aU⟩:bV)) 40) (.cells (bY K no k nn mK mF mT mI mL mk mN) 100) (.cells gN 40);open aw4 in exact aaz):P:=h
theorem aD3.Kk4(h:P:=by
 dsimp only at q0 q1 q2 q3 h1 h2 h3;open aE5 in exact aAh):P:=h
theorem aD4.Kk4(h:P:=by
 dsimp only at q0 q1 q2 q3 h1 h2 h3;exact akT):P:=h
theorem aD5.Kk4(h:P:=by
 dsimp only at q0 q1 q2 q3 h1 h2;exact akT):P:=h
theorem aD6.Kk4(h:P:=by
 dsimp only at q0 q1 q2 q3 h1;exact akT):P:=h
theorem Zl(h:P:=by
 obtain⟨d0,d1,d2,d3,d4,d5,d6,d7,d8⟩:=nine vY;have f0:=aj vY 0;have f1:=aj vY 1;have f2:=aj vY 2;have f3:=aj vY 3;have f4:=aj vY 4;have f5:=aj vY 5;have f6:=aj vY 6;have f7:=aj vY 7;have f8:=aj vY 8;have hrl:=aA vY;exact Kk5):P:=h
theorem aD7.Kk5(h:P:=by
 open aus in exact agz):P:=h
theorem aD8.Kk5(h:P:=by
 open aur in exact agz):P:=h
theorem aD9.Kk5(h:P:=by
 open aty in exact Vb):P:=h
theorem aEa.Kk5(h:P:=by
 open auu in exact agA):P:=h
theorem aEb.Kk5(h:P:=by
 open aut in exact agA):P:=h
theorem aEc.Kk5(h:P:=by
 open atx in exact Vb):P:=h
theorem aEd.Kk5(h:P:=by
 open auQ in exact agH):P:=h
theorem aEe.Kk5(h:P:=by
 open auP in exact agH):P:=h
theorem aEf.Kk5(h:P:=by
 open atw in exact Vb):P:=h
theorem aEg.Kk5(h:P:=by
 open auS in exact agI):P:=h
theorem aEh.Kk5(h:P:=by
 open auR in exact agI):P:=h
theorem aEi.Kk5(h:P:=by
 open atv in exact Vb):P:=h
theorem Yk6(h:P:=by
 open aqs in exact WX):P:=h
theorem aEj.Kk6(h:P:=by
 go_wp2_with fail;exact bodyPost_ret (v:= .tuple #[wB ⟨2,F,T,I,0,ByteArray.empty,0⟩,.bool true]) Aax rfl ⟨Aaw,fO⟩):P:=h
theorem aEk.Kk6(h:P:=by
 go_wp2_with fail;exact bodyPost_ret (v:= .tuple #[wB ⟨2,F,T,I,0,ByteArray.empty,N⟩,.bool false]) Aax rfl ⟨Aaw,fO⟩):P:=h
theorem aEl.Kk6(h:P:=by
 go_wp2_with fail;exact bodyPost_ret (v:= .tuple #[wB ⟨2,F,T,I,0,k,N⟩,.bool false]) Aax rfl ⟨Aaw,fO⟩):P:=h
theorem aEm.Kk6(h:P:=by
 exact aiX):P:=h
theorem Yk7(h:P:=by
 cases h1:decide (old+1<=si/\si<=1000000000)
 case' false=>
  have a1:=rIn si (old+1) 1000000000 false W1 h1
  have HV:=Hq (show bb=true by rw [<-ah eZ];simp[h1])
  clear eZ
  refine wp_region_quiet_below Aab Aab ?_
  repeat (first|go_big_quiet_step ((first|(go_at_call_of 18 si;exact a1 _ _)))|quiet_step ((first|(go_at_call_of 18 si;exact a1 _ _))))
  refine wpQuiet_nil ?_
  intro _ hw'
  obtain⟨⟨dq,osq⟩,hw''⟩:=hw'
  subst hw''
  go_wp2_with fail
  go_meet
  case rel=>exact xQ
 have a1:=rIn si (old+1) 1000000000 true W1 h1;cases h2:keyOk sx.data.toList
 case' false=>
  have a2:=afA sx false W1 (Nat.le_trans hks Aai) h2
  have HV:=Hq (show bb=true by rw [<-ah eZ];simp[h2])
  clear eZ
  refine wp_region_quiet_below Aab Aab ?_
  repeat (first|go_big_quiet_step ((first|(go_at_call_of 18 si;exact a1 _ _)|(go_at_call 52;exact a2 _ _)))|quiet_step ((first|(go_at_call_of 18 si;exact a1 _ _)|(go_at_call 52;exact a2 _ _))))
  refine wpQuiet_nil ?_
  intro _ hw'
  obtain⟨⟨dq,osq⟩,hw''⟩:=hw'
  subst hw''
  go_wp2_with fail
  go_meet
  case rel=>exact xQ
 have a2:=afA sx true W1 (Nat.le_trans hks Aai) h2;cases h3:fK sn
 case' false=>
  have a3:=JJ sn false W1 h3
  have HV:=Hq (show bb=true by rw [<-ah eZ];simp[h3])
  clear eZ
  refine wp_region_quiet_below Aab Aab ?_
  repeat (first|go_big_quiet_step ((first|(go_at_call_of 18 si;exact a1 _ _)|(go_at_call 52;exact a2 _ _)|(go_at_call 49;exact a3 _ _)))|quiet_step ((first|(go_at_call_of 18 si;exact a1 _ _)|(go_at_call 52;exact a2 _ _)|(go_at_call 49;exact a3 _ _))))
  refine wpQuiet_nil ?_
  intro _ hw'
  obtain⟨⟨dq,osq⟩,hw''⟩:=hw'
  subst hw''
  go_wp2_with fail
  go_meet
  case rel=>exact xQ
 have a3:=JJ sn true W1 h3;cases h4:decide (0<=st/\st<=2)
 case' false=>
  have a4:=rIn st 0 2 false W1 h4
  have HV:=Hq (show bb=true by rw [<-ah eZ];simp[h4])
  clear eZ
  refine wp_region_quiet_below Aab Aab ?_
  repeat (first|go_big_quiet_step ((first|(go_at_call_of 18 si;exact a1 _ _)|(go_at_call 52;exact a2 _ _)|(go_at_call 49;exact a3 _ _)|(go_at_call_of 18 st;exact a4 _ _)))|quiet_step ((first|(go_at_call_of 18 si;exact a1 _ _)|(go_at_call 52;exact a2 _ _)|(go_at_call 49;exact a3 _ _)|(go_at_call_of 18 st;exact a4 _ _))))
  refine wpQuiet_nil ?_
  intro _ hw'
  obtain⟨⟨dq,osq⟩,hw''⟩:=hw'
  subst hw''
  go_wp2_with fail
  go_meet
  case rel=>exact xQ
 have a4:=rIn st 0 2 true W1 h4;exact Kk7):P:=h
theorem aEn.Kk7(h:P:=by
 by_cases hp:y < si
 case' neg=>
  have hy:decide (si<=y)=true:=decide_eq_true Aaa
  have HV:=Hq (show bb=true by rw [<-ah eZ];simp[hp])
  clear eZ
  refine wp_region_quiet_below Aab Aab ?_
  repeat (first|go_big_quiet_step ((first|(go_at_call_of 18 si;exact a1 _ _)|(go_at_call 52;exact a2 _ _)|(go_at_call 49;exact a3 _ _)|(go_at_call_of 18 st;exact a4 _ _)))|quiet_step ((first|(go_at_call_of 18 si;exact a1 _ _)|(go_at_call 52;exact a2 _ _)|(go_at_call 49;exact a3 _ _)|(go_at_call_of 18 st;exact a4 _ _))))
  refine wpQuiet_nil ?_
  intro _ hw'
  obtain⟨⟨dq,osq⟩,hw''⟩:=hw'
  subst hw''
  go_wp2_with fail
  go_meet
  case rel=>exact xQ
 have hy:decide (si<=y)=false:=decide_eq_false Aaa;have HV:=Hq (show bb=false by rw [<-ah eZ];simp[h1,h2,h3,h4,hp]);exact aBL):P:=h
theorem aEo.Kk7(h:P:=by
 have HV:=Hq (show bb=false by rw [<-ah eZ];simp[h1,h2,h3,h4]);exact aBL):P:=h
theorem Yk8(h:P:=by
 cases h1:decide (1<=si/\si<=next - 1)
 case' false=>
  have a1:=rIn si 1 (next - 1) false W1 h1
  have HV:=Hq (show bb=true by rw [<-ah eZ];simp[h1])
  clear eZ
  refine wp_region_quiet_below Aab Aab ?_
  repeat (first|go_big_quiet_step ((first|(go_at_call 18;exact a1 _ _)))|quiet_step ((first|(go_at_call 18;exact a1 _ _))))
  refine wpQuiet_nil ?_
  intro _ hw'
  obtain⟨⟨dq,osq⟩,hw''⟩:=hw'
  subst hw''
  go_wp2_with fail
  go_meet
  case rel=>exact xQ
 have a1:=rIn si 1 (next - 1) true W1 h1;cases h2:NN st
 case' false=>
  have a2:=ah Ro st false W1 wM h2
  have HV:=Hq (show bb=true by rw [<-ah eZ];simp[h2])
  clear eZ
  refine wp_region_quiet_below Aab Aab ?_
  repeat (first|go_big_quiet_step ((first|(go_at_call 18;exact a1 _ _)|(go_at_call 51;exact a2 _ _)))|quiet_step ((first|(go_at_call 18;exact a1 _ _)|(go_at_call 51;exact a2 _ _))))
  refine wpQuiet_nil ?_
  intro _ hw'
  obtain⟨⟨dq,osq⟩,hw''⟩:=hw'
  subst hw''
  go_wp2_with fail
  go_meet
  case rel=>exact xQ
 have a2:=ah Ro st true W1 wM h2;cases h3:keyOk sx.data.toList
 case' false=>
  have a3:=afA sx false W1 (Nat.le_trans hks Aai) h3
  have HV:=Hq (show bb=true by rw [<-ah eZ];simp[h3])
  clear eZ
  refine wp_region_quiet_below Aab Aab ?_
  repeat (first|go_big_quiet_step ((first|(go_at_call 18;exact a1 _ _)|(go_at_call 51;exact a2 _ _)|(go_at_call 52;exact a3 _ _)))|quiet_step ((first|(go_at_call 18;exact a1 _ _)|(go_at_call 51;exact a2 _ _)|(go_at_call 52;exact a3 _ _))))
  refine wpQuiet_nil ?_
  intro _ hw'
  obtain⟨⟨dq,osq⟩,hw''⟩:=hw'
  subst hw''
  go_wp2_with fail
  go_meet
  case rel=>exact xQ
 have a3:=afA sx true W1 (Nat.le_trans hks Aai) h3;cases h4:fK sn
 case' false=>
  have a4:=JJ sn false W1 h4
  have HV:=Hq (show bb=true by rw [<-ah eZ];simp[h4])
  clear eZ
  refine wp_region_quiet_below Aab Aab ?_
  repeat (first|go_big_quiet_step ((first|(go_at_call 18;exact a1 _ _)|(go_at_call 51;exact a2 _ _)|(go_at_call 52;exact a3 _ _)|(go_at_call 49;exact a4 _ _)))|quiet_step ((first|(go_at_call 18;exact a1 _ _)|(go_at_call 51;exact a2 _ _)|(go_at_call 52;exact a3 _ _)|(go_at_call 49;exact a4 _ _))))
  refine wpQuiet_nil ?_
  intro _ hw'
  obtain⟨⟨dq,osq⟩,hw''⟩:=hw'
  subst hw''
  go_wp2_with fail
  go_meet
  case rel=>exact xQ
 have a4:=JJ sn true W1 h4;exact Kk8):P:=h
theorem aEp.Kk8(h:P:=by
 by_cases hp:y < si
 case' neg=>
  have hy:decide (si<=y)=true:=decide_eq_true Aaa
  have HV:=Hq (show bb=true by rw [<-ah eZ];simp[hp])
  clear eZ
  refine wp_region_quiet_below Aab Aab ?_
  repeat (first|go_big_quiet_step ((first|(go_at_call 18;exact a1 _ _)|(go_at_call 51;exact a2 _ _)|(go_at_call 52;exact a3 _ _)|(go_at_call 49;exact a4 _ _)))|quiet_step ((first|(go_at_call 18;exact a1 _ _)|(go_at_call 51;exact a2 _ _)|(go_at_call 52;exact a3 _ _)|(go_at_call 49;exact a4 _ _))))
  refine wpQuiet_nil ?_
  intro _ hw'
  obtain⟨⟨dq,osq⟩,hw''⟩:=hw'
  subst hw''
  go_wp2_with fail
  go_meet
  case rel=>exact xQ
 have hy:decide (si<=y)=false:=decide_eq_false Aaa;have HV:=Hq (show bb=false by rw [<-ah eZ];simp[h1,h2,h3,h4,hp]);exact aBM):P:=h
theorem aEq.Kk8(h:P:=by
 have HV:=Hq (show bb=false by rw [<-ah eZ];simp[h1,h2,h3,h4]);exact aBM):P:=h
theorem Yk9(h:P:=by
 have Jb:=Hq (λW (ha:aG W (some ⟨gp,0,none⟩) n.pu)=>vO (some ⟨gp,0,none⟩) bJ n.pu key W hl ha);rw [hpp] at Jb;unfold wU at Jb;clear hpp;have hbw0:=ay w (.cells (dH n (⟨a_k,(some ⟨gp,0,none⟩),dW,eH,gH,aK,bJ,aQ,aL,aU⟩:bV)) 40);have lI:=Hq (h.nine hB);clear h;go_in
 go_upto_region 1 with fail;refine wp_at (λW0 hW=>?_);obtain⟨e1,e2,e3⟩:=iA w (.cells (dH n (⟨a_k,(some ⟨gp,0,none⟩),dW,eH,gH,aK,bJ,aQ,aL,aU⟩:bV)) 40) (.cells gN 40);open asj in exact aAR):P:=h
theorem aEr.Kk9(h:P:=by
 have hn6:=aA lT;go_upto_region 8 with fail;refine wp_at (λZ7 hZ=>?_)
 have HS7:Hid (Z7.heap[Z6.heap.size]?=some (.cells (fA n.next dst key pf) 91 (0,0))):=by
  rw [hZ];exact heap_alloc_new Z6 _
 open aph in exact aAw):P:=h
theorem aEs.Kk9(h:P:=by
 have hn6:=aA lT;go_upto_region 8 with fail;refine wp_at (λZ7 hZ=>?_)
 have HS7:Hid (Z7.heap[Z6.heap.size]?=some (.cells (fA n.next dst key most) 91 (0,0))):=by
  rw [hZ];exact heap_alloc_new Z6 _
 open apg in exact aAw):P:=h
theorem aej(h:P:=by
 open aEQ in exact aek):P:=h
theorem aEt.AaE(h:P:=by
 refine fT 18 rfl Aab Aad (λx18 XI=>?_);go_simp;refine⟨ay _ _,?_⟩;have ana:=Hq (show aI z16 x18 from XI);clear XI;refine fT 19 rfl Aab Aad (λx19 aCM=>?_);go_simp;refine⟨Below.refl _ _,?_⟩;refine fu Aab (λz hz=>?_);have HZ:=Hq (show Below (x18.alloc (.cells (hkG k ⟨A2,A1,wa,wc,aa,ac⟩ 0 false false) 132)).heap.size (x18.alloc (.cells (hkG k ⟨A2,A1,wa,wc,aa,ac⟩ 0 false false) 132)) z from Ge.trans aCM hz);clear aCM hz;go_wp2_with fail;have u16:aI z16 z:=Ge.trans ana (Ge.trans (ay x18 _) HZ);have u13:aI z13 z:=Ge.trans am4 u16;have u5:aI z5 z:=Ge.trans am3 u13;have u2:aI z2 z:=Ge.trans HU2 u5;have s1:=(ah HL2);have s2:=HU2.size;have s3:=am3.size;have s4:=am4.size;have s5:=ana.size;have hg:=au (heap_alloc_new x18 (.cells (hkG k ⟨A2,A1,wa,wc,aa,ac⟩ 0 false false) 132)) HZ;have hgl:=aA hg
 exact bodyPost_ret (v:= .pointer (some ⟨x18.heap.size,0,none⟩)) (by simp[results,results25,go_sem]) rfl ⟨⟨A2,A1,wa,wc,aa,ac⟩,z2.heap.size,z5.heap.size,z13.heap.size,x18.heap.size,rfl,hg,
  ⟨⟨H1,yO.below u2,HD1,HR1⟩,⟨H2,Ke.below u5,HD2,HR2⟩,⟨GR.own_below HWT u13,λx hx=>HWL x hx⟩,⟨GR.own_below HAT u16,λx hx=>Nat.lt_of_lt_of_le (HAL x hx) s5⟩,s1,s2,s3,Nat.le_trans s4 s5,Nat.le_of_lt hgl⟩,Ge.trans aDw u16⟩):P:=h
theorem aEu.AaE(h:P:=by
 refine fT 20 rfl Aab Aad (λx20 aCN=>?_);go_simp;refine⟨Below.refl _ _,?_⟩;refine fu Aab (λz hz=>?_);have Ea:=Hq (show aI w z from Ge.trans (show Ge w z18 from HG2) (Ge.trans aCN hz));clear aCN hz HG2;go_wp2_with fail;go_ret;exact⟨⟨r,rfl,HR⟩,Ea⟩):P:=h
theorem aEv.AaE(h:P:=by
 refine fT 15 rfl Aab Aad (λx15 aCL=>?_);go_simp;refine⟨Below.refl _ _,?_⟩;refine fu Aab (λz hz=>?_);have Ea:=Hq (show aI w z from Ge.trans (show Ge w z13 from HG2) (Ge.trans aCL hz));clear aCL hz HG2;go_wp2_with fail;go_ret;exact⟨⟨r,rfl,HR⟩,Ea⟩):P:=h
theorem aEw.AaE(h:P:=by
 refine fu Aab (λz hz=>?_);have Ea:=Hq (show aI w6 z from Ge.trans (show Ge w6 z3 from HG2) hz);clear hz HG2;go_wp2_with fail;go_ret;exact⟨rfl,HL6.trans (Ea.mono HL6.size)⟩):P:=h
theorem aAd(h:P:=by
 have hiI:(i:Int) < (n.reqs.length:Int):=Aaa
 have HST:=Hq hst;clear hR hst;have hp:=jc hok;have NJ:=Hq (λW1 (ha:gF W1 gH n.reqs)=>Ah n (⟨a_k,jl,dW,eH,gH,aK,bJ,aQ,aL,aU⟩:bV) no W1 Aaa hp.1 ha);rw [hJ] at NJ;clear hp hok;unfold iF;have H9:=Hq h9;clear h9;have hbw0:=ay w (.cells (dH n (⟨a_k,jl,dW,eH,gH,aK,bJ,aQ,aL,aU⟩:bV)) 40);open avt in exact Vj):P:=h
theorem aEx.AaA(h:P:=by
 clear hW' e4 gu;exact bodyPost_ret (v:= .tuple #[.agg (fP n.id n.par a_k n.kids.length aK n.next jl n.pu.length bJ dW n.out.length aQ eH n.seen.length aL n.old (some ⟨g,off,none⟩) n.reqs.length aU),.int .i64 0]) Abs rfl ⟨(⟨a_k,jl,dW,eH,(some ⟨g,off,none⟩),aK,bJ,aQ,aL,aU⟩:bV),rfl,HAT,ow,tq⟩):P:=h
theorem aEy.AaA(h:P:=by
 clear hW' e4 gu;exact bodyPost_ret (v:= .tuple #[.agg (fP n.id n.par a_k n.kids.length aK n.next jl n.pu.length bJ dW n.out.length aQ eH n.seen.length aL n.old (some ⟨g,off,none⟩) n.reqs.length aU),.int .i64 1]) Abs rfl ⟨(⟨a_k,jl,dW,eH,(some ⟨g,off,none⟩),aK,bJ,aQ,aL,aU⟩:bV),rfl,HAT,ow,tq⟩):P:=h
theorem akE(h:P:=by
 obtain⟨gi,OP,rfl,zC,aFD,hb4⟩:=hcut;have aad:=Hq (au aec hb4);have AR:=Hq (au lJ hb4);have amR:=Hq (au Wz hb4);have NK:=Hq (au lK hb4);have nK:=Hq (HB3.trans (hb4.mono HB3.size));have akr:=Hq (amU.kc (k:=9) (KC.of_below hb4) Aaa);have hgi:W3.heap.size<=gi:=(zC.lt gi rfl).1;have aFK:gi < wc.heap.size:=(zC.lt gi rfl).2
 have aG9:(bg s0 mL).length<=OP:=by
  exact aAU
 have aHz:=aA aad;have hIL:(bg s0 mL).length<=1000:=Nat.le_trans (List.length_filter_le _ _) hil;have hW5:WO (wc.setCell ⟨sb,2,none⟩ (.slice (some ⟨gi,0,none⟩) (bg s0 mL).length OP)) (some ⟨gi,0,none⟩) OP gi (bg s0 mL):=(WO.of_own (agc aX zC) zC aFD).keeps (aC.set _) (λx hx hm=>by have h1:=(eD hx).1;simp at hm;omega);have AQ:=Hq (akr.kc (k:=9) (w':=wc.setCell ⟨sb,2,none⟩ (.slice (some ⟨gi,0,none⟩) (bg s0 mL).length OP)) (KC.set (bq Aaa)) Aaa);have RV:=Hq (AQ.seenPut i hi ⟨mF,fJ s0 mL,bg s0 mL⟩ (some ⟨gi,0,none⟩) OP gi hW5 (λx hx=>by rw [(eD hx).1];exact bq Aaa));have aHg:G.s≠w.heap.size:=Aaa
 obtain⟨T,hT,hlT,hrT⟩:=akr.s;obtain⟨_,_,hcT⟩:=hT i Aaa;open asv in exact agh):P:=h
theorem aEz.AaJ(h:P:=by
 open awm in exact aha):P:=h
theorem aEA.AaJ(h:P:=by
 open awl in exact aha):P:=h
theorem aEB.AaJ(h:P:=by
 have WE:Hid (NQ W6 B (dP n (n.seen.set i ⟨mF,fJ s0 mL,bg s0 mL⟩)) (⟨a_k,jl,dW,(some ⟨G.s,0,none⟩),gH,aK,bJ,aQ,aL,aU⟩:bV) ⟨G.k,G.p,G.o,G.s,G.r,sG G.i i gi⟩ (uQ gi (bg s0 mL) (newC w.heap.size 9 c))):=by rw [Zq];exact RV
 open aDX in exact Yk2):P:=h
theorem Kn(h:P:=by
 have hb:=ay W0 (.cells #[] 98);have hW1:W1=W0.alloc (.cells #[] 98):=by rw [hW,<-hW0]
 rw [<-hW1] at hb;have HN:=Hq (au e1 hb);have HO:=Hq (au e2 hb);have HR:=Hq (au e3 hb);have HB1:=Hq (e4.trans (hb.mono e4.size));clear hW hW0 hW1 e1 e2 e3 e4 hb;obtain⟨c0,c1,c2,c3,c4,c5,c6,c7,c8⟩:=nine HN;obtain⟨⟨p0,p1,p2,p3,p4,p5,p6,p7,p8,p9,nX⟩,_⟩:=aO HO;exact AaC):P:=h
theorem aEC.AaC(h:P:=by
 open apZ in exact aAz):P:=h
theorem aED.AaC(h:P:=by
 open au7 in exact agL):P:=h
theorem aEE.AaC(h:P:=by
 open Sk0 in exact Yk0):P:=h
theorem aEF.AaC(h:P:=by
 open Sk1 in exact Yk0):P:=h
theorem aEG.AaC(h:P:=by
 open Sk2 in exact Yk0):P:=h
theorem aEH.AaC(h:P:=by
 open Sk3 in exact Yk0):P:=h
theorem aEI.AaC(h:P:=by
 open Sk4 in exact Yk0):P:=h
theorem aEJ.AaC(h:P:=by
 open Sk5 in exact Yk0):P:=h
theorem aEK.AaC(h:P:=by
 open Sk6 in exact Yk0):P:=h
theorem aAe(h:P:=by
 go_in
 go_upto_region 1 with fail;refine wp_at (λW0 hW=>?_);obtain⟨e1,e2,e3,e4⟩:=gI w (.cells (dH n (⟨a_k,(some ⟨gp,0,none⟩),dW,eH,(some ⟨gr,0,none⟩),aK,bJ,aQ,aL,aU⟩:bV)) 40) (.cells (bY K no k nn mK mF mT mI mL mk mN) 100) (.cells gN 40);open aw3 in exact aaz):P:=h
theorem aEL.AaH(h:P:=by
 have hnl:=aA lJ;have aGc:=aA RZ;go_upto_region 13 with fail;refine wp_at (λW4 Xu=>?_);have AR:Hid (W4.heap[w.heap.size]?=some (.cells (fP n.id n.par a_k n.kids.length aK n.next (some ⟨gp,0,none⟩) n.pu.length bJ dW n.out.length aQ eH n.seen.length aL n.old (some ⟨gr,0,none⟩) n.reqs.length aU) 40 (0,0))):=by rw [Xu];exact lJ
 have aky:Hid (W4.heap[W1.heap.size]?=some (.cells (dZ no k nn 1) 95 (0,0))):=by rw [Xu];exact RZ
 have ad5:Hid (W4.heap[w.heap.size+1]?=some (.cells (bY K no k nn mK mF mT mI mL mk mN) 100 (0,0))):=by rw [Xu];exact Kh
 have NK:Hid (W4.heap[w.heap.size+2]?=some (.cells gN 40 (0,0))):=by rw [Xu];exact lK
 have nK:Hid (aI w W4):=by rw [Xu];exact HB3
 open auO in exact agG):P:=h
theorem aEM.AaH(h:P:=by
 have hnl:=aA lJ;have aGc:=aA RZ;go_upto_region 13 with fail;refine wp_at (λW4 Xu=>?_);have hne1:w.heap.size≠W1.heap.size:=Aaa
 have AR:Hid (W4.heap[w.heap.size]?=some (.cells (fP n.id n.par a_k n.kids.length aK n.next av RL.length cv dW n.out.length aQ eH n.seen.length aL n.old (some ⟨gr,0,none⟩) n.reqs.length aU) 40 (0,0))):=by rw [Xu];exact gU _ hne1 (aR lJ 4 _)
 have aky:Hid (W4.heap[W1.heap.size]?=some (.cells (dZ no k nn 0) 95 (0,0))):=by rw [Xu];exact aR (gU _ hne1.symm RZ) 3 _
 have ad5:Hid (W4.heap[w.heap.size+1]?=some (.cells (bY K no k nn mK mF mT mI mL mk mN) 100 (0,0))):=by rw [Xu];exact gU _ Aaa (gU _ Aaa Kh)
 have NK:Hid (W4.heap[w.heap.size+2]?=some (.cells gN 40 (0,0))):=by rw [Xu];exact gU _ Aaa (gU _ Aaa lK)
 have nK:Hid (aI w W4):=by rw [Xu];exact(HB3.setCell (p:=⟨w.heap.size,4,none⟩) (Nat.le_refl _) _).setCell (p:=⟨W1.heap.size,3,none⟩) Aag _
 have WH:Hid (LO 108 gB 4 (w.heap.size+3) W4 av cv RL):=by
  rw [Xu];have hk:aC [w.heap.size,W1.heap.size] W3 ((W3.setCell ⟨w.heap.size,4,none⟩ (.slice av RL.length cv)).setCell ⟨W1.heap.size,3,none⟩ (.int .i64 0)):=((aC.set _).mono Aac).trans ((aC.set _).mono Aac);exact(HRW.keeps hk (λx hx=>Aak)).lower Aaa
 open auN in exact agG):P:=h
theorem aek(h:P:=by
 open anl in exact aem):P:=h
theorem aEN.AaP(h:P:=by
 clear y18 y19 y20 y21 HK hl0 hr0 hr1;refine fT 2 rfl Aab Aad (λx2 hx2=>?_);go_simp;have g2:aI w x2:=Ge.trans HB0 hx2;refine(Rz x2 g2).mono ?_;rintro e z2 ⟨A1,G1,cc1,rfl,hN1,hy2⟩;refine⟨hy2,?_⟩;have HG2:=Hq (show aI w z2 from Ge.trans g2 hy2);obtain⟨H1,hN,hS,_⟩:=hN1.full;have yO:=Hq hN;have HD1:=Hq hS.nodup;have HR1:=Hq (show∀x∈H1.all k.node,w.heap.size<=x/\x < z2.heap.size from λx hx=>by have:=hS.rng x hx;have:=g2.size;omega);clear hN1 hN hS hx2 hy2 g2 HB0 Rz;refine fT 5 rfl Aab Aad (λx5 hx5=>?_);go_simp;have g5:aI w x5:=Ge.trans HG2 hx5;refine(Gl x5 g5).mono ?_;rintro e z5 ⟨A2,G2,OO,rfl,Te,hy5⟩;refine⟨hy5,?_⟩;have vX:=Hq (show aI w z5 from Ge.trans g5 hy5);obtain⟨H2,hN,hS,_⟩:=Te.full;have Ke:=Hq hN;have HD2:=Hq hS.nodup;have HR2:=Hq (show∀x∈H2.all k.base,z2.heap.size<=x/\x < z5.heap.size from λx hx=>by have:=hS.rng x hx;have:=hx5.size;omega);have HL2:=Hq (show w.heap.size<=z2.heap.size from HG2.size);have HU2:=Hq (show aI z2 z5 from Ge.trans hx5 hy5);clear Te hN hS hx5 hy5 g5 HG2 Gl;refine fT 8 rfl Aab Aad (λx8 hx8=>?_);go_simp;refine(clone k.log _ Aaa).mono ?_;rintro e z8 ⟨rfl,hy8⟩;refine⟨hy8,?_⟩;have HG8:=Hq (show aI w z8 from Ge.trans (Ge.trans vX hx8) hy8);have HU8:=Hq (show aI z5 z8 from Ge.trans hx8 hy8);clear hx8 hy8 vX;refine fT 13 rfl Aab Aad (λx13 Pm=>?_);go_simp;have g13:aI w x13:=Ge.trans HG8 Pm;refine(HCW x13 g13).mono ?_;rintro e z13 ⟨v,rfl,hwt,Pn⟩;refine⟨Pn,?_⟩;have amM:=Hq (show aI w z13 from Ge.trans g13 Pn);obtain⟨wa,wc,rfl,_⟩:=GR.own_at (enc:=iU) (sz:=7) dX hwt;have HWT:=Hq (kS (B':=z5.heap.size) hwt (show z5.heap.size<=x13.heap.size from(Ge.trans HU8 Pm).size));have HWL:=Hq (λx hx=>vK hwt (x:=x) hx);have am3:=Hq (show aI z5 z13 from Ge.trans (Ge.trans HU8 Pm) Pn);clear hwt Pm Pn g13 HG8 HU8 HCW;refine fT 16 rfl Aab Aad (λx16 hx16=>?_);go_simp;have g16:aI w x16:=Ge.trans amM hx16;refine(HCA x16 g16).mono ?_;rintro e z16 ⟨v,rfl,hat,afa⟩;refine⟨afa,?_⟩;have aDw:=Hq (show aI w z16 from Ge.trans g16 afa);obtain⟨aa,ac,rfl,_⟩:=GR.own_at (enc:=ig) (sz:=12) dA hat;have HAT:=Hq (kS (B':=z13.heap.size) hat (show z13.heap.size<=x16.heap.size from hx16.size));have HAL:=Hq (λx hx=>vK hat (x:=x) hx);have am4:=Hq (show aI z13 z16 from Ge.trans hx16 afa);clear hat hx16 afa g16 amM HCA;refine aP 17 rfl Aab Aab Aab (λ_ _ _ _ h=>h) (λK hK=>?_);open aEt in exact aej):P:=h
theorem aEO.AaP(h:P:=by
 clear y20 hr0 hr1 hq;refine fT 17 rfl Aab Aad (λx17 alK=>?_);go_simp;have g17:aI w x17:=Ge.trans (show Ge w V2 from HB2) alK;refine(Nl la lc x17 g17 (GR.At.below Ec alK)).mono ?_;rintro e z17 ⟨A',G',c',rfl,hN',alN⟩;refine⟨alN,?_⟩;have HA':=Hq hN'.at;have HG:=Hq (show aI w z17 from Ge.trans (show Ge w x17 from g17) alN);clear hN' alK alN g17 HB2 Nl sW Ec;refine fT 18 rfl Aab Aad (λx18 XI=>?_);go_simp;have g18:aI w x18:=Ge.trans (show Ge w z17 from HG) XI;refine(yT x18 g18 A' (HA'.below XI)).mono ?_;rintro e z18 ⟨⟨r,rfl,hr⟩,alO⟩;refine⟨alO,?_⟩;have HR:=Hq (show r=true↔xZ k from⟨λh=>⟨Wv.1,Wv.2,HSF,HE5,hr.1 h⟩,λh=>hr.2 h.2.2.2.2⟩);have HG2:=Hq (show aI w z18 from Ge.trans (show Ge w x18 from g18) alO);clear XI alO g18 yT HG HA' hr Wv HSF HE5;refine aP 19 rfl Aab Aab Aab (λ_ _ _ _ h=>h) (λK hK=>?_);open aEu in exact aej):P:=h
theorem aEP.AaP(h:P:=by
 refine lH 12 rfl Aab Aab Aab (λ_ _ _ _ h=>h) Aad 40 _ rfl w.heap.size 9 rfl (dH N0 AN).toList _ hr1 hgl underlying40 rfl Aab ?_;clear y18 hr0 hr1 hq HB3;refine fT 10 rfl Aab Aad (λx10 KY=>?_);go_simp;have g10:aI w x10:=Ge.trans (show Ge w w3 from qC) KY;refine(Nl x10 g10).mono ?_;rintro e z10 ⟨A',rfl,hat,alM⟩;refine⟨alM,?_⟩;have HA':=Hq (hat _ Dw.refl);have HG:=Hq (show aI w z10 from Ge.trans (show Ge w x10 from g10) alM);clear hat KY alM g10 qC Nl;refine fT 13 rfl Aab Aad (λx13 Pm=>?_);go_simp;have g13:aI w x13:=Ge.trans (show Ge w z10 from HG) Pm;refine(yT x13 g13 A' (HA'.below Pm)).mono ?_;rintro e z13 ⟨⟨r,rfl,hr⟩,Pn⟩;refine⟨Pn,?_⟩;have HR:=Hq (show r=true↔xZ ⟨B0,N0,lg,sf,wt,sk⟩ from⟨λh=>⟨H1,H2,H3,H5,(hr.1 h).symm⟩,λh=>hr.2 h.2.2.2.2.symm⟩);have HG2:=Hq (show aI w z13 from Ge.trans (show Ge w x13 from g13) Pn);clear Pm Pn g13 yT HG HA' hr H1 H2 H3 H5;open aza in exact Vp):P:=h
theorem aEQ.AaP(h:P:=by
 exact AaE):P:=h
theorem akF(h:P:=by
 open aqr in exact WX):P:=h
theorem aER.AaM(h:P:=by
 go_wp2_with fail;exact bodyPost_ret (v:= .tuple #[wB ⟨0,F,T,0,0,k,N⟩,.bool true]) Aax rfl ⟨Aaw,fO⟩):P:=h
theorem aES.AaM(h:P:=by
 go_wp2_with fail;exact bodyPost_ret (v:= .tuple #[wB ⟨0,F,T,0,L,k,N⟩,.bool false]) Aax rfl ⟨Aaw,fO⟩):P:=h
theorem aET.AaM(h:P:=by
 exact aiW):P:=h
theorem Sc(h:P:=by
 have HW:=Hq h;obtain⟨K,no,k,nn,⟨mK,mF,mT,mI,mL,mk,mN⟩⟩:=o;dsimp only at *;open aqE in exact WY):P:=h
theorem aEU.AaD(h:P:=by
 go_in
 open anE in exact WV):P:=h
theorem aEV.AaD(h:P:=by
 go_in
 open anD in exact WV):P:=h
theorem aEW.AaD(h:P:=by
 go_in
 exact aBB):P:=h
theorem aEX.AaD(h:P:=by
 go_in
 open anC in exact WV):P:=h
theorem aEY.AaD(h:P:=by
 go_in
 open anB in exact WV):P:=h
theorem aEZ.AaD(h:P:=by
 go_in
 exact aBB):P:=h
theorem aE0.AaD(h:P:=by
 go_in
 open anA in exact WV):P:=h
theorem aAf(h:P:=by
 have HUN:=Hq (λW (ha:aG W (some ⟨gp,0,none⟩) n.pu)=>Q5 gp 0 bJ n.pu n.reqs[i].k n.reqs[i].n W (Nat.le_trans hz.p Aaa) uJ hz.pk (hz.rk _ (List.getElem_mem hi)) ha);unfold iV at HUN;rw [hu] at HUN;clear hR hst hz uJ hu;have hp:=jc hok;have NJ:=Hq (λW1 (ha:gF W1 gH n.reqs)=>Ah n (⟨a_k,(some ⟨gp,0,none⟩),dW,eH,gH,aK,bJ,aQ,aL,aU⟩:bV) no W1 Aaa hp.1 ha);rw [hJ] at NJ;clear hp hok;unfold iF;have H9:=Hq h9;clear h9;have hbw0:=ay w (.cells (dH n (⟨a_k,(some ⟨gp,0,none⟩),dW,eH,gH,aK,bJ,aQ,aL,aU⟩:bV)) 40);open avs in exact Vj):P:=h
theorem aE1.AaN(h:P:=by
 open anU in exact aAk):P:=h
theorem aE2.AaN(h:P:=by
 open anT in exact aAk):P:=h
theorem aAg(h:P:=by
 generalize getOp (jW s ((a:Int)+4))=oc at *;generalize jW s ((a:Int)+4)=TX at *;obtain⟨K,no,k,n,⟨mK,mF,mT,mI,mL,mk,mN⟩⟩:=oc;go_wp2_with fail;refine(Gg _).mono ?_;rintro e w1 ⟨rfl,hb1⟩;have HB1:=Hq hb1;clear hb1;go_wp2_with fail;refine(Ec _).mono ?_;rintro e w2 ⟨rfl,hb2⟩;have HB2:=Hq (HB1.trans (hb2.mono HB1.size));clear hb2 HB1;go_upto_region 6 with fail;refine wp_at (λW hW=>?_);have iR:Hid (aI wr W):=by rw [hW];exact HB2.trans ((ay w2 _).mono HB2.size)
 have HOW:Hid (W.heap[w2.heap.size]?=some (.cells (bY K no k n mK mF mT mI mL mk mN) 100 (0,0))):=by rw [hW];exact heap_alloc_new w2 _
 clear hW HB2;refine dz Aab ?_;show gT _ _ _ _ 17 (Array.replicate 17 false) _ _
 refine tk [0,1,2,3,4,5,6,7,8,9,10] ?_;iterate 11 (refine AJ (λK hK=>?_);go_simp;refine hK _ ?_;clear hK K)
 refine jK ?_;open azI in exact Vs):P:=h
theorem aE3.AaL(h:P:=by
 have HOZ:=Hq (aN HOW hz);clear hz iR HOW;obtain⟨⟨c0,c1,c2,c3,c4,c5,c6,c7,c8,c9,c10⟩,_⟩:=aO HOZ;have hzl:=dG HOZ;have akt:=Hq (own_below HOWN pz);have adQ:=Hq (cZ.trans (pz.mono cZ.size));have hLl:=HS.1;go_simp;go_wp2_with (at_builtin;refine wpList_append_own _ rfl _ _ 56 rfl w.heap.size 100 i0 (.agg (bY 0 0 ByteArray.empty 0 0 0 0 0 0 ByteArray.empty 0)) 11 104 underlying56 hi hz0 hz1 hz2 rfl Aae _ _ _ rfl (akt.alloc _) ⟨z.heap.size,0,none⟩ 1 1 (nO ⟨K,no,k,n,⟨mK,mF,mT,mI,mL,mk,mN⟩⟩) rfl rfl ?c1 ?c2 ?c3 ?c4 ?c5 ?_)
 case c1=>exact World.news_of_block (heap_alloc_new z _)
 case c2=>exact OY _
 case c3=>unfold maxLen;omega
 case c4=>omega
 case c5=>have:=adQ.size;simp;omega
 intro v' w6 hown' hgrow _;have Ns:=Hq (GR.below_append adQ adQ.size akt hgrow);have amX:Hid (w6.ownsRow w.heap.size 100 11 v' (L++[(⟨K,no,k,n,⟨mK,mF,mT,mI,mL,mk,mN⟩⟩:gQ)]).length (GR.flat nO (L++[(⟨K,no,k,n,⟨mK,mF,mT,mI,mL,mk,mN⟩⟩:gQ)]))):=by rw [List.length_append,xU];exact hown'
 clear hgrow hown' akt adQ cZ HOWN pz HOZ c0 c1 c2 c3 c4 c5 c6 c7 c8 c9 c10;go_wp2_with fail;go_roundw
 case rel=>exact⟨E,_,rfl,amX,Ns,.inl ⟨hsm,iG⟩⟩
 case measure=>simp[intOf];omega):P:=h
theorem aE4.AaL(h:P:=by
 clear hz iR HOW;go_simp;go_wp2_with fail;exact bodyPost_ret (v:= .tuple #[.slice va L.length vc,.int .i64 a]) Acz rfl (Jo HOWN cZ HS HST pz)):P:=h
theorem aAh(h:P:=by
 obtain⟨⟨p0,p1,p2,p3,p4,p5,p6,p7,p8,p9,nX⟩,_⟩:=aO WG;have hol:=aA WG;obtain⟨c0,c1,c2,c3,c4,c5,c6,c7,c8⟩:=nine kK;obtain⟨d0,d1,d2,d3,d4,d5,d6,d7,d8⟩:=nine pJ;have f0:=aj pJ 0;have f1:=aj pJ 1;have f2:=aj pJ 2;have f3:=aj pJ 3;have f4:=aj pJ 4;have f5:=aj pJ 5;have f6:=aj pJ 6;have f7:=aj pJ 7;have f8:=aj pJ 8;have hnl:=aA kK;have hrl:=aA pJ;clear q0;dsimp only at e0;subst e0;go_wp2_with fail;go_quiet (fail);go_wp2_with fail;refine aW (λW' hW'=>?_)
 have e4:W'.heap[w.heap.size+2]?=some (.cells (fP n.id n.par a_k n.kids.length aK n.next jl n.pu.length bJ dW n.out.length aQ eH n.seen.length aL n.old (some ⟨g,off,none⟩) n.reqs.length aU) 40 (0,0)):=by
  rw [hW'];exact GR.setW_blk (fP n.id n.par a_k n.kids.length aK n.next jl n.pu.length bJ dW n.out.length aQ eH n.seen.length aL n.old (some ⟨g,off,none⟩) n.reqs.length aU).toList (o:=0) (xs:=gN.toList) pJ
 have gu:aC [w.heap.size+2] W1 W':=by
  rw [hW'];exact aC.trans (b:=W1.drewN nq) ⟨rfl,rfl,rfl,Nat.le_refl _,λ_ _ _=>rfl⟩ (aM (fP n.id n.par a_k n.kids.length aK n.next jl n.pu.length bJ dW n.out.length aQ eH n.seen.length aL n.old (some ⟨g,off,none⟩) n.reqs.length aU).toList (W1.drewN nq) 0)
 have HAT:=Hq (λW'' (ho:Out c w W' W'')=>(yO.kc (k:=9) ((KC.keeps gu (λx hx=>by have:x=w.heap.size+2:=Aaf;rw [this];exact bq Aaa)).trans (KC.out H9 ho)) Aaa).rm);have ow:Hid (Below B w W'):=(HB1.mono hB).trans (gu.below (λx hx=>by have:x=w.heap.size+2:=Aaf;omega) (Nat.le_trans hB (HB1.mono hB).size));have tq:=Hq (Apart.keeps (c:=c) (Apart.of_below (HB1)) (HB1.mono hB).size gu (λx hx=>by have:x=w.heap.size+2:=Aaf;omega));obtain⟨x0,x1,x2,x3,x4,x5,x6,x7,x8⟩:=nine e4;clear hW' e4 gu;exact AaK):P:=h
theorem aE5.AaK(h:P:=by
 exact bodyPost_ret (v:= .tuple #[.agg (fP n.id n.par a_k n.kids.length aK n.next jl n.pu.length bJ dW n.out.length aQ eH n.seen.length aL n.old (some ⟨g,off,none⟩) n.reqs.length aU),.int .i64 0]) Abk rfl ⟨(⟨a_k,jl,dW,eH,(some ⟨g,off,none⟩),aK,bJ,aQ,aL,aU⟩:bV),rfl,HAT,ow,tq⟩):P:=h
theorem aE6.AaK(h:P:=by
 exact bodyPost_ret (v:= .tuple #[.agg (fP n.id n.par a_k n.kids.length aK n.next jl n.pu.length bJ dW n.out.length aQ eH n.seen.length aL n.old (some ⟨g,off,none⟩) n.reqs.length aU),.int .i64 1]) Abk rfl ⟨(⟨a_k,jl,dW,eH,(some ⟨g,off,none⟩),aK,bJ,aQ,aL,aU⟩:bV),rfl,HAT,ow,tq⟩):P:=h
theorem ael(h:P:=by
 have hwl:=aA h.blk;have HIO:=Hq (λw1=>Py o w1);rw [ho] at HIO;obtain⟨K,no,k,nn,⟨mK,mF,mT,mI,mL,mk,mN⟩⟩:=o;dsimp only at *;open aqD in exact WY):P:=h
theorem aE7.AaF(h:P:=by
 obtain rfl:=ah HKQ;obtain⟨⟨p0,p1,p2,p3,p4,p5,p6,p7,p8,p9,nX⟩,_⟩:=aO rz;have alH:=aA rz;go_wp2_with fail;refine(HAD w2 HW2).mono ?_;rintro e w3 ⟨rfl,hb3⟩;have HW3:=Hq (HW2.step hb3);have Zg:=Hq (au rz hb3);clear hb3 HAD;go_upto_region 4 with fail;refine wp_at (λW hW=>?_);have e1:W.heap[w3.heap.size]?=some (.cells #[.func (.func 175) #[.pointer (some ⟨wb,0,none⟩)] #[],.func (.func 176) #[.pointer (some ⟨wb,0,none⟩)] #[],.func (.func 177) #[.pointer (some ⟨wb,0,none⟩)] #[],.func (.func 178) #[.pointer (some ⟨wb,0,none⟩)] #[],.func (.func 179) #[.pointer (some ⟨wb,0,none⟩)] #[],.func (.func 180) #[.pointer (some ⟨wb,0,none⟩)] #[],.func (.func 181) #[.pointer (some ⟨wb,0,none⟩)] #[]] 217 (0,0)):=Acn
 have e2:=ay w3 (.cells #[.func (.func 175) #[.pointer (some ⟨wb,0,none⟩)] #[],.func (.func 176) #[.pointer (some ⟨wb,0,none⟩)] #[],.func (.func 177) #[.pointer (some ⟨wb,0,none⟩)] #[],.func (.func 178) #[.pointer (some ⟨wb,0,none⟩)] #[],.func (.func 179) #[.pointer (some ⟨wb,0,none⟩)] #[],.func (.func 180) #[.pointer (some ⟨wb,0,none⟩)] #[],.func (.func 181) #[.pointer (some ⟨wb,0,none⟩)] #[]] 217);rw [<-hW] at e2;have HW4:=Hq (HW3.step e2);have WH:=Hq (au Zg e2);have c0:W.cell? ⟨w3.heap.size,6,none⟩=some (.func (.func 181) #[.pointer (some ⟨wb,0,none⟩)] #[]):=cell_of_row W _ 6 _ _ (0,0) e1;exact Zk6):P:=h
theorem aE8.AaF(h:P:=by
 obtain⟨⟨p0,p1,p2,p3,p4,p5,p6,p7,p8,p9,nX⟩,_⟩:=aO rz;have alH:=aA rz;have hK6:=ah Ze;go_wp2_with fail;refine(HAD w2 HW2).mono ?_;rintro e w3 ⟨rfl,hb3⟩;have HW3:=Hq (HW2.step hb3);clear hb3 p0 p1 p2 p3 p4 p5 p6 p7 p8 p9 nX HAD;go_wp2_with fail;go_ret;exact⟨rfl,A,G,c,v,by rw [List.append_nil];exact HW3⟩):P:=h
theorem aE9.AaF(h:P:=by
 go_wp2_with fail;go_ret;exact⟨rfl,A,G,c,v,by rw [List.append_nil];exact HW2⟩):P:=h
theorem aFa.AaF(h:P:=by
 obtain rfl:=ah HKQ;obtain⟨⟨p0,p1,p2,p3,p4,p5,p6,p7,p8,p9,nX⟩,_⟩:=aO rz;have alH:=aA rz;go_upto_region 4 with fail;refine wp_at (λW hW=>?_);have e1:W.heap[w2.heap.size]?=some (.cells #[.func (.func 175) #[.pointer (some ⟨wb,0,none⟩)] #[],.func (.func 176) #[.pointer (some ⟨wb,0,none⟩)] #[],.func (.func 177) #[.pointer (some ⟨wb,0,none⟩)] #[],.func (.func 178) #[.pointer (some ⟨wb,0,none⟩)] #[],.func (.func 179) #[.pointer (some ⟨wb,0,none⟩)] #[],.func (.func 180) #[.pointer (some ⟨wb,0,none⟩)] #[],.func (.func 181) #[.pointer (some ⟨wb,0,none⟩)] #[]] 217 (0,0)):=Acn
 have e2:=ay w2 (.cells #[.func (.func 175) #[.pointer (some ⟨wb,0,none⟩)] #[],.func (.func 176) #[.pointer (some ⟨wb,0,none⟩)] #[],.func (.func 177) #[.pointer (some ⟨wb,0,none⟩)] #[],.func (.func 178) #[.pointer (some ⟨wb,0,none⟩)] #[],.func (.func 179) #[.pointer (some ⟨wb,0,none⟩)] #[],.func (.func 180) #[.pointer (some ⟨wb,0,none⟩)] #[],.func (.func 181) #[.pointer (some ⟨wb,0,none⟩)] #[]] 217);rw [<-hW] at e2;have HW4:=Hq (HW2.step e2);have WH:=Hq (au rz e2);exact Kk1):P:=h
theorem aAi(h:P:=by
 open auG in exact aat):P:=h
theorem aFb.AaQ(h:P:=by
 have RY:=Hq (au Ki hz);clear hz y0 y1 y2 y3 y4 y5 y6 y7 y8 z1 R7;go_simp;obtain⟨⟨p0,p1,p2,p3,p4,p5,p6⟩,_⟩:=eT RY;have hBz:=aA RY;go_wp2_with fail;refine(Ed z HZ).mono ?_;rintro e y ⟨rfl,A',G',c',v',hY⟩;have HY:=Hq hY;clear hY Ed p0 p1 p2 p3 p4 p5 p6;go_wp2_with fail;go_ret;exact⟨rfl,A',G',c',v',HY⟩):P:=h
theorem aFc.AaQ(h:P:=by
 clear hz y0 y1 y2 y3 y4 y5 y6 y7 y8 z1 R7;exact ajI):P:=h
theorem Sd(h:P:=by
 refine wp_region_quiet_below Aab Aab ?_;repeat (first|go_big_quiet_step (exact cO _ _)|quiet_step (exact cO _ _))
 refine wpQuiet_nil ?_;intro _ hw';obtain⟨⟨dq,osq⟩,hw''⟩:=hw';subst hw'';have fO:=Hq (vW.trans ((below_regrown _ dq osq).mono vW.size));exact AaG):P:=h
theorem aFd.AaG(h:P:=by
 clear y0 y1 y2 y3 y4 cO
 all_goals
  go_wp2_with fail
  go_roundw
  case rel=>exact⟨(j+1)+1,Aaa,Aah,Aco,fO⟩
  case measure=>simp[intOf];omega):P:=h
theorem aFe.AaG(h:P:=by
 clear y0 y1 y2 y3 cO
 all_goals
  go_wp2_with fail
  go_roundw
  case rel=>exact⟨0+1,Aaa,Aah,Aco,fO⟩
  case measure=>simp[intOf];omega):P:=h
theorem aFf.AaG(h:P:=by
 clear y0 y1 y2 y3 cO
 all_goals
  go_wp2_with fail
  go_ret
  exact⟨aF HBAD.symm,fO⟩):P:=h
theorem aFg.AaG(h:P:=by
 clear cO y0 y1 y2 y3 y4 y5 y6;exact aiX):P:=h
theorem aFh.AaG(h:P:=by
 clear cO y0 y1 y2 y3 y4 y5 y6;go_wp2_with fail;exact bodyPost_ret (v:= .tuple #[wB ⟨1,F,T,I,L,k,N⟩,.bool false]) Aax rfl ⟨Aaw,fO⟩):P:=h
theorem aFi.AaG(h:P:=by
 clear cO y0 y1 y2 y3 y4 y5 y6;exact aiW):P:=h
theorem aFj.AaG(h:P:=by
 clear y0 y1 y2 y3 y4 cO
 all_goals
  go_wp2_with fail
  go_ret
  exact⟨aF HBAD.symm,fO⟩):P:=h
theorem akG(h:P:=by
 obtain⟨rfl,hge⟩:=hcut;have kK:=Hq (au ad4 hge);have Nz:=Hq (au adV hge);have pJ:=Hq (au am1 hge);have HB1:=Hq (HB0.trans (hge.mono HB0.size));have WB:=Hq (adZ.kc (k:=9) (KC.of_below hge) Aaa);have akB:=Hq (HWI.below hge);have hz1:w.heap.size+3<=wc.heap.size:=by have:=aA pJ;omega
 obtain⟨t0,t1,t2⟩:=ah HT;have u0:=(hge.cell (p:=⟨G.s,i*3,none⟩) hgs0).trans t0;have u1:=(hge.cell (p:=⟨G.s,i*3+1,none⟩) hgs0).trans t1;have u2:=(hge.cell (p:=⟨G.s,i*3+2,none⟩) hgs0).trans t2;clear t0 t1 t2 hge c0 c1 c2 c3 c4 c5 c6 c7 c8 m0 m1 m2 m3 m4 m5 m6 hnl hml ad4 adV am1 HB0 adZ HWI HT;obtain⟨c0,c1,c2,c3,c4,c5,c6,c7,c8⟩:=nine kK;have hnl:=aA kK;have aHl:(i:Int) < (n.seen.length:Int):=Aaa
 go_upto_region 5 with fail;refine wp_at (λW2 hW2=>?_);have hb2:=ay wc (.cells #[.int .i64 mF,.int .i64 s0.l,.slice bi s0.ids.length ci] 110);have hs2:=heap_alloc_new wc (.cells #[.int .i64 mF,.int .i64 s0.l,.slice bi s0.ids.length ci] 110);rw [<-hW2] at hb2 hs2;obtain⟨sb,hsb⟩:∃sb,wc.heap.size=sb:=⟨_,rfl⟩;rw [hsb] at hs2 hz1;have WQ:=Hq hs2;have jQ:=Hq (au kK hb2);have yN:=Hq (au Nz hb2);have jC:=Hq (au pJ hb2);have HB2:=Hq (HB1.trans (hb2.mono HB1.size));have amT:=Hq (WB.kc (k:=9) (KC.of_below hb2) Aaa);have am8:=Hq (akB.below hb2);have hilt:∀x∈fp (G.i i) s0.ids,x < sb:=λx hx=>by rw [<-hsb];exact aAc akB x hx
 rw [hsb] at *;clear hW2 hb2 hs2 u0 u1 u2 c0 c1 c2 c3 c4 c5 c6 c7 c8 hnl kK Nz pJ HB1 WB akB;obtain⟨m0,m1,m2,m3,m4,m5,m6⟩:=jG yN;obtain⟨s00,s01,s02⟩:=Cb WQ;have sf:=aj WQ 1;have hml:=aA yN;have hsl2:=aA WQ;go_upto_if 35 with fail;exact AaO):P:=h
theorem anf.AaO(h:P:=by
 go_cut [8] from 15 (λp wx=>p= .pointer (some ⟨sb,0,none⟩)/\wx.heap[sb]?=some (.cells #[.int .i64 mF,.int .i64 (fJ s0 mL),.slice bi s0.ids.length ci] 110 (0,0))/\aC [sb] W2 wx)
 case first=>
  exact akY
 case rest=>
  open aoc in exact akI):P:=h
theorem ang.AaO(h:P:=by
 go_cut [8] from 15 (λp wx=>p= .pointer (some ⟨sb,0,none⟩)/\wx.heap[sb]?=some (.cells #[.int .i64 mF,.int .i64 (fJ s0 mL),.slice bi s0.ids.length ci] 110 (0,0))/\aC [sb] W2 wx)
 case first=>
  exact akY
 case rest=>
  open aob in exact akI):P:=h
theorem anh.AaO(h:P:=by
 go_cut [8] from 15 (λp wx=>p= .pointer (some ⟨sb,0,none⟩)/\wx.heap[sb]?=some (.cells #[.int .i64 mF,.int .i64 (fJ s0 mL),.slice bi s0.ids.length ci] 110 (0,0))/\aC [sb] W2 wx)
 case first=>
  exact akY
 case rest=>
  open aoa in exact akI):P:=h
theorem aem(h:P:=by
 open an9 in exact aen):P:=h
theorem ani.AaI(h:P:=by
 refine aP 15 rfl Aab Aab Aab (λ_ _ _ _ h=>h) (λK hK=>?_);open aEN in exact aek):P:=h
theorem anj.AaI(h:P:=by
 refine lH 15 rfl Aab Aab Aab (λ_ _ _ _ h=>h) Aad 40 _ rfl g 11 rfl (dH k.base (⟨bk,bp,bo,bs,br,bck,bcp,bco,bcs,bcr⟩:bV)).toList _ hr1 hgl underlying40 rfl Aab ?_;refine aP 16 rfl Aab Aab Aab (λ_ _ _ _ h=>h) (λK hK=>?_);open aEO in exact aek):P:=h
theorem ank.AaI(h:P:=by
 open azH in exact Vs):P:=h
theorem anl.AaI(h:P:=by
 exact AaP):P:=h
theorem Gt(h:P:=by
 have y0:=cell_regrown c0;have y1:=cell_regrown c1;have y2:=cell_regrown c2;have y3:=cell_regrown c3;have y4:=cell_regrown c4;have y5:=cell_regrown c5;have y6:=cell_regrown c6;have y7:=cell_regrown c7;have y8:=cell_regrown c8;exact AaB):P:=h
theorem anm.AaB(h:P:=by
 have x0:=cell_regrown d0;have x1:=cell_regrown d1;have x2:=cell_regrown d2;have x3:=cell_regrown d3;clear c0 c1 c2 c3 c4 c5 c6 c7 c8 c9 d0 d1 d2 d3 HR3;refine dD 7 Aab ?_;show fC _ _ _ _ _ 8 (Array.replicate 8 false) _ _
 refine tk [0,1,2,3,4,5] ?_;iterate 6 (refine uS (λK hK=>?_);go_simp;refine hK _ ?_;clear hK K)
 refine jK ?_;refine vT 6 20 rfl Aab Aab Aab Aab Aab (λ_ _ _ _ h=>h) (λK hK=>?_);go_simp
 first
  |(refine hK _ ?_;clear hK K)
  |(apply Exists.intro
    refine⟨λ_=>?_,hK _ ?_⟩
    (exact aDJ _)
    clear hK K)
 clear y0 y1 y2 y3 y4 y5 y6 y7 y8 x0 x1 x2 x3;refine bH Aab (λx hx=>?_);have Jd:=Hq (HSY x cc vv k hk ⟨qK,qF,qT,qI,qL,qk,qN⟩ HKk (Eh.step hx));clear hx Eh;refine aH 7 rfl Aab Aad ?_;go_simp;refine Jd.mono ?_;rintro e y ⟨rfl,c',v',hY⟩;have HY:=Hq hY;clear hY Jd;refine wpAny_done Aab ?_;go_simp;go_wp2_with fail;go_roundw
 case rel=>exact⟨k+1,c',v',Aaa,Aah,by rw [ah HT];exact HY⟩
 case measure=>simp[intOf];omega):P:=h
theorem ano.AaB(h:P:=by
 have z1:=cell_regrown p1;have z2:=cell_regrown p2;clear c0 c1 c2 c3 c4 c5 c6 c7 c8 c9 p0 p1 p2 p3 p4 p5 p6 yQ HW1;by_cases hT:mT=n.id
 .have hq:(mT == n.id)=true:=by simpa using hT
  have HD:=Hq (show(decide (mT=n.id)&&nb)=nb by rw [decide_eq_true hT];rfl);exact aBq
 .have hq:(mT == n.id)=false:=by simpa using hT
  have HD:=Hq (show(decide (mT=n.id)&&nb)=false by rw [decide_eq_false hT];rfl);exact aBq):P:=h
theorem anp.AaB(h:P:=by
 have y9:=cell_regrown c9;have y10:=cell_regrown c10;clear e0 e1 c0 c1 c2 c3 c4 c5 c6 c7 c8 c9 c10;generalize cK ⟨s[0].toNat,N1,TX,N2,⟨mK,mF,mT,mI,mL,mk,mN⟩⟩=bo at *;refine dz Aab ?_;show gT _ _ _ _ 15 (Array.replicate 15 false) _ _
 refine tk [0,1,2,3,4,5,6,7,8,9,10,11] ?_;iterate 12 (refine AJ (λK hK=>?_);go_simp;refine hK _ ?_;clear hK K)
 refine jK ?_;refine aP 12 rfl Aab Aab Aab (λ_ _ _ _ h=>h) (λK hK=>?_);go_simp
 first
  |(refine hK _ ?_;clear hK K)
  |(apply Exists.intro
    refine⟨λ_=>?_,hK _ ?_⟩
    (exact nW _)
    clear hK K)
 refine tk [13,14] ?_;open ayz in exact aaK):P:=h
theorem anq.AaB(h:P:=by
 have z1:=cell_regrown p1;clear c0 c1 c2 c3 c4 c5 c6 c7 c8 c9 p0 p1 p2 p3 p4 p5 p6;refine dz Aab ?_;show gT _ _ _ _ 8 (Array.replicate 8 false) _ _
 refine tk [0,1,2,3,4,5] ?_;iterate 6 (refine AJ (λK hK=>?_);go_simp;refine hK _ ?_;clear hK K)
 refine jK ?_;open azo in exact Vq):P:=h
theorem anr.AaB(h:P:=by
 have hnl:=aA lT;have hnr:=aA jD;have hnq:=aA C9;clear c0 c1 c2 c3 c4 c5 c6 c7 c8;go_cut [5] from 11 (λcd wx=>cd= .int .i64 0/\wx.heap[w.heap.size+2]?=some (.cells (fP n.id n.par a_k n.kids.length aK n.next av RL.length cv dW n.out.length aQ eH n.seen.length aL n.old (some ⟨gv,0,none⟩) (n.reqs.length+1) vc) 40 (0,0))/\aC [w.heap.size+2] wc wx)
 case first=>
  open arq in exact aew
 case rest=>
  open ax3 in exact ahC):P:=h
theorem ant.AaB(h:P:=by
 have hnl:=aA xJ;have hnr:=aA kZ;have hnq:=aA Kj;clear c0 c1 c2 c3 c4 c5 c6 c7 c8;go_cut [5] from 11 (λcd wx=>cd= .int .i64 0/\wx.heap[w.heap.size+2]?=some (.cells (fP n.id n.par a_k n.kids.length aK n.next av RL.length cv dW n.out.length aQ eH n.seen.length aL IH.no (some ⟨g8,0,none⟩) n.reqs.length Et) 40 (0,0))/\aC [w.heap.size+2] W9 wx)
 case first=>
  open arp in exact aew
 case rest=>
  open ax5 in exact ahD):P:=h
theorem anu.AaB(h:P:=by
 have hnl:=aA lT;have hnr:=aA jD;have hnq:=aA C9;clear c0 c1 c2 c3 c4 c5 c6 c7 c8;go_cut [5] from 11 (λcd wx=>cd= .int .i64 1/\wx.heap[w.heap.size+2]?=some (.cells (fP n.id n.par a_k n.kids.length aK n.next (some ⟨gp,0,none⟩) n.pu.length bJ dW n.out.length aQ eH n.seen.length aL n.old (some ⟨gv,0,none⟩) (n.reqs.length+1) vc) 40 (0,0))/\aC [w.heap.size+2] wc wx)
 case first=>
  open aro in exact aew
 case rest=>
  open ax2 in exact ahC):P:=h
theorem anw.AaB(h:P:=by
 have hnl:=aA xJ;have hnr:=aA kZ;have hnq:=aA Kj;clear c0 c1 c2 c3 c4 c5 c6 c7 c8;go_cut [5] from 11 (λcd wx=>cd= .int .i64 1/\wx.heap[w.heap.size+2]?=some (.cells (fP n.id n.par a_k n.kids.length aK n.next (some ⟨gp,0,none⟩) n.pu.length bJ dW n.out.length aQ eH n.seen.length aL IH.no (some ⟨g8,0,none⟩) n.reqs.length Et) 40 (0,0))/\aC [w.heap.size+2] W9 wx)
 case first=>
  open arn in exact aew
 case rest=>
  open ax4 in exact ahD):P:=h
theorem anx.AaB(h:P:=by
 clear c0 c1 c2 c3 c4 c5 c6 c7 c8;refine dD 3 Aab ?_;show fC _ _ _ _ _ 6 (Array.replicate 6 false) _ _
 refine tk [0,1] ?_;iterate 2 (refine uS (λK hK=>?_);go_simp;refine hK _ ?_;clear hK K)
 refine jK ?_;clear y0 y1 y2 y3 y4 y5 y6 y7 y8;refine dV 2 rfl Aab Aad (λx hx=>?_);go_simp;refine(jB x A1 (AQ.at.below hx)).mono ?_;rintro e y ⟨ma,mc,rfl,g,hmw,hml,hby⟩;refine⟨hby,?_⟩;have HY:=Hq (Ge.trans hx hby);have hxs:=hx.size;clear hx hby jB iG HOX p0 p1 p2 p3 p4 p5 p6 p7 p8 p9 nX hnl hol;refine bH Aab (λz hz=>?_);have HZ:=Hq (Ge.trans HY hz);have Jc:=Hq (au qD HZ);have pz:=Hq (jP.trans (HZ.mono jP.size));have Dz:=Hq (AQ.kc (k:=9) (KC.of_below HZ) Aaa);have KO:∀x'∈fp g L1,(λq=>if q<=w.heap.size+2 then 9 else 0) x'=0:=λx' hx'=>if_neg (by have:=(hml x' hx').1;have:=aA qD;omega)
 have HMW:=Hq ((KC.of_below (c:=λq=>if q<=w.heap.size+2 then 9 else 0) (k:=9) hz).w hmw KO Aaa);have amJ:=Hq KO;clear hz KO hmw hml HY HZ AQ jP qD;obtain⟨d0,d1,d2,d3,d4,d5,d6,d7,d8⟩:=nine Jc;have f0:=aj Jc 0;have f1:=aj Jc 1;have f2:=aj Jc 2;have f3:=aj Jc 3;have f4:=aj Jc 4;have f5:=aj Jc 5;have f6:=aj Jc 6;have f7:=aj Jc 7;have f8:=aj Jc 8;have hrl:=aA Jc;refine aH 3 rfl Aab Aad ?_;go_simp;refine aH 4 rfl Aab Aad ?_;go_simp;refine aH 5 rfl Aab Aad ?_;go_simp;refine wpAny_done Aab ?_;go_simp;clear d0 d1 d2 d3 d4 d5 d6 d7 d8 f0 f1 f2 f3 f4 f5 f6 f7 f8 hrl;go_wp2_with fail;refine aW (λW' hW'=>?_)
 have e4:W'.heap[w.heap.size+2]?=some (.cells (dH n A1) 40 (0,0)):=by
  rw [hW'];exact GR.setW_blk (dH n A1).toList (o:=0) (xs:=gN.toList) Jc
 have gu:aC [w.heap.size+2] z W':=by
  rw [hW'];exact aM (dH n A1).toList z 0
 have HMT:=Hq ((KC.keeps (c:=λq=>if q<=w.heap.size+2 then 9 else 0) (k:=9) gu (λx hx=>if_pos (by have:x=w.heap.size+2:=(by simpa using hx);omega))).w HMW amJ Aaa);have HAT:=Hq (λW'' (ho:Dw w W' W'')=>((Dz.kc (k:=9) (KC.keeps gu (λx hx=>by have:x=w.heap.size+2:=Aaf;rw [this];exact Gl)) Aaa).kc (k:=9) (ho.kc (λx hx=>Zz x Aaa)) Aaa).rm);have ow:Hid (aI w W'):=pz.trans (gu.below (λx hx=>by have:x=w.heap.size+2:=Aaf;omega) pz.size);obtain⟨x0,x1,x2,x3,x4,x5,x6,x7,x8⟩:=nine e4;clear hW' e4 gu;exact bodyPost_ret (v:= .tuple #[(fQ n A1),.slice ma L1.length mc,.int .i64 0]) Aay rfl ⟨A1,ma,⟨mc,rfl⟩,HAT,λW'' ho=>((ho.kc (c:=λq=>if q<=w.heap.size+2 then 9 else 0) (k:=9) (λx hx=>if_pos Aaa)).w HMT amJ Aaa).at,ow⟩):P:=h
theorem anz.AaB(h:P:=by
 have x0:=cell_regrown s0;have x1:=cell_regrown s1;have x2:=cell_regrown s2;have x3:=cell_regrown s3;have hnz:=aA ND;have hsz:=aA aef;clear c0 c1 c2 c3 c4 c5 c6 c7 c8 s0 s1 s2 s3;refine vV 5 Aab ?_;show jI _ _ _ _ _ 8 (Array.replicate 8 false) _ _
 refine tk [0,1,2] ?_;iterate 3 (refine tkF (λK hK=>?_);go_simp;refine hK _ ?_;clear hK K)
 refine jK ?_;clear y0 y1 y2 y3 y4 y5 y6 y7 y8 x0 x1 x2 x3 hnz hsz ND aef;refine UE 3 rfl Aab Aad Aae (λx hx=>?_);go_simp;refine(Ed x hx).mono ?_;rintro e y ⟨rfl,hby⟩;refine⟨hby,?_⟩;have HY:=Hq (Ge.trans hx hby);clear hx hby Ed;refine jq 4 rfl rfl Aab Aad Aad Aae (λz hz=>?_) (λz hz=>?_)
 .have HZ:=Hq (Ge.trans HY hz);clear hz HY;go_simp;refine⟨ay z _,?_⟩;refine Ar Aab (λz2 hz2=>?_);have HZ2:=Hq (Ge.trans HZ (Ge.trans (ay z _) hz2));have HM2:=Hq (au (heap_alloc_new z (.cells (bX qK qF qT qI qL qk qN) 98)) hz2);have xL:=Hq (au akA HZ2);have hmz:w.heap.size+1 < z.heap.size:=Nat.lt_of_lt_of_le (aA akA) HZ.size;clear hz2;open au5 in exact agK
 .have HZ:=Hq (Ge.trans HY hz);have xL:=Hq (au akA HZ);clear hz HY;open au4 in exact agK):P:=h
theorem WV(h:P:=by
 go_upto_region 1 with fail;have y7:=cell_regrown c7;have z1:=cell_regrown p1;clear c0 c1 c2 c3 c4 c5 c6 c7 c8 c9 p0 p1 p2 p3 p4 p5 p6 p7 p8 p9 nX;refine dz Aab ?_;show gT _ _ _ _ 8 (Array.replicate 8 false) _ _
 refine tk [0,1,2,3,4,5,6,7] ?_;iterate 8 (refine AJ (λK hK=>?_);go_simp;refine hK _ ?_;clear hK K)
 refine jK ?_;refine fu Aab (λz hz=>?_);have HZ:=Hq (HW1.step hz);have RY:=Hq (au yQ hz);clear hz y7 z1 HW1 yQ;go_simp;exact AaR):P:=h
theorem anA.AaR(h:P:=by
 clear h hc;open asi in exact aAQ):P:=h
theorem anB.AaR(h:P:=by
 open asG in exact agi):P:=h
theorem anC.AaR(h:P:=by
 open asF in exact agi):P:=h
theorem anD.AaR(h:P:=by
 clear h hc;open axE in exact ahv):P:=h
theorem anE.AaR(h:P:=by
 clear h hc he hz;open ash in exact aAQ):P:=h
theorem anF.AaR(h:P:=by
 clear h hc;go_wp2_with fail;go_ret;exact⟨rfl,A,G,c,HZ⟩):P:=h
theorem aAj(h:P:=by
 clear Po;refine gL 0 rfl Aab Aad Aae (λx2 hx2=>?_);go_simp;have uW:=Hq (yM.trans (hx2.mono yM.size));have vF:wc.heap.size<=x2.heap.size:=uW.size;have akz:=Hq (au ad8 hx2);clear hx2;refine⟨(ay x2 _).mono vF,?_⟩;have GH:=ay x2 (.cells #[] 95);have Gs:=Hq (show(x2.alloc (.cells #[] 95)).ownsRow wc.heap.size 95 4 (.slice (some ⟨x2.heap.size,0,none⟩) 0 0) 0 (GR.flat aJ []) from World.ownsRow_lit (base:=wc.heap.size) (e:=95) (size:=4) x2 #[] 0 vF Aai Aac);open awe in exact ag8):P:=h
theorem anG.AdP(h:P:=by
 have Gp:=Hq (show y3.heap[x1.heap.size]?=some (.cells (dZ no k nn 0) 95 (0,0)) from by rw [xV.block _ (aA (ah xK)) (λhm=>ah J8 _ hm.symm rfl)];exact xK);open axz in exact aaD):P:=h
theorem anH.AdP(h:P:=by
 have Gp:=Hq (show y3.heap[x1.heap.size]?=some (.cells (dZ no k nn 1) 95 (0,0)) from by rw [xV.block _ (aA (ah xK)) (λhm=>ah J8 _ hm.symm rfl)];exact xK);open axy in exact aaD):P:=h
theorem Em(h:P:=by
 rw [hop] at Ec;unfold jJ at Ec;clear hop;have Ng:=Hq (λW (h:aI w W)=>uF n A W hz (ha.below h));clear hz ha hok;go_in
 go_upto_region 2 with fail;refine wp_at (λW1 hW=>?_);exact AaV):P:=h
theorem anI.AaV(h:P:=by
 open at6 in exact agu):P:=h
theorem anJ.AaV(h:P:=by
 obtain⟨e1,e2,e3,e4⟩:=gI w (.cells (dH n A) 40) (.cells (bY 2 no k nn mK mF mT mI mL mk mN) 100) (.cells gN 40);have hsz:(((w.alloc (.cells (dH n A) 40)).alloc (.cells (bY 2 no k nn mK mF mT mI mL mk mN) 100)).alloc (.cells gN 40)).heap.size=w.heap.size+3:=Aac
 generalize hW0:((w.alloc (.cells (dH n A) 40)).alloc (.cells (bY 2 no k nn mK mF mT mI mL mk mN) 100)).alloc (.cells gN 40)=W0 at *;exact aAS):P:=h
theorem anK.AaV(h:P:=by
 obtain⟨e1,e2,e3,e4⟩:=gI w (.cells (dH n A) 40) (.cells (bY 1 no k nn mK mF mT mI mL mk mN) 100) (.cells gN 40);have hsz:(((w.alloc (.cells (dH n A) 40)).alloc (.cells (bY 1 no k nn mK mF mT mI mL mk mN) 100)).alloc (.cells gN 40)).heap.size=w.heap.size+3:=Aac
 generalize hW0:((w.alloc (.cells (dH n A) 40)).alloc (.cells (bY 1 no k nn mK mF mT mI mL mk mN) 100)).alloc (.cells gN 40)=W0 at *;exact aAS):P:=h
theorem anL.AaV(h:P:=by
 open aua in exact agv):P:=h
theorem anM.AaV(h:P:=by
 obtain⟨e1,e2,e3,e4⟩:=gI w (.cells (dH n A) 40) (.cells (bY 6 no k nn mK mF mT mI mL mk mN) 100) (.cells gN 40);have hsz:(((w.alloc (.cells (dH n A) 40)).alloc (.cells (bY 6 no k nn mK mF mT mI mL mk mN) 100)).alloc (.cells gN 40)).heap.size=w.heap.size+3:=Aac
 generalize hW0:((w.alloc (.cells (dH n A) 40)).alloc (.cells (bY 6 no k nn mK mF mT mI mL mk mN) 100)).alloc (.cells gN 40)=W0 at *;exact aAW):P:=h
theorem anN.AaV(h:P:=by
 open at7 in exact agv):P:=h
theorem anO.AaV(h:P:=by
 open auc in exact agw):P:=h
theorem anP.AaV(h:P:=by
 open aue in exact agx):P:=h
theorem anQ.AaV(h:P:=by
 obtain⟨e1,e2,e3,e4⟩:=gI w (.cells (dH n A) 40) (.cells (bY 5 no k nn mK mF mT mI mL mk mN) 100) (.cells gN 40);have hsz:(((w.alloc (.cells (dH n A) 40)).alloc (.cells (bY 5 no k nn mK mF mT mI mL mk mN) 100)).alloc (.cells gN 40)).heap.size=w.heap.size+3:=Aac
 generalize hW0:((w.alloc (.cells (dH n A) 40)).alloc (.cells (bY 5 no k nn mK mF mT mI mL mk mN) 100)).alloc (.cells gN 40)=W0 at *;open aEF in exact Kn):P:=h
theorem anR.AaV(h:P:=by
 open aub in exact agw):P:=h
theorem anS.AaV(h:P:=by
 open aud in exact agx):P:=h
theorem aAk(h:P:=by
 generalize n.reqs[i].n=qn at *;go_upto_region 8 with fail;have y4:=cell_regrown c4;have y8:=cell_regrown c8;have z1:=cell_regrown q1;have z2:=cell_regrown q2;clear c0 c1 c2 c3 c4 c5 c6 c7 c8 d0 d1 d2 d3 d4 d5 d6 d7 d8 f0 f1 f2 f3 f4 f5 f6 f7 f8 q0 q1 q2 q3;refine dz Aab ?_;show gT _ _ _ _ 20 (Array.replicate 20 false) _ _
 refine tk [0,1,2,3,4,5,6,7,8,9,10,11,12,13] ?_;iterate 14 (refine AJ (λK hK=>?_);go_simp;refine hK _ ?_;clear hK K)
 refine jK ?_;clear y4 y8 z1 z2;refine fT 14 rfl Aab Aad (λx hx=>?_);go_simp;refine(HUN x (GR.At.below yO.at.p hx)).mono ?_;rintro e y ⟨v,rfl,hne,hrow,hby⟩;refine⟨hby,?_⟩;obtain⟨av,cv,rfl,_⟩:=GR.own_at (enc:=gB) (sz:=4) aZ hrow;have HRW:=Hq hrow;have HXY:=Hq (Ge.trans hx hby);have hxs:=hx.size;clear hx hby hne hrow HUN;refine tk [15,16,17,18,19] ?_;iterate 5 (refine AJ (λK hK=>?_);go_simp;refine hK _ ?_;clear hK K)
 refine jK ?_;refine fu Aab (λz hz=>?_);have HZ:=Hq (Ge.trans HXY hz);have Jc:=Hq (GR.own_below HRW hz);have ND:=Hq (au kK HZ);have AU:=Hq (au qD HZ);have Dz:=Hq (yO.kc (k:=9) (KC.of_below HZ) Aaa);have pz:=Hq (HB1.trans (HZ.mono HB1.size));have hgz:g < z.heap.size:=Nat.lt_of_lt_of_le hg HZ.size;clear hz HXY HRW;go_simp;obtain⟨c0,c1,c2,c3,c4,c5,c6,c7,c8⟩:=nine ND;obtain⟨d0,d1,d2,d3,d4,d5,d6,d7,d8⟩:=nine AU;have f0:=aj AU 0;have f1:=aj AU 1;have f2:=aj AU 2;have f3:=aj AU 3;have f4:=aj AU 4;have f5:=aj AU 5;have f6:=aj AU 6;have f7:=aj AU 7;have f8:=aj AU 8;have hnl:=aA ND;have hrl:=aA AU;exact Ad5):P:=h
theorem anT.Ad5(h:P:=by
 go_wp2_with fail;refine aW (λW' hW'=>?_)
 have e4:W'.heap[w.heap.size+1]?=some (.cells (fP n.id n.par a_k n.kids.length aK n.next (some ⟨gp,0,none⟩) n.pu.length bJ dW n.out.length aQ eH n.seen.length aL n.old (some ⟨g,0,none⟩) n.reqs.length aU) 40 (0,0)):=by
  rw [hW'];exact GR.setW_blk (fP n.id n.par a_k n.kids.length aK n.next (some ⟨gp,0,none⟩) n.pu.length bJ dW n.out.length aQ eH n.seen.length aL n.old (some ⟨g,0,none⟩) n.reqs.length aU).toList (o:=0) (xs:=gN.toList) AU
 have gu:aC [w.heap.size+1] z W':=by
  rw [hW'];exact aM (fP n.id n.par a_k n.kids.length aK n.next (some ⟨gp,0,none⟩) n.pu.length bJ dW n.out.length aQ eH n.seen.length aL n.old (some ⟨g,0,none⟩) n.reqs.length aU).toList z 0
 have HAT:=Hq (λW'' (ho:Out c w W' W'')=>(Dz.kc (k:=9) ((KC.keeps gu (λx hx=>by have:x=w.heap.size+1:=Aaf;rw [this];exact bq Aaa)).trans (KC.out H9 ho)) Aaa).rm);have ow:Hid (Below B w W'):=(pz.mono hB).trans (gu.below (λx hx=>by have:x=w.heap.size+1:=Aaf;omega) (Nat.le_trans hB (pz.mono hB).size));have tq:=Hq (Apart.keeps (c:=c) (Apart.of_below pz) (pz.mono hB).size gu (λx hx=>by have:x=w.heap.size+1:=Aaf;omega));obtain⟨x0,x1,x2,x3,x4,x5,x6,x7,x8⟩:=nine e4;clear hW' e4 gu;exact bodyPost_ret (v:= .tuple #[.agg (fP n.id n.par a_k n.kids.length aK n.next (some ⟨gp,0,none⟩) n.pu.length bJ dW n.out.length aQ eH n.seen.length aL n.old (some ⟨g,0,none⟩) n.reqs.length aU),.int .i64 1]) Abs rfl ⟨(⟨a_k,(some ⟨gp,0,none⟩),dW,eH,(some ⟨g,0,none⟩),aK,bJ,aQ,aL,aU⟩:bV),rfl,HAT,ow,tq⟩):P:=h
end Go.Proofs.YtohmklmkjmlpjaaGreatDoor
