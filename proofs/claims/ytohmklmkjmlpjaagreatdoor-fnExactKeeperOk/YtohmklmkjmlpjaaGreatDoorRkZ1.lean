/-
  Parts of proofs that stand more than once, each said once.
-/
import Derived.Test.YtohmklmkjmlpjaaGreatDoorRows
import Derived.WalkSpells
import Derived.ShutString
import Derived.Lib.QuietBelow
import Derived.Laws.Cover1
import Derived.Laws.AppendOwnNone
import Derived.Deep.DeepCutAuto
import Derived.Deep.CutBlock
import Derived.Deep.RegionHeldLaw
import Derived.Deep.AppendLies
import Derived.Lib.BufferWrite
import Derived.Laws.CopyOwn
import Derived.Lib.ItoaLen
import Derived.Shelf.SortM.Plain
import Derived.Shelf.SortM.SortNone
import Derived.Shelf.SlicesE.Clone
import Derived.Sort.OwnSortedInts
import Derived.ProofKit
import Derived.Shelf.Spec.SearchS
import Derived.Stop.Asserts
import Derived.Shelf.Spec.SlicesInsertGrow
import Derived.Maps.Ext
import Derived.Lib.SlMapFilter
import Derived.Shelf.SlIterI.Nil
import Derived.Laws.EntriesVeiled
import Derived.Conc.MuLone
import Derived.Deep.SlicePairs
import Derived.Stop.LaidTwo
import Derived.OpenVars
import Derived.OpenShut
import Derived.LaidMore
import Derived.Stop.Joined
namespace Go.Proofs.YtohmklmkjmlpjaaGreatDoor
open Go.Proofs.Tryz
set_option maxRecDepth 100000
variable{P:Prop}
theorem Aaa(h:P:=by omega):P:=h
theorem Aab(h:P:=by kernel_rfl):P:=h
theorem Aac(h:P:=by simp):P:=h
theorem Aad(h:P:=by rfl):P:=h
theorem Aae(h:P:=by decide):P:=h
theorem Aaf(h:P:=by simpa using hx):P:=h
theorem Aag(h:P:=by simp;omega):P:=h
theorem Aah(h:P:=by go_num):P:=h
theorem Aai(h:P:=by unfold maxLen;omega):P:=h
theorem Aaj(h:P:=by simp[hx]):P:=h
theorem Aak(h:P:=by simp at hx;omega):P:=h
theorem Aal(h:P:=by simp[Act.eval]):P:=h
theorem Aam(h:P:=by unfold maxLen;dsimp only;omega):P:=h
theorem Aan(h:P:=by rw [ah HV]):P:=h
theorem Aao(h:P:=by rw [e]):P:=h
theorem Aap(h:P:=by simpa using hi):P:=h
theorem Aaq(h:P:=by simp[World.setCell]):P:=h
theorem Aar(h:P:=by simpa using hy):P:=h
theorem Aas(h:P:=by simp at hi):P:=h
theorem Aat(h:P:=by cases h):P:=h
theorem Aau(h:P:=by simpa using hr):P:=h
theorem Aav(h:P:=by rw [ah HP]):P:=h
theorem Aaw(h:P:=by simpa using h1):P:=h
theorem Aax(h:P:=by simp[results,results234,go_sem,vZ]):P:=h
theorem Aay(h:P:=by simp[results,results58,go_sem,x0,x1,x2,x3,x4,x5,x6,x7,x8]):P:=h
theorem Aaz(h:P:=by simp at hx;simp[hx]):P:=h
theorem Aba(h:P:=by simpa using hm):P:=h
theorem Abb(h:P:=by simp[h1]):P:=h
theorem Abc(h:P:=by simpa using h):P:=h
theorem Abd(h:P:=by rw [hz2];omega):P:=h
theorem Abe(h:P:=by rw [hW];exact aC.set _):P:=h
theorem Abf(h:P:=by simpa using hj):P:=h
theorem Abg(h:P:=by simpa using hpar):P:=h
theorem Abh(h:P:=by rw [hf];simp):P:=h
theorem Abi(h:P:=by rw [ah wQ]):P:=h
theorem Abj(h:P:=by rw [List.length_take];omega):P:=h
theorem Abk(h:P:=by simpa using hq):P:=h
theorem Abl(h:P:=by simpa using hE):P:=h
theorem Abm(h:P:=by simpa [Value.ownBlock] using hx):P:=h
theorem Abn(h:P:=by simp only[ByteArray.size_append];omega):P:=h
theorem Abo(h:P:=by simp[results,results150,go_sem,x0,x1,x2,x3,x4,x5,x6,x7,x8]):P:=h
theorem Abp(h:P:=by simp[results,results108,go_sem,x0,x1,x2,x3,x4,x5,x6,x7,x8]):P:=h
theorem Abq(h:P:=by simp[results,results110,go_sem,x0,x1,x2,x3,x4,x5,x6,x7,x8]):P:=h
theorem Abr(h:P:=by simp at hx):P:=h
theorem Abs(h:P:=by rw [hW];exact(kQ w _ _).2):P:=h
theorem Abt(h:P:=by rw [hW];exact(kQ w _ _).1):P:=h
theorem Abu(h:P:=by rw [hW];exact oJ ku):P:=h
theorem Abv(h:P:=by rw [hW];exact iU eT hgl):P:=h
theorem Abw(h:P:=by simp at hi;omega):P:=h
theorem Abx(h:P:=by simp[Act.eval,Act.put]):P:=h
theorem Aby(h:P:=by rw [h] at hr;cases hr):P:=h
theorem Abz(h:P:=by simpa using hw):P:=h
theorem Aca(h:P:=by rw [gW,List.length_drop]):P:=h
theorem Acb(h:P:=by simp[results,results107,go_sem,x0,x1,x2,x3,x4,x5,x6,x7,x8]):P:=h
theorem Acd(h:P:=by rw [hW];simp[World.setCell]):P:=h
theorem Ace(h:P:=by rw [hW1];exact heap_alloc_new _ _):P:=h
theorem Acf(h:P:=by unfold maxLen at hcm;omega):P:=h
theorem Acg(h:P:=by simpa using hf):P:=h
theorem Ach(h:P:=by rw [e];omega):P:=h
theorem Aci(h:P:=by simpa using hk):P:=h
theorem Acj(h:P:=by simpa using hz):P:=h
theorem Ack(h:P:=by rw [hW];exact ow hN1):P:=h
theorem Acl(h:P:=by simp[results,results165,go_sem]):P:=h
theorem Acm(h:P:=by simp at hm;omega):P:=h
theorem Acn(h:P:=by rw [hW];exact heap_alloc_new _ _):P:=h
theorem Aco(h:P:=by rw [ah iH,ah kS,ah DZ];rfl):P:=h
theorem Acp(h:P:=by rw [ah HS,ah HA,ah HK];rfl):P:=h
theorem Acr(h:P:=by simpa [iM] using h):P:=h
theorem Acs(h:P:=by rw [hl];kernel_rfl):P:=h
theorem Acu(h:P:=by rw [hW];exact ow hO1):P:=h
theorem Acv(h:P:=by simp[results,results54,go_sem,r0,r1,r2,r3,r4,r5,r6,r7,r8,r9,YQ]):P:=h
theorem Acw(h:P:=by simp[results,results182,go_sem]):P:=h
theorem Acx(h:P:=by simp[results,results19,go_sem]):P:=h
theorem Acy(h:P:=by cases hk;exact Nat.le_refl _):P:=h
theorem Acz(h:P:=by rw [show cur.toList.length=cur.size from Array.length_toList,hcs];omega):P:=h
theorem Ada(h:P:=by rw [hr] at hi;simpa using hi):P:=h
theorem Adb(h:P:=by simp[results,results259,go_sem];try rfl):P:=h
theorem Adc(h:P:=by rw [List.mem_singleton.1 hf];omega):P:=h
theorem Ade(h:P:=by simp[results,results111,go_sem,x0,x1,x2,x3,x4,x5,x6,x7,x8]):P:=h
theorem Adf(h:P:=by simp[results,results256,go_sem,r0,r1,r2,r3,r4,r5,r6]):P:=h
theorem Adg(h:P:=by simp[results,results103,go_sem,r0,r1,r2,r3,r4,r5,r6]):P:=h
theorem Adh(h:P:=by unfold rF at hhas;rw [hd] at hhas;simpa using hhas):P:=h
theorem Adi(h:P:=by simp[results,results217,go_sem,x0,x1,x2,x3,x4,x5,x6]):P:=h
theorem Adj(h:P:=by simp[results,results228,go_sem,r0,r1,r2,r3,r4,r5,r6]):P:=h
theorem Adk(h:P:=by rw [show cur.toList.length=cur.size from Array.length_toList,hcs]):P:=h
theorem Adl(h:P:=by simp[results,results83,go_sem,r0,r1,r2,r3,r4,r5,r6,r7,r8]):P:=h
theorem Zk0(h:P:=by
 refine gF 8 rfl Aab Aad Aae (λx4 hx4=>?_);have Y8:=Hq (VU.trans (hx4.mono VU.size));have SY:wc.heap.size<=x4.heap.size:=Y8.size;have RA:=Hq (GR.own_below RI hx4);have Kk:=Hq (au Rv hx4);clear hx4;obtain⟨v4,y4,abv,abr,KT,abz⟩:=iJ x4 wc.heap.size 38 38 95 i0 (.agg (fA 0 ByteArray.empty 0 0)) 4 40 underlying38 hi hz0 hz1 hz2 rfl Aae (.slice avR (pos) cvR) (pos) (GR.flat aL (n.reqs.take pos)) RA ⟨rb,0,none⟩ 1 1 (aL ⟨no,k,nn,st⟩) rfl (World.news_of_block Kk) (rD _) Aai Aaa SY;refine Lib.wp_append_run x4 (.tmp 98) (.tmp 100) 38 38 rfl _ _ Aal Aal v4 y4 abv ?_;refine⟨(Below.refl _ _).grown KT SY (λb hb=>(RA.lt b hb).1),?_⟩;go_simp;have Y9:=Hq (Y8.grown KT SY (λb hb=>(RA.lt b hb).1));have Zw:Hid (y4.ownsRow wc.heap.size 95 4 v4 (pos+1) (GR.flat aL (n.reqs.take pos++[(⟨no,k,nn,st⟩:Rq)]))):=Hq (by rw [GR.flat_append,GR.flat_one];exact abr);have ajm:=Hq (show y4.heap[rb]?=some (.cells (fA no k nn st) 95 (0,0)) from by rw [KT.block _ (aA (ah Kk)) (λhm=>ah Np _ hm.symm rfl)];exact Kk);have Y6:=Hq (show∀b,(v4).ownBlock=some b->b≠rb from λb hb=>(abz b hb).elim (λh=>Np b h) (λh=>by have:=aA Kk;omega));obtain⟨avO,cvO,OY,_⟩:=GR.own_at (enc:=aL) (sz:=4) (l:=n.reqs.take pos++[(⟨no,k,nn,st⟩:Rq)]) aR (by rw [hL1];exact Zw);rw [hL1] at OY;subst OY;clear abv abr KT abz;refine gF 13 rfl Aab Aad Aae (λx5 hx5=>?_);have Rm:=Hq (Y9.trans (hx5.mono Y9.size));have Te:wc.heap.size<=x5.heap.size:=Rm.size;have RH:=Hq (GR.own_below Zw hx5);have Ru:=Hq (au ajm hx5);clear hx5;obtain⟨v5,y5,SV,SS,KU,abA⟩:=fQ aR Aaa x5 wc.heap.size 38 38 95 i0 (.agg (fA 0 ByteArray.empty 0 0)) 40 underlying38 hi hz0 hz1 hz2 rfl (.slice avO (pos+1) cvO) (pos+1) (GR.flat aL (n.reqs.take pos++[(⟨no,k,nn,st⟩:Rq)])) RH AD (n.reqs.drop pos) (bg - pos) (GR.At.below HDR Rm) (jc _) Aai Aaa Te;rw [abk] at SV SS;refine Lib.wp_append_run x5 (.tmp 101) (.tmp 105) 38 38 rfl _ _ Aal Aal v5 y5 SV ?_;refine⟨(Below.refl _ _).grown KU Te (λb hb=>(RH.lt b hb).1),?_⟩;go_simp;have Za:=Hq (Rm.grown KU Te (λb hb=>(RH.lt b hb).1));have adI:Hid (y5.ownsRow wc.heap.size 95 4 v5 (pos+1+(n.reqs.length - pos)) (GR.flat aL (n.reqs.take pos++[(⟨no,k,nn,st⟩:Rq)]++n.reqs.drop pos))):=Hq (by rw [GR.flat_append];exact SS);have azO:=Hq (show y5.heap[rb]?=some (.cells (fA no k nn st) 95 (0,0)) from by rw [KU.block _ (aA (ah Ru)) (λhm=>ah Y6 _ hm.symm rfl)];exact Ru);have azy:=Hq (show∀b,(v5).ownBlock=some b->b≠rb from λb hb=>(abA b hb).elim (λh=>Y6 b h) (λh=>by have:=aA Ru;omega));obtain⟨avT,cvT,OZ,_⟩:=GR.own_at (enc:=aL) (sz:=4) (l:=n.reqs.take pos++[(⟨no,k,nn,st⟩:Rq)]++n.reqs.drop pos) aR (by rw [hL2];exact adI);rw [hL2] at OZ;subst OZ;clear SV SS KU abA;have ayB:wc.heap.size<=y5.heap.size:=Za.size;refine tk [14] ?_;open asS in exact af7):P:=h
theorem Zk1(h:P:=by
 open aBb in exact ajt):P:=h
theorem Zk2(h:P:=by
 refine gF 8 rfl Aab Aad Aae (λx4 hx4=>?_);have Y8:=Hq (VU.trans (hx4.mono VU.size));have SY:uH.heap.size<=x4.heap.size:=Y8.size;have RA:=Hq (GR.own_below RI hx4);have Kk:=Hq (au Rv hx4);clear hx4;obtain⟨v4,y4,abv,abr,KT,abz⟩:=iJ x4 uH.heap.size 22 22 3 i0 (.int .i64 0) 1 8 underlying22 hi0 hz0 hz1' hz2 rfl Aae (.slice avR (pos) cvR) (pos) (GR.flat aU ((aV s0 mL).take pos)) RA ⟨rb,0,none⟩ 1 1 (aU mI) rfl (World.news_of_block Kk) (by intro u hu;simp at hu;subst hu;rfl) Aai Aaa SY;refine Lib.wp_append_run x4 (.tmp 131) (.tmp 134) 22 22 rfl _ _ Aal Aal v4 y4 abv ?_;refine⟨(Below.refl _ _).grown KT SY (λb hb=>(RA.lt b hb).1),?_⟩;go_simp;have Y9:=Hq (Y8.grown KT SY (λb hb=>(RA.lt b hb).1));have Zw:Hid (y4.ownsRow uH.heap.size 3 1 v4 (pos+1) (GR.flat aU ((aV s0 mL).take pos++[mI]))):=Hq (by rw [GR.flat_append,GR.flat_one];exact abr);have ajm:=Hq (show y4.heap[rb]?=some (.cells #[.int .i64 mI] 3 (0,0)) from by rw [KT.block _ (aA (ah Kk)) (λhm=>ah Np _ hm.symm rfl)];exact Kk);have Y6:=Hq (show∀b,(v4).ownBlock=some b->b≠rb from λb hb=>(abz b hb).elim (λh=>Np b h) (λh=>by have:=aA Kk;omega));obtain⟨avO,cvO,OY,_⟩:=GR.own_at (enc:=aU) (sz:=1) (l:=(aV s0 mL).take pos++[mI]) aQ (by rw [hL1];exact Zw);rw [hL1] at OY;subst OY;clear abv abr KT abz;refine gF 12 rfl Aab Aad Aae (λx5 hx5=>?_);have Rm:=Hq (Y9.trans (hx5.mono Y9.size));have Te:uH.heap.size<=x5.heap.size:=Rm.size;have RH:=Hq (GR.own_below Zw hx5);have Ru:=Hq (au ajm hx5);clear hx5;obtain⟨v5,y5,SV,SS,KU,abA⟩:=fQ aQ Aaa x5 uH.heap.size 22 22 3 i0 (.int .i64 0) 8 underlying22 hi0 hz0 hz1' hz2 rfl (.slice avO (pos+1) cvO) (pos+1) (GR.flat aU ((aV s0 mL).take pos++[mI])) RH AD ((aV s0 mL).drop pos) (OA - pos) (GR.At.below HDR Rm) (qG _) Aai Aaa Te;rw [abk] at SV SS;refine Lib.wp_append_run x5 (.tmp 135) (.tmp 138) 22 22 rfl _ _ Aal Aal v5 y5 SV ?_;refine⟨(Below.refl _ _).grown KU Te (λb hb=>(RH.lt b hb).1),?_⟩;go_simp;have Za:=Hq (Rm.grown KU Te (λb hb=>(RH.lt b hb).1));have adI:Hid (y5.ownsRow uH.heap.size 3 1 v5 (pos+1+((aV s0 mL).length - pos)) (GR.flat aU ((aV s0 mL).take pos++[mI]++(aV s0 mL).drop pos))):=Hq (by rw [GR.flat_append];exact SS);have azO:=Hq (show y5.heap[rb]?=some (.cells #[.int .i64 mI] 3 (0,0)) from by rw [KU.block _ (aA (ah Ru)) (λhm=>ah Y6 _ hm.symm rfl)];exact Ru);have azy:=Hq (show∀b,(v5).ownBlock=some b->b≠rb from λb hb=>(abA b hb).elim (λh=>Y6 b h) (λh=>by have:=aA Ru;omega));obtain⟨avT,cvT,OZ,_⟩:=GR.own_at (enc:=aU) (sz:=1) (l:=(aV s0 mL).take pos++[mI]++(aV s0 mL).drop pos) aQ (by rw [hL2];exact adI);rw [hL2] at OZ;subst OZ;clear SV SS KU abA;have ayB:uH.heap.size<=y5.heap.size:=Za.size;refine tk [13] ?_;open asR in exact af7):P:=h
theorem Zk3(h:P:=by
 obtain⟨c0,c1,c2,c3,c4,c5,c6,c7,c8,c9⟩:=jE HWS.wk.blk
 have e0:A'.s=some ⟨G'.s,0,none⟩:=by
  obtain⟨_,_,e0,_⟩:=iL.three HWS.wk.no.s i (by rw [ah HSL];exact hi);exact e0
 rw [e0,ah HSL] at c6;obtain⟨⟨p0,p1,p2,p3,p4,p5,p6⟩,_⟩:=eF eT;have hwl:=aA HWS.wk.blk;have hBl:=aA eT;go_upto_region 5 with fail;have y6:=cell_regrown c6;have z1:=cell_regrown p1;clear c0 c1 c2 c3 c4 c5 c6 c7 c8 c9 p0 p1 p2 p3 p4 p5 p6;refine dB 11 Aab ?_;show eY _ _ _ _ _ 12 (Array.replicate 12 false) _ _
 refine tk [0,1,2,3,4,5,6,7,8] ?_;iterate 9 (refine uR (λK hK=>?_);go_simp;refine hK _ ?_;clear hK K)
 refine jJ ?_;clear y6 z1;refine dU 9 rfl Aab Aad (λx hx=>?_);go_simp;have HX:=Hq (HWS.step hx);have HJX:Hid (∀j mm,jI w j mm->jI x j mm):=λj mm hj=>au (HJW j mm hj) hx
 have Zo:=Hq (XV sb mb kk mF (fE s0 mL) l2 x HLEN adk HX.bk HX.si);clear hx;refine Zo.mono ?_;rintro e y ⟨v2,rfl,hrow,hby⟩;refine⟨hby,?_⟩;obtain⟨b2,c2,g2,rfl,hW2,hg2,_⟩:=GR.W.of_own (enc:=aU) aQ hrow;have HY:Hid (WK w0 y wb n' A' G' (newC x.heap.size 5 c') v L):=(HX.wk.recol (c':=newC x.heap.size 5 c') (λz hz=>fq hz)).step hby;have HI2:=Hq hW2;have HJY:Hid (∀j mm,jI w j mm->jI y j mm):=λj mm hj=>au (HJX j mm hj) hby
 have HC5:Hid (∀z∈fp g2 l2,newC x.heap.size 5 c' z=5/\z∉wO G'.i n'.seen):=λz hz=>⟨bJ (hg2 z hz).1,λhm=>by
  have h1:=(uw HX.wk.no.s).2 z hm
  have h2:=(hg2 z hz).1
  omega⟩
 clear hrow hby hW2 hg2 Zo HX HWS;refine tk [10] ?_;(refine uR (λK hK=>?_);go_simp;refine hK _ ?_;clear hK K)
 refine jJ ?_;refine bC Aab (λx3 hx3=>?_);have HY3:=Hq (HY.step hx3);have HI3:=Hq (HI2.below hx3);have HJ6:Hid (∀j mm,jI w j mm->jI x3 j mm):=λj mm hj=>au (HJY j mm hj) hx3
 obtain⟨b0,cc0,_,hg0,⟨q0,q1,q2⟩,⟨f0,f1⟩,_⟩:=iL.three HY3.no.s i (by rw [ah HSL];exact hi)
 have f2:x3.frozen? ⟨G'.s,i*3+2,none⟩=false:=by
  obtain⟨T,hT,hl,_⟩:=HY3.no.s;have:=(hT i (by rw [hl,ah HSL];exact hi)).2.2 2 Aaa;exact this.2
 have azP:=Hq (HY3.seenPut i (by rw [ah HSL];exact hi) ⟨mF,fE s0 mL,l2⟩ b2 c2 g2 HI3 HC5)
 have HJF:Hid (∀j mm,jI w j mm->jI (GR.setW x3 G'.s (i*3) [.int .i64 mF,.int .i64 (fE s0 mL),.slice b2 l2.length c2]) j mm):=λj mm hj=>by
  have h3:=ah HJ6 j mm hj
  have hne:=PO h3 q2
  unfold jI
  rw [GR.setW_other hne]
  exact h3
 clear hx3 HY HI2;refine aH 11 rfl Aab Aad ?_;go_simp;refine wpAny_done Aab ?_;go_simp;clear q0 q1 q2 f0 f1 f2;go_wp2_with fail;go_ret;exact⟨by rw [ah HTE];first|done|rfl,⟨A',_,_,by rw [ah HTE];exact azP⟩,HJF⟩):P:=h
theorem Zk4(h:P:=by
 have hnl:=aA e1;clear hW e1 e2 p0 p1 p2 p3 p4 p5 p6 p7 p8 p9 nT;obtain⟨⟨p0,p1,p2,p3,p4,p5,p6,p7,p8,p9,nT⟩,_⟩:=aM Wi;have aDx:=aA Wi;have y0:=cell_regrown c0;have z0:=cell_regrown p0;have z1:=cell_regrown p1;have z2:=cell_regrown p2;have z3:=cell_regrown p3;have z4:=cell_regrown p4;have z5:=cell_regrown p5;have z6:=cell_regrown p6;have z7:=cell_regrown p7;have z8:=cell_regrown p8;have z9:=cell_regrown p9;have z10:=cell_regrown nT;clear p0 p1 p2 p3 p4 p5 p6 p7 p8 p9 nT c0;refine dB 5 Aab ?_;show eY _ _ _ _ _ 7 (Array.replicate 7 false) _ _
 refine tk [0,1,2,3,4] ?_;iterate 5 (refine uR (λK hK=>?_);go_simp;refine hK _ ?_;clear hK K)
 refine jJ ?_;clear y0 z0 z1 z2 z3 z4 z5 z6 z7 z8 z9 z10;refine bC Aab (λx hx=>?_);have HXX:=Hq (HX x (HW4.step hx));clear hx;refine aH 5 rfl Aab Aad ?_;go_simp;refine HXX.mono ?_;rintro e y ⟨rfl,A',G',c',v',hY⟩;have HY:=Hq hY;clear hY HXX;refine aH 6 rfl Aab Aad ?_;go_simp;refine wpAny_done Aab ?_;go_simp;go_wp2_with fail;go_ret;exact⟨rfl,A',G',c',v',HY⟩):P:=h
theorem Zk5(h:P:=by
 go_wp2_with fail;go_loopw [9,10] (λv j wr=>∃k g cp:Nat,k<=s0.ids.length/\j= .int .i64 k/\v= .slice (some ⟨g,0,none⟩) (ou s0 mL k).length cp/\wr.ownsRow W3.heap.size 3 1 v (ou s0 mL k).length (GR.flat aU (ou s0 mL k))/\(ou s0 mL k=[]->cp=0)/\aI W3 wr) (λ_ j _=>s0.ids.length - (intOf j).toNat)
 case atStart=>exact⟨0,_,_,Nat.zero_le _,rfl,rfl,World.ownsRow_lit _ #[] 0 (Nat.le_refl _) Aae rfl,λ_=>rfl,ay _ _⟩
 case round=>
  obtain⟨k,g,cp,hk,rfl,rfl,hown,aye,hbel⟩:=hrel;have ai7:=Hq aye;clear aye;have cK:=Hq hbel;obtain⟨_,s31,s32⟩:=BQ (au adF hbel);clear hbel;by_cases hlt:k < s0.ids.length
  .obtain⟨eb,hgb,hcell⟩:=(al4.below cK) k hlt;open atu in exact agk
  .have hke:k=s0.ids.length:=Aaa
   subst hke;have hd:decide ((s0.ids.length:Int) < (s0.ids.length:Int))=false:=Aac
   rw [Bj] at hown ai7;have aDE:(Value.slice (some ⟨g,0,none⟩) (ou s0 mL s0.ids.length).length cp)= .slice (some ⟨g,0,none⟩) (aV s0 mL).length cp:=by rw [Bj]
   rw [Bj];go_wp2_with fail;go_meet
   case rel=>exact⟨g,cp,rfl,hown,ai7,cK⟩):P:=h
theorem aat(h:P:=by
 rw [hW'];exact GR.setW_blk (dG n A).toList (o:=0) (xs:=iF.toList) uO):P:=h
theorem Zk6(h:P:=by
 unfold gD;have H9:=Hq h9;clear h9;have Jd:=Hq (λW (ha:aG W A.p n.pu)=>vM A.p A.cp n.pu key W hl ha);rw [hpp] at Jd;unfold wS at Jd;clear hpp;have hbw0:=ay w (.cells (dG n A) 40);have l7:=Hq (h.nine hB);clear h;go_in
 go_upto_region 1 with fail;refine wp_at (λW0 hW=>?_);obtain⟨e1,e2,e3⟩:=ig w (.cells (dG n A) 40) (.cells iF 40);open apx in exact aww):P:=h
theorem aw1(h:P:=by
 rw [hX];exact GR.setW_blk (dG n A1).toList (o:=0) (xs:=(dG n A).toList) lH):P:=h
theorem aw8(h:P:=by
 rw [hX];exact aT (dG n A1).toList W3 0):P:=h
theorem Zk7(h:P:=by
 clear hu;unfold iY at jy;have D7:=Hq (λW=>jr ⟨0,no,k,nn,⟨mK,mF,mT,mI,mL,mk,mN⟩⟩ W Aam Aam);open ame in exact Ee):P:=h
theorem Zk8(h:P:=by
 open aAI in exact Kq):P:=h
theorem Zk9(h:P:=by
 open aAH in exact Kq):P:=h
theorem awQ(h:P:=by
 open aAR in exact av4):P:=h
theorem awU(h:P:=by
 open aAG in exact Kq):P:=h
theorem ajI(h:P:=by
 open aAT in exact av5):P:=h
theorem ajJ(h:P:=by
 rw [hR];have HR:=Hq hR;clear hR;cases hk:keyOk k.data.toList
 .have HK:=Hq (λw1=>nP k false w1 hs hk);cases hn:fF n
  .have HN:=Hq (λw1=>eH n false w1 hn);have HP:=Hq (show R=(decide (no=0)&&false&&false&&lF ⟨mK,mF,mT,mI,mL,mk,mN⟩) by rw [<-ah HR];simp[cu,hk,hn]);clear HR;clear hk hn;go_in
   go_wp2_with (first|(go_at_call_of 52 k;refine(HK _).mono ?_;rintro e w1 ⟨rfl,rfl⟩)|(go_at_call_of 49 n;refine(HN _).mono ?_;rintro e w1 ⟨rfl,rfl⟩))
   all_goals
    go_ret
    refine⟨aF ?_,ay w _⟩
    rw [ah HP]
    simp[lF, *]
  .have HN:=Hq (λw1=>eH n true w1 hn);have HP:=Hq (show R=(decide (no=0)&&false&&true&&lF ⟨mK,mF,mT,mI,mL,mk,mN⟩) by rw [<-ah HR];simp[cu,hk,hn]);clear HR;clear hk hn;go_in
   go_wp2_with (first|(go_at_call_of 52 k;refine(HK _).mono ?_;rintro e w1 ⟨rfl,rfl⟩)|(go_at_call_of 49 n;refine(HN _).mono ?_;rintro e w1 ⟨rfl,rfl⟩))
   all_goals
    go_ret
    refine⟨aF ?_,ay w _⟩
    rw [ah HP]
    simp[lF, *]
 .have HK:=Hq (λw1=>nP k true w1 hs hk);cases hn:fF n
  .have HN:=Hq (λw1=>eH n false w1 hn);have HP:=Hq (show R=(decide (no=0)&&true&&false&&lF ⟨mK,mF,mT,mI,mL,mk,mN⟩) by rw [<-ah HR];simp[cu,hk,hn]);clear HR;clear hk hn;go_in
   go_wp2_with (first|(go_at_call_of 52 k;refine(HK _).mono ?_;rintro e w1 ⟨rfl,rfl⟩)|(go_at_call_of 49 n;refine(HN _).mono ?_;rintro e w1 ⟨rfl,rfl⟩))
   all_goals
    go_ret
    refine⟨aF ?_,ay w _⟩
    rw [ah HP]
    simp[lF, *]
  .have HN:=Hq (λw1=>eH n true w1 hn);have HP:=Hq (show R=(decide (no=0)&&true&&true&&lF ⟨mK,mF,mT,mI,mL,mk,mN⟩) by rw [<-ah HR];simp[cu,hk,hn]);clear HR;clear hk hn;go_in
   go_wp2_with (first|(go_at_call_of 52 k;refine(HK _).mono ?_;rintro e w1 ⟨rfl,rfl⟩)|(go_at_call_of 49 n;refine(HN _).mono ?_;rintro e w1 ⟨rfl,rfl⟩))
   all_goals
    go_ret
    refine⟨aF ?_,ay w _⟩
    rw [ah HP]
    simp[lF, *]):P:=h
theorem awX(h:P:=by
 by_cases hmK:mK=0
 case' neg=>
  have aB1:¬(0:Int)=mK:=λe=>hmK e.symm
  go_wp2_with fail;go_ret;exact⟨aF (by rw [ah HP];simp[lF,hmK]),iR⟩
 subst hmK;by_cases hmF:mF=0
 case' neg=>
  have aBZ:¬(0:Int)=mF:=λe=>hmF e.symm
  go_wp2_with fail;go_ret;exact⟨aF (by rw [ah HP];simp[lF,hmF]),iR⟩
 subst hmF;by_cases hmT:mT=0
 case' neg=>
  have aB4:¬(0:Int)=mT:=λe=>hmT e.symm
  go_wp2_with fail;go_ret;exact⟨aF (by rw [ah HP];simp[lF,hmT]),iR⟩
 subst hmT;by_cases hmI:mI=0
 case' neg=>
  have aB0:¬(0:Int)=mI:=λe=>hmI e.symm
  go_wp2_with fail;go_ret;exact⟨aF (by rw [ah HP];simp[lF,hmI]),iR⟩
 subst hmI;by_cases hmL:mL=0
 case' neg=>
  have aB2:¬(0:Int)=mL:=λe=>hmL e.symm
  go_wp2_with fail;go_ret;exact⟨aF (by rw [ah HP];simp[lF,hmL]),iR⟩
 subst hmL;by_cases hmk:mk.toList=[]
 case' neg=>
  go_wp2_with fail;go_ret;exact⟨aF (by rw [ah HP];simp[lF,hmk]),iR⟩
 by_cases hmN:mN=0
 case' neg=>
  have aB3:¬(0:Int)=mN:=λe=>hmN e.symm
  go_wp2_with fail;go_ret;exact⟨aF (by rw [ah HP];simp[lF,hmk,hmN]),iR⟩
 subst hmN;go_wp2_with fail;go_ret;exact⟨aF (by rw [ah HP];simp[lF,hmk]),iR⟩):P:=h
theorem awY(h:P:=by
 go_wp2_with fail;refine aO (λW' hW'=>?_)
 have e4:W'.heap[w.heap.size+2]?=some (.cells (iD n.id n.par a_k n.kids.length aY n.next (some ⟨gp,0,none⟩) n.pu.length dH fH n.out.length bE (some ⟨G.s,0,none⟩) n.seen.length aZ n.old gM n.reqs.length bg) 40 (0,0)):=by
  rw [hW'];exact GR.setW_blk (iD n.id n.par a_k n.kids.length aY n.next (some ⟨gp,0,none⟩) n.pu.length dH fH n.out.length bE (some ⟨G.s,0,none⟩) n.seen.length aZ n.old gM n.reqs.length bg).toList (o:=0) (xs:=iF.toList) oZ
 have fP:aC [w.heap.size+2] (W8.alloc (.cells #[] 98)) W':=by
  rw [hW'];exact aT (iD n.id n.par a_k n.kids.length aY n.next (some ⟨gp,0,none⟩) n.pu.length dH fH n.out.length bE (some ⟨G.s,0,none⟩) n.seen.length aZ n.old gM n.reqs.length bg).toList (W8.alloc (.cells #[] 98)) 0
 have abt:w.heap.size+2≠gi:=Aaa
 have HNF:=Hq (adx.kc (k:=9) (KC.keeps fP (λx hx=>by have:x=w.heap.size+2:=Aaf;rw [this];exact DW _ Aaa abt)) Aaa)
 have HAT:Hid (∀W'',Out c w W' W''->RM W'' (⟨a_k,(some ⟨gp,0,none⟩),fH,(some ⟨G.s,0,none⟩),gM,aY,dH,bE,aZ,bg⟩:bQ) (dM n (n.seen.set i ⟨mF,fE s0 mL,aV s0 mL⟩))):=λW'' ho=>by
  obtain⟨F,hk,hF⟩:=ho
  have hold:=(HNF.kc (k:=9) (KC.keeps hk (λx hx=>HCO x (hF x hx).1 (hF x hx).2)) Aaa)
  have ho:Out c w W' W'':=⟨F,hk,hF⟩
  exact hold.rm
 have Ga:Hid (∀W'',Out c w W' W''->GR.At lK 7 W'' (some ⟨W8.heap.size,0,none⟩) []):=λW'' ho j hj=>(by simp at hj)
 have oh:Hid (Below B w W'):=adl.trans (fP.below (λx hx=>by have:x=w.heap.size+2:=Aaf;omega) (by have h1:=aA oZ;omega));have sZ:=Hq (Apart.keeps (c:=c) adp (by have h1:=aA oZ;omega) fP (λx hx=>by have:x=w.heap.size+2:=Aaf;omega));obtain⟨x0,x1,x2,x3,x4,x5,x6,x7,x8⟩:=nine e4;clear hW' e4 fP
 first
  |exact bodyPost_ret (v:= .tuple #[.agg (iD n.id n.par a_k n.kids.length aY n.next (some ⟨gp,0,none⟩) n.pu.length dH fH n.out.length bE (some ⟨G.s,0,none⟩) n.seen.length aZ n.old gM n.reqs.length bg),.slice (some ⟨W8.heap.size,0,none⟩) 0 0,.int .i64 1]) Abo rfl ⟨(⟨a_k,(some ⟨gp,0,none⟩),fH,(some ⟨G.s,0,none⟩),gM,aY,dH,bE,aZ,bg⟩:bQ),(some ⟨W8.heap.size,0,none⟩),⟨0,by simp[gB,dG,dM]⟩,HAT,Ga,oh,sZ⟩
  |exact bodyPost_ret (v:= .tuple #[.agg (iD n.id n.par a_k n.kids.length aY n.next (some ⟨gp,0,none⟩) n.pu.length dH fH n.out.length bE (some ⟨G.s,0,none⟩) n.seen.length aZ n.old gM n.reqs.length bg),.slice (some ⟨W8.heap.size,0,none⟩) 0 0,.int .i64 1]) Abo rfl ⟨(⟨a_k,(some ⟨gp,0,none⟩),fH,(some ⟨G.s,0,none⟩),gM,aY,dH,bE,aZ,bg⟩:bQ),(some ⟨W8.heap.size,0,none⟩),0,by simp[gB,dG,dM],HAT,Ga,oh,sZ⟩):P:=h
theorem aw0(h:P:=by
 refine aO (λW' hW'=>?_)
 have e4:W'.heap[w.heap.size+2]?=some (.cells (iD n.id n.par a_k n.kids.length aY n.next jH n.pu.length dH fH n.out.length bE (some ⟨G.s,0,none⟩) n.seen.length aZ n.old gM n.reqs.length bg) 40 (0,0)):=by
  rw [hW'];exact GR.setW_blk (iD n.id n.par a_k n.kids.length aY n.next jH n.pu.length dH fH n.out.length bE (some ⟨G.s,0,none⟩) n.seen.length aZ n.old gM n.reqs.length bg).toList (o:=0) (xs:=iF.toList) nU
 have fP:aC [w.heap.size+2] W7 W':=by
  rw [hW'];exact aT (iD n.id n.par a_k n.kids.length aY n.next jH n.pu.length dH fH n.out.length bE (some ⟨G.s,0,none⟩) n.seen.length aZ n.old gM n.reqs.length bg).toList W7 0
 have abt:w.heap.size+2≠gi:=Aaa
 have HNF:=Hq (adw.kc (k:=9) (KC.keeps fP (λx hx=>by have:x=w.heap.size+2:=Aaf;rw [this];exact DW _ Aaa abt)) Aaa)
 have HAT:Hid (∀W'',Out c w W' W''->RM W'' (⟨a_k,jH,fH,(some ⟨G.s,0,none⟩),gM,aY,dH,bE,aZ,bg⟩:bQ) (dM n (n.seen.set i ⟨mF,fE s0 mL,aV s0 mL⟩))):=λW'' ho=>by
  obtain⟨F,hk,hF⟩:=ho
  have hold:=(HNF.kc (k:=9) (KC.keeps hk (λx hx=>HCO x (hF x hx).1 (hF x hx).2)) Aaa)
  have ho:Out c w W' W'':=⟨F,hk,hF⟩
  exact hold.rm
 have Ga:Hid (∀W'',Out c w W' W''->GR.At lK 7 W'' (some ⟨ab,0,none⟩) [⟨2,n.id,mF,mI,0,ByteArray.empty,0⟩]):=λW'' ho j hj=>Sb (fP.obj YV (λhm=>Acm)) ho Aaa j hj
 have oh:Hid (Below B w W'):=ai2.trans (fP.below (λx hx=>by have:x=w.heap.size+2:=Aaf;omega) (by have h1:=aA nU;omega));have sZ:=Hq (Apart.keeps (c:=c) ai9 (by have h1:=aA nU;omega) fP (λx hx=>by have:x=w.heap.size+2:=Aaf;omega));obtain⟨x0,x1,x2,x3,x4,x5,x6,x7,x8⟩:=nine e4;clear hW' e4 fP
 first
  |exact bodyPost_ret (v:= .tuple #[.agg (iD n.id n.par a_k n.kids.length aY n.next jH n.pu.length dH fH n.out.length bE (some ⟨G.s,0,none⟩) n.seen.length aZ n.old gM n.reqs.length bg),.slice (some ⟨ab,0,none⟩) 1 1,.int .i64 0]) Abo rfl ⟨(⟨a_k,jH,fH,(some ⟨G.s,0,none⟩),gM,aY,dH,bE,aZ,bg⟩:bQ),(some ⟨ab,0,none⟩),⟨1,by simp[gB,dG,dM]⟩,HAT,Ga,oh,sZ⟩
  |exact bodyPost_ret (v:= .tuple #[.agg (iD n.id n.par a_k n.kids.length aY n.next jH n.pu.length dH fH n.out.length bE (some ⟨G.s,0,none⟩) n.seen.length aZ n.old gM n.reqs.length bg),.slice (some ⟨ab,0,none⟩) 1 1,.int .i64 0]) Abo rfl ⟨(⟨a_k,jH,fH,(some ⟨G.s,0,none⟩),gM,aY,dH,bE,aZ,bg⟩:bQ),(some ⟨ab,0,none⟩),1,by simp[gB,dG,dM],HAT,Ga,oh,sZ⟩):P:=h
theorem ajK(h:P:=by
 open auK in exact agE):P:=h
theorem Oj(h:P:=by
 clear HR;clear hk hn ho;go_in
 go_wp2_with (first|(go_at_call_of 52 k;refine(HK _).mono ?_;rintro e w1 ⟨rfl,rfl⟩)|(go_at_call_of 49 n;refine(HN _).mono ?_;rintro e w1 ⟨rfl,rfl⟩)|(go_at_call_of 49 no;refine(HO _).mono ?_;rintro e w1 ⟨rfl,rfl⟩))
 all_goals
  go_ret
  refine⟨aF ?_,ay w _⟩
  rw [ah HP]
  simp[lF, *]):P:=h
theorem aw4(h:P:=by
 open amK in exact adM):P:=h
theorem adQ(h:P:=by
 open ao2 in exact ajC):P:=h
theorem R5(h:P:=by
 open arT in exact afQ):P:=h
theorem aw5(h:P:=by
 open amJ in exact adM):P:=h
theorem aw7(h:P:=by
 rw [hR];have hd:decide (o.no<=n.old)=false:=decide_eq_false hc;open ar2 in exact ZN):P:=h
theorem aw9(h:P:=by
 go_wp2_with fail;go_quiet (fail);have abq:(wr.drewN nq).ownsRow W2.heap.size 91 4 (.slice a (FL k).length cp) (FL k).length (GR.flat aS (FL k)):=ah HO;have hnk:=ah HNK;obtain⟨hi,hz0,hz1,hz2⟩:=ah HI;have hwb:W2.heap.size<=wr.heap.size:=iR.size;go_wp2_with (at_builtin;refine wpList_append_own _ rfl _ _ 36 rfl W2.heap.size 91 i0 (.agg (gJ 0 0 ByteArray.empty 0)) 4 40 underlying36 hi hz0 hz1 hz2 rfl Aae _ _ _ rfl (abq.alloc _) ⟨wr.heap.size,0,none⟩ 1 1 (aS ⟨si,st,sk,sn⟩) rfl rfl ?c1 ?c2 ?c3 ?c4 ?c5 ?_)
 case c1=>exact World.news_of_block (heap_alloc_new (wr.drewN nq) _)
 case c2=>exact xR _
 case c3=>unfold maxLen;omega
 case c4=>omega
 case c5=>exact Nat.le_trans hwb (ay (wr.drewN nq) _).size
 intro v' w5 hown' hgrow _;obtain⟨an,cn,hv,_⟩:=GR.own_at (enc:=aS) (sz:=4) (l:=FL k++[⟨si,st,sk,sn⟩]) bH (by rw [List.length_append,jh];exact hown');rw [List.length_append] at hv;have hv':v'= .slice an ((FL k).length+1) cn:=hv;clear hv;subst hv'
 have M9:Hid (w5.ownsRow W2.heap.size 91 4 (.slice an FK.length cn) FK.length (GR.flat aS FK)):=by
  unfold Hid;rw [ah HX,List.length_append,jh];exact hown'
 have gY:Hid (aI W2 w5):=(iR.trans (Below.trans (b:=wr.drewN nq) ⟨rfl,rfl,rfl,Nat.le_refl _,λ_ _=>rfl⟩ ((ay (wr.drewN nq) (.cells (gJ si st sk sn) 91)).mono hwb))).trans ⟨hgrow.os,hgrow.tape,hgrow.output,hgrow.size,λx hx=>hgrow.block x (Nat.lt_of_lt_of_le hx (Nat.le_trans hwb (ay (wr.drewN nq) _).size)) (λe=>by have:=um abq e.symm;omega)⟩;clear hown' hgrow abq hi hz0 hz1 hz2 c0 c1 c2 c3 c4 c5 c6 c7 c8 m0 m1 m2 m3 m4 m5 m6 s0 s1 s2 s3;go_wp2_with fail;go_roundw
 case rel=>exact⟨k+1,an,cn,Aaa,by rw [ah HX0,ah HX,List.length_append];rfl,Aah,by rw [ah HX0];exact M9,gY⟩
 case measure=>simp[intOf];omega):P:=h
theorem axb(h:P:=by
 refine gF 11 rfl Aab Aad Aae (λxf hxf=>?_);have HGg:=Hq (Ge.trans HGf hxf);have YE:=Hq (au HQf hxf);have HDg:=Hq (Ge.trans HDf hxf);clear hxf;obtain⟨d0,d1,d2,d3,d4,d5,d6,d7,d8⟩:=nine YE;have f0:=aj YE 0;have f1:=aj YE 1;have f2:=aj YE 2;have f3:=aj YE 3;have f4:=aj YE 4;have f5:=aj YE 5;have f6:=aj YE 6;have f7:=aj YE 7;have f8:=aj YE 8;have hrl:=aA YE;go_simp;have hkq:aC [qf] xf (GR.setW xf qf 0 (dG m' A3).toList):=aT (g:=qf) _ xf 0;refine⟨hkq.below (λx hx=>by rw [List.mem_singleton.1 hx];exact hqV) HGg.size,?_⟩;have HBQ:=Hq (GR.setW_blk (dG m' A3).toList (o:=0) (xs:=iF.toList) YE);have HKD:=Hq (aC.trans (F:=[qf]) (aC.of_below HDg) hkq);have vU:=Hq (Below.trans HGg (hkq.below (B:=wr.heap.size) (λx hx=>by rw [List.mem_singleton.1 hx];exact hqV) HGg.size));clear hkq d0 d1 d2 d3 d4 d5 d6 d7 d8 f0 f1 f2 f3 f4 f5 f6 f7 f8 hrl;have hwp:=vU.size;refine tk [12] ?_;(refine tkB hwp (λK hK=>?_);go_simp;first|refine hK _ ?_|(apply Exists.intro;refine⟨λ_=>?_,hK _ ?_⟩;rfl);clear hK K)
 refine jJ ?_;clear hwp;refine oI Aab (λz hz=>?_);have azv:=Hq (au HBQ hz);have HNz:=Hq (((HNL.or hqd HKD).step hz).mono (Nat.le_trans hsz hxs));have azw:=Hq (vU.trans (hz.mono vU.size));clear hz HBQ HKD vU;refine aH 13 rfl Aab Aad ?_;go_simp;refine wpAny_done Aab ?_;go_simp;go_wp2_with fail;go_meet
 case rel=>exact⟨qf,A3,rfl,azv,HNz,azw⟩):P:=h
theorem ajL(h:P:=by
 dsimp only at q0 q1 q2 q3 hkk;have hkm:pk.size<=maxLen:=hkk;unfold maxLen at hkk;go_wp2_with fail;refine(uV _).mono ?_;rintro e w5 ⟨rfl,hb5⟩;have fG:=Hq (cK.trans (hb5.mono cK.size));clear hb5 q0 q1 q2 q3;dsimp only;by_cases hc:(pk.size:Int)<=z
 .rw [if_pos hc];have hn2:decide (z - (pk.size:Int) < 0)=false:=decide_eq_false Aaa;go_wp2_with fail;go_roundw
  case rel=>
   refine⟨k+1,z - pk.size,Aaa,Aah,rfl,Aaa,Aaa,?_,fG⟩;intro p hp;rw [ah HT] at hp;rcases List.mem_append.1 hp with h|h
   .exact kS p h
   .rw [List.mem_singleton] at h;subst h;show pk.size<=1048576
    omega
  case measure=>simp[intOf];omega
 .rw [if_neg hc];go_wp2_with fail;go_ret;exact⟨-1,rfl,fG,.inl rfl⟩):P:=h
theorem ajM(h:P:=by
 go_wp2_with fail;go_loopw [7] (λj wr=>∃x q:Nat,x<=i/\j= .int .i64 x/\wr=W0.drewN q) (λj _=>i - (intOf j).toNat)
 case atStart=>exact⟨0,0,Nat.zero_le _,rfl,rfl⟩
 case round=>
  obtain⟨x,q,hx,rfl,rfl⟩:=hrel;have hxl:x < n.seen.length:=Aaa
  obtain⟨b',c',e',hg',⟨u0,_,_⟩,_,_⟩:=iL.three adv.s x hxl;by_cases hxi:x=i
  .subst hxi;rw [hs0,hfi] at u0;have hnn:(mF != mF)=false:=Aac
   go_wp2_with fail;go_quiet (fail);go_wp2_with fail;go_meet
   case rel=>exact⟨rfl,⟨rfl,rfl,rfl,Nat.le_refl _,λ_ _=>rfl⟩⟩
  .have hne:=hbef x hxl Aaa;generalize n.seen[x].f=fx at *;have hnn:(fx != mF)=true:=by simpa using hne
   go_wp2_with fail;go_quiet (fail);go_wp2_with fail;go_roundw
   case rel=>exact⟨x+1,_,Aaa,Aah,rfl⟩
   case measure=>simp[intOf];omega):P:=h
theorem axc(h:P:=by
 by_cases hk:k.toList=[]
 case' neg=>
  go_wp2_with fail;go_ret;exact⟨aF (by rw [ah HP];simp[lF,hk]),iR⟩
 by_cases hn:n=0
 case' neg=>
  have hn':¬(0:Int)=n:=λe=>hn e.symm
  go_wp2_with fail;go_ret;exact⟨aF (by rw [ah HP];simp[lF,hk,hn]),iR⟩
 subst hn;by_cases hmK:mK=0
 case' neg=>
  have aB1:¬(0:Int)=mK:=λe=>hmK e.symm
  go_wp2_with fail;go_ret;exact⟨aF (by rw [ah HP];simp[lF,hk,hmK]),iR⟩
 subst hmK;by_cases hmF:mF=0
 case' neg=>
  have aBZ:¬(0:Int)=mF:=λe=>hmF e.symm
  go_wp2_with fail;go_ret;exact⟨aF (by rw [ah HP];simp[lF,hk,hmF]),iR⟩
 subst hmF;by_cases hmT:mT=0
 case' neg=>
  have aB4:¬(0:Int)=mT:=λe=>hmT e.symm
  go_wp2_with fail;go_ret;exact⟨aF (by rw [ah HP];simp[lF,hk,hmT]),iR⟩
 subst hmT;by_cases hmI:mI=0
 case' neg=>
  have aB0:¬(0:Int)=mI:=λe=>hmI e.symm
  go_wp2_with fail;go_ret;exact⟨aF (by rw [ah HP];simp[lF,hk,hmI]),iR⟩
 subst hmI;by_cases hmL:mL=0
 case' neg=>
  have aB2:¬(0:Int)=mL:=λe=>hmL e.symm
  go_wp2_with fail;go_ret;exact⟨aF (by rw [ah HP];simp[lF,hk,hmL]),iR⟩
 subst hmL;by_cases hmk:mk.toList=[]
 case' neg=>
  go_wp2_with fail;go_ret;exact⟨aF (by rw [ah HP];simp[lF,hk,hmk]),iR⟩
 by_cases hmN:mN=0
 case' neg=>
  have aB3:¬(0:Int)=mN:=λe=>hmN e.symm
  go_wp2_with fail;go_ret;exact⟨aF (by rw [ah HP];simp[lF,hk,hmk,hmN]),iR⟩
 subst hmN;go_wp2_with fail;go_ret;exact⟨aF (by rw [ah HP];simp[lF,hk,hmk]),iR⟩):P:=h
theorem R6(h:P:=by
 open anM in exact xL):P:=h
theorem axd(h:P:=by
 open auO in exact agG):P:=h
theorem aaG(h:P:=by
 have HP:=Hq (HD Aaj);clear HD HE;go_upto_region 6 with fail;go_quiet (fail);go_wp2_with fail;go_ret;exact .no HP (fD _ cK)):P:=h
theorem xM(h:P:=by
 exact⟨Aan,below_regrown _ dq osq⟩):P:=h
theorem axe(h:P:=by
 have hold:=(l7.kc (k:=9) ((KC.of_below sV).trans (KC.out H9 ho)) Aaa);have hr:=(ah HLZ).out (w:=w) Aaa ho;rcases Rt with hp|⟨rfl,rfl⟩
 .have hp:=hp.out (w:=w) Aaa ho
  have hp9:∀g',pa.map (λy=>y.block)=some g'->6 < newC w.heap.size 9 c g':=λg' hg'=>by
   have h1:=hp.lo (rO hp hg')
   rw [bJ Aaa]
   omega
  exact NQ.put hold hold _ _ rfl rfl rfl rfl (hp.lies aW).1 (λg' hg' _=> .inr (hp9 g' hg')) hold.o (λy hy=> .inl (hold.co y hy)) hr (λy hy=> .inr (by have h1:=hr.lo hy;rw [bJ Aaa];omega))
   (λg' hg' _ h6=>⟨λe=>by have:=hold.co g' e;omega,hp.ne hr Aae (rO hp hg')⟩) (λy hy h6=>by have:=hold.co y hy;omega)
 .exact NQ.put hold hold _ _ rfl rfl rfl rfl hold.p.at (λg' hg' hp'=> .inl (hold.cpB hold g' hg' hp')) hold.o (λy hy=> .inl (hold.co y hy)) hr (λy hy=> .inr (by have h1:=hr.lo hy;rw [bJ Aaa];omega))
   (λg' hg' hp' h6=>by have:=hold.cpB hold g' hg' hp';omega) (λy hy h6=>by have:=hold.co y hy;omega)):P:=h
theorem axf(h:P:=by
 open arH in exact afK):P:=h
theorem wM(h:P:=by
 go_ret;exact⟨aF HP.symm,ay w _⟩):P:=h
theorem adZ(h:P:=by
 intro k ok hk hki hun hno;refine hfree k ok hk hki ?_ hno;by_cases hjk:j=k
 .subst hjk;exact hjun
 .rw [getD_set_ne true hjk] at hun;exact hun):P:=h
theorem Vj(h:P:=by
 rw [Array.setIfInBounds_comm _ _ hji];exact hm):P:=h
theorem axg(h:P:=by
 open aBi in exact adL):P:=h
theorem axh(h:P:=by
 open aoJ in exact ajz):P:=h
theorem axi(h:P:=by
 rw [ah HD];clear HD hT;go_in
 go_upto_region 1 with fail;refine dx Aab ?_;show gL _ _ _ _ 18 (Array.replicate 18 false) _ _
 refine tk [0,1,2,3,4,5,6,7,8,9,10,11,12,13,14] ?_;iterate 15 (refine Ar (λK hK=>?_);go_simp;refine hK _ ?_;clear hK K)
 refine jJ ?_;refine aJ 15 rfl Aab Aab Aab (λ_ _ _ _ h=>h) (λK hK=>?_);go_simp
 first
  |(refine hK _ ?_;clear hK K)
  |(apply Exists.intro
    refine⟨λ_=>?_,hK _ ?_⟩
    (exact Rp _ (Rz _))
    clear hK K)
 refine tk [16,17] ?_;open auR in exact Z5):P:=h
theorem axj(h:P:=by
 open anT in exact awi):P:=h
theorem ajN(h:P:=by
 by_cases hlow:s0.l < mL
 .have hd:decide (s0.l < mL)=true:=decide_eq_true hlow;have HLW:=Hq (show fE s0 mL=mL from if_pos hlow);go_wp2_with fail;go_meet
  case rel=>exact⟨rfl,by rw [ah HLW];exact aN Wm 1 _,aC.set _⟩
 .have hd:decide (s0.l < mL)=false:=decide_eq_false hlow;have HLW:=Hq (show fE s0 mL=s0.l from if_neg hlow);go_wp2_with fail;go_meet
  case rel=>exact⟨rfl,by rw [ah HLW];exact Wm,aC.refl _ _⟩):P:=h
theorem aaH(h:P:=by
 have hlen:(l.take k).length=k:=Aag
 rw [List.set_append_right _ _ Aaa,hlen,Nat.sub_self];have e:l.length - k=(l.length - (k+1))+1:=Aaa
 rw [e,List.replicate_succ,List.take_succ_eq_append_getElem hk,List.append_assoc];rfl):P:=h
theorem R7(h:P:=by
 open anL in exact xL):P:=h
theorem axk(h:P:=by
 open anS in exact awi):P:=h
theorem ajO(h:P:=by
 have HK:=Hq (λw1=>iw k false w1 hk);cases hn:fF n
 .have HN:=Hq (λw1=>aP n false w1 hn);have HP:=Hq (show R=(decide (no=0)&&false&&false&&lF ⟨mK,mF,mT,mI,mL,mk,mN⟩) by rw [<-ah HR];simp[cu,hk,hn]);exact ajK
 .have HN:=Hq (λw1=>aP n true w1 hn);have HP:=Hq (show R=(decide (no=0)&&false&&true&&lF ⟨mK,mF,mT,mI,mL,mk,mN⟩) by rw [<-ah HR];simp[cu,hk,hn]);exact ajK):P:=h
theorem yX(h:P:=by
 go_ret;exact⟨aF (HP.symm.trans HQ),hB⟩):P:=h
theorem ajP(h:P:=by
 clear hr hc0;go_in
 go_wp2_with (first|(go_at_call 341;refine(HR _).mono ?_;rintro e w2 ⟨rfl,hb2⟩;have hA:=aK (heap_alloc_new w _) hb2;have hB:=(ay w _).trans (hb2.mono Aac);obtain⟨c0,c1,c2,c3,c4,c5⟩:=Kz hA;have hz:=dD hA;clear hA hb2)|(go_at_call_of 169 I;refine(M0 _).mono ?_;rintro e w1 ⟨rfl,rfl⟩))
 exact yX):P:=h
theorem Wu(h:P:=by
 have hb:aI w w1:=(ay w _).grown hgrow Aac (λk hk=>Acy);clear hown' hgrow hlit;go_wp2
 go_ret;exact⟨_,rfl,HO,hb⟩):P:=h
theorem ajQ(h:P:=by
 open avr in exact Va):P:=h
theorem aaI(h:P:=by
 open anK in exact xL):P:=h
theorem adR(h:P:=by
 open anJ in exact xL):P:=h
theorem axl(h:P:=by
 open auc in exact NY):P:=h
theorem ajR(h:P:=by
 open arP in exact afO):P:=h
theorem aaJ(h:P:=by
 go_wp2_with fail;refine H.mono ?_;rintro e w1 ⟨a1,c1,g,hg,rfl,hblk,hb⟩;have HK:=Hq hblk;have HB:=Hq hb;clear hblk hb;go_wp2_with fail;go_ret2
 exact⟨_,_,g,hg,rfl,HK,HB⟩):P:=h
theorem ajS(h:P:=by
 open ar6 in exact afT):P:=h
theorem axm(h:P:=by
 subst hx;by_cases hx:x3=y3
 case' neg=>
  have hq:(x3 == y3)=false:=Aaf
  exact aaG
 subst hx;have HT2:=Hq (HE rfl);clear HE HD;go_upto_region 6 with fail;go_quiet (fail);go_wp2_with fail;go_roundw
 case rel=>exact⟨k+1,Aaa,Aah,fD _ cK,HT2⟩
 case measure=>simp[intOf];omega):P:=h
theorem axn(h:P:=by
 obtain⟨k,hk,rfl,rfl,rfl⟩:=hrel;have hb:=Mth.sums_lt (s.data.toList.take k);by_cases hlt:k < s.size
 .have HS:Hid (Mth.sums (s.data.toList.take (k+1))=Mth.sumStep (Mth.sums (s.data.toList.take k)) s[k]):=by rw [Mth.take_snoc s k hlt];exact Mth.sums_snoc _ _
  have hc:s[k].toNat < 256:=s[k].toNat_lt;go_wp2
  go_round
  case rel=>exact⟨k+1,Aaa,Aah,by rw [HS.out];simp[Mth.sumStep],by rw [HS.out];simp[Mth.sumStep]⟩
  case measure=>simp[intOf];omega
 .rw [Mth.take_all s k hlt];rw [Mth.take_all s k hlt] at hb;go_wp2
  go_ret;exact⟨Mf Aaa,rfl⟩):P:=h
theorem axo(h:P:=by
 rcases hcase with rfl|⟨r0,r1,hqq⟩
 .go_wp2_with fail;go_ret;exact⟨-1,rfl,.inl rfl,fG⟩
 .have hn2:decide (r < 0)=false:=decide_eq_false Aaa;have HQQ:=Hq hqq;clear hqq;go_wp2_with fail;go_roundw
  case rel=>
   refine⟨k+1,r,Aaa,Aah,rfl,Aaa,Aaa,?_,fG⟩;intro p hp;rw [ah HT] at hp;rcases List.mem_append.1 hp with h|h
   .exact kS p h
   .rw [List.mem_singleton] at h;subst h;exact HQQ
  case measure=>simp[intOf];omega):P:=h
theorem axp(h:P:=by
 have e1:(w.alloc a).heap.size=w.heap.size+1:=Aac
 have e2:((w.alloc a).alloc b).heap.size=w.heap.size+1+1:=Aac
 have h2:=Below.heap_alloc ((w.alloc a).alloc b) c (w.heap.size+1) Aaa;have h3:=heap_alloc_new ((w.alloc a).alloc b) c;have h4:=heap_alloc_new (w.alloc a) b;have h5:=Below.heap_alloc ((w.alloc a).alloc b) c w.heap.size Aaa;have h6:=Below.heap_alloc (w.alloc a) b w.heap.size Aaa;rw [e2] at h3;rw [e1] at h4;exact⟨h5.trans (h6.trans (heap_alloc_new w a)),h2.trans h4,h3,((ay w a).alloc Aaa b).alloc Aaa c⟩):P:=h
theorem axq(h:P:=by
 open amI in exact adM):P:=h
theorem axr(h:P:=by
 clear hr hc0 hc1 hc2;go_in
 go_wp2_with (first|(go_at_call 341;refine(HR _).mono ?_;rintro e w2 ⟨rfl,hb2⟩;have hA:=aK (heap_alloc_new w _) hb2;have hB:=(ay w _).trans (hb2.mono Aac);obtain⟨c0,c1,c2,c3,c4,c5⟩:=Kz hA;have hz:=dD hA;clear hA hb2)|(go_at_call_of 169 I;refine(M0 _).mono ?_;rintro e w1 ⟨rfl,rfl⟩)|(go_at_call_of 204 k;refine(Rk _).mono ?_;rintro e w1 ⟨rfl,rfl⟩)|(go_at_call_of 169 N;refine(Gj _).mono ?_;rintro e w1 ⟨rfl,rfl⟩))
 exact yX):P:=h
theorem ajT(h:P:=by
 open as3 in exact agc):P:=h
theorem axt(h:P:=by
 open aAP in exact Wn):P:=h
theorem axu(h:P:=by
 have hil:i < l.length:=by simpa using hi'
 by_cases e:i=k
 .subst e;refine⟨b,cc,?_,?_⟩
  .rw [List.getElem_set_self,List.getElem?_set_self hkT]
  .rw [List.getElem_set_self];unfold su;rw [if_pos rfl];exact hi.keeps hkp (λx hx=>by simpa using hgi x hx)
 .obtain⟨b',c',ht,hi2⟩:=hr i hil;refine⟨b',c',?_,?_⟩
  .rw [List.getElem_set_ne Aaa,List.getElem?_set_ne Aaa];exact ht
  .rw [List.getElem_set_ne Aaa];unfold su;rw [if_neg e];exact hi2.keeps hkp (λx hx=>by simpa using hg4 x (lM hil x hx))):P:=h
theorem axv(h:P:=by
 go_wp2_with fail;refine iB (λW' hW'=>?_);obtain⟨⟨r0,r1,r2,r3,r4,r5,r6,r7,r8,r9,YQ⟩,_⟩:=aM (show W'.heap[w.heap.size]?=some (.cells (bZ 0 0 ⟨#[]⟩ 0 0 0 0 0 0 ⟨#[]⟩ 0) 100 (0,0)) by rw [hW'];exact kU HR);have hbb:aI w W':=by rw [hW'];exact iI HB (Nat.le_refl _)
 exact bodyPost_ret (v:= .tuple #[.agg (bZ 0 0 ⟨#[]⟩ 0 0 0 0 0 0 ⟨#[]⟩ 0),.bool false]) Acv rfl ⟨Abi,hbb⟩):P:=h
theorem Wv(h:P:=by
 exact⟨0,z0 - l.length,Nat.zero_le _,rfl,Aah,Aaa,Aaa,λp hp=>by simp at hp,Below.refl _ _⟩):P:=h
theorem axw(h:P:=by
 obtain⟨s0,s1,s2,s3⟩:=rQ.four gY k Aaa;open ata in exact ZQ):P:=h
theorem axx(h:P:=by
 clear hr hc2 hc3 hc4 Ew;go_in
 go_wp2_with (first|(go_at_call_of 100 F;refine(H1 _).mono ?_;rintro e w1 ⟨rfl,rfl⟩)|(go_at_call_of 100 T;refine(H2 _).mono ?_;rintro e w1 ⟨rfl,rfl⟩)|(go_at_call_of 52 k;refine(Gj _).mono ?_;rintro e w1 ⟨rfl,rfl⟩)|(go_at_call_of 49 N;refine(HC3 _).mono ?_;rintro e w1 ⟨rfl,rfl⟩)|(go_at_call_of 49 I;refine(HC4 _).mono ?_;rintro e w1 ⟨rfl,rfl⟩)|(go_at_call 18;refine(HC5 _).mono ?_;rintro e w1 ⟨rfl,rfl⟩))
 exact wM):P:=h
theorem axy(h:P:=by
 clear hr hc0 hc1;go_in
 go_wp2_with (first|(go_at_call 341;refine(HR _).mono ?_;rintro e w2 ⟨rfl,hb2⟩;have hA:=aK (heap_alloc_new w _) hb2;have hB:=(ay w _).trans (hb2.mono Aac);obtain⟨c0,c1,c2,c3⟩:=Kw hA;have hz:=dD hA;clear hA hb2)|(go_at_call_of 204 k;refine(M0 _).mono ?_;rintro e w1 ⟨rfl,rfl⟩)|(go_at_call_of 169 N;refine(Rk _).mono ?_;rintro e w1 ⟨rfl,rfl⟩))
 exact yX):P:=h
theorem adS(h:P:=by
 have HD:=Hq (show¬n=m from λh=>hx (by rw [h]));clear hx HZ HA HB;go_in
 go_wp2_with fail;go_ret;exact .no HD (yY _ _ _)):P:=h
theorem ajU(h:P:=by
 obtain⟨g,off,e,hg,hc⟩:=h i hi;refine⟨g,off,e,hg,?_,?_,?_,?_⟩
 .simpa using hc 0 Aaa
 .simpa [Nat.add_assoc] using hc 1 Aaa
 .simpa [Nat.add_assoc] using hc 2 Aaa
 .simpa [Nat.add_assoc] using hc 3 Aaa):P:=h
theorem R8(h:P:=by
 go_wp2_with fail;go_ret;exact⟨_,rfl,World.ownsRow_nil _ _ _ _,Below.refl _ _⟩):P:=h
theorem axz(h:P:=by
 open arO in exact afO):P:=h
theorem axA(h:P:=by
 exact bodyPost_ret (v:= .tuple #[.agg (iD n.id n.par a_k n.kids.length aY (n.next+1) av RL.length cv a6 (n.out.length+1) c6 gG n.seen.length aZ n.old gM n.reqs.length bg),.slice (some ⟨z.heap.size,0,none⟩) 1 1,.int .i64 0]) Ade rfl ⟨⟨a_k,av,a6,gG,gM,aY,cv,c6,aZ,bg⟩,some ⟨z.heap.size,0,none⟩,1,by rw [ah HNV],HFI.1,HFI.2.1,HFI.2.2.1,HFI.2.2.2⟩):P:=h
theorem AQ(h:P:=by
 exact⟨0,Nat.zero_le _,rfl,Below.refl _ _⟩):P:=h
theorem axB(h:P:=by
 clear hr hc0;go_in
 go_wp2_with (first|(go_at_call 341;refine(HR _).mono ?_;rintro e w2 ⟨rfl,hb2⟩;have hA:=aK (heap_alloc_new w _) hb2;have hB:=(ay w _).trans (hb2.mono Aac);obtain⟨c0,c1,c2⟩:=cells3 hA;have hz:=dD hA;clear hA hb2)|(go_at_call_of 169 I;refine(M0 _).mono ?_;rintro e w1 ⟨rfl,rfl⟩))
 exact yX):P:=h
theorem ajV(h:P:=by
 intro x hx;rw [hr];refine⟨λh=>Aat,λj hj=>?_⟩;obtain rfl:j=i:=Abf
 refine⟨λe=>absurd e hiE,λ_=>?_⟩;unfold wpOp;simp only[hi];rw [if_pos hw];exact .inl (h x hx)):P:=h
theorem aBq(h:P:=by
 rw [YL];exact hW5.W.keeps (aT [.int .i64 mF,.int .i64 (fE s0 mL),.slice (some ⟨gi,0,none⟩) (aV s0 mL).length OA] _ (i*3)) (λx hx hm=>by have h1:=(dY hx).1;simp at hm;omega)):P:=h
theorem axC(h:P:=by
 go_wp2_with fail;refine(M4 _ (GR.At.below HA HB1)).mono ?_;rintro e w2 ⟨v,rfl,hnn,hrow,hb2⟩;have HNN:=Hq hnn;have HR:=Hq (own_lower hrow HB1.size);have HB2:=Hq (HB1.trans (hb2.mono HB1.size));clear hrow hb2 hnn;go_wp2_with fail;refine bodyPost_ret (v:= .tuple #[v,.bool false]) Acw rfl ⟨v,rfl,HNN,HR,HB2⟩):P:=h
theorem adT(h:P:=by
 go_wp2_with (go_at_call 252;refine(yt _ _).mono ?_;rintro e w' ⟨rfl,rfl⟩)
 go_ret3
 exact⟨acD HR,rfl⟩):P:=h
theorem ajW(h:P:=by
 go_wp2_with fail;refine HNN.mono ?_;rintro e w9 ⟨rfl,hb9⟩;have HKK:=Hq (HS.keep.trans (dR.of_below hb9));clear hb9;go_wp2_with fail;exact⟨rfl,.inr ⟨hno,_,rfl⟩,HKK⟩):P:=h
theorem axD(h:P:=by
 clear eT;refine wp_region_quiet_below Aab Aab ?_;repeat (first|go_big_quiet_step ((first|(go_at_call_of 18 si;exact a1 _ _)|(go_at_call 52;exact a2 _ _)|(go_at_call 49;exact a3 _ _)|(go_at_call_of 18 st;exact a4 _ _)))|quiet_step ((first|(go_at_call_of 18 si;exact a1 _ _)|(go_at_call 52;exact a2 _ _)|(go_at_call 49;exact a3 _ _)|(go_at_call_of 18 st;exact a4 _ _))))
 exact ajQ):P:=h
theorem axE(h:P:=by
 clear eT;refine wp_region_quiet_below Aab Aab ?_;repeat (first|go_big_quiet_step ((first|(go_at_call 18;exact a1 _ _)|(go_at_call 51;exact a2 _ _)|(go_at_call 52;exact a3 _ _)|(go_at_call 49;exact a4 _ _)))|quiet_step ((first|(go_at_call 18;exact a1 _ _)|(go_at_call 51;exact a2 _ _)|(go_at_call 52;exact a3 _ _)|(go_at_call 49;exact a4 _ _))))
 exact ajQ):P:=h
theorem Ww(h:P:=by
 go_wp2_with fail;go_ret;exact⟨rfl,(Below.refl _ _).alloc (Nat.le_refl _) _⟩):P:=h
theorem adU(h:P:=by
 have HD:=Hq (show¬n=m from λh=>by have:=hr.2 (by rw [h]);cases this);clear hr;go_wp2_with fail;go_ret;exact .no HD HL):P:=h
theorem axF(h:P:=by
 open as1 in exact agc):P:=h
theorem axG(h:P:=by
 constructor
 .intro hf;have e:l=l.take i++l[i]::l.drop (i+1):=by rw [<-List.drop_eq_getElem_cons hi,List.take_append_drop]
  have h2:(l.take i++l[i]::l.drop (i+1)).find? f=some l[i]:=by
   rw [List.find?_append,h,List.find?_cons,hf];rfl
  rw [<-e] at h2;exact h2
 .intro hf;rw [List.take_succ_eq_append_getElem hi,List.find?_append,h,List.find?_cons,hf];rfl):P:=h
theorem adV(h:P:=by
 have HBAD:=Hq (nM hlt (show nL l (j+1)=false by rw [ah nG];simp[iy,hA]));clear nG iH hA;exact Zk1):P:=h
theorem ajX(h:P:=by
 have HN:=Hq (λw1=>aP n false w1 hn);have HP:=Hq (show R=(decide (no=0)&&true&&false&&lF ⟨mK,mF,mT,mI,mL,mk,mN⟩) by rw [<-ah HR];simp[cu,hk,hn]);exact ajK):P:=h
theorem aBr(h:P:=by
 rw [YL];exact((aC.set _).mono Aac).trans ((aT [.int .i64 mF,.int .i64 (fE s0 mL),.slice (some ⟨gi,0,none⟩) (aV s0 mL).length OA] _ (i*3)).mono Aac)):P:=h
theorem adW(h:P:=by
 have HBAD:=Hq (nM hlt (show nL l 0=false by rw [ah nG];simp[iy,hA]));clear nG iH hA;exact Zk1):P:=h
theorem adX(h:P:=by
 go_wp2_with (go_at_call 201;refine(H1 _).mono ?_;rintro e w1 ⟨rfl,rfl⟩)
 go_ret;exact⟨aF HV.symm,nC⟩):P:=h
theorem axH(h:P:=by
 have Gj:=Hq (λw1=>nP k false w1 hs hc2);clear hr hc2;go_in
 go_wp2_with (first|(go_at_call_of 100 F;refine(H1 _).mono ?_;rintro e w1 ⟨rfl,rfl⟩)|(go_at_call_of 100 T;refine(H2 _).mono ?_;rintro e w1 ⟨rfl,rfl⟩)|(go_at_call_of 52 k;refine(Gj _).mono ?_;rintro e w1 ⟨rfl,rfl⟩))
 exact wM):P:=h
theorem ajY(h:P:=by
 have HP:=Hq (HD Aaj);clear HD HE hx;go_upto_region 6 with fail;go_quiet (fail);go_wp2_with fail;go_ret;exact .no HP (fD _ cK)):P:=h
theorem adY(h:P:=by
 cases fuel with
 |zero=>exact⟨h.1,λy hy=>h.2 y (Ge.trans hx hy)⟩
 |succ fuel=>exact λy hy=>h y (Ge.trans hx hy)):P:=h
theorem Vi(h:P:=by
 have h:=ah kS;rw [List.take_length] at h;exact nS.trans h):P:=h
theorem ajZ(h:P:=by
 have HF:Hid (TT=true):=by
  exact Vi
 go_wp2_with fail;go_ret;exact⟨aF HF.symm,cK⟩):P:=h
theorem aBs(h:P:=by
 rw [Dy s a Aaa];have h:=tH hc (a+4) (s.size - (a+4)) (s.size - (a+4)) Aaa;rw [h,show a+min (s.size - a) 1006=a+4+(s.size - (a+4)) by omega]):P:=h
theorem axI(h:P:=by
 have h2:=ih (w.setCell ⟨g,o,none⟩ v) (o+1) (λj' hj'=>by
  obtain⟨v1,hv1⟩:=h (j'+1) (by simpa using hj')
  refine⟨v1,(World.cell?_setCell_other _ _ _ _ (by simp<;>omega)).trans ?_⟩
  rw [<-hv1,show o+1+j'=o+(j'+1) by omega]) j Abf
 rw [show o+1+j=o+(j+1) by omega] at h2;exact h2):P:=h
theorem axJ(h:P:=by
 have h1:=(bY hok).1;have h2:=(bY hok).2.2.1;have h3:=vH h1;rw [wI h1,Bool.and_eq_true,decide_eq_true_eq] at h2;have h4:=congrArg List.length h2.1;rw [List.length_map,qh] at h4;unfold eD at h1;simp only[Bool.and_eq_true,decide_eq_true_eq] at h1;split at h3<;>omega):P:=h
theorem axK(h:P:=by
 refine run_convert_bytes_back (P:=prog) w 162 9 5 ⟨g,0,none⟩ 1 [UInt8.ofNat K.toNat] underlying162 underlying5 underlying9 ?_;intro j hj;obtain rfl:j=0:=Abf
 show w.cell? ⟨g,0,none⟩=_
 rw [hc];simp only[List.getElem_cons_zero];rw [toNat_byte _ Aaa];congr 2
 omega):P:=h
theorem ag5(h:P:=by
 clear hbad;go_in
 go_wp2_with (first|(go_at_call 251;refine(HS _).mono ?_;rintro e w1 ⟨rfl,rfl⟩;simp only[qZ])|(go_at_call 252;refine(yt _ _).mono ?_;rintro e w' ⟨rfl,rfl⟩))
 go_ret3
 exact⟨by rw [ah HR];rfl,Below.refl _ _⟩):P:=h
theorem ag6(h:P:=by
 clear eT;refine wp_region_quiet_below Aab Aab ?_;repeat (first|go_big_quiet_step ((first|(go_at_call 51;exact cN _ _)|(go_at_call 49;exact cS _ _)))|quiet_step ((first|(go_at_call 51;exact cN _ _)|(go_at_call 49;exact cS _ _))))
 exact ajQ):P:=h
theorem Vb(h:P:=by
 go_wp2_with fail;go_ret;exact⟨rfl,((Below.refl _ _).alloc (Nat.le_refl _) _).alloc Aac _⟩):P:=h
theorem Ef(h:P:=by
 simp only[Int.toNat_natCast] at h;rw [e] at h;exact h):P:=h
theorem ag7(h:P:=by
 obtain⟨e,hg,hc⟩:=h i hi;exact⟨e,hg,⟨by simpa using(hc 0 Aaa).1,by simpa using(hc 1 Aaa).1,by simpa using(hc 2 Aaa).1,by simpa using(hc 3 Aaa).1⟩,by simpa using(hc 0 Aaa).2,(hc 1 Aaa).2,(hc 2 Aaa).2,(hc 3 Aaa).2⟩):P:=h
theorem ag8(h:P:=by
 open anI in exact xL):P:=h
theorem awR(h:P:=by
 rcases Nat.lt_or_ge G.s B with h1|h1
 .have h2:=l7.lo G.s h1;rw [fq Aaa,hc4] at h2;omega
 .exact h1):P:=h
theorem awS(h:P:=by
 rcases zw.2 with⟨h1,_⟩|⟨g1,aC4,aC5,hv1,_,_,aDv,_⟩
 .simp at h1
 .simp only[Value.slice.injEq] at hv1;omega):P:=h
theorem awT(h:P:=by
 rw [Dy s a Aaa];have h:=tH hc (a+4) 1002 1002 Aaa;rw [h,show a+min (s.size - a) 1006=a+4+1002 by omega]):P:=h
theorem ag9(h:P:=by
 go_wp2_with (go_at_call 18;first|(refine(mH _ _ _ _ ?_ ?_).mono ?_;omega;omega;rintro e w' ⟨rfl,rfl⟩)|(refine(pV _ _ _ _ ?_).mono ?_;omega;rintro e w' ⟨rfl,rfl⟩))
 go_ret;exact⟨aF (by rw [ah HF];simp;omega),rfl⟩):P:=h
theorem aha(h:P:=by
 open anH in exact xL):P:=h
theorem Vd(h:P:=by
 exact(((Below.refl _ _).alloc (Nat.le_refl _) _).alloc Aac _).alloc Aag _):P:=h
theorem ahb(h:P:=by
 clear HR;clear ho;go_in
 go_wp2_with (first|(go_at_call_of 49 no;refine(HO _).mono ?_;rintro e w1 ⟨rfl,rfl⟩))
 all_goals
  go_ret
  refine⟨aF ?_,ay w _⟩
  rw [ah HP]
  simp[lF, *]):P:=h
theorem aam(h:P:=by
 have HBAD:=Hq (nM hlt (show nL l (j+1)=false by rw [ah nG];simp[hsl]));clear nG iH hsl;exact Zk1):P:=h
theorem ahc(h:P:=by
 have e1:(w.alloc a).heap.size=w.heap.size+1:=Aac
 have h1:=heap_alloc_new w a;have h2:=heap_alloc_new (w.alloc a) b;rw [e1] at h2;refine⟨?_,h2,(ay w _).alloc Aac _⟩;rw [Below.heap_alloc _ _ _ (by rw [e1];omega)];exact h1):P:=h
theorem ahd(h:P:=by
 rw [e0] at e2;injection e2 with e2
 injection e2 with e2 e3
 subst e2 e3;refine⟨_,?_,.inr ⟨j,_,rfl,rfl,p0⟩⟩;have h:=ah DW j hlt;rw [ah kS] at h;exact h):P:=h
theorem ahe(h:P:=by
 have hw:Region.wanted o (yielded ops a.tmps)=true:=by simp[Region.wanted,hgd]
 rw [if_pos hw];exact wp_append_own w s x t ho base e i z size bytes ht hi hz hsize hby hzs hsz v n xs hs hown ad m c news hx hl hnews h1 h63 hbytes hbase h):P:=h
theorem ahf(h:P:=by
 open auT in exact agH):P:=h
theorem ahg(h:P:=by
 intro vs;induction vs with
 |nil=>intro w o _;rfl
 |cons v vs ih=>
  intro w o h;rw [List.length_cons] at h;exact(ih (w.setCell ⟨g,o,none⟩ v) (o+1) Aaa).trans (World.cell?_setCell_other _ _ _ _ (by simp<;>omega))):P:=h
theorem Ve(h:P:=by
 unfold World.setCell;simp only[Array.getElem?_modify];rw [if_pos trivial,h];rfl):P:=h
theorem awV(h:P:=by
 rw [hW'];exact GR.setW_blk (iD n.id n.par a_k n.kids.length aY n.next jH n.pu.length dH fH n.out.length bE gG n.seen.length aZ n.old (some ⟨g,off,none⟩) n.reqs.length bg).toList (o:=0) (xs:=iF.toList) qA):P:=h
theorem ahh(h:P:=by
 unfold jd at h;rcases List.mem_append.1 h with h|h
 .exact .inr ((List.takeWhile_sublist _).mem h)
 .rcases List.mem_cons.1 h with h|h
  .exact .inl h
  .exact .inr ((List.dropWhile_sublist _).mem (FW l p.k q h))):P:=h
theorem ahi(h:P:=by
 open anG in exact xL):P:=h
theorem ahj(h:P:=by
 have hm:l[i]∈rG l key:=by
  rw [head_take];exact List.mem_take_iff_getElem.2 ⟨i,Aaa,rfl⟩
 have:=zq hm;rw [e] at this;exact absurd this (List.lt_irrefl _)):P:=h
theorem ahk(h:P:=by
 open avq in exact Va):P:=h
theorem ahl(h:P:=by
 have HP:Hid (TT=false):=ah HBAD (by rw [ah Ap,hbv];rfl);subst hbv;clear HBAD iH eT nS Ap;go_wp2_with fail;go_ret;exact⟨aF HP.symm,CP⟩):P:=h
theorem ahm(h:P:=by
 go_wp2_with fail;refine HKP.mono ?_;rintro e wz ⟨rfl,A5,G5,c5,hfin⟩;have DX:=Hq hfin;clear hfin;go_wp2_with fail;go_ret;rw [ah HAD];exact⟨rfl,A5,G5,c5,DX⟩):P:=h
theorem ahn(h:P:=by
 clear hbad;open auG in exact Z4):P:=h
theorem aho(h:P:=by
 go_wp2_with fail;go_quiet (fail);go_wp2_with fail;go_meet
 case rel=>exact⟨by rw [<-ah Jd,ah HJ],⟨rfl,rfl,rfl,Nat.le_refl _,λ_ _=>rfl⟩⟩):P:=h
theorem Vf(h:P:=by
 go_wp2_with fail
 all_goals
  go_ret
  exact⟨by simp[*],ay w _⟩):P:=h
theorem ahp(h:P:=by
 go_in
 go_wp2_with (first|(go_at_call_of 100 F;refine(H1 _).mono ?_;rintro e w1 ⟨rfl,rfl⟩)|(go_at_call_of 100 T;refine(H2 _).mono ?_;rintro e w1 ⟨rfl,rfl⟩))
 exact wM):P:=h
theorem ahq(h:P:=by
 subst hbv;clear HBAD iH eT nS Ap;go_wp2_with fail;go_roundw
 case rel=>exact⟨k+1,Aaa,Aah,HG,ai4,CP⟩
 case measure=>simp[intOf];omega):P:=h
theorem ahr(h:P:=by
 by_cases h:0<=je s i
 .exact(iQ h).2.2.2.1
 .unfold je at h;unfold jU;cases hG:textOf s i.toNat (iq s i) with
  |none=>simp[Yp]
  |some p=>rw [hG] at h;exact absurd (by simp[QU]) h):P:=h
theorem Ob(h:P:=by
 have:=ready_mono hj hji;rw [H.1] at this;cases this):P:=h
theorem awW(h:P:=by
 rw [hW'];exact aT (iD n.id n.par a_k n.kids.length aY n.next jH n.pu.length dH fH n.out.length bE gG n.seen.length aZ n.old (some ⟨g,off,none⟩) n.reqs.length bg).toList W1 0):P:=h
theorem Oc(h:P:=by
 go_wp2_with fail;go_ret;exact .no HP (Below.refl _ _)):P:=h
theorem aan(h:P:=by
 rcases Nat.lt_or_ge g w.heap.size with h'|h'
 .exact h'
 .rw [Array.getElem?_eq_none h'] at h;cases h):P:=h
theorem ahs(h:P:=by
 exact⟨e,Nat.lt_of_lt_of_le hg hk.size,λj hj=>⟨(World.cell?_of_block (w:=w) (hk.block g hg hne)).trans (hc j hj).1,(World.frozen?_of_block (w:=w) (hk.block g hg hne)).trans (hc j hj).2⟩⟩):P:=h
theorem Oe(h:P:=by
 repeat (refine Below.setNew ?_ Aaa)
 exact HB1):P:=h
theorem aht(h:P:=by
 obtain⟨g',off',e,hg',hc⟩:=hat i hi;cases e
 refine⟨rfl,hg',λj hj=>⟨?_,?_⟩⟩
 .have:=hc j hj;rwa [Nat.zero_add] at this
 .unfold World.frozen?;rw [hblk];simp):P:=h
theorem Vg(h:P:=by
 go_wp2_with fail;go_ret;exact⟨-1,rfl,Below.refl _ _,.inl rfl⟩):P:=h
theorem aao(h:P:=by
 rintro e w' ⟨rfl,A',G',c',hW'⟩;exact⟨rfl,A',G',c',v,by rw [List.append_nil];exact hW'⟩):P:=h
theorem ahu(h:P:=by
 rcases List.mem_append.1 h1 with h1|h1
 .have:=c5 x h1;omega
 .have:=c6 x h1;omega):P:=h
theorem Og(h:P:=by
 go_wp2_with fail;go_ret;exact⟨rfl,rfl⟩):P:=h
theorem ahv(h:P:=by
 generalize l[k]=y at *;go_wp2_with fail;go_round
 case rel=>exact⟨k+1,Aaa,Aah,by rw [ah HS,ah HN];rfl⟩
 case measure=>simp[intOf];omega):P:=h
theorem ahw(h:P:=by
 have hc:∀i,w.cell? ⟨g,i,none⟩=#[v0,v1,v2,v3,v4,v5,v6,v7,v8,v9,v10][i]?:=λi=>cell_of_row w g i _ t (0,0) h
 exact⟨hc 0,hc 1,hc 2,hc 3,hc 4,hc 5,hc 6,hc 7,hc 8,hc 9,hc 10⟩):P:=h
theorem ahx(h:P:=by
 split at h
 .omega
 .split at h
  .omega
  .split at h
   .omega
   .cases h):P:=h
theorem ahy(h:P:=by
 go_wp2_with fail;refine(HO _).mono ?_;rintro e w1 ⟨rfl,hb1⟩;have hB:=(ay w _).trans (hb1.mono Aac);clear hb1 HO;go_wp2_with fail;go_ret;exact⟨rfl,hB⟩):P:=h
theorem ahz(h:P:=by
 exact bodyPost_ret (v:= .tuple #[.agg (bV 0 0 0 0 0 ⟨#[]⟩ 0),.bool false]) Adf rfl ⟨Abi,hbb⟩):P:=h
theorem ahA(h:P:=by
 exact bodyPost_ret (v:= .tuple #[.agg (bV 0 0 0 0 0 ⟨#[]⟩ 0),.bool false]) Adg rfl ⟨Abi,hbb⟩):P:=h
theorem awZ(h:P:=by
 obtain⟨g,rest,e,hb,_⟩:=wC yM.r (show 0 < n.reqs.length by omega);exact⟨g,e,hb,λx=>by rw [show gM=some ⟨g,0,none⟩ from e];simp[Value.ownBlock,eq_comm]⟩):P:=h
theorem aap(h:P:=by
 go_ret;exact⟨aF HN.symm,ay w _⟩):P:=h
theorem Oh(h:P:=by
 go_ret;exact⟨aF HP.symm,dS w _⟩):P:=h
theorem ahB(h:P:=by
 go_wp2_with fail;refine(HO _).mono ?_;rintro e w1 ⟨rfl,hb1⟩;have hB:=(ay w _).trans (hb1.mono Aac);clear hb1;go_wp2_with fail;go_ret;exact⟨rfl,hB⟩):P:=h
theorem ahC(h:P:=by
 go_wp2_with fail;go_quiet (fail);go_wp2_with fail;go_meet
 case rel=>exact⟨by rw [ah HJ],⟨rfl,rfl,rfl,Nat.le_refl _,λ_ _=>rfl⟩⟩):P:=h
theorem ahD(h:P:=by
 go_wp2_with fail;exact bodyPost_ret (v:= .tuple #[vZ ⟨0,F,T,I,L,k,N⟩,.bool false]) Aax rfl ⟨Aav,fG⟩):P:=h
theorem ahE(h:P:=by
 go_wp2_with fail;exact bodyPost_ret (v:= .tuple #[vZ ⟨2,F,T,I,L,k,N⟩,.bool false]) Aax rfl ⟨Aav,fG⟩):P:=h
theorem Oi(h:P:=by
 exact⟨0,Nat.zero_le _,rfl,Below.refl _ _,rfl⟩):P:=h
theorem ahF(h:P:=by
 rcases Nat.lt_or_ge 0 w.heap.size with h'|h'
 .exact h'
 .have h:=hH;unfold Handle World.cell? at h;rw [Array.getElem?_eq_none h'] at h;cases h):P:=h
theorem ahG(h:P:=by
 rw [ej,<-hf,hu] at h2;injection e with e
 subst e;have ea:(⟨g,off,none⟩:Addr).add j=⟨g,off+j,none⟩:=by unfold Addr.add;split<;>simp_all
 rw [ea];exact h2):P:=h
theorem ahH(h:P:=by
 exact⟨e,Nat.lt_of_lt_of_le hg hs,λj hj=>⟨(World.cell?_of_block (w:=w) hbx).trans (hc j hj).1,(World.frozen?_of_block (w:=w) hbx).trans (hc j hj).2⟩⟩):P:=h
theorem ahI(h:P:=by
 intro vs;induction vs with
 |nil=>intro w o;rfl
 |cons v vs ih=>intro w o;exact(ih (w.setCell ⟨g,o,none⟩ v) (o+1)).trans (by rw [World.frozen?_setCell])):P:=h
theorem ahJ(h:P:=by
 have h:=ah jy k hlt;have h2:=ah kS;rw [<-ah HY] at h;exact h.trans (by rw [show(λs t:Int=>iM s t)=iM from rfl,h2];rfl)):P:=h
theorem ahK(h:P:=by
 generalize je s ((a:Int)+4)=E at *;generalize lX (j6 (jU s ((a:Int)+4)))=bW at *;generalize j6 (jU s ((a:Int)+4))=nn at *;exact awQ):P:=h
theorem ahL(h:P:=by
 rw [hr];refine⟨λh=>Aat,λj hj=>?_⟩;obtain rfl:j=i:=Abf
 unfold wpOp;simp only[hi];rw [if_pos hw];exact .inl (h x hx)):P:=h
theorem ahM(h:P:=by
 go_in
 go_wp2_with (go_at_call 39;refine(HI _).mono ?_;rintro e w1 ⟨rfl,rfl⟩)
 go_ret;exact⟨rfl,ay w _⟩):P:=h
theorem ahN(h:P:=by
 intro vs;induction vs with
 |nil=>intro w o;rfl
 |cons v vs ih=>intro w o;exact(ih (w.setCell ⟨g,o,none⟩ v) (o+1)).trans Aaq):P:=h
theorem ahO(h:P:=by
 rcases Rc with h|⟨j,y,h1,h2,h3⟩
 .exact .inl h
 .exact .inr ⟨j,y,h1,h2,(hbw.cell (p:=⟨g,off+j*4,none⟩) hgw).trans h3⟩):P:=h
theorem ahP(h:P:=by
 go_wp2_with fail;go_quiet (fail);go_wp2_with fail;go_meet
 case rel=>exact⟨by rw [ah Rc],_,AV w1 _ _⟩):P:=h
theorem Vh(h:P:=by
 rw [h1];exact⟨h2r,by rw [bJ Aaa];omega⟩):P:=h
theorem aaq(h:P:=by
 go_in
 go_wp2
 go_ret;exact⟨rfl,rfl⟩):P:=h
theorem aw2(h:P:=by
 have hy3:(x == par)=true:=by simp[hx3]
 have HP:=Hq (HBAD (by rw [ah iH];simp[jX,hx3]));clear HBAD iH hx3;exact adQ):P:=h
theorem aw3(h:P:=by
 have hy2:(x == id)=true:=by simp[hx2]
 have HP:=Hq (HBAD (by rw [ah iH];simp[jX,hx2]));clear HBAD iH hx2;exact adQ):P:=h
theorem ahQ(h:P:=by
 clear HD h1;go_in
 go_wp2_with (go_at_call 169;refine(H1 _).mono ?_;rintro e w1 ⟨rfl,rfl⟩)
 exact wM):P:=h
theorem ahR(h:P:=by
 clear h1 HD;go_in
 go_wp2_with (go_at_call 207;refine(H1 _).mono ?_;rintro e w9 ⟨rfl,rfl⟩)
 exact wM):P:=h
theorem ahS(h:P:=by
 exact⟨0,Nat.zero_le _,rfl,by unfold rQ GR.Blk;rw [List.take_zero,List.nil_append,Nat.sub_zero];exact heap_alloc_new w _,dS w _⟩):P:=h
theorem ahT(h:P:=by
 go_in
 go_wp2_with (first|(go_at_call_of 201 F;refine(H1 _).mono ?_;rintro e w1 ⟨rfl,rfl⟩))
 exact wM):P:=h
theorem ahU(h:P:=by
 rw [beq_eq_false_iff_ne];intro h;rw [ByteArray.toList_eq,ByteArray.toList_eq] at h;exact hp (ByteArray.ext (Array.ext' h))):P:=h
theorem ahV(h:P:=by
 go_in
 go_wp2_with (first|(go_at_call_of 100 F;refine(H1 _).mono ?_;rintro e w1 ⟨rfl,rfl⟩))
 exact wM):P:=h
theorem aar(h:P:=by
 go_in
 go_wp2
 go_ret;exact⟨rfl,rfl⟩):P:=h
theorem aas(h:P:=by
 go_in
 go_wp2
 go_ret;exact⟨rfl,rfl⟩):P:=h
theorem ahW(h:P:=by
 have h:=(bY hok).1;unfold eD at h;simp only[Bool.and_eq_true,decide_eq_true_eq] at h;exact decide_eq_false Aaa):P:=h
theorem ahX(h:P:=by
 exact⟨0,Nat.zero_le _,rfl,by unfold GR.Blk;rw [List.take_zero,List.nil_append,Nat.sub_zero];exact heap_alloc_new w _,dS w _⟩):P:=h
theorem ahY(h:P:=by
 refine⟨h.1,?_⟩;rcases h.2 with h2|⟨g,cap,cur,hv,hg,hr⟩
 .exact .inl h2
 .exact .inr ⟨g,cap,cur,hv,Nat.le_trans hb hg,hr⟩):P:=h
theorem ahZ(h:P:=by
 go_in
 go_wp2_with (go_at_call 201;refine(HA _).mono ?_;rintro e w1 ⟨rfl,rfl⟩)
 exact aap):P:=h
theorem ah0(h:P:=by
 subst hx;by_cases hx:x2=y2
 case' neg=>
  have hq:(x2 == y2)=false:=Aaf
  exact aaG
 exact axm):P:=h
theorem aau(h:P:=by
 unfold wpOp;simp only[hi];rw [if_pos hwi];exact .inl (h1 x hx)):P:=h
theorem aav(h:P:=by
 unfold wpOp;simp only[hj];rw [if_pos hwj];exact .inl (h2 x hx)):P:=h
theorem aaw(h:P:=by
 go_in
 go_wp2
 go_ret;exact⟨rfl,rfl⟩):P:=h
theorem ah1(h:P:=by
 have hj9:j < 9:=(List.getElem?_eq_some_iff.1 hj).1;rcases yj hj9 with rfl|rfl|rfl|rfl|rfl|rfl|rfl|rfl|rfl<;>exact hj):P:=h
theorem ah2(h:P:=by
 subst hji;exact(hy.toG hb).wpOp hi hx λy hy'=>⟨hy'.mono (Nat.le_trans hb hx.size),CB (Ge.trans hx hy') H⟩):P:=h
theorem ah3(h:P:=by
 go_in
 go_wp2_with (go_at_call 101;refine HH.mono ?_;rintro e w1 ⟨rfl,rfl⟩)
 exact aap):P:=h
theorem ah4(h:P:=by
 go_in
 go_wp2
 refine wp_loop_rounds 1 ?_;rw [rounds_succ];go_wp2
 go_ret;exact⟨rfl,rfl⟩):P:=h
theorem ah5(h:P:=by
 have hl:=bq s;unfold kb;cases hd:s.data.toList with
 |nil=>rw [hd] at hl;simp at hl;omega
 |cons b r=>simp):P:=h
theorem ah6(h:P:=by
 go_wp2_with fail;go_roundw
 case rel=>exact⟨k+1,Aaa,Aah,HB1⟩
 case measure=>simp[intOf];omega):P:=h
theorem ah7(h:P:=by
 go_wp2_with fail;go_roundw
 case rel=>exact⟨k+1,Aaa,Aah,HS⟩
 case measure=>simp[intOf];omega):P:=h
theorem aax(h:P:=by
 exact((Below.refl _ _).alloc (Nat.le_refl _) _).alloc Aac _):P:=h
theorem ah8(h:P:=by
 go_wp2_with (go_at_call 18;refine(xY _ _ _ r _ h).mono ?_;rintro e w1 ⟨rfl,rfl⟩)
 go_ret;exact⟨rfl,rfl⟩):P:=h
theorem ah9(h:P:=by
 obtain⟨c0,c1,c2,c3,c4,c5,c6,c7,c8,c9⟩:=jE h.blk;clear h;go_in
 exact Og):P:=h
theorem aia(h:P:=by
 go_round
 case rel=>exact⟨k+1,x,Aaa,Aah,rfl,Dq.symm,HV⟩
 case measure=>simp[intOf];omega):P:=h
theorem aib(h:P:=by
 rcases hrow.2 with⟨rfl,h0⟩|⟨g,cap,cur,rfl,_⟩
 .exact⟨none,0,by rw [h0]⟩
 .exact⟨_,_,rfl⟩):P:=h
theorem aic(h:P:=by
 rw [List.length_append,List.length_append,gW,List.length_take,List.length_drop,List.length_drop];omega):P:=h
theorem aie(h:P:=by
 obtain⟨a,cp,he,ha⟩:=GR.own_at (enc:=aS) (sz:=4) (l:=n.out) bH h.o;cases he
 exact ha):P:=h
theorem aif(h:P:=by
 obtain⟨a,cp,he,ha⟩:=GR.own_at (enc:=aL) (sz:=4) (l:=n.reqs) aR h.r;cases he
 exact ha):P:=h
theorem aii(h:P:=by
 subst hji;exact hy.toG.wpOp hi hx λy hy'=>⟨aC.of_below hy',CG (Ge.trans hx hy') H⟩):P:=h
theorem aay(h:P:=by
 simp only[Bool.and_eq_true,decide_eq_true_eq] at h;omega):P:=h
theorem aaz(h:P:=by
 simp only[Bool.and_eq_true,decide_eq_true_eq];omega):P:=h
theorem aij(h:P:=by
 exact hk2.seen (hk1.seen hno.s hno.c4 hno.ci Aaa Aaa) hno.c4 hno.ci Aaa Aaa):P:=h
theorem aik(h:P:=by
 have h:=ah jy k hlt;have h2:=ah kS;rw [<-ah HY] at h;rw [h,h2];rfl):P:=h
theorem aaA(h:P:=by
 go_ret2
 exact⟨rfl,hb1.trans (hb2.mono hb1.size)⟩):P:=h
theorem ail(h:P:=by
 simp[h'] at h3 h4;rw [h4] at h3;cases h3):P:=h
theorem aaB(h:P:=by
 have:=dY hx;rw [this.1];exact eu Aaa):P:=h
theorem ain(h:P:=by
 clear hf HC;go_in
 go_wp2_with fail;go_ret;exact .no HP hbz):P:=h
theorem aio(h:P:=by
 rw [List.length_append,List.length_append,List.length_take,List.length_drop,h1];show _+4+_=_
 omega):P:=h
theorem aip(h:P:=by
 rcases List.mem_cons.1 (hs a Aac) with h|h
 .exact absurd h hab
 .exact h):P:=h
theorem aiq(h:P:=by
 go_in
 go_wp2
 go_ret;exact⟨aF HF.symm,rfl⟩):P:=h
theorem aw6(h:P:=by
 have HP:=Hq (HBAD (by rw [ah iH];simp[jX,hx1]));clear HBAD iH;exact adQ):P:=h
theorem air(h:P:=by
 refine zO hi h hf.symm ?_;have:=K7 hs hL;rw [hf] at this;exact this):P:=h
theorem aaC(h:P:=by
 obtain⟨p,rfl⟩:=regrown_of_below hx;exact hv p):P:=h
theorem ais(h:P:=by
 go_simp;go_wp2_with fail;go_ret;exact⟨rfl,A,G,c,v,by rw [List.append_nil];exact HZ⟩):P:=h
theorem ait(h:P:=by
 rw [<-wG s i j k hk hlt,QW s i j k m v hk hlt hu h,Nat.mod_eq_of_lt Aaa]):P:=h
theorem aiu(h:P:=by
 rcases List.mem_append.1 h1 with h1|h1
 .have:=c4 x h1;omega
 .exact ahu):P:=h
theorem aiv(h:P:=by
 simp[Array.getElem?_eq_none h'] at h3):P:=h
theorem aiw(h:P:=by
 rcases List.mem_cons.1 hx with h2|h2
 .omega
 .have:=hA'.1 x h2;omega):P:=h
theorem aix(h:P:=by
 clear hv2 hu2 hv5 hu;go_wp2
 go_ret2
 exact⟨get_none HR,Below.refl _ _⟩):P:=h
theorem aiy(h:P:=by
 rw [hs1,hs2];exact hy.imp (fun⟨p,q⟩=>⟨p,λz hz=>q z (hwy.trans hz)⟩) id):P:=h
theorem aaD(h:P:=by
 exact⟨0,Nat.zero_le _,rfl,rfl,Below.refl _ _⟩):P:=h
theorem aiz(h:P:=by
 cases sp with
 |nil=>simp at abx;omega
 |cons s0 sp'=>exact⟨s0,sp',rfl⟩):P:=h
theorem aiA(h:P:=by
 cases v.ownBlock with
 |none=>exact .inl rfl
 |some k=>exact .inr (by intro e;cases e)):P:=h
theorem aiB(h:P:=by
 simp only[Bool.and_eq_true] at h;exact⟨TI (of_decide_eq_true h.1.1.1),zm h.2⟩):P:=h
theorem aiC(h:P:=by
 subst hji;exact hy.wpOp hi hx λy hy'=>⟨hy',vQ (Ge.trans hx hy') H⟩):P:=h
theorem aiD(h:P:=by
 subst hji;exact hy.wpOp hi hx λy hy'=>⟨hy',CF (Ge.trans hx hy') H⟩):P:=h
theorem aiE(h:P:=by
 obtain⟨D,⟨es,clock,h1,h2⟩,ha⟩:=h;exact⟨D,⟨es,clock,hb.trans h1,h2⟩,ha⟩):P:=h
theorem aiF(h:P:=by
 subst hji;exact hy.wpOp hi hx λy hy'=>⟨hy',F8 (Ge.trans hx hy') H⟩):P:=h
theorem aiG(h:P:=by
 rintro e w' ⟨rfl,rfl⟩;exact⟨rfl,A,G,c,v,by rw [List.append_nil];exact h⟩):P:=h
theorem aaE(h:P:=by
 rw [Nat.add_mul,Nat.one_mul] at this;omega):P:=h
theorem aaF(h:P:=by
 go_wp2_with fail;go_ret;exact⟨rfl,HB1⟩):P:=h
theorem aiH(h:P:=by
 rw [if_neg Aaa,if_neg ej];exact h.nd i j hi' hj hij Aaa h1 h2):P:=h
theorem aiI(h:P:=by
 exact⟨k+1,Aaa,Aah,iR.trans ((Ge.trans Rh yP).mono iR.size)⟩):P:=h
theorem axa(h:P:=by
 show(takeN n o.m).1.id=n.id
 unfold takeN;split
 .rfl
 .split<;>rfl):P:=h
theorem aiJ(h:P:=by
 have HV:=Hq (HBM (by rw [ah iH];simp[Bh,h1]));exact axh):P:=h
theorem aiK(h:P:=by
 unfold cu at h;split at h
 .omega
 .split at h
  .omega
  .exact ahx):P:=h
theorem aiL(h:P:=by
 unfold dJ qQ at *;split at h
 .cases h
 .rename_i hc
  rw [if_neg hc]):P:=h
theorem Yk0(h:P:=by
 open anV in exact awj):P:=h
theorem Sk0.Kk0(h:P:=by
 have HCQ:=Hq (AA.nine (Nat.zero_le _));open aml in exact RZ):P:=h
theorem Sk1.Kk0(h:P:=by
 open amk in exact RZ):P:=h
theorem Sk2.Kk0(h:P:=by
 open amj in exact RZ):P:=h
theorem Sk3.Kk0(h:P:=by
 open ami in exact RZ):P:=h
theorem Sk4.Kk0(h:P:=by
 open amh in exact RZ):P:=h
theorem Sk5.Kk0(h:P:=by
 open amg in exact RZ):P:=h
theorem Sk6.Kk0(h:P:=by
 open amf in exact RZ):P:=h
theorem Yk1(h:P:=by
 have HX:=Hq hx;have HKQ:=Hq hK;clear hx hK;generalize fu n o=TT at *;open aAX in exact adK):P:=h
theorem Sk7.Kk1(h:P:=by
 have c0:W.cell? ⟨w2.heap.size,5,none⟩=some (.func (.func 180) #[.pointer (some ⟨wb,0,none⟩)] #[]):=cell_of_row W _ 5 _ _ (0,0) e1;exact Zk4):P:=h
theorem Sk8.Kk1(h:P:=by
 have c0:W.cell? ⟨w2.heap.size,4,none⟩=some (.func (.func 179) #[.pointer (some ⟨wb,0,none⟩)] #[]):=cell_of_row W _ 4 _ _ (0,0) e1;exact Zk4):P:=h
theorem Sk9.Kk1(h:P:=by
 have c0:W.cell? ⟨w2.heap.size,3,none⟩=some (.func (.func 178) #[.pointer (some ⟨wb,0,none⟩)] #[]):=cell_of_row W _ 3 _ _ (0,0) e1;exact Zk4):P:=h
theorem azX.Kk1(h:P:=by
 have c0:W.cell? ⟨w2.heap.size,2,none⟩=some (.func (.func 177) #[.pointer (some ⟨wb,0,none⟩)] #[]):=cell_of_row W _ 2 _ _ (0,0) e1;exact Zk4):P:=h
theorem azY.Kk1(h:P:=by
 have c0:W.cell? ⟨w2.heap.size,1,none⟩=some (.func (.func 176) #[.pointer (some ⟨wb,0,none⟩)] #[]):=cell_of_row W _ 1 _ _ (0,0) e1;exact Zk4):P:=h
theorem azZ.Kk1(h:P:=by
 have c0:W.cell? ⟨w2.heap.size,0,none⟩=some (.func (.func 175) #[.pointer (some ⟨wb,0,none⟩)] #[]):=cell_of_row W _ 0 _ _ (0,0) e1;exact Zk4):P:=h
theorem Yk2(h:P:=by
 have Xb:aC [sb,G.s] wc W6:=by
  exact aBr
 have HIW:Hid (GR.W aU 1 W6 (some ⟨gi,0,none⟩) gi (aV s0 mL)):=by
  exact aBq
 have adG:Hid (W6.heap[sb]?=some (.cells #[.int .i64 mF,.int .i64 (fE s0 mL),.slice (some ⟨gi,0,none⟩) (aV s0 mL).length OA] 110 (0,0))):=by rw [YL];exact lS _ hne1 (lS _ hne1 (lS _ hne1 (aN Zr 2 _)))
 have nD:=Hq (Xb.obj CS (λhx=>Aak));have ads:=Hq (Xb.obj alJ (λhx=>Aak));have lI:=Hq (Xb.obj Rx (λhx=>Aak))
 have hBs:B<=G.s:=by
  exact awR
 have alu:=Hq ((nR.mono hB).trans (Xb.below (B:=B) (λx hx=>Aak) (Nat.le_trans hB nR.size)))
 have alH:=Hq (Apart.keeps (c:=c) (Apart.of_below nR) nR.size Xb (λx hx=>by
  have h1:x=sb\/x=G.s:=Aaf
  rcases h1 with rfl|rfl
  .left;omega
  .right;omega))
 have aDf:gi < W6.heap.size:=Nat.lt_of_lt_of_le aBP Xb.size;have aDF:w.heap.size+3<=W6.heap.size:=by have:=aA adG;omega
 have HCO:Hid (∀x,x < w.heap.size->6 < c x->uP gi (aV s0 mL) (newC w.heap.size 9 c) x=9):=λx hx h=>by rw [uY (λhm=>by have:=(dY hm).1;omega),fq hx];exact H9 x h
 have DW:Hid (∀x,w.heap.size<=x->x≠gi->uP gi (aV s0 mL) (newC w.heap.size 9 c) x=9):=λx hx h=>by rw [uY (λhm=>h (dY hm).1)];exact bJ hx
 clear YL Xb hW5 Rs y0 y1 y2 x0 x1 x2 s40 s41 s42 sf c0 c1 c2 c3 c4 c5 c6 c7 c8 hnl CS alJ Rx Zr nR;obtain⟨c0,c1,c2,c3,c4,c5,c6,c7,c8⟩:=nine nD;obtain⟨m0,m1,m2,m3,m4,m5,m6⟩:=jD ads;have hnl:=aA nD;have hml:=aA ads;go_upto_region 16 with fail;refine wp_at (λW7 Vn=>?_);have uT:=ay W6 (.cells (bV 2 n.id mF mI 0 ⟨#[]⟩ 0) 98);have ha7:=heap_alloc_new W6 (.cells (bV 2 n.id mF mI 0 ⟨#[]⟩ 0) 98);rw [<-Vn] at uT ha7;have YV:=Hq ha7;have qV:=Hq (au nD uT);have adt:=Hq (au ads uT);have nU:=Hq (au lI uT);have adH:=Hq (au adG uT);have ado:=Hq (HIW.below uT);have adw:=Hq (VZ.kc (k:=9) (KC.of_below uT) Aaa);have ai2:=Hq (alu.trans (uT.mono (Nat.le_trans hB Aaa)));have ai9:=Hq (alH.step Aaa uT);obtain⟨ab,hab⟩:∃ab,W6.heap.size=ab:=⟨_,rfl⟩;have aC9:w.heap.size+3<=ab:=Aaa
 have habs:sb < ab:=by have:=aA adG;omega
 have aDa:gi < ab:=Aaa
 rw [hab] at YV;rw [hab] at *;have hz7:=aA YV;clear Vn uT ha7 c0 c1 c2 c3 c4 c5 c6 c7 c8 m0 m1 m2 m3 m4 m5 m6 hnl hml nD ads lI adG HIW VZ alu alH;obtain⟨m0,m1,m2,m3,m4,m5,m6⟩:=jD adt;obtain⟨s70,s71,s72⟩:=BQ adH;have hml:=aA adt;have aCi:=aA adH;have Zb:=Hq (λW (ha:bX W (some ⟨gi,0,none⟩) (aV s0 mL))=>VK (some ⟨gi,0,none⟩) OA (aV s0 mL) mI W Aaa ha);exact Kk2):P:=h
theorem az0.Kk2(h:P:=by
 open amD in exact awf):P:=h
theorem az1.Kk2(h:P:=by
 open amC in exact awf):P:=h
theorem az2.Kk2(h:P:=by
 obtain⟨c0,c1,c2,c3,c4,c5,c6,c7,c8⟩:=nine qV;open asO in exact af5):P:=h
theorem Yk3(h:P:=by
 open aoQ in exact awn):P:=h
theorem az3.Kk3(h:P:=by
 obtain⟨c0,c1,c2,c3,c4,c5,c6,c7,c8⟩:=nine jO;have hml:=aA yL;have hnl:=aA jO;go_wp2_with fail;refine(HGV W2 (Nat.le_trans hB HB2.size) Kg).mono ?_;open aqI in exact awO):P:=h
theorem az4.Kk3(h:P:=by
 open amn in exact av9):P:=h
theorem az5.Kk3(h:P:=by
 open amm in exact av9):P:=h
theorem az6.Kk3(h:P:=by
 obtain⟨c0,c1,c2,c3,c4,c5,c6,c7,c8⟩:=nine jO;have hml:=aA yL;have hnl:=aA jO;have nC:=Hq (World.ownsRow_lit (base:=W2.heap.size) (e:=91) (size:=4) W2 #[] 0 (Nat.le_refl _) Aae rfl);go_wp2_with fail;clear m0 m1 m2 m3 m4 m5 m6 c0 c1 c2 c3 c4 c5 c6 c7 c8 hml hnl;go_loopw [7,8] (λv i wr=>∃(k:Nat) (a:Option Addr) (cp:Nat),k<=n.out.length/\v= .slice a (FL k).length cp/\i= .int .i64 k/\wr.ownsRow W2.heap.size 91 4 (.slice a (FL k).length cp) (FL k).length (GR.flat aS (FL k))/\aI W2 wr) (λ_ i _=>n.out.length - (intOf i).toNat)
 case atStart=>exact⟨0,some ⟨W2.heap.size,0,none⟩,0,Nat.zero_le _,by rw [ah HF0];rfl,rfl,by rw [ah HF0];exact nC,ay W2 _⟩
 case round=>
  obtain⟨k,a,cp,hk,rfl,rfl,hown,hbw⟩:=hrel;have HO:=Hq hown;have iR:=Hq hbw;have lH:=Hq (au jO hbw);have VW:=Hq (au yL hbw);have HNK:=Hq (HFN k);clear hown hbw;obtain⟨m0,m1,m2,m3,m4,m5,m6⟩:=jD VW;obtain⟨c0,c1,c2,c3,c4,c5,c6,c7,c8⟩:=nine lH;have hml:=aA VW;have hnl:=aA lH;by_cases hlt:k < n.out.length
  .have OU:(k:Int) < (n.out.length:Int):=Aaa
   have HFK:=Hq (HFS k hlt);obtain⟨g,off,e0,hg,s0,s1,s2,s3⟩:=SentAt.four (GR.At.below Kg.at.o iR) k hlt;rw [e0] at c5;clear e0;generalize n.out[k]=sk at *;obtain⟨si,st,sk,sn⟩:=sk;dsimp only at s0 s1 s2 s3 HFK;obtain⟨FK,hFK⟩:∃FK,FL (k+1)=FK:=⟨_,rfl⟩;have HX0:=Hq hFK;rw [hFK] at HFK;clear hFK;by_cases hA:si=mI
   .by_cases hB2:st=mF
    .have HX:Hid (FK=FL k):=by unfold Hid;rw [ah HFK,if_pos ⟨hA,hB2⟩]
     have x0:(si != mI)=false:=by simp[hA]
     have x1:(st != mF)=false:=by simp[hB2]
     clear hA hB2 HFK;go_wp2_with fail;go_quiet (fail);go_wp2_with fail;go_roundw
     case rel=>exact⟨k+1,a,cp,Aaa,by rw [ah HX0,ah HX],Aah,by rw [ah HX0,ah HX];exact HO,iR.trans (Below.mono (B:=(wr.drewN nq).heap.size) ⟨rfl,rfl,rfl,Nat.le_refl _,λ_ _=>rfl⟩ iR.size)⟩
     case measure=>simp[intOf];omega
    .have HX:Hid (FK=FL k++[⟨si,st,sk,sn⟩]):=by unfold Hid;rw [ah HFK,if_neg (λe=>hB2 e.2)]
     have x0:(si != mI)=false:=by simp[hA]
     have x1:(st != mF)=true:=by simpa using hB2
     clear hA hB2 HFK;exact aw9
   .have HX:Hid (FK=FL k++[⟨si,st,sk,sn⟩]):=by unfold Hid;rw [ah HFK,if_neg (λe=>hA e.1)]
    have x0:(si != mI)=true:=by simpa using hA
    clear hA HFK;exact aw9
  .have hke:k=n.out.length:=Aaa
   subst hke;have hnlt:decide ((n.out.length:Int) < (n.out.length:Int))=false:=Aac
   have lu:=Hq (au jA iR);have HN3:=Hq (Kg.kc (k:=9) (KC.of_below iR) Aaa);have HB3:=Hq (HB2.trans (iR.mono HB2.size));have h2r:=aA jA;clear hlt hk HNK HFS HFN HF0 nC iR jO yL jA Kg HB2;have f5n:=aj lH 5;go_upto_region 14 with fail;refine wp_at (λZ hZ=>?_);have CS:Hid (Z.heap[w.heap.size]?=some (.cells (iD n.id n.par A.k n.kids.length A.ck n.next A.p n.pu.length A.cp a (FL n.out.length).length cp A.s n.seen.length A.cs n.old A.r n.reqs.length A.cr) 40 (0,0))):=by rw [hZ];exact ow lH
   have Rx:Hid (Z.heap[w.heap.size+2]?=some (.cells iF 40 (0,0))):=by rw [hZ];exact jg lu Aaa
   have HN4:Hid (NQ Z B n A G (newC w.heap.size 9 c)):=by rw [hZ];exact HN3.kc (k:=9) (KC.set (bJ (Nat.le_refl _))) Aaa
   have HO4:Hid (Z.ownsRow W2.heap.size 91 4 (.slice a (FL n.out.length).length cp) (FL n.out.length).length (GR.flat aS (FL n.out.length))):=by rw [hZ];exact dQ HO (aC.set _) (λy hy=>by have:y=w.heap.size:=Aar;omega)
   have nR:Hid (Below B w Z):=by rw [hZ];exact(HB3.mono hB).setCell (p:=⟨w.heap.size,5,none⟩) hB _
   have HK4:Hid (Apart c w Z):=by rw [hZ];exact(Apart.of_below HB3).keeps HB3.size (aC.set _) (λy hy=>by have:y=w.heap.size:=Aar;omega)
   clear hZ f5n c0 c1 c2 c3 c4 c5 c6 c7 c8 m0 m1 m2 m3 m4 m5 m6 hml hnl lH VW lu HN3 HB3 HO;have uO:=Hq (au Rx (ay Z (.cells #[] 98)));have uS:=Hq (nR.trans ((ay Z (.cells #[] 98)).mono (Nat.le_trans hB nR.size)));have HKA:=Hq (HK4.step nR.size (ay Z (.cells #[] 98)));have M8:=Hq (HN4.kc (k:=9) (KC.of_below (ay Z (.cells #[] 98))) Aaa);have HOA:=Hq (GR.own_below HO4 (ay Z (.cells #[] 98)));obtain⟨c0,c1,c2,c3,c4,c5,c6,c7,c8⟩:=nine CS;open amW in exact Wo):P:=h
theorem az7.Kk3(h:P:=by
 obtain⟨c0,c1,c2,c3,c4,c5,c6,c7,c8⟩:=nine jO;have hml:=aA yL;have hnl:=aA jO;go_wp2_with fail;refine(NJ W2 (Nat.le_trans hB HB2.size) Kg).mono ?_;open aqH in exact awO):P:=h
theorem Yk4(h:P:=by
 have hiI:(i:Int) < (n.reqs.length:Int):=Aaa
 have alU:=Hq hrq;clear hrq;have hp:=iX hok;have Nz:=Hq (λW1 (ha:fU W1 gM n.reqs)=>Ac n (⟨a_k,jH,fH,gG,gM,aY,dH,bE,aZ,bg⟩:bQ) no W1 Aaa hp.1 ha);rw [hJ] at Nz;clear hp hok hJ;open asE in exact ZO):P:=h
theorem az8.Kk4(h:P:=by
 dsimp only at q0 q1 q2 q3 h1 h2 h3;open aAS in exact av5):P:=h
theorem az9.Kk4(h:P:=by
 dsimp only at q0 q1 q2 q3 h1 h2 h3;exact ajI):P:=h
theorem aAa.Kk4(h:P:=by
 dsimp only at q0 q1 q2 q3 h1 h2;exact ajI):P:=h
theorem aAb.Kk4(h:P:=by
 dsimp only at q0 q1 q2 q3 h1;exact ajI):P:=h
theorem Yk5(h:P:=by
 open aok in exact Wq):P:=h
theorem aAc.Kk5(h:P:=by
 go_wp2_with fail;exact bodyPost_ret (v:= .tuple #[vZ ⟨2,F,T,I,0,ByteArray.empty,0⟩,.bool true]) Aax rfl ⟨Aav,fG⟩):P:=h
theorem aAd.Kk5(h:P:=by
 go_wp2_with fail;exact bodyPost_ret (v:= .tuple #[vZ ⟨2,F,T,I,0,ByteArray.empty,N⟩,.bool false]) Aax rfl ⟨Aav,fG⟩):P:=h
theorem aAe.Kk5(h:P:=by
 go_wp2_with fail;exact bodyPost_ret (v:= .tuple #[vZ ⟨2,F,T,I,0,k,N⟩,.bool false]) Aax rfl ⟨Aav,fG⟩):P:=h
theorem aAf.Kk5(h:P:=by
 exact ahE):P:=h
theorem Yk6(h:P:=by
 cases h1:decide (old+1<=si/\si<=1000000000)
 case' false=>
  have a1:=rIn si (old+1) 1000000000 false W1 h1
  have HV:=Hq (show bb=true by rw [<-ah eT];simp[h1])
  clear eT
  refine wp_region_quiet_below Aab Aab ?_
  repeat (first|go_big_quiet_step ((first|(go_at_call_of 18 si;exact a1 _ _)))|quiet_step ((first|(go_at_call_of 18 si;exact a1 _ _))))
  refine wpQuiet_nil ?_
  intro _ hw'
  obtain⟨⟨dq,osq⟩,hw''⟩:=hw'
  subst hw''
  go_wp2_with fail
  go_meet
  case rel=>exact xM
 have a1:=rIn si (old+1) 1000000000 true W1 h1;cases h2:keyOk sx.data.toList
 case' false=>
  have a2:=aeW sx false W1 (Nat.le_trans hks Aai) h2
  have HV:=Hq (show bb=true by rw [<-ah eT];simp[h2])
  clear eT
  refine wp_region_quiet_below Aab Aab ?_
  repeat (first|go_big_quiet_step ((first|(go_at_call_of 18 si;exact a1 _ _)|(go_at_call 52;exact a2 _ _)))|quiet_step ((first|(go_at_call_of 18 si;exact a1 _ _)|(go_at_call 52;exact a2 _ _))))
  refine wpQuiet_nil ?_
  intro _ hw'
  obtain⟨⟨dq,osq⟩,hw''⟩:=hw'
  subst hw''
  go_wp2_with fail
  go_meet
  case rel=>exact xM
 have a2:=aeW sx true W1 (Nat.le_trans hks Aai) h2;cases h3:fF sn
 case' false=>
  have a3:=JM sn false W1 h3
  have HV:=Hq (show bb=true by rw [<-ah eT];simp[h3])
  clear eT
  refine wp_region_quiet_below Aab Aab ?_
  repeat (first|go_big_quiet_step ((first|(go_at_call_of 18 si;exact a1 _ _)|(go_at_call 52;exact a2 _ _)|(go_at_call 49;exact a3 _ _)))|quiet_step ((first|(go_at_call_of 18 si;exact a1 _ _)|(go_at_call 52;exact a2 _ _)|(go_at_call 49;exact a3 _ _))))
  refine wpQuiet_nil ?_
  intro _ hw'
  obtain⟨⟨dq,osq⟩,hw''⟩:=hw'
  subst hw''
  go_wp2_with fail
  go_meet
  case rel=>exact xM
 have a3:=JM sn true W1 h3;cases h4:decide (0<=st/\st<=2)
 case' false=>
  have a4:=rIn st 0 2 false W1 h4
  have HV:=Hq (show bb=true by rw [<-ah eT];simp[h4])
  clear eT
  refine wp_region_quiet_below Aab Aab ?_
  repeat (first|go_big_quiet_step ((first|(go_at_call_of 18 si;exact a1 _ _)|(go_at_call 52;exact a2 _ _)|(go_at_call 49;exact a3 _ _)|(go_at_call_of 18 st;exact a4 _ _)))|quiet_step ((first|(go_at_call_of 18 si;exact a1 _ _)|(go_at_call 52;exact a2 _ _)|(go_at_call 49;exact a3 _ _)|(go_at_call_of 18 st;exact a4 _ _))))
  refine wpQuiet_nil ?_
  intro _ hw'
  obtain⟨⟨dq,osq⟩,hw''⟩:=hw'
  subst hw''
  go_wp2_with fail
  go_meet
  case rel=>exact xM
 have a4:=rIn st 0 2 true W1 h4;exact Kk6):P:=h
theorem aAg.Kk6(h:P:=by
 by_cases hp:y < si
 case' neg=>
  have hy:decide (si<=y)=true:=decide_eq_true Aaa
  have HV:=Hq (show bb=true by rw [<-ah eT];simp[hp])
  clear eT
  refine wp_region_quiet_below Aab Aab ?_
  repeat (first|go_big_quiet_step ((first|(go_at_call_of 18 si;exact a1 _ _)|(go_at_call 52;exact a2 _ _)|(go_at_call 49;exact a3 _ _)|(go_at_call_of 18 st;exact a4 _ _)))|quiet_step ((first|(go_at_call_of 18 si;exact a1 _ _)|(go_at_call 52;exact a2 _ _)|(go_at_call 49;exact a3 _ _)|(go_at_call_of 18 st;exact a4 _ _))))
  refine wpQuiet_nil ?_
  intro _ hw'
  obtain⟨⟨dq,osq⟩,hw''⟩:=hw'
  subst hw''
  go_wp2_with fail
  go_meet
  case rel=>exact xM
 have hy:decide (si<=y)=false:=decide_eq_false Aaa;have HV:=Hq (show bb=false by rw [<-ah eT];simp[h1,h2,h3,h4,hp]);exact axD):P:=h
theorem aAh.Kk6(h:P:=by
 have HV:=Hq (show bb=false by rw [<-ah eT];simp[h1,h2,h3,h4]);exact axD):P:=h
theorem Yk7(h:P:=by
 cases h1:decide (1<=si/\si<=next - 1)
 case' false=>
  have a1:=rIn si 1 (next - 1) false W1 h1
  have HV:=Hq (show bb=true by rw [<-ah eT];simp[h1])
  clear eT
  refine wp_region_quiet_below Aab Aab ?_
  repeat (first|go_big_quiet_step ((first|(go_at_call 18;exact a1 _ _)))|quiet_step ((first|(go_at_call 18;exact a1 _ _))))
  refine wpQuiet_nil ?_
  intro _ hw'
  obtain⟨⟨dq,osq⟩,hw''⟩:=hw'
  subst hw''
  go_wp2_with fail
  go_meet
  case rel=>exact xM
 have a1:=rIn si 1 (next - 1) true W1 h1;cases h2:NN st
 case' false=>
  have a2:=ah Ra st false W1 wJ h2
  have HV:=Hq (show bb=true by rw [<-ah eT];simp[h2])
  clear eT
  refine wp_region_quiet_below Aab Aab ?_
  repeat (first|go_big_quiet_step ((first|(go_at_call 18;exact a1 _ _)|(go_at_call 51;exact a2 _ _)))|quiet_step ((first|(go_at_call 18;exact a1 _ _)|(go_at_call 51;exact a2 _ _))))
  refine wpQuiet_nil ?_
  intro _ hw'
  obtain⟨⟨dq,osq⟩,hw''⟩:=hw'
  subst hw''
  go_wp2_with fail
  go_meet
  case rel=>exact xM
 have a2:=ah Ra st true W1 wJ h2;cases h3:keyOk sx.data.toList
 case' false=>
  have a3:=aeW sx false W1 (Nat.le_trans hks Aai) h3
  have HV:=Hq (show bb=true by rw [<-ah eT];simp[h3])
  clear eT
  refine wp_region_quiet_below Aab Aab ?_
  repeat (first|go_big_quiet_step ((first|(go_at_call 18;exact a1 _ _)|(go_at_call 51;exact a2 _ _)|(go_at_call 52;exact a3 _ _)))|quiet_step ((first|(go_at_call 18;exact a1 _ _)|(go_at_call 51;exact a2 _ _)|(go_at_call 52;exact a3 _ _))))
  refine wpQuiet_nil ?_
  intro _ hw'
  obtain⟨⟨dq,osq⟩,hw''⟩:=hw'
  subst hw''
  go_wp2_with fail
  go_meet
  case rel=>exact xM
 have a3:=aeW sx true W1 (Nat.le_trans hks Aai) h3;cases h4:fF sn
 case' false=>
  have a4:=JM sn false W1 h4
  have HV:=Hq (show bb=true by rw [<-ah eT];simp[h4])
  clear eT
  refine wp_region_quiet_below Aab Aab ?_
  repeat (first|go_big_quiet_step ((first|(go_at_call 18;exact a1 _ _)|(go_at_call 51;exact a2 _ _)|(go_at_call 52;exact a3 _ _)|(go_at_call 49;exact a4 _ _)))|quiet_step ((first|(go_at_call 18;exact a1 _ _)|(go_at_call 51;exact a2 _ _)|(go_at_call 52;exact a3 _ _)|(go_at_call 49;exact a4 _ _))))
  refine wpQuiet_nil ?_
  intro _ hw'
  obtain⟨⟨dq,osq⟩,hw''⟩:=hw'
  subst hw''
  go_wp2_with fail
  go_meet
  case rel=>exact xM
 have a4:=JM sn true W1 h4;exact Kk7):P:=h
theorem aAi.Kk7(h:P:=by
 by_cases hp:y < si
 case' neg=>
  have hy:decide (si<=y)=true:=decide_eq_true Aaa
  have HV:=Hq (show bb=true by rw [<-ah eT];simp[hp])
  clear eT
  refine wp_region_quiet_below Aab Aab ?_
  repeat (first|go_big_quiet_step ((first|(go_at_call 18;exact a1 _ _)|(go_at_call 51;exact a2 _ _)|(go_at_call 52;exact a3 _ _)|(go_at_call 49;exact a4 _ _)))|quiet_step ((first|(go_at_call 18;exact a1 _ _)|(go_at_call 51;exact a2 _ _)|(go_at_call 52;exact a3 _ _)|(go_at_call 49;exact a4 _ _))))
  refine wpQuiet_nil ?_
  intro _ hw'
  obtain⟨⟨dq,osq⟩,hw''⟩:=hw'
  subst hw''
  go_wp2_with fail
  go_meet
  case rel=>exact xM
 have hy:decide (si<=y)=false:=decide_eq_false Aaa;have HV:=Hq (show bb=false by rw [<-ah eT];simp[h1,h2,h3,h4,hp]);exact axE):P:=h
theorem aAj.Kk7(h:P:=by
 have HV:=Hq (show bb=false by rw [<-ah eT];simp[h1,h2,h3,h4]);exact axE):P:=h
theorem Yk8(h:P:=by
 have hiI:(i:Int) < (n.reqs.length:Int):=Aaa
 have HST:=Hq hst;clear hR hst;have hp:=iX hok;have Nz:=Hq (λW1 (ha:fU W1 gM n.reqs)=>Ac n (⟨a_k,jH,fH,gG,gM,aY,dH,bE,aZ,bg⟩:bQ) no W1 Aaa hp.1 ha);rw [hJ] at Nz;clear hp hok;unfold iZ;have H9:=Hq h9;clear h9;have hbw0:=ay w (.cells (dG n (⟨a_k,jH,fH,gG,gM,aY,dH,bE,aZ,bg⟩:bQ)) 40);open arX in exact UR):P:=h
theorem aAk.Kk8(h:P:=by
 clear hW' e4 fP;exact bodyPost_ret (v:= .tuple #[.agg (iD n.id n.par a_k n.kids.length aY n.next jH n.pu.length dH fH n.out.length bE gG n.seen.length aZ n.old (some ⟨g,off,none⟩) n.reqs.length bg),.int .i64 0]) Abp rfl ⟨(⟨a_k,jH,fH,gG,(some ⟨g,off,none⟩),aY,dH,bE,aZ,bg⟩:bQ),rfl,HAT,oh,sZ⟩):P:=h
theorem aAl.Kk8(h:P:=by
 clear hW' e4 fP;exact bodyPost_ret (v:= .tuple #[.agg (iD n.id n.par a_k n.kids.length aY n.next jH n.pu.length dH fH n.out.length bE gG n.seen.length aZ n.old (some ⟨g,off,none⟩) n.reqs.length bg),.int .i64 1]) Abp rfl ⟨(⟨a_k,jH,fH,gG,(some ⟨g,off,none⟩),aY,dH,bE,aZ,bg⟩:bQ),rfl,HAT,oh,sZ⟩):P:=h
theorem Yk9(h:P:=by
 open aoj in exact Wq):P:=h
theorem aAm.Kk9(h:P:=by
 go_wp2_with fail;exact bodyPost_ret (v:= .tuple #[vZ ⟨0,F,T,0,0,k,N⟩,.bool true]) Aax rfl ⟨Aav,fG⟩):P:=h
theorem aAn.Kk9(h:P:=by
 go_wp2_with fail;exact bodyPost_ret (v:= .tuple #[vZ ⟨0,F,T,0,L,k,N⟩,.bool false]) Aax rfl ⟨Aav,fG⟩):P:=h
theorem aAo.Kk9(h:P:=by
 exact ahD):P:=h
theorem RV(h:P:=by
 have HW:=Hq h;obtain⟨K,no,k,nn,⟨mK,mF,mT,mI,mL,mk,mN⟩⟩:=o;dsimp only at *;open aoq in exact Ws):P:=h
theorem aAp.AaB(h:P:=by
 go_in
 open aAO in exact Wn):P:=h
theorem aAq.AaB(h:P:=by
 go_in
 open aAN in exact Wn):P:=h
theorem aAr.AaB(h:P:=by
 go_in
 exact axt):P:=h
theorem aAs.AaB(h:P:=by
 go_in
 open aAM in exact Wn):P:=h
theorem aAt.AaB(h:P:=by
 go_in
 open aAL in exact Wn):P:=h
theorem aAu.AaB(h:P:=by
 go_in
 exact axt):P:=h
theorem aAv.AaB(h:P:=by
 go_in
 open aAK in exact Wn):P:=h
theorem av3(h:P:=by
 have HUN:=Hq (λW (ha:aG W (some ⟨gp,0,none⟩) n.pu)=>QN gp 0 dH n.pu n.reqs[i].k n.reqs[i].n W (Nat.le_trans hz.p Aaa) wP hz.pk (hz.rk _ (List.getElem_mem hi)) ha);unfold iY at HUN;rw [hu] at HUN;clear hR hst hz wP hu;have hp:=iX hok;have Nz:=Hq (λW1 (ha:fU W1 gM n.reqs)=>Ac n (⟨a_k,(some ⟨gp,0,none⟩),fH,gG,gM,aY,dH,bE,aZ,bg⟩:bQ) no W1 Aaa hp.1 ha);rw [hJ] at Nz;clear hp hok;unfold iZ;have H9:=Hq h9;clear h9;have hbw0:=ay w (.cells (dG n (⟨a_k,(some ⟨gp,0,none⟩),fH,gG,gM,aY,dH,bE,aZ,bg⟩:bQ)) 40);open arW in exact UR):P:=h
theorem aAw.AaG(h:P:=by
 open aAZ in exact av6):P:=h
theorem aAx.AaG(h:P:=by
 open aAY in exact av6):P:=h
theorem ajs(h:P:=by
 obtain⟨gi,OA,rfl,zw,aBI,hb4⟩:=hcut;have Zr:=Hq (au adF hb4);have CS:=Hq (au lH hb4);have alJ:=Hq (au VW hb4);have Rx:=Hq (au lu hb4);have nR:=Hq (HB3.trans (hb4.mono HB3.size));have ajb:=Hq (alM.kc (k:=9) (KC.of_below hb4) Aaa);have hgi:W3.heap.size<=gi:=(zw.lt gi rfl).1;have aBP:gi < wc.heap.size:=(zw.lt gi rfl).2
 have aDc:(aV s0 mL).length<=OA:=by
  exact awS
 have aDD:=aA Zr;have hIL:(aV s0 mL).length<=1000:=Nat.le_trans (List.length_filter_le _ _) hil;have hW5:WO (wc.setCell ⟨sb,2,none⟩ (.slice (some ⟨gi,0,none⟩) (aV s0 mL).length OA)) (some ⟨gi,0,none⟩) OA gi (aV s0 mL):=(WO.of_own (afy aQ zw) zw aBI).keeps (aC.set _) (λx hx hm=>by have h1:=(dY hx).1;simp at hm;omega);have AA:=Hq (ajb.kc (k:=9) (w':=wc.setCell ⟨sb,2,none⟩ (.slice (some ⟨gi,0,none⟩) (aV s0 mL).length OA)) (KC.set (bJ Aaa)) Aaa);have Rs:=Hq (AA.seenPut i hi ⟨mF,fE s0 mL,aV s0 mL⟩ (some ⟨gi,0,none⟩) OA gi hW5 (λx hx=>by rw [(dY hx).1];exact bJ Aaa));have aDj:G.s≠w.heap.size:=Aaa
 obtain⟨T,hT,hlT,hrT⟩:=ajb.s;obtain⟨_,_,hcT⟩:=hT i Aaa;open apH in exact awD):P:=h
theorem aAy.AaF(h:P:=by
 open asM in exact af4):P:=h
theorem aAz.AaF(h:P:=by
 open asL in exact af4):P:=h
theorem aAA.AaF(h:P:=by
 have VZ:Hid (NQ W6 B (dM n (n.seen.set i ⟨mF,fE s0 mL,aV s0 mL⟩)) (⟨a_k,jH,fH,(some ⟨G.s,0,none⟩),gM,aY,dH,bE,aZ,bg⟩:bQ) ⟨G.k,G.p,G.o,G.s,G.r,su G.i i gi⟩ (uP gi (aV s0 mL) (newC w.heap.size 9 c))):=by rw [YL];exact Rs
 open az2 in exact Yk2):P:=h
theorem Kq(h:P:=by
 have hb:=ay W0 (.cells #[] 98);have hW1:W1=W0.alloc (.cells #[] 98):=by rw [hW,<-hW0]
 rw [<-hW1] at hb;have HN:=Hq (au e1 hb);have HO:=Hq (au e2 hb);have HR:=Hq (au e3 hb);have HB1:=Hq (e4.trans (hb.mono e4.size));clear hW hW0 hW1 e1 e2 e3 e4 hb;obtain⟨c0,c1,c2,c3,c4,c5,c6,c7,c8⟩:=nine HN;obtain⟨⟨p0,p1,p2,p3,p4,p5,p6,p7,p8,p9,nT⟩,_⟩:=aM HO;exact AaA):P:=h
theorem aAB.AaA(h:P:=by
 open anU in exact awj):P:=h
theorem aAC.AaA(h:P:=by
 open arF in exact afJ):P:=h
theorem aAD.AaA(h:P:=by
 open Sk0 in exact Yk0):P:=h
theorem aAE.AaA(h:P:=by
 open Sk1 in exact Yk0):P:=h
theorem aAF.AaA(h:P:=by
 open Sk2 in exact Yk0):P:=h
theorem aAG.AaA(h:P:=by
 open Sk3 in exact Yk0):P:=h
theorem aAH.AaA(h:P:=by
 open Sk4 in exact Yk0):P:=h
theorem aAI.AaA(h:P:=by
 open Sk5 in exact Yk0):P:=h
theorem aAJ.AaA(h:P:=by
 open Sk6 in exact Yk0):P:=h
theorem Wn(h:P:=by
 go_upto_region 1 with fail;have y7:=cell_regrown c7;have z1:=cell_regrown p1;clear c0 c1 c2 c3 c4 c5 c6 c7 c8 c9 p0 p1 p2 p3 p4 p5 p6 p7 p8 p9 nT;refine dx Aab ?_;show gL _ _ _ _ 8 (Array.replicate 8 false) _ _
 refine tk [0,1,2,3,4,5,6,7] ?_;iterate 8 (refine Ar (λK hK=>?_);go_simp;refine hK _ ?_;clear hK K)
 refine jJ ?_;refine eX Aab (λz hz=>?_);have HZ:=Hq (HW1.step hz);have Rt:=Hq (au yO hz);clear hz y7 z1 HW1 yO;go_simp;exact AaH):P:=h
theorem aAK.AaH(h:P:=by
 clear h hc;open apv in exact awv):P:=h
theorem aAL.AaH(h:P:=by
 open apR in exact awF):P:=h
theorem aAM.AaH(h:P:=by
 open apQ in exact awF):P:=h
theorem aAN.AaH(h:P:=by
 clear h hc;open atQ in exact agq):P:=h
theorem aAO.AaH(h:P:=by
 clear h hc he hz;open apu in exact awv):P:=h
theorem aAP.AaH(h:P:=by
 clear h hc;go_wp2_with fail;go_ret;exact⟨rfl,A,G,c,HZ⟩):P:=h
theorem av4(h:P:=by
 generalize getOp (jU s ((a:Int)+4))=oc at *;generalize jU s ((a:Int)+4)=TX at *;obtain⟨K,no,k,n,⟨mK,mF,mT,mI,mL,mk,mN⟩⟩:=oc;go_wp2_with fail;refine(Gd _).mono ?_;rintro e w1 ⟨rfl,hb1⟩;have HB1:=Hq hb1;clear hb1;go_wp2_with fail;refine(D7 _).mono ?_;rintro e w2 ⟨rfl,hb2⟩;have HB2:=Hq (HB1.trans (hb2.mono HB1.size));clear hb2 HB1;go_upto_region 6 with fail;refine wp_at (λW hW=>?_);have iR:Hid (aI wr W):=by rw [hW];exact HB2.trans ((ay w2 _).mono HB2.size)
 have HOW:Hid (W.heap[w2.heap.size]?=some (.cells (bZ K no k n mK mF mT mI mL mk mN) 100 (0,0))):=by rw [hW];exact heap_alloc_new w2 _
 clear hW HB2;refine dx Aab ?_;show gL _ _ _ _ 17 (Array.replicate 17 false) _ _
 refine tk [0,1,2,3,4,5,6,7,8,9,10] ?_;iterate 11 (refine Ar (λK hK=>?_);go_simp;refine hK _ ?_;clear hK K)
 refine jJ ?_;refine aJ 11 rfl Aab Aab Aab (λ_ _ _ _ h=>h) (λK hK=>?_);go_simp
 first
  |(refine hK _ ?_;clear hK K)
  |(apply Exists.intro
    refine⟨λ_=>?_,hK _ ?_⟩
    ((simp only[hw4];rw [if_pos hw5,if_pos hw6,hw7];exact⟨rfl,rfl⟩))
    clear hK K)
 refine tk [12] ?_;(refine Ar (λK hK=>?_);go_simp;refine hK _ ?_;clear hK K)
 refine jJ ?_;refine aJ 13 rfl Aab Aab Aab (λ_ _ _ _ h=>h) (λK hK=>?_);go_simp
 first
  |(refine hK _ ?_;clear hK K)
  |(apply Exists.intro
    refine⟨λ_=>?_,hK _ ?_⟩
    ((first|exact(HC _).mono (λe z ⟨he,hz⟩=>⟨he,hz▸Below.refl _ _⟩)|exact HW _))
    clear hK K)
 refine aJ 14 rfl Aab Aab Aab (λ_ _ _ _ h=>h) (λK hK=>?_);go_simp
 first
  |(refine hK _ ?_;clear hK K)
  |(apply Exists.intro
    refine⟨λ_=>?_,hK _ ?_⟩
    ((first|exact(HC _).mono (λe z ⟨he,hz⟩=>⟨he,hz▸Below.refl _ _⟩)|exact HW _))
    clear hK K)
 refine tk [15,16] ?_;open auQ in exact Z5):P:=h
theorem aAQ.AaD(h:P:=by
 have HOZ:=Hq (aK HOW hz);clear hz iR HOW;obtain⟨⟨c0,c1,c2,c3,c4,c5,c6,c7,c8,c9,c10⟩,_⟩:=aM HOZ;have hzl:=dD HOZ;have ajd:=Hq (own_below HOWN sV);have adn:=Hq (cK.trans (sV.mono cK.size));have hLl:=HS.1;go_simp;go_wp2_with (at_builtin;refine wpList_append_own _ rfl _ _ 56 rfl w.heap.size 100 i0 (.agg (bZ 0 0 ByteArray.empty 0 0 0 0 0 0 ByteArray.empty 0)) 11 104 underlying56 hi hz0 hz1 hz2 rfl Aae _ _ _ rfl (ajd.alloc _) ⟨z.heap.size,0,none⟩ 1 1 (nI ⟨K,no,k,n,⟨mK,mF,mT,mI,mL,mk,mN⟩⟩) rfl rfl ?c1 ?c2 ?c3 ?c4 ?c5 ?_)
 case c1=>exact World.news_of_block (heap_alloc_new z _)
 case c2=>exact OJ _
 case c3=>unfold maxLen;omega
 case c4=>omega
 case c5=>have:=adn.size;simp;omega
 intro v' w6 hown' hgrow _;have Nl:=Hq (GR.below_append adn adn.size ajd hgrow);have alP:Hid (w6.ownsRow w.heap.size 100 11 v' (L++[(⟨K,no,k,n,⟨mK,mF,mT,mI,mL,mk,mN⟩⟩:gK)]).length (GR.flat nI (L++[(⟨K,no,k,n,⟨mK,mF,mT,mI,mL,mk,mN⟩⟩:gK)]))):=by rw [List.length_append,xS];exact hown'
 clear hgrow hown' ajd adn cK HOWN sV HOZ c0 c1 c2 c3 c4 c5 c6 c7 c8 c9 c10;go_wp2_with fail;go_roundw
 case rel=>exact⟨E,_,rfl,alP,Nl,.inl ⟨hsm,iH⟩⟩
 case measure=>simp[intOf];omega):P:=h
theorem aAR.AaD(h:P:=by
 clear hz iR HOW;go_simp;go_wp2_with fail;exact bodyPost_ret (v:= .tuple #[.slice va L.length vc,.int .i64 a]) Acx rfl (Js HOWN cK HS HST sV)):P:=h
theorem av5(h:P:=by
 obtain⟨⟨p0,p1,p2,p3,p4,p5,p6,p7,p8,p9,nT⟩,_⟩:=aM Wh;have hol:=aA Wh;obtain⟨c0,c1,c2,c3,c4,c5,c6,c7,c8⟩:=nine kD;obtain⟨d0,d1,d2,d3,d4,d5,d6,d7,d8⟩:=nine oW;have f0:=aj oW 0;have f1:=aj oW 1;have f2:=aj oW 2;have f3:=aj oW 3;have f4:=aj oW 4;have f5:=aj oW 5;have f6:=aj oW 6;have f7:=aj oW 7;have f8:=aj oW 8;have hnl:=aA kD;have hrl:=aA oW;clear q0;dsimp only at e0;subst e0;go_wp2_with fail;go_quiet (fail);go_wp2_with fail;refine aO (λW' hW'=>?_)
 have e4:W'.heap[w.heap.size+2]?=some (.cells (iD n.id n.par a_k n.kids.length aY n.next jH n.pu.length dH fH n.out.length bE gG n.seen.length aZ n.old (some ⟨g,off,none⟩) n.reqs.length bg) 40 (0,0)):=by
  rw [hW'];exact GR.setW_blk (iD n.id n.par a_k n.kids.length aY n.next jH n.pu.length dH fH n.out.length bE gG n.seen.length aZ n.old (some ⟨g,off,none⟩) n.reqs.length bg).toList (o:=0) (xs:=iF.toList) oW
 have fP:aC [w.heap.size+2] W1 W':=by
  rw [hW'];exact aC.trans (b:=W1.drewN nq) ⟨rfl,rfl,rfl,Nat.le_refl _,λ_ _ _=>rfl⟩ (aT (iD n.id n.par a_k n.kids.length aY n.next jH n.pu.length dH fH n.out.length bE gG n.seen.length aZ n.old (some ⟨g,off,none⟩) n.reqs.length bg).toList (W1.drewN nq) 0)
 have HAT:=Hq (λW'' (ho:Out c w W' W'')=>(yM.kc (k:=9) ((KC.keeps fP (λx hx=>by have:x=w.heap.size+2:=Aaf;rw [this];exact bJ Aaa)).trans (KC.out H9 ho)) Aaa).rm);have oh:Hid (Below B w W'):=(HB1.mono hB).trans (fP.below (λx hx=>by have:x=w.heap.size+2:=Aaf;omega) (Nat.le_trans hB (HB1.mono hB).size));have sZ:=Hq (Apart.keeps (c:=c) (Apart.of_below (HB1)) (HB1.mono hB).size fP (λx hx=>by have:x=w.heap.size+2:=Aaf;omega));obtain⟨x0,x1,x2,x3,x4,x5,x6,x7,x8⟩:=nine e4;clear hW' e4 fP;exact AaI):P:=h
theorem aAS.AaI(h:P:=by
 exact bodyPost_ret (v:= .tuple #[.agg (iD n.id n.par a_k n.kids.length aY n.next jH n.pu.length dH fH n.out.length bE gG n.seen.length aZ n.old (some ⟨g,off,none⟩) n.reqs.length bg),.int .i64 0]) Acb rfl ⟨(⟨a_k,jH,fH,gG,(some ⟨g,off,none⟩),aY,dH,bE,aZ,bg⟩:bQ),rfl,HAT,oh,sZ⟩):P:=h
theorem aAT.AaI(h:P:=by
 exact bodyPost_ret (v:= .tuple #[.agg (iD n.id n.par a_k n.kids.length aY n.next jH n.pu.length dH fH n.out.length bE gG n.seen.length aZ n.old (some ⟨g,off,none⟩) n.reqs.length bg),.int .i64 1]) Acb rfl ⟨(⟨a_k,jH,fH,gG,(some ⟨g,off,none⟩),aY,dH,bE,aZ,bg⟩:bQ),rfl,HAT,oh,sZ⟩):P:=h
theorem adK(h:P:=by
 have hwl:=aA h.blk;have HIO:=Hq (λw1=>Pg o w1);rw [ho] at HIO;obtain⟨K,no,k,nn,⟨mK,mF,mT,mI,mL,mk,mN⟩⟩:=o;dsimp only at *;open aop in exact Ws):P:=h
theorem aAU.AaE(h:P:=by
 obtain rfl:=ah HKQ;obtain⟨⟨p0,p1,p2,p3,p4,p5,p6,p7,p8,p9,nT⟩,_⟩:=aM qW;have aky:=aA qW;go_wp2_with fail;refine(HAD w2 HW2).mono ?_;rintro e w3 ⟨rfl,hb3⟩;have HW3:=Hq (HW2.step hb3);have YD:=Hq (au qW hb3);clear hb3 HAD;go_upto_region 4 with fail;refine wp_at (λW hW=>?_);have e1:W.heap[w3.heap.size]?=some (.cells #[.func (.func 175) #[.pointer (some ⟨wb,0,none⟩)] #[],.func (.func 176) #[.pointer (some ⟨wb,0,none⟩)] #[],.func (.func 177) #[.pointer (some ⟨wb,0,none⟩)] #[],.func (.func 178) #[.pointer (some ⟨wb,0,none⟩)] #[],.func (.func 179) #[.pointer (some ⟨wb,0,none⟩)] #[],.func (.func 180) #[.pointer (some ⟨wb,0,none⟩)] #[],.func (.func 181) #[.pointer (some ⟨wb,0,none⟩)] #[]] 217 (0,0)):=Acn
 have e2:=ay w3 (.cells #[.func (.func 175) #[.pointer (some ⟨wb,0,none⟩)] #[],.func (.func 176) #[.pointer (some ⟨wb,0,none⟩)] #[],.func (.func 177) #[.pointer (some ⟨wb,0,none⟩)] #[],.func (.func 178) #[.pointer (some ⟨wb,0,none⟩)] #[],.func (.func 179) #[.pointer (some ⟨wb,0,none⟩)] #[],.func (.func 180) #[.pointer (some ⟨wb,0,none⟩)] #[],.func (.func 181) #[.pointer (some ⟨wb,0,none⟩)] #[]] 217);rw [<-hW] at e2;have HW4:=Hq (HW3.step e2);have Wi:=Hq (au YD e2);have c0:W.cell? ⟨w3.heap.size,6,none⟩=some (.func (.func 181) #[.pointer (some ⟨wb,0,none⟩)] #[]):=cell_of_row W _ 6 _ _ (0,0) e1;exact Zk4):P:=h
theorem aAV.AaE(h:P:=by
 obtain⟨⟨p0,p1,p2,p3,p4,p5,p6,p7,p8,p9,nT⟩,_⟩:=aM qW;have aky:=aA qW;have hK6:=ah YA;go_wp2_with fail;refine(HAD w2 HW2).mono ?_;rintro e w3 ⟨rfl,hb3⟩;have HW3:=Hq (HW2.step hb3);clear hb3 p0 p1 p2 p3 p4 p5 p6 p7 p8 p9 nT HAD;go_wp2_with fail;go_ret;exact⟨rfl,A,G,c,v,by rw [List.append_nil];exact HW3⟩):P:=h
theorem aAW.AaE(h:P:=by
 go_wp2_with fail;go_ret;exact⟨rfl,A,G,c,v,by rw [List.append_nil];exact HW2⟩):P:=h
theorem aAX.AaE(h:P:=by
 obtain rfl:=ah HKQ;obtain⟨⟨p0,p1,p2,p3,p4,p5,p6,p7,p8,p9,nT⟩,_⟩:=aM qW;have aky:=aA qW;go_upto_region 4 with fail;refine wp_at (λW hW=>?_);have e1:W.heap[w2.heap.size]?=some (.cells #[.func (.func 175) #[.pointer (some ⟨wb,0,none⟩)] #[],.func (.func 176) #[.pointer (some ⟨wb,0,none⟩)] #[],.func (.func 177) #[.pointer (some ⟨wb,0,none⟩)] #[],.func (.func 178) #[.pointer (some ⟨wb,0,none⟩)] #[],.func (.func 179) #[.pointer (some ⟨wb,0,none⟩)] #[],.func (.func 180) #[.pointer (some ⟨wb,0,none⟩)] #[],.func (.func 181) #[.pointer (some ⟨wb,0,none⟩)] #[]] 217 (0,0)):=Acn
 have e2:=ay w2 (.cells #[.func (.func 175) #[.pointer (some ⟨wb,0,none⟩)] #[],.func (.func 176) #[.pointer (some ⟨wb,0,none⟩)] #[],.func (.func 177) #[.pointer (some ⟨wb,0,none⟩)] #[],.func (.func 178) #[.pointer (some ⟨wb,0,none⟩)] #[],.func (.func 179) #[.pointer (some ⟨wb,0,none⟩)] #[],.func (.func 180) #[.pointer (some ⟨wb,0,none⟩)] #[],.func (.func 181) #[.pointer (some ⟨wb,0,none⟩)] #[]] 217);rw [<-hW] at e2;have HW4:=Hq (HW2.step e2);have Wi:=Hq (au qW e2);exact Kk1):P:=h
theorem av6(h:P:=by
 generalize n.reqs[i].n=qn at *;go_upto_region 8 with fail;have y4:=cell_regrown c4;have y8:=cell_regrown c8;have z1:=cell_regrown q1;have z2:=cell_regrown q2;clear c0 c1 c2 c3 c4 c5 c6 c7 c8 d0 d1 d2 d3 d4 d5 d6 d7 d8 f0 f1 f2 f3 f4 f5 f6 f7 f8 q0 q1 q2 q3;refine dx Aab ?_;show gL _ _ _ _ 20 (Array.replicate 20 false) _ _
 refine tk [0,1,2,3,4,5,6,7,8,9,10,11,12,13] ?_;iterate 14 (refine Ar (λK hK=>?_);go_simp;refine hK _ ?_;clear hK K)
 refine jJ ?_;clear y4 y8 z1 z2;refine fI 14 rfl Aab Aad (λx hx=>?_);go_simp;refine(HUN x (GR.At.below yM.at.p hx)).mono ?_;rintro e y ⟨v,rfl,hne,hrow,hby⟩;refine⟨hby,?_⟩;obtain⟨av,cv,rfl,_⟩:=GR.own_at (enc:=gu) (sz:=4) aW hrow;have HRW:=Hq hrow;have HXY:=Hq (Ge.trans hx hby);have hxs:=hx.size;clear hx hby hne hrow HUN;refine tk [15,16,17,18,19] ?_;iterate 5 (refine Ar (λK hK=>?_);go_simp;refine hK _ ?_;clear hK K)
 refine jJ ?_;refine eX Aab (λz hz=>?_);have HZ:=Hq (Ge.trans HXY hz);have Je:=Hq (GR.own_below HRW hz);have Nv:=Hq (au kD HZ);have AL:=Hq (au qA HZ);have Gl:=Hq (yM.kc (k:=9) (KC.of_below HZ) Aaa);have sV:=Hq (HB1.trans (HZ.mono HB1.size));have hgz:g < z.heap.size:=Nat.lt_of_lt_of_le hg HZ.size;clear hz HXY HRW;go_simp;obtain⟨c0,c1,c2,c3,c4,c5,c6,c7,c8⟩:=nine Nv;obtain⟨d0,d1,d2,d3,d4,d5,d6,d7,d8⟩:=nine AL;have f0:=aj AL 0;have f1:=aj AL 1;have f2:=aj AL 2;have f3:=aj AL 3;have f4:=aj AL 4;have f5:=aj AL 5;have f6:=aj AL 6;have f7:=aj AL 7;have f8:=aj AL 8;have hnl:=aA Nv;have hrl:=aA AL;exact AaJ):P:=h
theorem aAY.AaJ(h:P:=by
 go_wp2_with fail;refine aO (λW' hW'=>?_)
 have e4:W'.heap[w.heap.size+1]?=some (.cells (iD n.id n.par a_k n.kids.length aY n.next (some ⟨gp,0,none⟩) n.pu.length dH fH n.out.length bE gG n.seen.length aZ n.old (some ⟨g,0,none⟩) n.reqs.length bg) 40 (0,0)):=by
  rw [hW'];exact GR.setW_blk (iD n.id n.par a_k n.kids.length aY n.next (some ⟨gp,0,none⟩) n.pu.length dH fH n.out.length bE gG n.seen.length aZ n.old (some ⟨g,0,none⟩) n.reqs.length bg).toList (o:=0) (xs:=iF.toList) AL
 have fP:aC [w.heap.size+1] z W':=by
  rw [hW'];exact aT (iD n.id n.par a_k n.kids.length aY n.next (some ⟨gp,0,none⟩) n.pu.length dH fH n.out.length bE gG n.seen.length aZ n.old (some ⟨g,0,none⟩) n.reqs.length bg).toList z 0
 have HAT:=Hq (λW'' (ho:Out c w W' W'')=>(Gl.kc (k:=9) ((KC.keeps fP (λx hx=>by have:x=w.heap.size+1:=Aaf;rw [this];exact bJ Aaa)).trans (KC.out H9 ho)) Aaa).rm);have oh:Hid (Below B w W'):=(sV.mono hB).trans (fP.below (λx hx=>by have:x=w.heap.size+1:=Aaf;omega) (Nat.le_trans hB (sV.mono hB).size));have sZ:=Hq (Apart.keeps (c:=c) (Apart.of_below sV) (sV.mono hB).size fP (λx hx=>by have:x=w.heap.size+1:=Aaf;omega));obtain⟨x0,x1,x2,x3,x4,x5,x6,x7,x8⟩:=nine e4;clear hW' e4 fP;exact bodyPost_ret (v:= .tuple #[.agg (iD n.id n.par a_k n.kids.length aY n.next (some ⟨gp,0,none⟩) n.pu.length dH fH n.out.length bE gG n.seen.length aZ n.old (some ⟨g,0,none⟩) n.reqs.length bg),.int .i64 1]) Abp rfl ⟨(⟨a_k,(some ⟨gp,0,none⟩),fH,gG,(some ⟨g,0,none⟩),aY,dH,bE,aZ,bg⟩:bQ),rfl,HAT,oh,sZ⟩):P:=h
theorem aAZ.AaJ(h:P:=by
 have q3z:z.cell? ⟨g,i*4+3,none⟩=some (.int .i64 0):=(HZ.cell (p:=⟨g,i*4+3,none⟩) hg).trans HQ3
 have g3:z.frozen? ⟨g,i*4+3,none⟩=false:=by
  obtain⟨g',rest,e',_,hb'⟩:=wC Gl.r (show 0 < n.reqs.length by omega);simp only[Option.some.injEq,Addr.mk.injEq,and_true] at e';obtain rfl:=e';exact aj hb' _
 have f4n:=aj Nv 4
 have hgn:g≠w.heap.size:=λe=>by
  have h1:=Gl.cr g ((hgb g).2 rfl)
  rw [e] at h1
  have h2:newC w.heap.size 9 c w.heap.size=9:=bJ (Nat.le_refl _)
  rw [h2] at h1
  cases h1
 have aBR:g≠w.heap.size+1:=λe=>by
  have h1:=Gl.cr g ((hgb g).2 rfl)
  rw [e] at h1
  have h2:newC w.heap.size 9 c (w.heap.size+1)=9:=bJ Aaa
  rw [h2] at h1
  cases h1
 go_upto_region 13 with fail;refine wp_at (λZ2 hZ=>?_);have jO:Hid (Z2.heap[w.heap.size]?=some (.cells (iD n.id n.par a_k n.kids.length aY n.next av RL.length cv fH n.out.length bE gG n.seen.length aZ n.old (some ⟨g,0,none⟩) n.reqs.length bg) 40 (0,0))):=by rw [hZ];exact(Below.heap_setCell _ _ _ _ (Ne.symm hgn)).trans (ow Nv)
 have jA:Hid (Z2.heap[w.heap.size+1]?=some (.cells iF 40 (0,0))):=by rw [hZ];exact((Below.heap_setCell _ _ _ _ (Ne.symm aBR)).trans (Below.heap_setCell _ _ _ _ (show w.heap.size+1≠w.heap.size by omega))).trans AL
 have oN:=Gl.kc (k:=9) (KC.set (g:=w.heap.size) (i:=4) (v:= .slice av RL.length cv) (bJ (Nat.le_refl _))) Aaa;have kB:KC (newC w.heap.size 9 c) 6 (z.setCell ⟨w.heap.size,4,none⟩ (.slice av RL.length cv)) Z2:=by rw [hZ];exact KC.set (oN.cr g ((hgb g).2 rfl))
 have hwx:w.heap.size < x.heap.size/\g < x.heap.size:=by
  have:=aA kD;omega
 have hpz:Z2.ownsRow x.heap.size 108 4 (.slice av RL.length cv) RL.length (GR.flat gu RL):=by
  rw [hZ];exact dQ (dQ Je (aC.set _) (λy hy=>by have:y=w.heap.size:=Aar;omega)) (aC.set _) (λy hy=>by have:y=g:=Aar;omega)
 have hrz:=(oN.r.stored (i*4+3) (.int .i64 2)).1;rw [OO 2 n.reqs i hi,<-hZ] at hrz;have Zl:=Hq (And.intro (kB.w oN.k oN.ck Aaa) (And.intro hpz (And.intro (kB.own oN.o oN.co Aaa) (And.intro (kB.seenQ oN.sq oN.c4 oN.ci Aaa Aaa) hrz))));have jy:=Hq (And.intro oN.ck (And.intro oN.co (And.intro oN.c4 (And.intro oN.ci (And.intro oN.cr oN.ni)))))
 have ai6:Hid (Below B w Z2):=by
  have hg0:B<=g:=hBg;rw [hZ];exact((sV.mono hB).setCell (p:=⟨w.heap.size,4,none⟩) hB _).setCell (p:=⟨g,i*4+3,none⟩) hg0 _
 have azB:Hid (Apart c w Z2):=λx hx hc=>by
  have hxg:x≠g:=λe=>by
   have h1:=Gl.cr g ((hgb g).2 rfl)
   rw [<-e,fq hx] at h1
   omega
  rw [hZ]
  exact(Below.heap_setCell _ _ _ _ hxg).trans ((Below.heap_setCell _ _ _ _ (Nat.ne_of_lt hx)).trans (sV.block x hx))
 clear hZ oN kB hpz hrz q3z g3 f4n c0 c1 c2 c3 c4 c5 c6 c7 c8 d0 d1 d2 d3 d4 d5 d6 d7 d8 f0 f1 f2 f3 f4 f5 f6 f7 f8 hnl hrl;obtain⟨c0,c1,c2,c3,c4,c5,c6,c7,c8⟩:=nine jO;obtain⟨d0,d1,d2,d3,d4,d5,d6,d7,d8⟩:=nine jA;have f0:=aj jA 0;have f1:=aj jA 1;have f2:=aj jA 2;have f3:=aj jA 3;have f4:=aj jA 4;have f5:=aj jA 5;have f6:=aj jA 6;have f7:=aj jA 7;have f8:=aj jA 8;have hnl:=aA jO;have hrl:=aA jA;go_wp2_with fail;refine aO (λW' hW'=>?_)
 have e4:W'.heap[w.heap.size+1]?=some (.cells (iD n.id n.par a_k n.kids.length aY n.next av RL.length cv fH n.out.length bE gG n.seen.length aZ n.old (some ⟨g,0,none⟩) n.reqs.length bg) 40 (0,0)):=by
  rw [hW'];exact GR.setW_blk (iD n.id n.par a_k n.kids.length aY n.next av RL.length cv fH n.out.length bE gG n.seen.length aZ n.old (some ⟨g,0,none⟩) n.reqs.length bg).toList (o:=0) (xs:=iF.toList) jA
 have fP:aC [w.heap.size+1] Z2 W':=by
  rw [hW'];exact aT (iD n.id n.par a_k n.kids.length aY n.next av RL.length cv fH n.out.length bE gG n.seen.length aZ n.old (some ⟨g,0,none⟩) n.reqs.length bg).toList Z2 0
 have HAT:=Hq (λW'' (ho:Out c w W' W'')=>(show RM W'' ⟨a_k,av,fH,gG,(some ⟨g,0,none⟩),aY,cv,bE,aZ,bg⟩ (eO (setPu n RL) (n.reqs.set i (oF n.reqs[i]))) from by
  have kF:KC (newC w.heap.size 9 c) 9 Z2 W'':=(KC.keeps fP (λy hy=>by have:y=w.heap.size+1:=Aar;rw [this];exact bJ Aaa)).trans (KC.out H9 ho)
  have hpF:W''.ownsRow x.heap.size 108 4 (.slice av RL.length cv) RL.length (GR.flat gu RL):=by
   obtain⟨F,hk,hF⟩:=ho;exact dQ (dQ Zl.2.1 fP (λy hy=>by have:y=w.heap.size+1:=Aar;have:=aA qA;omega)) hk (λy hy=>by have:=(hF y hy).1;have:=aA qA;omega)
  have hp9:∀g',av.map (λy=>y.block)=some g'->6 < newC w.heap.size 9 c g':=λg' hg'=>by
   have h1:=um hpF (rO hpF hg')
   have h2:=aA qA
   rw [bJ Aaa]
   omega
  have hrF:W''.ownsRow B 95 4 (.slice (some ⟨g,0,none⟩) (n.reqs.set i (oF n.reqs[i])).length bg) (n.reqs.set i (oF n.reqs[i])).length (GR.flat aL (n.reqs.set i (oF n.reqs[i]))):=by
   rw [List.length_set];exact kF.own Zl.2.2.2.2 jy.2.2.2.2.1 Aaa
  exact RM.of (n:=eO (setPu n RL) (n.reqs.set i (oF n.reqs[i]))) (A:=⟨a_k,av,fH,gG,(some ⟨g,0,none⟩),aY,cv,bE,aZ,bg⟩) (c:=newC w.heap.size 9 c) (kF.w Zl.1 jy.1 Aaa) jy.1 (kF.seenQ Zl.2.2.2.1 jy.2.2.1 jy.2.2.2.1 Aaa Aaa) jy.2.2.1 jy.2.2.2.1 jy.2.2.2.2.2
   (GR.own_ati aW hpF) (λg' hg' _=> .inr (hp9 g' hg')) (kF.own Zl.2.2.1 jy.2.1 Aaa) (λy hy=> .inl (jy.2.1 y hy)) hrF (λy hy=> .inl (jy.2.2.2.2.1 y hy))
   (λg' hg' _ h6=>⟨λe=>by have:=jy.2.1 g' e;omega,λe=>by have:=jy.2.2.2.2.1 g' e;omega⟩) (λy hy h6=>by have:=jy.2.1 y hy;omega)))
 have oh:Hid (Below B w W'):=ai6.trans (fP.below (λx hx=>by have:x=w.heap.size+1:=Aaf;omega) (Nat.le_trans hB ai6.size));have sZ:=Hq (Apart.keeps (c:=c) azB ai6.size fP (λx hx=>by have:x=w.heap.size+1:=Aaf;omega));obtain⟨x0,x1,x2,x3,x4,x5,x6,x7,x8⟩:=nine e4;clear hW' e4 fP;exact bodyPost_ret (v:= .tuple #[.agg (iD n.id n.par a_k n.kids.length aY n.next av RL.length cv fH n.out.length bE gG n.seen.length aZ n.old (some ⟨g,0,none⟩) n.reqs.length bg),.int .i64 0]) Abp rfl ⟨⟨a_k,av,fH,gG,(some ⟨g,0,none⟩),aY,cv,bE,aZ,bg⟩,by rw [show gB (eO (setPu n RL) (n.reqs.set i (oF n.reqs[i]))) ⟨a_k,av,fH,gG,(some ⟨g,0,none⟩),aY,cv,bE,aZ,bg⟩= .agg (iD n.id n.par a_k n.kids.length aY n.next av RL.length cv fH n.out.length bE gG n.seen.length aZ n.old (some ⟨g,0,none⟩) n.reqs.length bg) from by simp[gB,dG,eO,setPu]],HAT,oh,sZ⟩):P:=h
theorem av7(h:P:=by
 open ark in exact ZL):P:=h
theorem aA0.AaL(h:P:=by
 have Rt:=Hq (au Kj hz);clear hz y0 y1 y2 y3 y4 y5 y6 y7 y8 z1 Rz;go_simp;obtain⟨⟨p0,p1,p2,p3,p4,p5,p6⟩,_⟩:=eF Rt;have hBz:=aA Rt;go_wp2_with fail;refine(Gq z HZ).mono ?_;rintro e y ⟨rfl,A',G',c',v',hY⟩;have HY:=Hq hY;clear hY Gq p0 p1 p2 p3 p4 p5 p6;go_wp2_with fail;go_ret;exact⟨rfl,A',G',c',v',HY⟩):P:=h
theorem aA1.AaL(h:P:=by
 clear hz y0 y1 y2 y3 y4 y5 y6 y7 y8 z1 Rz;exact ais):P:=h
theorem RY(h:P:=by
 refine wp_region_quiet_below Aab Aab ?_;repeat (first|go_big_quiet_step (exact cO _ _)|quiet_step (exact cO _ _))
 refine wpQuiet_nil ?_;intro _ hw';obtain⟨⟨dq,osq⟩,hw''⟩:=hw';subst hw'';have fG:=Hq (vU.trans ((below_regrown _ dq osq).mono vU.size));exact AaC):P:=h
theorem aA2.AaC(h:P:=by
 clear y0 y1 y2 y3 y4 cO
 all_goals
  go_wp2_with fail
  go_roundw
  case rel=>exact⟨(j+1)+1,Aaa,Aah,Aco,fG⟩
  case measure=>simp[intOf];omega):P:=h
theorem aA3.AaC(h:P:=by
 clear y0 y1 y2 y3 cO
 all_goals
  go_wp2_with fail
  go_roundw
  case rel=>exact⟨0+1,Aaa,Aah,Aco,fG⟩
  case measure=>simp[intOf];omega):P:=h
theorem aA4.AaC(h:P:=by
 clear y0 y1 y2 y3 cO
 all_goals
  go_wp2_with fail
  go_ret
  exact⟨aF HBAD.symm,fG⟩):P:=h
theorem aA5.AaC(h:P:=by
 clear cO y0 y1 y2 y3 y4 y5 y6;exact ahE):P:=h
theorem aA6.AaC(h:P:=by
 clear cO y0 y1 y2 y3 y4 y5 y6;go_wp2_with fail;exact bodyPost_ret (v:= .tuple #[vZ ⟨1,F,T,I,L,k,N⟩,.bool false]) Aax rfl ⟨Aav,fG⟩):P:=h
theorem aA7.AaC(h:P:=by
 clear cO y0 y1 y2 y3 y4 y5 y6;exact ahD):P:=h
theorem aA8.AaC(h:P:=by
 clear y0 y1 y2 y3 y4 cO
 all_goals
  go_wp2_with fail
  go_ret
  exact⟨aF HBAD.symm,fG⟩):P:=h
theorem ajt(h:P:=by
 go_wp2_with fail;refine wp_region_quiet_lit Aab Aab ?_;repeat (first|go_big_quiet_step ((first|(go_at_call 52;exact azf _ _ hks hkb' _ _)|(go_at_call_of 50 (IntKind.i64.wrap (pf+ps));exact qAm _ _ g4 _ _)|(go_at_call_of 50 (pf+ps);exact qAm _ _ g5 _ _)|(go_at_call_of 50 pm;exact qAm _ _ g1 _ _)|(go_at_call_of 50 pf;exact qAm _ _ g2 _ _)|(go_at_call_of 50 ps;exact qAm _ _ g3 _ _)))|quiet_step ((first|(go_at_call 52;exact azf _ _ hks hkb' _ _)|(go_at_call_of 50 (IntKind.i64.wrap (pf+ps));exact qAm _ _ g4 _ _)|(go_at_call_of 50 (pf+ps);exact qAm _ _ g5 _ _)|(go_at_call_of 50 pm;exact qAm _ _ g1 _ _)|(go_at_call_of 50 pf;exact qAm _ _ g2 _ _)|(go_at_call_of 50 ps;exact qAm _ _ g3 _ _))))
 refine wpQuiet_nil ?_;intro _ hw';obtain⟨nq,hw''⟩:=hw';subst hw'';go_wp2_with fail;exact AaK):P:=h
theorem aA9.AaK(h:P:=by
 go_roundw
 case rel=>exact⟨(j+1)+1,Aaa,Aah,Aco,(cK.alloc cK.size _).trans ⟨rfl,rfl,rfl,Nat.le_refl _,λ_ _=>rfl⟩⟩
 case measure=>simp[intOf];omega):P:=h
theorem aBa.AaK(h:P:=by
 go_roundw
 case rel=>exact⟨0+1,Aaa,Aah,Aco,(cK.alloc cK.size _).trans ⟨rfl,rfl,rfl,Nat.le_refl _,λ_ _=>rfl⟩⟩
 case measure=>simp[intOf];omega):P:=h
theorem aBb.AaK(h:P:=by
 go_ret;exact⟨aF HBAD.symm,(cK.alloc cK.size _).trans ⟨rfl,rfl,rfl,Nat.le_refl _,λ_ _=>rfl⟩⟩):P:=h
theorem av8(h:P:=by
 generalize Ah (tl s a)=z at *;clear e1 e2 hrs hub hsz hH hcap;generalize lX (j6 (Dl (tl s a)))=bW at *;generalize j6 (Dl (tl s a))=n at *;generalize s.extract a (a+4)=hd at *;have HQ:=Hq hq;clear hn hq;have hz2:¬(z < 0):=Aaa
 have hz3:decide (z < 0)=false:=decide_eq_false hz2;generalize Dl (tl s a)=tx at *;generalize iO (tl s a)=rs at *;have HC:=Hq hc;clear hc;open auN in exact agG):P:=h
theorem aBd.AdD(h:P:=by
 exact bodyPost_ret (v:= .tuple #[.string tx,.int .i64 (a+4+z)]) Acl rfl ⟨rfl,sV⟩):P:=h
theorem aBe.AdD(h:P:=by
 exact bodyPost_ret (v:= .tuple #[.string ⟨#[]⟩,.int .i64 (-1)]) Acl rfl ⟨rfl,sV⟩):P:=h
theorem adL(h:P:=by
 obtain⟨hjun,oj,hoj,hall⟩:=mem_ready.1 hj
 have hnot:∀e∈oj.after,Region.binds md e=true->e.on≠i:=λe he hb heq=>by
  have h2:=hall e he hb
  have h0:=(mem_ready.1 hr).1
  rw [heq] at h2
  rcases Nat.lt_or_ge i listed.size with h'|h'
  .simp[h'] at h0 h2;rw [h0] at h2;cases h2
  .simp[Array.getElem?_eq_none h'] at h2
 have h2:=Yy hoj (hfree j oj hoj hji hjun hnot) (λcs b=>hsel i oi cs b hi) (λcs b=>hsel j oj cs b hoj) hQ h1;refine wpOp_mono (λa' y hy2=>?_) h2;obtain⟨⟨hs1,hs2⟩,hg,hm⟩:=hy2;exact AbA):P:=h
theorem aBf.AbA(h:P:=by
 refine⟨hg,ih (listed.setIfInBounds j true) a' y ?_ (ready_mono hr (Ne.symm hji)) ?_ ?_⟩
 .exact adZ
 .unfold oC at *;rw [hs1,hs2];exact hy.imp (fun⟨p,q⟩=>⟨p,λz hz=>q z (Ge.trans (Ge.trans hx hg) hz)⟩) id
 .exact Vj):P:=h
theorem aBg.AbA(h:P:=by
 have hwy:Below b w y:=(hx.mono hb).trans hg;refine⟨hg,ih (listed.setIfInBounds j true) a' y (Nat.le_trans hb hwy.size) (xP hcl hj) ?_ (ready_mono hr (Ne.symm hji)) ?_ ?_⟩
 .exact adZ
 .unfold Dt at *;exact aiy
 .exact Vj):P:=h
theorem aBh.AbA(h:P:=by
 have hwy:aC [r] w y:=(aC.of_below hx).trans hg;refine⟨hg,ih (listed.setIfInBounds j true) a' y (xP hcl hj) ?_ (ready_mono hr (Ne.symm hji)) ?_ ?_⟩
 .exact adZ
 .unfold Du at *;exact aiy
 .exact Vj):P:=h
theorem aBi.AbA(h:P:=by
 refine⟨hg,ih (listed.setIfInBounds j true) a' y (xP hcl hj) ?_ (ready_mono hr (Ne.symm hji)) ?_ ?_⟩
 .exact adZ
 .unfold oC at *;rw [hs1,hs2];exact hy.imp (fun⟨p,q⟩=>⟨p,λz hz=>q z (Ge.trans (Ge.trans hx hg) hz)⟩) id
 .exact Vj):P:=h
theorem aju(h:P:=by
 obtain⟨rfl,hge⟩:=hcut;have kD:=Hq (au ady hge);have Ns:=Hq (au adr hge);have oW:=Hq (au alV hge);have HB1:=Hq (HB0.trans (hge.mono HB0.size));have VY:=Hq (adv.kc (k:=9) (KC.of_below hge) Aaa);have ajp:=Hq (HWI.below hge);have hz1:w.heap.size+3<=wc.heap.size:=by have:=aA oW;omega
 obtain⟨t0,t1,t2⟩:=ah HT;have u0:=(hge.cell (p:=⟨G.s,i*3,none⟩) hgs0).trans t0;have u1:=(hge.cell (p:=⟨G.s,i*3+1,none⟩) hgs0).trans t1;have u2:=(hge.cell (p:=⟨G.s,i*3+2,none⟩) hgs0).trans t2;clear t0 t1 t2 hge c0 c1 c2 c3 c4 c5 c6 c7 c8 m0 m1 m2 m3 m4 m5 m6 hnl hml ady adr alV HB0 adv HWI HT;obtain⟨c0,c1,c2,c3,c4,c5,c6,c7,c8⟩:=nine kD;have hnl:=aA kD;have aDo:(i:Int) < (n.seen.length:Int):=Aaa
 go_upto_region 5 with fail;refine wp_at (λW2 hW2=>?_);have hb2:=ay wc (.cells #[.int .i64 mF,.int .i64 s0.l,.slice bi s0.ids.length ci] 110);have hs2:=heap_alloc_new wc (.cells #[.int .i64 mF,.int .i64 s0.l,.slice bi s0.ids.length ci] 110);rw [<-hW2] at hb2 hs2;obtain⟨sb,hsb⟩:∃sb,wc.heap.size=sb:=⟨_,rfl⟩;rw [hsb] at hs2 hz1;have Wm:=Hq hs2;have jO:=Hq (au kD hb2);have yL:=Hq (au Ns hb2);have jA:=Hq (au oW hb2);have HB2:=Hq (HB1.trans (hb2.mono HB1.size));have alL:=Hq (VY.kc (k:=9) (KC.of_below hb2) Aaa);have al3:=Hq (ajp.below hb2);have hilt:∀x∈fp (G.i i) s0.ids,x < sb:=λx hx=>by rw [<-hsb];exact av2 ajp x hx
 rw [hsb] at *;clear hW2 hb2 hs2 u0 u1 u2 c0 c1 c2 c3 c4 c5 c6 c7 c8 hnl kD Ns oW HB1 VY ajp;obtain⟨m0,m1,m2,m3,m4,m5,m6⟩:=jD yL;obtain⟨s00,s01,s02⟩:=BQ Wm;have sf:=aj Wm 1;have hml:=aA yL;have hsl2:=aA Wm;go_upto_if 35 with fail;exact AcB):P:=h
theorem aBj.AcB(h:P:=by
 go_cut [8] from 15 (λp wx=>p= .pointer (some ⟨sb,0,none⟩)/\wx.heap[sb]?=some (.cells #[.int .i64 mF,.int .i64 (fE s0 mL),.slice bi s0.ids.length ci] 110 (0,0))/\aC [sb] W2 wx)
 case first=>
  exact ajN
 case rest=>
  open amQ in exact ajx):P:=h
theorem aBk.AcB(h:P:=by
 go_cut [8] from 15 (λp wx=>p= .pointer (some ⟨sb,0,none⟩)/\wx.heap[sb]?=some (.cells #[.int .i64 mF,.int .i64 (fE s0 mL),.slice bi s0.ids.length ci] 110 (0,0))/\aC [sb] W2 wx)
 case first=>
  exact ajN
 case rest=>
  open amP in exact ajx):P:=h
theorem aBl.AcB(h:P:=by
 go_cut [8] from 15 (λp wx=>p= .pointer (some ⟨sb,0,none⟩)/\wx.heap[sb]?=some (.cells #[.int .i64 mF,.int .i64 (fE s0 mL),.slice bi s0.ids.length ci] 110 (0,0))/\aC [sb] W2 wx)
 case first=>
  exact ajN
 case rest=>
  open amO in exact ajx):P:=h
theorem Ee(h:P:=by
 rw [hop] at D7;unfold jG at D7;clear hop;have M4:=Hq (λW (h:aI w W)=>uz n A W hz (ha.below h));clear hz ha hok;go_in
 go_upto_region 2 with fail;refine wp_at (λW1 hW=>?_);exact AaP):P:=h
theorem aBm.AaP(h:P:=by
 open aqK in exact awP):P:=h
theorem aBn.AaP(h:P:=by
 obtain⟨e1,e2,e3,e4⟩:=fV w (.cells (dG n A) 40) (.cells (bZ 2 no k nn mK mF mT mI mL mk mN) 100) (.cells iF 40);have hsz:(((w.alloc (.cells (dG n A) 40)).alloc (.cells (bZ 2 no k nn mK mF mT mI mL mk mN) 100)).alloc (.cells iF 40)).heap.size=w.heap.size+3:=Aac
 generalize hW0:((w.alloc (.cells (dG n A) 40)).alloc (.cells (bZ 2 no k nn mK mF mT mI mL mk mN) 100)).alloc (.cells iF 40)=W0 at *;exact Zk8):P:=h
theorem aBo.AaP(h:P:=by
 obtain⟨e1,e2,e3,e4⟩:=fV w (.cells (dG n A) 40) (.cells (bZ 1 no k nn mK mF mT mI mL mk mN) 100) (.cells iF 40);have hsz:(((w.alloc (.cells (dG n A) 40)).alloc (.cells (bZ 1 no k nn mK mF mT mI mL mk mN) 100)).alloc (.cells iF 40)).heap.size=w.heap.size+3:=Aac
 generalize hW0:((w.alloc (.cells (dG n A) 40)).alloc (.cells (bZ 1 no k nn mK mF mT mI mL mk mN) 100)).alloc (.cells iF 40)=W0 at *;exact Zk8):P:=h
theorem aBp.AaP(h:P:=by
 open aqM in exact afz):P:=h
theorem al8.AaP(h:P:=by
 obtain⟨e1,e2,e3,e4⟩:=fV w (.cells (dG n A) 40) (.cells (bZ 6 no k nn mK mF mT mI mL mk mN) 100) (.cells iF 40);have hsz:(((w.alloc (.cells (dG n A) 40)).alloc (.cells (bZ 6 no k nn mK mF mT mI mL mk mN) 100)).alloc (.cells iF 40)).heap.size=w.heap.size+3:=Aac
 generalize hW0:((w.alloc (.cells (dG n A) 40)).alloc (.cells (bZ 6 no k nn mK mF mT mI mL mk mN) 100)).alloc (.cells iF 40)=W0 at *;exact Zk9):P:=h
theorem al9.AaP(h:P:=by
 open aqL in exact afz):P:=h
theorem ama.AaP(h:P:=by
 open aqO in exact afA):P:=h
theorem amb.AaP(h:P:=by
 open aqQ in exact afB):P:=h
theorem amc.AaP(h:P:=by
 obtain⟨e1,e2,e3,e4⟩:=fV w (.cells (dG n A) 40) (.cells (bZ 5 no k nn mK mF mT mI mL mk mN) 100) (.cells iF 40);have hsz:(((w.alloc (.cells (dG n A) 40)).alloc (.cells (bZ 5 no k nn mK mF mT mI mL mk mN) 100)).alloc (.cells iF 40)).heap.size=w.heap.size+3:=Aac
 generalize hW0:((w.alloc (.cells (dG n A) 40)).alloc (.cells (bZ 5 no k nn mK mF mT mI mL mk mN) 100)).alloc (.cells iF 40)=W0 at *;open aAE in exact Kq):P:=h
theorem amd.AaP(h:P:=by
 open aqN in exact afA):P:=h
theorem ame.AaP(h:P:=by
 open aqP in exact afB):P:=h
theorem RZ(h:P:=by
 clear e5 hkx hX d0 d1 d2 d3 d4 d5 d6 d7 d8 f0 f1 f2 f3 f4 f5 f6 f7 f8 p0 p1 p2 p3 p4 p5 p6 p7 p8 p9 nT hnl hol lH Ki lu HB3 l7 gY;obtain⟨c0,c1,c2,c3,c4,c5,c6,c7,c8⟩:=nine iH;obtain⟨⟨p0,p1,p2,p3,p4,p5,p6,p7,p8,p9,nT⟩,_⟩:=aM HOX;have hnl:=aA iH;have hol:=aA HOX;exact AaS):P:=h
theorem amf.AaS(h:P:=by
 open apl in exact aws):P:=h
theorem amg.AaS(h:P:=by
 go_wp2_with fail;refine(jy X A1 G1 c (Nat.zero_le _) H9 HPR AA).mono ?_;rintro e W5 ⟨A2,rfl,hat,hb5,hap⟩;open as5 in exact agd):P:=h
theorem amh.AaS(h:P:=by
 go_wp2_with fail;refine(jy X A1 G1 c (Nat.zero_le _) H9 HPR AA).mono ?_;rintro e W5 ⟨A2,ma,mc,rfl,hat,hmt,hb5,hap⟩;have adq:=Hq hmt;clear hmt;open as4 in exact agd):P:=h
theorem ami.AaS(h:P:=by
 go_upto_region 23 with fail;clear p0 p1 p2 p3 p4 p5 p6 p7 p8 p9 nT hol;open anw in exact aah):P:=h
theorem amj.AaS(h:P:=by
 go_upto_region 26 with fail;have hrx:=aA qA;have y0:=dA (b:=w.heap.size+2) Aaa c0;have y1:=dA (b:=w.heap.size+2) Aaa c1;have y2:=dA (b:=w.heap.size+2) Aaa c2;have y3:=dA (b:=w.heap.size+2) Aaa c3;have y4:=dA (b:=w.heap.size+2) Aaa c4;have y5:=dA (b:=w.heap.size+2) Aaa c5;have y6:=dA (b:=w.heap.size+2) Aaa c6;have y7:=dA (b:=w.heap.size+2) Aaa c7;have y8:=dA (b:=w.heap.size+2) Aaa c8;have z2:=dA (b:=w.heap.size+2) Aaa p2;have z3:=dA (b:=w.heap.size+2) Aaa p3;have hwb:w.heap.size+2<=X.heap.size:=Aaa
 clear c0 c1 c2 c3 c4 c5 c6 c7 c8 p0 p1 p2 p3 p4 p5 p6 p7 p8 p9 nT;refine lZ 12 (w.heap.size+2) Aab ?_;show jf _ _ _ _ _ _ 14 (Array.replicate 14 false) _ _
 refine tk [0,1,2,3,4,5,6,7,8,9] ?_;iterate 10 (refine tkB hwb (λK hK=>?_);go_simp;first|refine hK _ ?_|(apply Exists.intro;refine⟨λ_=>?_,hK _ ?_⟩;rfl);clear hK K)
 refine jJ ?_;clear y0 y1 y2 y3 y4 y5 y6 y7 y8 z2 z3 hwb hnl hol iH HOX;refine mW 10 11 rfl rfl Aab Aad Aad Aae Aae (λx hx=>?_) (λx hx=>?_)
 .go_simp;refine⟨(ay x _).mono (by have:=hx.size;omega),?_⟩;have AP:=Hq (Ge.trans hx (ay x (.cells (bV 0 n.id n.par 0 0 k nn) 98)));have HM1:=Hq (heap_alloc_new x (.cells (bV 0 n.id n.par 0 0 k nn) 98));have hxs:=hx.size;clear hx;refine gF 11 rfl Aab Aad Aae (λy hy=>?_);have HY:=Hq (Ge.trans AP hy);have HMY:=Hq (au HM1 hy);have Nh:=Hq (au qA HY);clear hy HM1 AP;open arN in exact afN
 .have Nh:=Hq (au qA hx);have hxs:=hx.size;open arM in exact afN):P:=h
theorem amk.AaS(h:P:=by
 go_upto_region 19 with fail;open am7 in exact Wp):P:=h
theorem aml.AaS(h:P:=by
 open apk in exact aws):P:=h
theorem av9(h:P:=by
 have hml:=aA yL;have uO:=Hq (au jA (ay W2 (.cells #[] 98)));have M8:=Hq (Kg.kc (k:=9) (KC.of_below (ay W2 (.cells #[] 98))) Aaa);have uS:=Hq (HB2.trans ((ay W2 (.cells #[] 98)).mono HB2.size));obtain⟨c0,c1,c2,c3,c4,c5,c6,c7,c8⟩:=nine jO;open amU in exact Wo):P:=h
theorem amm.AdG(h:P:=by
 exact bodyPost_ret (v:= .tuple #[(gB n A),.slice (some ⟨W2.heap.size,0,none⟩) 0 0,.int .i64 3]) Abq rfl ⟨A,some ⟨W2.heap.size,0,none⟩,0,rfl,HAT,λW'' _ i hi=>Aas,oh,sZ⟩):P:=h
theorem amn.AdG(h:P:=by
 exact bodyPost_ret (v:= .tuple #[(gB n A),.slice (some ⟨W2.heap.size,0,none⟩) 0 0,.int .i64 1]) Abq rfl ⟨A,some ⟨W2.heap.size,0,none⟩,0,rfl,HAT,λW'' _ i hi=>Aas,oh,sZ⟩):P:=h
theorem awc(h:P:=by
 cases h3:fF lo
 case' false=>
  have cS:=JM lo false W1 h3
  have HV:=Hq (show bb=true by rw [<-ah eT];simp[h3])
  clear eT
  refine wp_region_quiet_below Aab Aab ?_
  repeat (first|go_big_quiet_step ((first|(go_at_call 51;exact cN _ _)|(go_at_call 49;exact cS _ _)))|quiet_step ((first|(go_at_call 51;exact cN _ _)|(go_at_call 49;exact cS _ _))))
  refine wpQuiet_nil ?_
  intro _ hw'
  obtain⟨⟨dq,osq⟩,hw''⟩:=hw'
  subst hw''
  go_wp2_with fail
  go_meet
  case rel=>exact xM
 have cS:=JM lo true W1 h3;by_cases h4:ids.length<=40
 case' neg=>
  have hq:decide ((40:Int) < ids.length)=true:=decide_eq_true Aaa
  have HV:=Hq (show bb=true by rw [<-ah eT];simp[h4])
  clear eT
  refine wp_region_quiet_below Aab Aab ?_
  repeat (first|go_big_quiet_step ((first|(go_at_call 51;exact cN _ _)|(go_at_call 49;exact cS _ _)))|quiet_step ((first|(go_at_call 51;exact cN _ _)|(go_at_call 49;exact cS _ _))))
  refine wpQuiet_nil ?_
  intro _ hw'
  obtain⟨⟨dq,osq⟩,hw''⟩:=hw'
  subst hw''
  go_wp2_with fail
  go_meet
  case rel=>exact xM
 have hq:decide ((40:Int) < ids.length)=false:=decide_eq_false Aaa;exact AdU):P:=h
theorem amo.AdU(h:P:=by
 have HV:=Hq (show bb=false by rw [<-ah eT];simp[h1,h3,h4,h2]);exact ag6):P:=h
theorem amq.AdU(h:P:=by
 have HV:=Hq (show bb=false by rw [<-ah eT];simp[h1,h3,h4]);exact ag6):P:=h
theorem aag(h:P:=by
 go_upto_region 6 with fail;refine Fo.wp_at (λV hV=>?_);open aul in exact agv):P:=h
theorem amr.Aa2(h:P:=by
 open ara in exact afD):P:=h
theorem ams.Aa2(h:P:=by
 open aqZ in exact afD):P:=h
theorem amu.Aa2(h:P:=by
 open avV in exact ag1):P:=h
theorem amv.Aa2(h:P:=by
 clear hblk hV c0 c1 c2 c3;open auZ in exact agK):P:=h
theorem amw.Aa2(h:P:=by
 clear hblk hV c0 c1 c2 c3;open auW in exact agJ):P:=h
theorem awd(h:P:=by
 refine tk [0,1,2,5,6] ?_;iterate 5 (refine Ar (λK hK=>?_);go_simp;refine hK _ ?_;clear hK K)
 refine jJ ?_;refine aJ 7 rfl Aab Aab Aab (λ_ _ _ _ h=>h) (λK hK=>?_);go_simp
 first
  |(refine hK _ ?_;clear hK K)
  |(apply Exists.intro
    refine⟨λ_=>?_,hK _ ?_⟩
    (exact N1 _)
    clear hK K)
 refine tk [9,10] ?_;iterate 2 (refine Ar (λK hK=>?_);go_simp;refine hK _ ?_;clear hK K)
 refine jJ ?_;refine aJ 11 rfl Aab Aab Aab (λ_ _ _ _ h=>h) (λK hK=>?_);go_simp
 first
  |(refine hK _ ?_;clear hK K)
  |(apply Exists.intro
    refine⟨λ_=>?_,hK _ ?_⟩
    (exact N2 _)
    clear hK K)
 refine tk [13,14] ?_;iterate 2 (refine Ar (λK hK=>?_);go_simp;refine hK _ ?_;clear hK K)
 refine jJ ?_;refine aJ 15 rfl Aab Aab Aab (λ_ _ _ _ h=>h) (λK hK=>?_);go_simp
 first
  |(refine hK _ ?_;clear hK K)
  |(apply Exists.intro
    refine⟨λ_=>?_,hK _ ?_⟩
    (exact N3 _)
    clear hK K)
 refine tk [17,18] ?_;iterate 2 (refine Ar (λK hK=>?_);go_simp;refine hK _ ?_;clear hK K)
 refine jJ ?_;refine aJ 19 rfl Aab Aab Aab (λ_ _ _ _ h=>h) (λK hK=>?_);go_simp;exact Adz):P:=h
theorem amx.Adz(h:P:=by
 first
  |(refine hK _ ?_;clear hK K)
  |(apply Exists.intro
    refine⟨λ_=>?_,hK _ ?_⟩
    (exact N4 _)
    clear hK K)
 refine tk [21,22] ?_;iterate 2 (refine Ar (λK hK=>?_);go_simp;refine hK _ ?_;clear hK K)
 refine jJ ?_;refine aJ 23 rfl Aab Aab Aab (λ_ _ _ _ h=>h) (λK hK=>?_);go_simp
 first
  |(refine hK _ ?_;clear hK K)
  |(apply Exists.intro
    refine⟨λ_=>?_,hK _ ?_⟩
    (exact N5 _)
    clear hK K)
 refine tk [25,26] ?_;iterate 2 (refine Ar (λK hK=>?_);go_simp;refine hK _ ?_;clear hK K)
 refine jJ ?_;refine aJ 27 rfl Aab Aab Aab (λ_ _ _ _ h=>h) (λK hK=>?_);go_simp
 first
  |(refine hK _ ?_;clear hK K)
  |(apply Exists.intro
    refine⟨λ_=>?_,hK _ ?_⟩
    (exact N6 _)
    clear hK K)
 clear y0 y1 y2 y3 y4 y5 y6 N1 N2 N3 N4 N5 N6;open aqY in exact afC):P:=h
theorem amy.Adz(h:P:=by
 first
  |(refine hK _ ?_;clear hK K)
  |(apply Exists.intro
    refine⟨λ_=>?_,hK _ ?_⟩
    (exact NM _)
    clear hK K)
 refine aJ 20 rfl Aab Aab Aab (λ_ _ _ _ h=>h) (λK hK=>?_);go_simp
 first
  |(refine hK _ ?_;clear hK K)
  |(apply Exists.intro
    refine⟨λ_=>?_,hK _ ?_⟩
    (exact N4 _)
    clear hK K)
 clear y0 y1 y2 y3 y4 y5 y6 y7 y8 y9 y10 N1 N2 N3 N4 NM;open aqX in exact afC):P:=h
theorem awe(h:P:=by
 have hTO:= @run_callFunc_extern prog 292 _ ReflectliteType.typeOf func292 Aab Aab Aab Aab;have hAT:= @run_callFunc_extern prog 349 _ (ReflectliteType.relation "AssignableTo" ReflectliteType.assignableTo) func349 Aab Aab Aab Aab;open avJ in exact agY):P:=h
theorem amz.AdV(h:P:=by
 have el:=As.elemV a t (((w.alloc (.cells #[.pointer (some ⟨6,276,none⟩),.pointer (some a),.int .u64 150] 303)).alloc (.cells #[.iface 272 (.agg #[.iface 274 (.agg #[.int .i64 p])])] 272)).alloc (.cells #[.iface 274 (.agg #[.int .i64 p])] 272))
  (by rw [World.cell?_alloc_lt _ _ a Aag,World.cell?_alloc_lt _ _ a Aag,World.cell?_alloc_lt _ _ a hal];exact ha)
 have st:=As.setNo t ⟨w.heap.size+1+1+1,0,none⟩ p old ((((w.alloc (.cells #[.pointer (some ⟨6,276,none⟩),.pointer (some a),.int .u64 150] 303)).alloc (.cells #[.iface 272 (.agg #[.iface 274 (.agg #[.int .i64 p])])] 272)).alloc (.cells #[.iface 274 (.agg #[.int .i64 p])] 272)).alloc (.cells #[.int .i64 p] 274))
  (by rw [World.cell?_alloc_at _ _ _ _ Aac];rfl)
  (by rw [World.cell?_alloc_lt _ _ t Aag,World.cell?_alloc_lt _ _ t Aag,World.cell?_alloc_lt _ _ t Aag,World.cell?_alloc_lt _ _ t htl];exact ht)
  (by rw [World.frozen?_alloc_old _ _ t Aag,World.frozen?_alloc_old _ _ t Aag,World.frozen?_alloc_old _ _ t Aag,World.frozen?_alloc_old _ _ t (Nat.ne_of_lt htl)];exact hf)
 go_in
 go_wp2
 refine wp_loop_rounds 3 ?_;rw [rounds_succ];go_wp2
 rw [rounds_succ];go_wp2
 rw [rounds_succ];go_wp2
 go_ret;exact⟨rfl,by exact(((((Below.refl _ _).alloc Aaa _).alloc Aag _).alloc Aag _).alloc Aag _).setCell (Nat.le_refl _) _⟩):P:=h
theorem amA.AdV(h:P:=by
 have el:=As.elemV a t ((w.alloc (.cells #[.pointer (some ⟨6,276,none⟩),.pointer (some a),.int .u64 150] 303)).alloc (.cells #[.iface 274 (.agg #[.int .i64 p])] 272))
  (by rw [World.cell?_alloc_lt _ _ a Aag,World.cell?_alloc_lt _ _ a hal];exact ha)
 have st:=As.setNo t ⟨w.heap.size+1+1,0,none⟩ p old (((w.alloc (.cells #[.pointer (some ⟨6,276,none⟩),.pointer (some a),.int .u64 150] 303)).alloc (.cells #[.iface 274 (.agg #[.int .i64 p])] 272)).alloc (.cells #[.int .i64 p] 274))
  (by rw [World.cell?_alloc_at _ _ _ _ Aac];rfl)
  (by rw [World.cell?_alloc_lt _ _ t Aag,World.cell?_alloc_lt _ _ t Aag,World.cell?_alloc_lt _ _ t htl];exact ht)
  (by rw [World.frozen?_alloc_old _ _ t Aag,World.frozen?_alloc_old _ _ t Aag,World.frozen?_alloc_old _ _ t (Nat.ne_of_lt htl)];exact hf)
 go_in
 go_wp2
 refine wp_loop_rounds 2 ?_;rw [rounds_succ];go_wp2
 rw [rounds_succ];go_wp2
 go_ret;exact⟨rfl,by exact((((Below.refl _ _).alloc Aaa _).alloc Aag _).alloc Aag _).setCell (Nat.le_refl _) _⟩):P:=h
theorem awf(h:P:=by
 have hm1:¬mI < fE s0 mL:=λh=>by unfold rF at hhas;rw [decide_eq_true h] at hhas;simp at hhas
 have hd:decide (mI < fE s0 mL)=false:=decide_eq_false hm1;have hb:hasB (aV s0 mL) mI=false:=Adh
 rw [hb] at Zb;obtain⟨c0,c1,c2,c3,c4,c5,c6,c7,c8⟩:=nine qV;have hnl:=aA qV;go_wp2_with (go_at_call 101;refine(Zb _ ado.at).mono ?_;rintro e wh ⟨rfl,rfl⟩)
 refine(Rf W7 adw.at.p).mono ?_;rintro e W8 ⟨v8,rfl,aB6,abu,GH⟩;obtain⟨av,cv,rfl,_⟩:=GR.own_at (enc:=gu) (sz:=4) aW abu;have HRW:=Hq (yT.own aW abu);have alq:=Hq (au YV GH);have uN:=Hq (au qV GH);have alK:=Hq (au adt GH);have Gs:=Hq (au nU GH);have alW:=Hq (au adH GH);have alF:=Hq (ado.below GH);have ajc:=Hq (adw.kc (k:=9) (KC.of_below GH) Aaa);have ai3:=Hq (ai2.trans (GH.mono Aaa));have aja:=Hq (ai9.step Aaa GH);have hz8:W7.heap.size<=W8.heap.size:=GH.size;clear GH aB6 abu Rf Zb c0 c1 c2 c3 c4 c5 c6 c7 c8 m0 m1 m2 m3 m4 m5 m6 s70 s71 s72 hnl hml aCi YV qV adt nU adH ado adw ai2 ai9;exact Aej):P:=h
theorem amC.Aej(h:P:=by
 have hb9:=ay W8 (.cells #[] 98);have CU:=Hq (au uN hb9);have oZ:=Hq (au Gs hb9);have adx:=Hq (ajc.kc (k:=9) (KC.of_below hb9) Aaa);have adl:=Hq (ai3.trans (hb9.mono Aaa));have adp:=Hq (aja.step Aaa hb9);have hz9:(W8.alloc (.cells #[] 98)).heap.size=W8.heap.size+1:=Aac
 clear hb9;obtain⟨c0,c1,c2,c3,c4,c5,c6,c7,c8⟩:=nine uN;obtain⟨d0,d1,d2,d3,d4,d5,d6,d7,d8⟩:=nine oZ;have f0:=aj oZ 0;have f1:=aj oZ 1;have f2:=aj oZ 2;have f3:=aj oZ 3;have f4:=aj oZ 4;have f5:=aj oZ 5;have f6:=aj oZ 6;have f7:=aj oZ 7;have f8:=aj oZ 8;have hnl:=aA uN;have hrl:=aA oZ;cases ok
 .exact awY
 .have h40:40<=(aV s0 mL).length:=by
   rcases hgn with h|h
   .cases h
   .exact h
  have aBL:decide ((40:Int)<=((aV s0 mL).length:Int))=true:=decide_eq_true Aaa;exact awY):P:=h
end Go.Proofs.YtohmklmkjmlpjaaGreatDoor
