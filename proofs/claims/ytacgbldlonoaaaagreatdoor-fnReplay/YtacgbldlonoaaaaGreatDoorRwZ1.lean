/-
  Parts of proofs that stand more than once, each said once.
-/
import Derived.Test.YtacgbldlonoaaaaGreatDoorRows
import Derived.WalkSpells
import Derived.ShutString
import Derived.Lib.QuietBelow
import Derived.Laws.Cover1
import Derived.Laws.AppendOwnNone
import Derived.Deep.DeepCutAuto
import Derived.Deep.CutBlock
import Derived.Deep.RegionHeldLaw
import Derived.Deep.AppendLies
import Derived.Lib.BufferWrite
import Derived.Laws.CopyOwn
import Derived.Lib.ItoaLen
import Derived.Shelf.Spec.SearchS
import Derived.Shelf.SortM.Plain
import Derived.Shelf.SortM.SortNone
import Derived.Shelf.SlicesE.Clone
import Derived.Sort.OwnSortedInts
import Derived.Stop.Asserts
import Derived.Shelf.Spec.SlicesInsertGrow
import Derived.Maps.Ext
import Derived.Lib.SlMapFilter
import Derived.Shelf.SlIterI.Nil
import Derived.Laws.EntriesVeiled
import Derived.Lib.Join
import Derived.OpenShut
import Derived.Stop.LaidTwo
import Derived.OpenVars
import Derived.ProofKit
import Derived.LaidMore
import Derived.Stop.Joined
namespace Go.Proofs.YtacgbldlonoaaaaGreatDoor
open Go.Proofs.Tryz
set_option maxRecDepth 100000
variable{P:Prop}
theorem Aaa(h:P:=by omega):P:=h
theorem Aab(h:P:=by kernel_rfl):P:=h
theorem Aac(h:P:=by simp):P:=h
theorem Aad(h:P:=by rfl):P:=h
theorem Aae(h:P:=by decide):P:=h
theorem Aaf(h:P:=by simp;omega):P:=h
theorem Aag(h:P:=by simpa using hx):P:=h
theorem Aah(h:P:=by unfold maxLen;omega):P:=h
theorem Aai(h:P:=by go_num):P:=h
theorem Aaj(h:P:=by simp[Act.eval]):P:=h
theorem Aak(h:P:=by simp at hx;omega):P:=h
theorem Aal(h:P:=by unfold maxLen;dsimp only;omega):P:=h
theorem Aam(h:P:=by rw [ah HV]):P:=h
theorem Aan(h:P:=by dsimp only;first|exact hks|decide):P:=h
theorem Aao(h:P:=by rw [e]):P:=h
theorem Aap(h:P:=by simpa using h1):P:=h
theorem Aaq(h:P:=by simpa using hi):P:=h
theorem Aar(h:P:=by cases h):P:=h
theorem Aas(h:P:=by simp[World.setCell]):P:=h
theorem Aat(h:P:=by simpa using hy):P:=h
theorem Aau(h:P:=by simpa using hm):P:=h
theorem Aav(h:P:=by simp at hi):P:=h
theorem Aaw(h:P:=by rw [ah HP]):P:=h
theorem Aax(h:P:=by simp[hx]):P:=h
theorem Aay(h:P:=by rw [ah uz]):P:=h
theorem Aaz(h:P:=by simp[dx]):P:=h
theorem Aba(h:P:=by rw [ah HSL];exact hi):P:=h
theorem Abb(h:P:=by simp[results,results65,go_sem,wR]):P:=h
theorem Abc(h:P:=by simp[results,results9,go_sem,x0,x1,x2,x3,x4,x5,x6,x7,x8]):P:=h
theorem Abd(h:P:=by simpa using hj):P:=h
theorem Abe(h:P:=by simp at hx;simp[hx]):P:=h
theorem Abf(h:P:=by simp[h1]):P:=h
theorem Abg(h:P:=by simpa using h):P:=h
theorem Abh(h:P:=by simpa using hr):P:=h
theorem Abi(h:P:=by rw [hW];exact aC.set _):P:=h
theorem Abj(h:P:=by simpa using hc):P:=h
theorem Abk(h:P:=by rw [List.length_take];omega):P:=h
theorem Abl(h:P:=by simpa using hpar):P:=h
theorem Abm(h:P:=by simp[Act.eval,Act.put]):P:=h
theorem Abn(h:P:=by rw [h] at hr;cases hr):P:=h
theorem Abo(h:P:=by simpa [Value.ownBlock] using hx):P:=h
theorem Abp(h:P:=by cases hk;exact Nat.le_refl _):P:=h
theorem Abq(h:P:=by simp only[ByteArray.size_append];omega):P:=h
theorem Abr(h:P:=by rw [hf];simp):P:=h
theorem Abs(h:P:=by simp[results,results39,go_sem,x0,x1,x2,x3,x4,x5,x6,x7,x8]):P:=h
theorem Abt(h:P:=by simp at hi;omega):P:=h
theorem Abu(h:P:=by rw [h];simp):P:=h
theorem Abv(h:P:=by simp[results,results119,go_sem,x0,x1,x2,x3,x4,x5,x6,x7,x8]):P:=h
theorem Abw(h:P:=by simp[results,results40,go_sem,x0,x1,x2,x3,x4,x5,x6,x7,x8]):P:=h
theorem Abx(h:P:=by simp[results,results41,go_sem,x0,x1,x2,x3,x4,x5,x6,x7,x8]):P:=h
theorem Aby(h:P:=by rw [hW];exact heap_alloc_new _ _):P:=h
theorem Abz(h:P:=by rw [hW];exact(lV w _ _).2):P:=h
theorem Aca(h:P:=by rw [hW];exact(lV w _ _).1):P:=h
theorem Acb(h:P:=by simp[results,results173,go_sem]):P:=h
theorem Acd(h:P:=by rw [hW];exact qp lq):P:=h
theorem Ace(h:P:=by rw [hW];exact je fO hgl):P:=h
theorem Acf(h:P:=by rw [ByteArray.size_extract];omega):P:=h
theorem Acg(h:P:=by simpa using hw):P:=h
theorem Ach(h:P:=by simpa using hk):P:=h
theorem Aci(h:P:=by simp[dx] at hx):P:=h
theorem Acj(h:P:=by simpa using hz):P:=h
theorem Ack(h:P:=by rw [iC,List.length_drop]):P:=h
theorem Acl(h:P:=by rw [hW1];exact heap_alloc_new _ _):P:=h
theorem Acm(h:P:=by simpa using hE):P:=h
theorem Acn(h:P:=by unfold maxLen at hcm;omega):P:=h
theorem Aco(h:P:=by rw [e];omega):P:=h
theorem Acp(h:P:=by simpa using hj'):P:=h
theorem Acr(h:P:=by rw [hW];exact pY hN1):P:=h
theorem Acs(h:P:=by simp[results,results69,go_sem]):P:=h
theorem Acu(h:P:=by intro u hu;simp at hu;subst hu;rfl):P:=h
theorem Acv(h:P:=by simp[results,results144,go_sem]):P:=h
theorem Acw(h:P:=by rw [ah gU,ah mU,ah EH];rfl):P:=h
theorem Acx(h:P:=by rw [hW0];exact au w _):P:=h
theorem Acy(h:P:=by simp[results,results140,go_sem,r0,r1,r2,r3,r4,r5,r6,r7,r8,r9,XY]):P:=h
theorem Acz(h:P:=by rw [ah HS,ah HA,ah HK];rfl):P:=h
theorem Ada(h:P:=by rw [ah ZI];first|done|rfl):P:=h
theorem Adb(h:P:=by rw [ah ZI];exact R6):P:=h
theorem Adc(h:P:=by simpa [iQ] using h):P:=h
theorem Ade(h:P:=by rw [hW];exact pY hO1):P:=h
theorem Adf(h:P:=by simp[Value.ownBlock] at hx):P:=h
theorem Adg(h:P:=by rw [hW];exact heap_alloc_new w2 _):P:=h
theorem Adh(h:P:=by simp[results,results8,go_sem,d0,d1,d2,d3,d4,d5,d6,d7,d8]):P:=h
theorem Adi(h:P:=by rw [List.mem_singleton.1 hf];omega):P:=h
theorem Adj(h:P:=by rw [GR.flat_append,GR.flat_one];exact Tv):P:=h
theorem Adk(h:P:=by rw [List.mem_singleton.1 hx];exact hqV):P:=h
theorem Adl(h:P:=by rw [List.length_append,hlt1];rfl):P:=h
theorem Adm(h:P:=by rw [List.length_append,hL1,Xn]):P:=h
theorem Adn(h:P:=by simp[results,results42,go_sem,x0,x1,x2,x3,x4,x5,x6,x7,x8]):P:=h
theorem Ado(h:P:=by simp[results,results246,go_sem,r0,r1,r2,r3,r4,r5,r6]):P:=h
theorem Adp(h:P:=by simp[results,results182,go_sem,r0,r1,r2,r3,r4,r5,r6]):P:=h
theorem Adq(h:P:=by rw [GR.flat_append];exact Ig):P:=h
theorem Adr(h:P:=by rw [hW'];exact mG iX (Nat.le_refl _)):P:=h
theorem Adt(h:P:=by rw [show cur.toList.length=cur.size from Array.length_toList,hcs];omega):P:=h
theorem Adu(h:P:=by simp[results,results115,go_sem]):P:=h
theorem Adv(h:P:=by simp[results,results135,go_sem];try rfl):P:=h
theorem Adw(h:P:=by rw [hs];simp only[List.append_assoc];rfl):P:=h
theorem Adx(h:P:=by rw [hs];simp only[List.append_assoc]):P:=h
theorem Ady(h:P:=by unfold sQ at hhas;rw [hd] at hhas;simpa using hhas):P:=h
theorem Adz(h:P:=by simp[results,results126,go_sem,x0,x1,x2,x3,x4,x5,x6]):P:=h
theorem Aea(h:P:=by simp[results,results68,go_sem,r0,r1,r2,r3,r4,r5,r6,r7,r8]):P:=h
theorem Aeb(h:P:=by simp[results,results222,go_sem,r0,r1,r2,r3,r4,r5,r6]):P:=h
theorem Aec(h:P:=by rw [hs];simp only[List.append_assoc,List.append_nil]):P:=h
theorem Aed(h:P:=by rw [show cur.toList.length=cur.size from Array.length_toList,hcs]):P:=h
theorem aaF(h:P:=by
 rw [hW'];exact GR.setW_blk (dD n A).toList (o:=0) (xs:=fU.toList) rT):P:=h
theorem Zw0(h:P:=by
 unfold fZ;have H9:=Hq h9;clear h9;have Ej:=Hq (λW (ha:aI W A.p n.pu)=>rM A.p A.cp n.pu key W hl ha);rw [hpp] at Ej;unfold Al at Ej;clear hpp;have hbw0:=au w (.cells (dD n A) 30);have kS:=Hq (h.nine hB);clear h;go_in
 go_upto_region 1 with fail;refine wp_at (λW0 hW=>?_);obtain⟨e1,e2,e3⟩:=iO w (.cells (dD n A) 30) (.cells fU 30);open apf in exact awO):P:=h
theorem Zw1(h:P:=by
 open atb in exact aga):P:=h
theorem Zw2(h:P:=by
 open ata in exact aga):P:=h
theorem Zw3(h:P:=by
 refine fC 8 rfl Aab Aad Aae (λx4 hx4=>?_);have Zj:=Hq (Wh.trans (hx4.mono Wh.size));have Pn:vw.heap.size<=x4.heap.size:=Zj.size;have Oq:=Hq (GR.own_below Ww hx4);have EJ:=Hq (ay Hf hx4);clear hx4;obtain⟨v4,y4,Xq,Tv,Fw,abG⟩:=dR x4 vw.heap.size 24 24 3 i0 (.int .i64 0) 1 8 underlying24 hi0 hz0 hz1' hz2 rfl Aae (.slice avR (pos) cvR) (pos) (GR.flat aS ((bg s0 mL).take pos)) Oq ⟨rb,0,none⟩ 1 1 (aS mI) rfl (World.news_of_block EJ) Acu Aah Aaa Pn;refine Lib.wp_append_run x4 (.tmp 131) (.tmp 134) 24 24 rfl _ _ Aaj Aaj v4 y4 Xq ?_;refine⟨(Below.refl _ _).grown Fw Pn (λb hb=>(Oq.lt b hb).1),?_⟩;go_simp;have Zk:=Hq (Zj.grown Fw Pn (λb hb=>(Oq.lt b hb).1));have Sd:Hid (y4.ownsRow vw.heap.size 3 1 v4 (pos+1) (GR.flat aS ((bg s0 mL).take pos++[mI]))):=Hq Adj;have ady:=Hq (show y4.heap[rb]?=some (.cells #[.int .i64 mI] 3 (0,0)) from by rw [Fw.block _ (aA (ah EJ)) (λhm=>ah VZ _ hm.symm rfl)];exact EJ);open auO in exact aao):P:=h
theorem Zw4(h:P:=by
 have hnl:=aA e1;clear hW e1 e2 p0 p1 p2 p3 p4 p5 p6 p7 p8 p9 oD;obtain⟨⟨p0,p1,p2,p3,p4,p5,p6,p7,p8,p9,oD⟩,_⟩:=aQ Wp;have aCF:=aA Wp;have y0:=cell_regrown c0;have z0:=cell_regrown p0;have z1:=cell_regrown p1;have z2:=cell_regrown p2;have z3:=cell_regrown p3;have z4:=cell_regrown p4;have z5:=cell_regrown p5;have z6:=cell_regrown p6;have z7:=cell_regrown p7;have z8:=cell_regrown p8;have z9:=cell_regrown p9;have z10:=cell_regrown oD;clear p0 p1 p2 p3 p4 p5 p6 p7 p8 p9 oD c0;refine bV 5 Aab ?_;show fD _ _ _ _ _ 7 (Array.replicate 7 false) _ _
 refine tk [0,1,2,3,4] ?_;iterate 5 (refine su (λK hK=>?_);go_simp;refine hK _ ?_;clear hK K)
 refine jc ?_;clear y0 z0 z1 z2 z3 z4 z5 z6 z7 z8 z9 z10;refine bf Aab (λx hx=>?_);have HXX:=Hq (HX x (xC.step hx));clear hx;refine aF 5 rfl Aab Aad ?_;go_simp;refine HXX.mono ?_;rintro e y ⟨rfl,A',G',c',v',hY⟩;have HY:=Hq hY;clear hY HXX;refine aF 6 rfl Aab Aad ?_;go_simp;refine wpAny_done Aab ?_;go_simp;go_wp2_with fail;go_ret;exact⟨rfl,A',G',c',v',HY⟩):P:=h
theorem Zw5(h:P:=by
 go_wp2_with fail;go_loopw [9,10] (λv j wr=>∃k g cp:Nat,k<=s0.ids.length/\j= .int .i64 k/\v= .slice (some ⟨g,0,none⟩) (pX s0 mL k).length cp/\wr.ownsRow W3.heap.size 3 1 v (pX s0 mL k).length (GR.flat aS (pX s0 mL k))/\(pX s0 mL k=[]->cp=0)/\aY W3 wr) (λ_ j _=>s0.ids.length - (intOf j).toNat)
 case atStart=>exact⟨0,_,_,Nat.zero_le _,rfl,rfl,World.ownsRow_lit _ #[] 0 (Nat.le_refl _) Aae rfl,λ_=>rfl,au _ _⟩
 case round=>
  obtain⟨k,g,cp,hk,rfl,rfl,hown,ax5,hbel⟩:=hrel;have aiv:=Hq ax5;clear ax5;have gI:=Hq hbel;obtain⟨_,s31,s32⟩:=CK (ay adA hbel);clear hbel;by_cases hlt:k < s0.ids.length
  .obtain⟨eb,hgb,hcell⟩:=(ak1.below gI) k hlt;open atw in exact agd
  .have hke:k=s0.ids.length:=Aaa
   subst hke;have hd:decide ((s0.ids.length:Int) < (s0.ids.length:Int))=false:=Aac
   rw [Ch] at hown aiv;have aCM:(Value.slice (some ⟨g,0,none⟩) (pX s0 mL s0.ids.length).length cp)= .slice (some ⟨g,0,none⟩) (bg s0 mL).length cp:=by rw [Ch]
   rw [Ch];go_wp2_with fail;go_meet
   case rel=>exact⟨g,cp,rfl,hown,aiv,gI⟩):P:=h
theorem Zw6(h:P:=by
 clear Eh pQ HKZ YV;obtain⟨c0,c1,c2,c3,c4,c5,c6,c7,c8⟩:=nine N9;obtain⟨s0,s1,s2,s3⟩:=gP adD;open alg in exact Ht):P:=h
theorem awX(h:P:=by
 rw [hX];exact GR.setW_blk (dD n A1).toList (o:=0) (xs:=(dD n A).toList) mJ):P:=h
theorem aw3(h:P:=by
 rw [hX];exact aK (dD n A1).toList W3 0):P:=h
theorem Zw7(h:P:=by
 clear hu;unfold iY at kR;have GN:=Hq (λW=>jP ⟨0,no,k,nn,⟨mK,mF,mT,mI,mL,mk,mN⟩⟩ W Aal Aal);open alE in exact EL):P:=h
theorem Zw8(h:P:=by
 refine fC 11 rfl Aab Aad Aae (λxf hxf=>?_);have HGg:=Hq (Ge.trans HGf hxf);have YW:=Hq (ay HQf hxf);have HDg:=Hq (Ge.trans HDf hxf);clear hxf;obtain⟨d0,d1,d2,d3,d4,d5,d6,d7,d8⟩:=nine YW;have f0:=aj YW 0;have f1:=aj YW 1;have f2:=aj YW 2;have f3:=aj YW 3;have f4:=aj YW 4;have f5:=aj YW 5;have f6:=aj YW 6;have f7:=aj YW 7;have f8:=aj YW 8;have hrl:=aA YW;go_simp;have hkq:aC [qf] xf (GR.setW xf qf 0 (dD m' A3).toList):=aK (g:=qf) _ xf 0;refine⟨hkq.below (λx hx=>Adk) HGg.size,?_⟩;have HBQ:=Hq (GR.setW_blk (dD m' A3).toList (o:=0) (xs:=fU.toList) YW);have HKD:=Hq (aC.trans (F:=[qf]) (aC.of_below HDg) hkq);have vS:=Hq (Below.trans HGg (hkq.below (B:=wr.heap.size) (λx hx=>Adk) HGg.size));clear hkq d0 d1 d2 d3 d4 d5 d6 d7 d8 f0 f1 f2 f3 f4 f5 f6 f7 f8 hrl;have hwp:=vS.size;refine tk [12] ?_;(refine tkB hwp (λK hK=>?_);go_simp;first|refine hK _ ?_|(apply Exists.intro;refine⟨λ_=>?_,hK _ ?_⟩;rfl);clear hK K)
 refine jc ?_;clear hwp;refine nN Aab (λz hz=>?_);have ayG:=Hq (ay HBQ hz);have HNz:=Hq (((UL.or hqd HKD).step hz).mono (Nat.le_trans hsz hxs));have ayH:=Hq (vS.trans (hz.mono vS.size));clear hz HBQ HKD vS;refine aF 13 rfl Aab Aad ?_;go_simp;refine wpAny_done Aab ?_;go_simp;go_wp2_with fail;go_meet
 case rel=>exact⟨qf,A3,rfl,ayG,HNz,ayH⟩):P:=h
theorem Zw9(h:P:=by
 open az5 in exact KV):P:=h
theorem awU(h:P:=by
 open az4 in exact KV):P:=h
theorem awV(h:P:=by
 open az3 in exact KV):P:=h
theorem aiZ(h:P:=by
 open aAj in exact av5):P:=h
theorem ai0(h:P:=by
 rw [hR];have HR:=Hq hR;clear hR;cases hk:keyOk k.data.toList
 .have HK:=Hq (λw1=>nK k false w1 hs hk);cases hn:fV n
  .have HN:=Hq (λw1=>eU n false w1 hn);have HP:=Hq (show R=(decide (no=0)&&false&&false&&mh ⟨mK,mF,mT,mI,mL,mk,mN⟩) by rw [<-ah HR];simp[bq,hk,hn]);clear HR;clear hk hn;go_in
   go_wp2_with (first|(go_at_call_of 64 k;refine(HK _).mono ?_;rintro e w1 ⟨rfl,rfl⟩)|(go_at_call_of 61 n;refine(HN _).mono ?_;rintro e w1 ⟨rfl,rfl⟩))
   all_goals
    go_ret
    refine⟨aD ?_,au w _⟩
    rw [ah HP]
    simp[mh, *]
  .have HN:=Hq (λw1=>eU n true w1 hn);have HP:=Hq (show R=(decide (no=0)&&false&&true&&mh ⟨mK,mF,mT,mI,mL,mk,mN⟩) by rw [<-ah HR];simp[bq,hk,hn]);clear HR;clear hk hn;go_in
   go_wp2_with (first|(go_at_call_of 64 k;refine(HK _).mono ?_;rintro e w1 ⟨rfl,rfl⟩)|(go_at_call_of 61 n;refine(HN _).mono ?_;rintro e w1 ⟨rfl,rfl⟩))
   all_goals
    go_ret
    refine⟨aD ?_,au w _⟩
    rw [ah HP]
    simp[mh, *]
 .have HK:=Hq (λw1=>nK k true w1 hs hk);cases hn:fV n
  .have HN:=Hq (λw1=>eU n false w1 hn);have HP:=Hq (show R=(decide (no=0)&&true&&false&&mh ⟨mK,mF,mT,mI,mL,mk,mN⟩) by rw [<-ah HR];simp[bq,hk,hn]);clear HR;clear hk hn;go_in
   go_wp2_with (first|(go_at_call_of 64 k;refine(HK _).mono ?_;rintro e w1 ⟨rfl,rfl⟩)|(go_at_call_of 61 n;refine(HN _).mono ?_;rintro e w1 ⟨rfl,rfl⟩))
   all_goals
    go_ret
    refine⟨aD ?_,au w _⟩
    rw [ah HP]
    simp[mh, *]
  .have HN:=Hq (λw1=>eU n true w1 hn);have HP:=Hq (show R=(decide (no=0)&&true&&true&&mh ⟨mK,mF,mT,mI,mL,mk,mN⟩) by rw [<-ah HR];simp[bq,hk,hn]);clear HR;clear hk hn;go_in
   go_wp2_with (first|(go_at_call_of 64 k;refine(HK _).mono ?_;rintro e w1 ⟨rfl,rfl⟩)|(go_at_call_of 61 n;refine(HN _).mono ?_;rintro e w1 ⟨rfl,rfl⟩))
   all_goals
    go_ret
    refine⟨aD ?_,au w _⟩
    rw [ah HP]
    simp[mh, *]):P:=h
theorem awY(h:P:=by
 by_cases hmK:mK=0
 case' neg=>
  have aBs:¬(0:Int)=mK:=λe=>hmK e.symm
  go_wp2_with fail
  go_ret
  exact⟨aD (by rw [ah HP];simp[mh,hmK]),iA⟩
 subst hmK;by_cases hmF:mF=0
 case' neg=>
  have aBq:¬(0:Int)=mF:=λe=>hmF e.symm
  go_wp2_with fail
  go_ret
  exact⟨aD (by rw [ah HP];simp[mh,hmF]),iA⟩
 subst hmF;by_cases hmT:mT=0
 case' neg=>
  have aBv:¬(0:Int)=mT:=λe=>hmT e.symm
  go_wp2_with fail
  go_ret
  exact⟨aD (by rw [ah HP];simp[mh,hmT]),iA⟩
 subst hmT;by_cases hmI:mI=0
 case' neg=>
  have aBr:¬(0:Int)=mI:=λe=>hmI e.symm
  go_wp2_with fail
  go_ret
  exact⟨aD (by rw [ah HP];simp[mh,hmI]),iA⟩
 subst hmI;by_cases hmL:mL=0
 case' neg=>
  have aBt:¬(0:Int)=mL:=λe=>hmL e.symm
  go_wp2_with fail
  go_ret
  exact⟨aD (by rw [ah HP];simp[mh,hmL]),iA⟩
 subst hmL;by_cases hmk:mk.toList=[]
 case' neg=>
  go_wp2_with fail
  go_ret
  exact⟨aD (by rw [ah HP];simp[mh,hmk]),iA⟩
 by_cases hmN:mN=0
 case' neg=>
  have aBu:¬(0:Int)=mN:=λe=>hmN e.symm
  go_wp2_with fail
  go_ret
  exact⟨aD (by rw [ah HP];simp[mh,hmk,hmN]),iA⟩
 subst hmN;go_wp2_with fail;go_ret;exact⟨aD (by rw [ah HP];simp[mh,hmk]),iA⟩):P:=h
theorem awZ(h:P:=by
 go_wp2_with fail;refine aO (λW' hW'=>?_)
 have e4:W'.heap[w.heap.size+2]?=some (.cells (gH n.id n.par a_k n.kids.length aL n.next (some ⟨gp,0,none⟩) n.pu.length bE eD n.out.length aP (some ⟨G.s,0,none⟩) n.seen.length aM n.old gN n.reqs.length aV) 30 (0,0)):=by
  rw [hW'];exact GR.setW_blk (gH n.id n.par a_k n.kids.length aL n.next (some ⟨gp,0,none⟩) n.pu.length bE eD n.out.length aP (some ⟨G.s,0,none⟩) n.seen.length aM n.old gN n.reqs.length aV).toList (o:=0) (xs:=fU.toList) lY
 have gL:aC [w.heap.size+2] (W8.alloc (.cells #[] 32)) W':=by
  rw [hW'];exact aK (gH n.id n.par a_k n.kids.length aL n.next (some ⟨gp,0,none⟩) n.pu.length bE eD n.out.length aP (some ⟨G.s,0,none⟩) n.seen.length aM n.old gN n.reqs.length aV).toList (W8.alloc (.cells #[] 32)) 0
 have abA:w.heap.size+2≠gi:=Aaa
 have Wm:=Hq (ads.kc (k:=9) (KC.keeps gL (λx hx=>by have:x=w.heap.size+2:=Aag;rw [this];exact Ee _ Aaa abA)) Aaa)
 have HAT:Hid (∀W'',Out c w W' W''->RM W'' (⟨a_k,(some ⟨gp,0,none⟩),eD,(some ⟨G.s,0,none⟩),gN,aL,bE,aP,aM,aV⟩:bC) (dA n (n.seen.set i ⟨mF,eZ s0 mL,bg s0 mL⟩))):=λW'' ho=>by
  obtain⟨F,hk,hF⟩:=ho
  have hold:=(Wm.kc (k:=9) (KC.keeps hk (λx hx=>HCO x (hF x hx).1 (hF x hx).2)) Aaa)
  have ho:Out c w W' W'':=⟨F,hk,hF⟩
  exact hold.rm
 have GK:Hid (∀W'',Out c w W' W''->GR.At lF 7 W'' (some ⟨W8.heap.size,0,none⟩) []):=λW'' ho j hj=>(by simp at hj)
 have nO:Hid (Below B w W'):=ade.trans (gL.below (λx hx=>by have:x=w.heap.size+2:=Aag;omega) (by have h1:=aA lY;omega));have tZ:=Hq (Apart.keeps (c:=c) adi (by have h1:=aA lY;omega) gL (λx hx=>by have:x=w.heap.size+2:=Aag;omega));obtain⟨x0,x1,x2,x3,x4,x5,x6,x7,x8⟩:=nine e4;clear hW' e4 gL
 first
  |exact bodyPost_ret (v:= .tuple #[.agg (gH n.id n.par a_k n.kids.length aL n.next (some ⟨gp,0,none⟩) n.pu.length bE eD n.out.length aP (some ⟨G.s,0,none⟩) n.seen.length aM n.old gN n.reqs.length aV),.slice (some ⟨W8.heap.size,0,none⟩) 0 0,.int .i64 1]) Abv rfl ⟨(⟨a_k,(some ⟨gp,0,none⟩),eD,(some ⟨G.s,0,none⟩),gN,aL,bE,aP,aM,aV⟩:bC),(some ⟨W8.heap.size,0,none⟩),⟨0,by simp[fT,dD,dA]⟩,HAT,GK,nO,tZ⟩
  |exact bodyPost_ret (v:= .tuple #[.agg (gH n.id n.par a_k n.kids.length aL n.next (some ⟨gp,0,none⟩) n.pu.length bE eD n.out.length aP (some ⟨G.s,0,none⟩) n.seen.length aM n.old gN n.reqs.length aV),.slice (some ⟨W8.heap.size,0,none⟩) 0 0,.int .i64 1]) Abv rfl ⟨(⟨a_k,(some ⟨gp,0,none⟩),eD,(some ⟨G.s,0,none⟩),gN,aL,bE,aP,aM,aV⟩:bC),(some ⟨W8.heap.size,0,none⟩),0,by simp[fT,dD,dA],HAT,GK,nO,tZ⟩):P:=h
theorem aw2(h:P:=by
 refine aO (λW' hW'=>?_)
 have e4:W'.heap[w.heap.size+2]?=some (.cells (gH n.id n.par a_k n.kids.length aL n.next jE n.pu.length bE eD n.out.length aP (some ⟨G.s,0,none⟩) n.seen.length aM n.old gN n.reqs.length aV) 30 (0,0)):=by
  rw [hW'];exact GR.setW_blk (gH n.id n.par a_k n.kids.length aL n.next jE n.pu.length bE eD n.out.length aP (some ⟨G.s,0,none⟩) n.seen.length aM n.old gN n.reqs.length aV).toList (o:=0) (xs:=fU.toList) nT
 have gL:aC [w.heap.size+2] W7 W':=by
  rw [hW'];exact aK (gH n.id n.par a_k n.kids.length aL n.next jE n.pu.length bE eD n.out.length aP (some ⟨G.s,0,none⟩) n.seen.length aM n.old gN n.reqs.length aV).toList W7 0
 have abA:w.heap.size+2≠gi:=Aaa
 have Wm:=Hq (adr.kc (k:=9) (KC.keeps gL (λx hx=>by have:x=w.heap.size+2:=Aag;rw [this];exact Ee _ Aaa abA)) Aaa)
 have HAT:Hid (∀W'',Out c w W' W''->RM W'' (⟨a_k,jE,eD,(some ⟨G.s,0,none⟩),gN,aL,bE,aP,aM,aV⟩:bC) (dA n (n.seen.set i ⟨mF,eZ s0 mL,bg s0 mL⟩))):=λW'' ho=>by
  obtain⟨F,hk,hF⟩:=ho
  have hold:=(Wm.kc (k:=9) (KC.keeps hk (λx hx=>HCO x (hF x hx).1 (hF x hx).2)) Aaa)
  have ho:Out c w W' W'':=⟨F,hk,hF⟩
  exact hold.rm
 have GK:Hid (∀W'',Out c w W' W''->GR.At lF 7 W'' (some ⟨ab,0,none⟩) [⟨2,n.id,mF,mI,0,ByteArray.empty,0⟩]):=λW'' ho j hj=>Sv (gL.obj Zb (λhm=>by simp at hm;omega)) ho Aaa j hj
 have nO:Hid (Below B w W'):=aiq.trans (gL.below (λx hx=>by have:x=w.heap.size+2:=Aag;omega) (by have h1:=aA nT;omega));have tZ:=Hq (Apart.keeps (c:=c) aix (by have h1:=aA nT;omega) gL (λx hx=>by have:x=w.heap.size+2:=Aag;omega));obtain⟨x0,x1,x2,x3,x4,x5,x6,x7,x8⟩:=nine e4;clear hW' e4 gL
 first
  |exact bodyPost_ret (v:= .tuple #[.agg (gH n.id n.par a_k n.kids.length aL n.next jE n.pu.length bE eD n.out.length aP (some ⟨G.s,0,none⟩) n.seen.length aM n.old gN n.reqs.length aV),.slice (some ⟨ab,0,none⟩) 1 1,.int .i64 0]) Abv rfl ⟨(⟨a_k,jE,eD,(some ⟨G.s,0,none⟩),gN,aL,bE,aP,aM,aV⟩:bC),(some ⟨ab,0,none⟩),⟨1,by simp[fT,dD,dA]⟩,HAT,GK,nO,tZ⟩
  |exact bodyPost_ret (v:= .tuple #[.agg (gH n.id n.par a_k n.kids.length aL n.next jE n.pu.length bE eD n.out.length aP (some ⟨G.s,0,none⟩) n.seen.length aM n.old gN n.reqs.length aV),.slice (some ⟨ab,0,none⟩) 1 1,.int .i64 0]) Abv rfl ⟨(⟨a_k,jE,eD,(some ⟨G.s,0,none⟩),gN,aL,bE,aP,aM,aV⟩:bC),(some ⟨ab,0,none⟩),1,by simp[fT,dD,dA],HAT,GK,nO,tZ⟩):P:=h
theorem ai1(h:P:=by
 go_wp2_with fail;refine wp_region_quiet_lit Aab Aab ?_;repeat (first|go_big_quiet_step ((first|(go_at_call 64;exact qh _ _ hks hkb' _ _)|(go_at_call_of 62 (IntKind.i64.wrap (pf+ps));exact gT _ _ g4 _ _)|(go_at_call_of 62 (pf+ps);exact gT _ _ g5 _ _)|(go_at_call_of 62 pm;exact gT _ _ g1 _ _)|(go_at_call_of 62 pf;exact gT _ _ g2 _ _)|(go_at_call_of 62 ps;exact gT _ _ g3 _ _)))|quiet_step ((first|(go_at_call 64;exact qh _ _ hks hkb' _ _)|(go_at_call_of 62 (IntKind.i64.wrap (pf+ps));exact gT _ _ g4 _ _)|(go_at_call_of 62 (pf+ps);exact gT _ _ g5 _ _)|(go_at_call_of 62 pm;exact gT _ _ g1 _ _)|(go_at_call_of 62 pf;exact gT _ _ g2 _ _)|(go_at_call_of 62 ps;exact gT _ _ g3 _ _))))
 refine wpQuiet_nil ?_;intro _ hw';obtain⟨nq,hw''⟩:=hw';subst hw'';go_wp2_with fail;go_ret;exact⟨aD HBAD.symm,(gI.alloc gI.size _).trans ⟨rfl,rfl,rfl,Nat.le_refl _,λ_ _=>rfl⟩⟩):P:=h
theorem ai2(h:P:=by
 open au2 in exact agB):P:=h
theorem OJ(h:P:=by
 clear HR;clear hk hn ho;go_in
 go_wp2_with (first|(go_at_call_of 64 k;refine(HK _).mono ?_;rintro e w1 ⟨rfl,rfl⟩)|(go_at_call_of 61 n;refine(HN _).mono ?_;rintro e w1 ⟨rfl,rfl⟩)|(go_at_call_of 61 no;refine(HO _).mono ?_;rintro e w1 ⟨rfl,rfl⟩))
 all_goals
  go_ret
  refine⟨aD ?_,au w _⟩
  rw [ah HP]
  simp[mh, *]):P:=h
theorem aw5(h:P:=by
 go_simp;refine nN Aab (λz hz=>?_);have Rt:=Hq (ay HQf hz);have NI:=Hq (Ge.trans HGf hz);have HDz:=Hq (Ge.trans HDf hz);clear hz;obtain⟨d0,d1,d2,d3,d4,d5,d6,d7,d8⟩:=nine Rt;have f0:=aj Rt 0;have f1:=aj Rt 1;have f2:=aj Rt 2;have f3:=aj Rt 3;have f4:=aj Rt 4;have f5:=aj Rt 5;have f6:=aj Rt 6;have f7:=aj Rt 7;have f8:=aj Rt 8;have hrl:=aA Rt;refine aF 7 rfl Aab Aad ?_;go_simp;refine KD (λW6 RA=>?_);have e9:W6.heap[qf]?=some (.cells (dD m A6) 30 (0,0)):=by rw [RA];exact oL Rt
 have Er:aC [qf] z W6:=by rw [RA];exact kD
 have HN9:=Hq ((UL.or hqd (aC.trans (F:=[qf]) (aC.of_below HDz) Er)).at);have Zc:=Hq (Below.trans NI (Er.below (B:=wr.heap.size) (λx hx=>Adk) NI.size));have HE9:=Hq e9;clear RA e9 Er d0 d1 d2 d3 d4 d5 d6 d7 d8 f0 f1 f2 f3 f4 f5 f6 f7 f8 hrl;refine wpAny_done Aab ?_;go_simp;go_wp2_with fail;go_meet
 case rel=>exact⟨qf,A6,rfl,HE9,HN9,Zc⟩):P:=h
theorem aw6(h:P:=by
 open amh in exact adI):P:=h
theorem Sq(h:P:=by
 open arS in exact afL):P:=h
theorem aw7(h:P:=by
 open amg in exact adI):P:=h
theorem aw8(h:P:=by
 rw [hR];have hd:decide (o.no<=n.old)=false:=decide_eq_false hc;open arV in exact Z5):P:=h
theorem aw9(h:P:=by
 go_wp2_with fail;go_quiet (fail);have abz:(wr.drewN nq).ownsRow W2.heap.size 95 4 (.slice a (FL k).length cp) (FL k).length (GR.flat aW (FL k)):=ah HO;have hnk:=ah HNK;obtain⟨hi,hz0,hz1,hz2⟩:=ah HI;have hwb:W2.heap.size<=wr.heap.size:=iA.size;go_wp2_with (at_builtin;refine wpList_append_own _ rfl _ _ 26 rfl W2.heap.size 95 i0 (.agg (fI 0 0 ByteArray.empty 0)) 4 40 underlying26 hi hz0 hz1 hz2 rfl Aae _ _ _ rfl (abz.alloc _) ⟨wr.heap.size,0,none⟩ 1 1 (aW ⟨si,st,sk,sn⟩) rfl rfl ?c1 ?c2 ?c3 ?c4 ?c5 ?_)
 case c1=>exact World.news_of_block (heap_alloc_new (wr.drewN nq) _)
 case c2=>exact uq _
 case c3=>unfold maxLen;omega
 case c4=>omega
 case c5=>exact Nat.le_trans hwb (au (wr.drewN nq) _).size
 intro v' w5 hown' hgrow _;obtain⟨an,cn,hv,_⟩:=GR.own_at (enc:=aW) (sz:=4) (l:=FL k++[⟨si,st,sk,sn⟩]) eu (by rw [List.length_append,jd];exact hown');rw [List.length_append] at hv;have hv':v'= .slice an ((FL k).length+1) cn:=hv;clear hv;subst hv'
 have xA:Hid (w5.ownsRow W2.heap.size 95 4 (.slice an FK.length cn) FK.length (GR.flat aW FK)):=by
  unfold Hid;rw [ah HX,List.length_append,jd];exact hown'
 have iX:Hid (aY W2 w5):=(iA.trans (Below.trans (b:=wr.drewN nq) ⟨rfl,rfl,rfl,Nat.le_refl _,λ_ _=>rfl⟩ ((au (wr.drewN nq) (.cells (fI si st sk sn) 95)).mono hwb))).trans ⟨hgrow.os,hgrow.tape,hgrow.output,hgrow.size,λx hx=>hgrow.block x (Nat.lt_of_lt_of_le hx (Nat.le_trans hwb (au (wr.drewN nq) _).size)) (λe=>by have:=uQ abz e.symm;omega)⟩;clear hown' hgrow abz hi hz0 hz1 hz2 c0 c1 c2 c3 c4 c5 c6 c7 c8 m0 m1 m2 m3 m4 m5 m6 s0 s1 s2 s3;go_wp2_with fail;go_roundw
 case rel=>exact⟨k+1,an,cn,Aaa,by rw [ah HX0,ah HX,List.length_append];rfl,Aai,by rw [ah HX0];exact xA,iX⟩
 case measure=>simp[intOf];omega):P:=h
theorem axa(h:P:=by
 obtain⟨r0,r1,r2,r3,r4,r5,r6,r7,r8⟩:=nine HR4;have f0:=aj HR4 0;have f1:=aj HR4 1;have f2:=aj HR4 2;have f3:=aj HR4 3;have f4:=aj HR4 4;have f5:=aj HR4 5;have f6:=aj HR4 6;have f7:=aj HR4 7;have f8:=aj HR4 8;have hzr:=aA HR4;go_simp;refine aF 3 rfl Aab Aad ?_;go_simp;refine KD (λW4 Rz=>?_);have Vv:=Ae (b0:= .int .i64 id) (b1:= .int .i64 par) (b2:= .slice ak kids.length ck) (b3:= .int .i64 next) (b4:= .slice ap pu.length cp) (b5:= .slice ao out.length co) (b6:= .slice as' seen.length cs) (b7:= .int .i64 old) (b8:= .slice ar reqs.length cr) HR4;have hK5:=uN (w:=w3) (g:=w.heap.size) (b0:= .int .i64 id) (b1:= .int .i64 par) (b2:= .slice ak kids.length ck) (b3:= .int .i64 next) (b4:= .slice ap pu.length cp) (b5:= .slice ao out.length co) (b6:= .slice as' seen.length cs) (b7:= .int .i64 old) (b8:= .slice ar reqs.length cr);rw [<-Rz] at Vv hK5;have BF:=Hq Vv;have HK5:=Hq hK5;clear Rz Vv hK5 f0 f1 f2 f3 f4 f5 f6 f7 f8 r0 r1 r2 r3 r4 r5 r6 r7 r8 hzr;open avD in exact aas):P:=h
theorem axb(h:P:=by
 go_wp2_with fail;go_loopw [10] (λi wr=>∃j q:Nat,j<=n.reqs.length/\i= .int .i64 j/\(∀x (hx:x < n.reqs.length),x < j->n.reqs[x].no < no)/\wr=W4.drewN q) (λi _=>n.reqs.length - (intOf i).toNat)
 case atStart=>exact⟨0,0,Nat.zero_le _,rfl,λx hx h=>Aaa,rfl⟩
 case round=>
  obtain⟨j,q,hj,rfl,hlo,rfl⟩:=hrel;have Zo:=Hq hlo;clear hlo;by_cases hlt:j < n.reqs.length
  .obtain⟨g',off',e0,hg',y0,_,_,_⟩:=jf.four HA4 j hlt;cases e0
   rw [Nat.zero_add] at y0
   have HUP:=Hq (fun(h:no<=n.reqs[j].no)=>MF (l:=n.reqs) (no:=no) GQ (i:=j) hj Zo (λx hx hjx=>by
    rcases Nat.lt_or_eq_of_le hjx with h1|h1
    .have:=List.pairwise_iff_getElem.1 GQ j x hlt hx h1;omega
    .subst h1;exact h))
   have Zq:=Hq (fun(h:n.reqs[j].no < no)=>show∀x (hx:x < n.reqs.length),x < j+1->n.reqs[x].no < no from λx hx h2=>by
    by_cases e:x=j
    .subst e;exact h
    .exact Zo x hx Aaa)
   generalize n.reqs[j].no=rn at *;by_cases hcmp:rn < no
   .go_wp2_with fail;go_quiet (fail);go_wp2_with fail;go_roundw
    case rel=>exact⟨j+1,_,Aaa,Aai,Zq hcmp,rfl⟩
    case measure=>simp[intOf];omega
   .have abr:decide (rn < no)=false:=decide_eq_false hcmp;have HJ:=Hq (HUP Aaa);go_wp2_with fail;go_quiet (fail);go_wp2_with fail;go_meet
    case rel=>exact⟨by rw [ah HJ],⟨rfl,rfl,rfl,Nat.le_refl _,λ_ _=>rfl⟩⟩
  .have hje:j=n.reqs.length:=Aaa
   subst hje;have HJ:=Hq (MF (l:=n.reqs) (no:=no) GQ (i:=n.reqs.length) (Nat.le_refl _) Zo (λx hx hjx=>Aaa));have abr:decide ((n.reqs.length:Int) < (n.reqs.length:Int))=false:=Aac
   go_wp2_with fail;go_quiet (fail);go_wp2_with fail;go_meet
   case rel=>exact⟨by rw [ah HJ],⟨rfl,rfl,rfl,Nat.le_refl _,λ_ _=>rfl⟩⟩):P:=h
theorem ai3(h:P:=by
 go_wp2_with fail;go_loopw [7] (λj wr=>∃x q:Nat,x<=i/\j= .int .i64 x/\wr=W0.drewN q) (λj _=>i - (intOf j).toNat)
 case atStart=>exact⟨0,0,Nat.zero_le _,rfl,rfl⟩
 case round=>
  obtain⟨x,q,hx,rfl,rfl⟩:=hrel;have hxl:x < n.seen.length:=Aaa
  obtain⟨b',c',e',hg',⟨u0,_,_⟩,_,_⟩:=jw.three adq.s x hxl;by_cases hxi:x=i
  .subst hxi;rw [hs0,hfi] at u0;have hnn:(mF != mF)=false:=Aac
   go_wp2_with fail;go_quiet (fail);go_wp2_with fail;go_meet
   case rel=>exact⟨rfl,⟨rfl,rfl,rfl,Nat.le_refl _,λ_ _=>rfl⟩⟩
  .have hne:=hbef x hxl Aaa;generalize n.seen[x].f=fx at *;have hnn:(fx != mF)=true:=by simpa using hne
   go_wp2_with fail;go_quiet (fail);go_wp2_with fail;go_roundw
   case rel=>exact⟨x+1,_,Aaa,Aai,rfl⟩
   case measure=>simp[intOf];omega):P:=h
theorem axc(h:P:=by
 by_cases hk:k.toList=[]
 case' neg=>
  go_wp2_with fail
  go_ret
  exact⟨aD (by rw [ah HP];simp[mh,hk]),iA⟩
 by_cases hn:n=0
 case' neg=>
  have hn':¬(0:Int)=n:=λe=>hn e.symm
  go_wp2_with fail
  go_ret
  exact⟨aD (by rw [ah HP];simp[mh,hk,hn]),iA⟩
 subst hn;by_cases hmK:mK=0
 case' neg=>
  have aBs:¬(0:Int)=mK:=λe=>hmK e.symm
  go_wp2_with fail
  go_ret
  exact⟨aD (by rw [ah HP];simp[mh,hk,hmK]),iA⟩
 subst hmK;by_cases hmF:mF=0
 case' neg=>
  have aBq:¬(0:Int)=mF:=λe=>hmF e.symm
  go_wp2_with fail
  go_ret
  exact⟨aD (by rw [ah HP];simp[mh,hk,hmF]),iA⟩
 subst hmF;by_cases hmT:mT=0
 case' neg=>
  have aBv:¬(0:Int)=mT:=λe=>hmT e.symm
  go_wp2_with fail
  go_ret
  exact⟨aD (by rw [ah HP];simp[mh,hk,hmT]),iA⟩
 subst hmT;by_cases hmI:mI=0
 case' neg=>
  have aBr:¬(0:Int)=mI:=λe=>hmI e.symm
  go_wp2_with fail
  go_ret
  exact⟨aD (by rw [ah HP];simp[mh,hk,hmI]),iA⟩
 subst hmI;by_cases hmL:mL=0
 case' neg=>
  have aBt:¬(0:Int)=mL:=λe=>hmL e.symm
  go_wp2_with fail
  go_ret
  exact⟨aD (by rw [ah HP];simp[mh,hk,hmL]),iA⟩
 subst hmL;by_cases hmk:mk.toList=[]
 case' neg=>
  go_wp2_with fail
  go_ret
  exact⟨aD (by rw [ah HP];simp[mh,hk,hmk]),iA⟩
 by_cases hmN:mN=0
 case' neg=>
  have aBu:¬(0:Int)=mN:=λe=>hmN e.symm
  go_wp2_with fail
  go_ret
  exact⟨aD (by rw [ah HP];simp[mh,hk,hmk,hmN]),iA⟩
 subst hmN;go_wp2_with fail;go_ret;exact⟨aD (by rw [ah HP];simp[mh,hk,hmk]),iA⟩):P:=h
theorem axd(h:P:=by
 open au4 in exact agC):P:=h
theorem yg(h:P:=by
 exact⟨Aam,below_regrown _ dq osq⟩):P:=h
theorem axe(h:P:=by
 open arz in exact afD):P:=h
theorem aaB(h:P:=by
 intro k ok hk hki hun hno;refine hfree k ok hk hki ?_ hno;by_cases hjk:j=k
 .subst hjk;exact hjun
 .rw [getD_set_ne true hjk] at hun;exact hun):P:=h
theorem axf(h:P:=by
 open amk in exact aiQ):P:=h
theorem axg(h:P:=by
 rw [ah HD];clear HD hT;go_in
 go_upto_region 1 with fail;refine dz Aab ?_;show iL _ _ _ _ 18 (Array.replicate 18 false) _ _
 refine tk [0,1,2,3,4,5,6,7,8,9,10,11,12,13,14] ?_;iterate 15 (refine vJ (λK hK=>?_);go_simp;refine hK _ ?_;clear hK K)
 refine jc ?_;refine dP 15 rfl Aab Aab Aab (λ_ _ _ _ h=>h) (λK hK=>?_);go_simp
 first
  |(refine hK _ ?_;clear hK K)
  |(apply Exists.intro
    refine⟨λ_=>?_,hK _ ?_⟩
    (exact Ro _ (Sc _))
    clear hK K)
 refine tk [16,17] ?_;open aug in exact aam):P:=h
theorem axh(h:P:=by
 open am6 in exact awp):P:=h
theorem ai4(h:P:=by
 by_cases hlow:s0.l < mL
 .have hd:decide (s0.l < mL)=true:=decide_eq_true hlow;have HLW:=Hq (show eZ s0 mL=mL from if_pos hlow);go_wp2_with fail;go_meet
  case rel=>exact⟨rfl,by rw [ah HLW];exact aT Wv 1 _,aC.set _⟩
 .have hd:decide (s0.l < mL)=false:=decide_eq_false hlow;have HLW:=Hq (show eZ s0 mL=s0.l from if_neg hlow);go_wp2_with fail;go_meet
  case rel=>exact⟨rfl,by rw [ah HLW];exact Wv,aC.refl _ _⟩):P:=h
theorem axi(h:P:=by
 open am5 in exact awp):P:=h
theorem axj(h:P:=by
 have hold:=(kS.kc (k:=9) ((KC.of_below pQ).trans (KC.out H9 ho)) Aaa);have hp:=(ah R4).out (w:=w) Aaa ho;have hr:=(ah HLZ).out (w:=w) Aaa ho
 have hp9:∀g',av.map (λy=>y.block)=some g'->6 < newC w.heap.size 9 c g':=λg' hg'=>by
  have h1:=hp.lo (nD hp hg')
  rw [aZ Aaa]
  omega
 exact NQ.put hold hold _ _ rfl rfl rfl rfl (hp.lies aX).1 (λg' hg' _=> .inr (hp9 g' hg')) hold.o (λy hy=> .inl (hold.co y hy)) hr (λy hy=> .inr (by have h1:=hr.lo hy;rw [aZ Aaa];omega))
  (λg' hg' _ h6=>⟨λe=>by have:=hold.co g' e;omega,hp.ne hr Aae (nD hp hg')⟩) (λy hy h6=>by have:=hold.co y hy;omega)):P:=h
theorem axk(h:P:=by
 open aul in exact OD):P:=h
theorem axl(h:P:=by
 open auz in exact agr):P:=h
theorem ai5(h:P:=by
 have HK:=Hq (λw1=>iF k false w1 hk);cases hn:fV n
 .have HN:=Hq (λw1=>aU n false w1 hn);have HP:=Hq (show R=(decide (no=0)&&false&&false&&mh ⟨mK,mF,mT,mI,mL,mk,mN⟩) by rw [<-ah HR];simp[bq,hk,hn]);exact ai2
 .have HN:=Hq (λw1=>aU n true w1 hn);have HP:=Hq (show R=(decide (no=0)&&false&&true&&mh ⟨mK,mF,mT,mI,mL,mk,mN⟩) by rw [<-ah HR];simp[bq,hk,hn]);exact ai2):P:=h
theorem ai6(h:P:=by
 refine wpQuiet_nil ?_;intro _ hw';obtain⟨⟨dq,osq⟩,hw''⟩:=hw';subst hw'';go_wp2_with fail;go_meet
 case rel=>exact yg):P:=h
theorem aaR(h:P:=by
 go_wp2_with fail;refine H.mono ?_;rintro e w1 ⟨a1,c1,g,hg,rfl,hblk,hb⟩;have HK:=Hq hblk;have HB:=Hq hb;clear hblk hb;go_wp2_with fail;go_ret2
 exact⟨_,_,g,hg,rfl,HK,HB⟩):P:=h
theorem ai7(h:P:=by
 open ar7 in exact afP):P:=h
theorem axm(h:P:=by
 open arF in exact afG):P:=h
theorem axn(h:P:=by
 obtain⟨k,hk,rfl,rfl,rfl⟩:=hrel;have hb:=Mth.sums_lt (s.data.toList.take k);by_cases hlt:k < s.size
 .have HS:Hid (Mth.sums (s.data.toList.take (k+1))=Mth.sumStep (Mth.sums (s.data.toList.take k)) s[k]):=by rw [Mth.take_snoc s k hlt];exact Mth.sums_snoc _ _
  have hc:s[k].toNat < 256:=s[k].toNat_lt;go_wp2
  go_round
  case rel=>exact⟨k+1,Aaa,Aai,by rw [HS.out];simp[Mth.sumStep],by rw [HS.out];simp[Mth.sumStep]⟩
  case measure=>simp[intOf];omega
 .rw [Mth.take_all s k hlt];rw [Mth.take_all s k hlt] at hb;go_wp2
  go_ret;exact⟨MH Aaa,rfl⟩):P:=h
theorem axo(h:P:=by
 go_simp;refine(HR4 A5 x5 (R8.step HGc).bel adp).mono ?_;rintro e y5 ⟨A6,G6,c6,rfl,Tj,hb5⟩;refine⟨hb5.mono HGc.size,?_⟩;have UL:=Hq (show NL x5.heap.size y5 A6 m from λF W'' hk hF=>(Tj.kc0 (KC.keeps hk (λx hx=>Tj.lo x (hF x hx)))).at);have HG5:=Hq (Ge.trans HGc hb5);have HQ5:=Hq (ay HQx hb5);have hqd:qf < x5.heap.size\/y5.heap.size<=qf:= .inl (aA HQx);clear Tj;have HDf:=Hq (Below.refl y5.heap.size y5);have HQf:=HQ5;have HGf:=HG5;exact aw5):P:=h
theorem axp(h:P:=by
 open amf in exact adI):P:=h
theorem axq(h:P:=by
 open aln in exact Wy):P:=h
theorem axr(h:P:=by
 have hil:i < l.length:=by simpa using hi'
 by_cases e:i=k
 .subst e;refine⟨b,cc,?_,?_⟩
  .rw [List.getElem_set_self,List.getElem?_set_self hkT]
  .rw [List.getElem_set_self];unfold lS;rw [if_pos rfl];exact hi.keeps hkp (λx hx=>by simpa using hgi x hx)
 .obtain⟨b',c',ht,hi2⟩:=hr i hil;refine⟨b',c',?_,?_⟩
  .rw [List.getElem_set_ne Aaa,List.getElem?_set_ne Aaa];exact ht
  .rw [List.getElem_set_ne Aaa];unfold lS;rw [if_neg e];exact hi2.keeps hkp (λx hx=>by simpa using hg4 x (jH hil x hx))):P:=h
theorem axt(h:P:=by
 have hold:=(kS.kc (k:=9) ((KC.of_below pQ).trans (KC.out H9 ho)) Aaa);have hr:=(ah HLZ).out (w:=w) Aaa ho
 exact NQ.put hold hold _ _ rfl rfl rfl rfl hold.p.at (λg' hg' hp'=> .inl (hold.cpB hold g' hg' hp')) hold.o (λy hy=> .inl (hold.co y hy)) hr (λy hy=> .inr (by have h1:=hr.lo hy;rw [aZ Aaa];omega))
  (λg' hg' hp' h6=>by have:=hold.cpB hold g' hg' hp';omega) (λy hy h6=>by have:=hold.co y hy;omega)):P:=h
theorem axu(h:P:=by
 go_wp2_with fail;go_quiet (fail);go_wp2_with fail;go_roundw
 case rel=>exact⟨k+1,_,Aaa,Aai,rfl⟩
 case measure=>simp[intOf];omega):P:=h
theorem ai8(h:P:=by
 obtain⟨g,off,e,hg,hc⟩:=h i hi;refine⟨g,off,e,hg,?_,?_,?_,?_⟩
 .simpa using hc 0 Aaa
 .simpa [Nat.add_assoc] using hc 1 Aaa
 .simpa [Nat.add_assoc] using hc 2 Aaa
 .simpa [Nat.add_assoc] using hc 3 Aaa):P:=h
theorem aAH(h:P:=by
 rw [RA];exact hW5.W.keeps (aK [.int .i64 mF,.int .i64 (eZ s0 mL),.slice (some ⟨gi,0,none⟩) (bg s0 mL).length OV] _ (i*3)) (λx hx hm=>by have h1:=(gV hx).1;simp at hm;omega)):P:=h
theorem axv(h:P:=by
 open auy in exact agr):P:=h
theorem adO(h:P:=by
 go_wp2_with (go_at_call 242;refine(yG _ _).mono ?_;rintro e w' ⟨rfl,rfl⟩)
 go_ret3
 exact⟨acJ HR,rfl⟩):P:=h
theorem axw(h:P:=by
 constructor
 .intro hf;have e:l=l.take i++l[i]::l.drop (i+1):=by rw [<-List.drop_eq_getElem_cons hi,List.take_append_drop]
  have h2:(l.take i++l[i]::l.drop (i+1)).find? f=some l[i]:=by
   rw [List.find?_append,h,List.find?_cons,hf];rfl
  rw [<-e] at h2;exact h2
 .intro hf;rw [List.take_succ_eq_append_getElem hi,List.find?_append,h,List.find?_cons,hf];rfl):P:=h
theorem ai9(h:P:=by
 have HN:=Hq (λw1=>aU n false w1 hn);have HP:=Hq (show R=(decide (no=0)&&true&&false&&mh ⟨mK,mF,mT,mI,mL,mk,mN⟩) by rw [<-ah HR];simp[bq,hk,hn]);exact ai2):P:=h
theorem WG(h:P:=by
 unfold World.setCell;simp only[Array.getElem?_modify];rw [if_pos trivial,h];rfl):P:=h
theorem aAI(h:P:=by
 rw [RA];exact((aC.set _).mono Aac).trans ((aK [.int .i64 mF,.int .i64 (eZ s0 mL),.slice (some ⟨gi,0,none⟩) (bg s0 mL).length OV] _ (i*3)).mono Aac)):P:=h
theorem axx(h:P:=by
 go_wp2
 go_ret;refine⟨rfl,?_,(Below.refl _ _).alloc (Nat.le_refl _) _⟩
 exact⟨_,len,cap,0,x,heap_alloc_new w _,Nat.zero_le _,hlen,λj hj=>by
  obtain⟨b',off',z',e,hb',z0',z1',hz'⟩:=ah Jp j hj
  exact⟨b',off',z',e,hb',z0',z1',by rw [World.cell?_alloc_lt _ _ ⟨b',off'+j,none⟩ hb'];exact hz'⟩⟩):P:=h
theorem aAJ(h:P:=by
 rw [Ev s a Aaa];have h:=uo hc (a+4) (s.size - (a+4)) (s.size - (a+4)) Aaa;rw [h,show a+min (s.size - a) 1006=a+4+(s.size - (a+4)) by omega]):P:=h
theorem WH(h:P:=by
 have h:=ah mU;rw [List.take_length] at h;exact lD.trans h):P:=h
theorem axy(h:P:=by
 have h1:=(cZ hok).1;have h2:=(cZ hok).2.2.1;have h3:=wu h1;rw [uV h1,Bool.and_eq_true,decide_eq_true_eq] at h2;have h4:=congrArg List.length h2.1;rw [List.length_map,ow] at h4;unfold dH at h1;simp only[Bool.and_eq_true,decide_eq_true_eq] at h1;split at h3<;>omega):P:=h
theorem adP(h:P:=by
 obtain⟨T,hT,hl,_⟩:=YZ.no.s;have:=(hT i (by rw [hl,ah HSL];exact hi)).2.2 2 Aaa;exact this.2):P:=h
theorem axz(h:P:=by
 refine run_convert_bytes_back (P:=prog) w 22 9 5 ⟨g,0,none⟩ 1 [UInt8.ofNat K.toNat] underlying22 underlying5 underlying9 ?_;intro j hj;obtain rfl:j=0:=Abd
 show w.cell? ⟨g,0,none⟩=_
 rw [hc];simp only[List.getElem_cons_zero];rw [toNat_byte _ Aaa];congr 2
 omega):P:=h
theorem axA(h:P:=by
 clear hbad;go_in
 go_wp2_with (first|(go_at_call 241;refine(HS _).mono ?_;rintro e w1 ⟨rfl,rfl⟩;simp only[rW])|(go_at_call 242;refine(yG _ _).mono ?_;rintro e w' ⟨rfl,rfl⟩))
 go_ret3
 exact⟨by rw [ah HR];rfl,Below.refl _ _⟩):P:=h
theorem axB(h:P:=by
 obtain⟨e,hg,hc⟩:=h i hi;exact⟨e,hg,⟨by simpa using(hc 0 Aaa).1,by simpa using(hc 1 Aaa).1,by simpa using(hc 2 Aaa).1,by simpa using(hc 3 Aaa).1⟩,by simpa using(hc 0 Aaa).2,(hc 1 Aaa).2,(hc 2 Aaa).2,(hc 3 Aaa).2⟩):P:=h
theorem aAK(h:P:=by
 rcases Nat.lt_or_ge G.s B with h1|h1
 .have h2:=kS.lo G.s h1;rw [eT Aaa,hc4] at h2;omega
 .exact h1):P:=h
theorem aAL(h:P:=by
 rcases vD.2 with⟨h1,_⟩|⟨g1,aCa,aCb,hv1,_,_,aCD,_⟩
 .simp at h1
 .simp only[Value.slice.injEq] at hv1;omega):P:=h
theorem aAM(h:P:=by
 rw [Ev s a Aaa];have h:=uo hc (a+4) 1002 1002 Aaa;rw [h,show a+min (s.size - a) 1006=a+4+1002 by omega]):P:=h
theorem axC(h:P:=by
 go_wp2_with (go_at_call 63;first|(refine(qx _ _ _ _ ?_ ?_).mono ?_;omega;omega;rintro e w' ⟨rfl,rfl⟩)|(refine(sW _ _ _ _ ?_).mono ?_;omega;rintro e w' ⟨rfl,rfl⟩))
 go_ret;exact⟨aD (by rw [ah HF];simp;omega),rfl⟩):P:=h
theorem axD(h:P:=by
 open an5 in exact Hu):P:=h
theorem axE(h:P:=by
 clear HR;clear ho;go_in
 go_wp2_with (first|(go_at_call_of 61 no;refine(HO _).mono ?_;rintro e w1 ⟨rfl,rfl⟩))
 all_goals
  go_ret
  refine⟨aD ?_,au w _⟩
  rw [ah HP]
  simp[mh, *]):P:=h
theorem adQ(h:P:=by
 obtain⟨_,_,e0,_⟩:=jw.three JF.wk.no.s i Aba;exact e0):P:=h
theorem aAN(h:P:=by
 by_cases hcz:aV=pos
 .refine⟨_,rfl,?_⟩;rw [show n.reqs.drop pos=[] by apply List.drop_eq_nil_of_le;omega];exact GR.at_nil _ _
 .refine⟨_,rfl,?_⟩;rw [if_neg hcz];exact GR.At.drop HA5 pos):P:=h
theorem axF(h:P:=by
 have hw:Region.wanted o (yielded ops a.tmps)=true:=by simp[Region.wanted,hgd]
 rw [if_pos hw];exact wp_append_own w s x t ho base e i z size bytes ht hi hz hsize hby hzs hsz v n xs hs hown ad m c news hx hl hnews h1 h63 hbytes hbase h):P:=h
theorem aja(h:P:=by
 cases fuel with
 |zero=>exact⟨h.1,λy hy=>h.2 y (Ge.trans hx hy)⟩
 |succ fuel=>exact λy hy=>h y (Ge.trans hx hy)):P:=h
theorem axG(h:P:=by
 intro vs;induction vs with
 |nil=>intro w o _;rfl
 |cons v vs ih=>
  intro w o h
  rw [List.length_cons] at h
  exact(ih (w.setCell ⟨g,o,none⟩ v) (o+1) Aaa).trans (World.cell?_setCell_other _ _ _ _ (by simp<;>omega))):P:=h
theorem axH(h:P:=by
 clear fO;refine wp_region_quiet_below Aab Aab ?_;repeat (first|go_big_quiet_step ((first|(go_at_call_of 63 si;exact a1 _ _)|(go_at_call 64;exact a2 _ _)|(go_at_call 61;exact a3 _ _)|(go_at_call_of 63 st;exact a4 _ _)))|quiet_step ((first|(go_at_call_of 63 si;exact a1 _ _)|(go_at_call 64;exact a2 _ _)|(go_at_call 61;exact a3 _ _)|(go_at_call_of 63 st;exact a4 _ _))))
 exact ai6):P:=h
theorem axI(h:P:=by
 clear fO;refine wp_region_quiet_below Aab Aab ?_;repeat (first|go_big_quiet_step ((first|(go_at_call 63;exact a1 _ _)|(go_at_call 47;exact a2 _ _)|(go_at_call 64;exact a3 _ _)|(go_at_call 61;exact a4 _ _)))|quiet_step ((first|(go_at_call 63;exact a1 _ _)|(go_at_call 47;exact a2 _ _)|(go_at_call 64;exact a3 _ _)|(go_at_call 61;exact a4 _ _))))
 exact ai6):P:=h
theorem axJ(h:P:=by
 clear fO;refine wp_region_quiet_below Aab Aab ?_;repeat (first|go_big_quiet_step ((first|(go_at_call 47;exact cN _ _)|(go_at_call 61;exact cS _ _)))|quiet_step ((first|(go_at_call 47;exact cN _ _)|(go_at_call 61;exact cS _ _))))
 exact ai6):P:=h
theorem aAO(h:P:=by
 rw [hW'];exact GR.setW_blk (gH n.id n.par a_k n.kids.length aL n.next jE n.pu.length bE eD n.out.length aP eO n.seen.length aM n.old (some ⟨g,off,none⟩) n.reqs.length aV).toList (o:=0) (xs:=fU.toList) qZ):P:=h
theorem axK(h:P:=by
 unfold jq at h;rcases List.mem_append.1 h with h|h
 .exact .inr ((List.takeWhile_sublist _).mem h)
 .rcases List.mem_cons.1 h with h|h
  .exact .inl h
  .exact .inr ((List.dropWhile_sublist _).mem (Gu l p.k q h))):P:=h
theorem axL(h:P:=by
 obtain⟨g',off,e,hl,_⟩:=hr.p 0 hp;have hx':A.p.map (λy=>y.block)=some x:=hx;have:=hr.cp x hx' hp;have e2:x=g':=by rw [e] at hx';simpa using hx'.symm
 rw [e2] at this ⊢;rw [sm g' hl Aaa];exact this):P:=h
theorem axM(h:P:=by
 have hm:l[i]∈sU l key:=by
  rw [head_take];exact List.mem_take_iff_getElem.2 ⟨i,Aaa,rfl⟩
 have:=zL hm;rw [e] at this;exact absurd this (List.lt_irrefl _)):P:=h
theorem axN(h:P:=by
 have HP:Hid (TT=false):=ah HBAD (by rw [ah Bh,hbv];rfl);subst hbv;clear HBAD gU fO lD Bh;go_wp2_with fail;go_ret;exact⟨aD HP.symm,KI⟩):P:=h
theorem axO(h:P:=by
 clear hbad;go_in
 go_wp2_with (go_at_call 181;refine(HS _).mono ?_;rintro e w1 ⟨rfl,hb1⟩;simp only[rU])
 go_ret2
 exact⟨by rw [ah HR];rfl,hb1⟩):P:=h
theorem axP(h:P:=by
 go_wp2_with fail;refine HKP.mono ?_;rintro e wz ⟨rfl,A5,G5,c5,hfin⟩;have Dv:=Hq hfin;clear hfin;go_wp2_with fail;go_ret;rw [ah HAD];exact⟨rfl,A5,G5,c5,Dv⟩):P:=h
theorem axQ(h:P:=by
 go_wp2_with fail;go_quiet (fail);go_wp2_with fail;go_meet
 case rel=>exact⟨by rw [<-ah Ej,ah HJ],⟨rfl,rfl,rfl,Nat.le_refl _,λ_ _=>rfl⟩⟩):P:=h
theorem axR(h:P:=by
 intro x hx;rw [hr];refine⟨λh=>Aar,λj hj=>?_⟩;obtain rfl:j=i:=Abd
 refine⟨λe=>absurd e hiE,λ_=>?_⟩;unfold wpOp;simp only[hi];rw [if_pos hw];exact .inl (h x hx)):P:=h
theorem adR(h:P:=by
 go_wp2_with fail
 all_goals
  go_ret
  exact⟨by simp[*],au w _⟩):P:=h
theorem axS(h:P:=by
 subst hbv;clear HBAD gU fO lD Bh;go_wp2_with fail;go_roundw
 case rel=>exact⟨k+1,Aaa,Aai,HG,ais,KI⟩
 case measure=>simp[intOf];omega):P:=h
theorem axT(h:P:=by
 by_cases h:0<=iW s i
 .exact(iE h).2.2.2.1
 .unfold iW at h;unfold jJ;cases hG:textOf s i.toNat (iD s i) with
  |none=>simp[YA]
  |some p=>rw [hG] at h;exact absurd (by simp[Ra]) h):P:=h
theorem WI(h:P:=by
 go_ret;exact⟨aD HP.symm,au w _⟩):P:=h
theorem axU(h:P:=by
 have h2I:¬(40:Int)<=(n.out.length:Int):=Aaa
 have q2:decide ((40:Int)<=(n.out.length:Int))=false:=by simpa using h2I
 have q3:decide ((1000000000:Int)<=n.next)=true:=by simpa using h3
 exact Zw0):P:=h
theorem aAP(h:P:=by
 rw [hW'];exact aK (gH n.id n.par a_k n.kids.length aL n.next jE n.pu.length bE eD n.out.length aP eO n.seen.length aM n.old (some ⟨g,off,none⟩) n.reqs.length aV).toList W1 0):P:=h
theorem ajb(h:P:=by
 rcases Nat.lt_or_ge g w.heap.size with h'|h'
 .exact h'
 .rw [Array.getElem?_eq_none h'] at h;cases h):P:=h
theorem aaS(h:P:=by
 repeat (refine Below.setNew ?_ Aaa)
 exact HB1):P:=h
theorem JG(h:P:=by
 simp only[ByteArray.size_append,Md];omega):P:=h
theorem agY(h:P:=by
 rw [Lp];exact((show zw aN 4 (w.heap.size+3) wc (some ⟨gv,1*4,none⟩) IT from⟨HTA,λg off e=>by cases e;exact aBM⟩).keeps (aC.set _) (λx hx=>Aak)).1):P:=h
theorem aay(h:P:=by
 unfold keyOk at hs;simp only[Bool.and_eq_true,decide_eq_true_iff] at hs;have:=aH s;omega):P:=h
theorem agZ(h:P:=by
 obtain⟨g',off',e,hg',hc⟩:=hat i hi;cases e
 refine⟨rfl,hg',λj hj=>⟨?_,?_⟩⟩
 .have:=hc j hj;rwa [Nat.zero_add] at this
 .unfold World.frozen?;rw [hblk];simp):P:=h
theorem aaz(h:P:=by
 rintro e w' ⟨rfl,A',G',c',hW'⟩;exact⟨rfl,A',G',c',v,by rw [List.append_nil];exact hW'⟩):P:=h
theorem ag0(h:P:=by
 open an4 in exact Hu):P:=h
theorem ag1(h:P:=by
 generalize l[k]=y at *;go_wp2_with fail;go_round
 case rel=>exact⟨k+1,Aaa,Aai,by rw [ah HS,ah HN];rfl⟩
 case measure=>simp[intOf];omega):P:=h
theorem ag2(h:P:=by
 have hc:∀i,w.cell? ⟨g,i,none⟩=#[v0,v1,v2,v3,v4,v5,v6,v7,v8,v9,v10][i]?:=λi=>cell_of_row w g i _ t (0,0) h
 exact⟨hc 0,hc 1,hc 2,hc 3,hc 4,hc 5,hc 6,hc 7,hc 8,hc 9,hc 10⟩):P:=h
theorem ag3(h:P:=by
 split at h
 .omega
 .split at h
  .omega
  .split at h
   .omega
   .cases h):P:=h
theorem ag4(h:P:=by
 go_wp2_with fail;refine(HO _).mono ?_;rintro e w1 ⟨rfl,hb1⟩;have hB:=(au w _).trans (hb1.mono Aac);clear hb1 HO;go_wp2_with fail;go_ret;exact⟨rfl,hB⟩):P:=h
theorem awW(h:P:=by
 obtain⟨g,rest,e,hb,_⟩:=Ai yZ.r (show 0 < n.reqs.length by omega);exact⟨g,e,hb,λx=>by rw [show gN=some ⟨g,0,none⟩ from e];simp[Value.ownBlock,eq_comm]⟩):P:=h
theorem aaA(h:P:=by
 go_ret;exact⟨aD HN.symm,au w _⟩):P:=h
theorem ag5(h:P:=by
 go_wp2_with fail;refine(HO _).mono ?_;rintro e w1 ⟨rfl,hb1⟩;have hB:=(au w _).trans (hb1.mono Aac);clear hb1;go_wp2_with fail;go_ret;exact⟨rfl,hB⟩):P:=h
theorem ag6(h:P:=by
 go_wp2_with fail;exact bodyPost_ret (v:= .tuple #[wR ⟨0,F,T,I,L,k,N⟩,.bool false]) Abb rfl ⟨Aaw,mH⟩):P:=h
theorem ag7(h:P:=by
 go_wp2_with fail;exact bodyPost_ret (v:= .tuple #[wR ⟨2,F,T,I,L,k,N⟩,.bool false]) Abb rfl ⟨Aaw,mH⟩):P:=h
theorem ag8(h:P:=by
 rcases Nat.lt_or_ge 5 w.heap.size with h'|h'
 .exact h'
 .have h:=hH;unfold Handle World.cell? at h;rw [Array.getElem?_eq_none h'] at h;cases h):P:=h
theorem ag9(h:P:=by
 rw [ej,<-hf,hu] at h2;injection e with e
 subst e;have ea:(⟨g,off,none⟩:Addr).add j=⟨g,off+j,none⟩:=by unfold Addr.add;split<;>simp_all
 rw [ea];exact h2):P:=h
theorem aha(h:P:=by
 have h2:=jZ.co x h1;rcases hm' with h3|h3
 .rw [aZ Aaa] at h2;cases h2
 .rw [eT h3.1] at h2;omega):P:=h
theorem ahb(h:P:=by
 exact⟨e,Nat.lt_of_lt_of_le hg hs,λj hj=>⟨(World.cell?_of_block (w:=w) hbx).trans (hc j hj).1,(World.frozen?_of_block (w:=w) hbx).trans (hc j hj).2⟩⟩):P:=h
theorem ahc(h:P:=by
 intro vs;induction vs with
 |nil=>intro w o;rfl
 |cons v vs ih=>intro w o;exact(ih (w.setCell ⟨g,o,none⟩ v) (o+1)).trans (by rw [World.frozen?_setCell])):P:=h
theorem ahd(h:P:=by
 have h:=ah kR k hlt;have h2:=ah mU;rw [<-ah HY] at h;exact h.trans (by rw [show(λs t:Int=>iQ s t)=iQ from rfl,h2];rfl)):P:=h
theorem Vl(h:P:=by
 have:=ready_mono hj hji;rw [H.1] at this;cases this):P:=h
theorem ahe(h:P:=by
 rw [hr];refine⟨λh=>Aar,λj hj=>?_⟩;obtain rfl:j=i:=Abd
 unfold wpOp;simp only[hi];rw [if_pos hw];exact .inl (h x hx)):P:=h
theorem ahf(h:P:=by
 rw [List.length_append] at hv6;have hv7:v'= .slice a6 (n.out.length+1) c6:=hv6;subst hv7;exact⟨a6,c6,w',hr,by rw [jd];exact ho,hg,hw⟩):P:=h
theorem ahg(h:P:=by
 intro vs;induction vs with
 |nil=>intro w o;rfl
 |cons v vs ih=>intro w o;exact(ih (w.setCell ⟨g,o,none⟩ v) (o+1)).trans Aas):P:=h
theorem OI(h:P:=by
 exact⟨0,Nat.zero_le _,rfl,Below.refl _ _⟩):P:=h
theorem ahh(h:P:=by
 rcases xL with h|⟨j,y,h1,h2,h3⟩
 .exact .inl h
 .exact .inr ⟨j,y,h1,h2,(hbw.cell (p:=⟨g,off+j*4,none⟩) hgw).trans h3⟩):P:=h
theorem Vm(h:P:=by
 rw [size_of_list,List.length_append,aH];omega):P:=h
theorem Vn(h:P:=by
 rw [h1];exact⟨h2r,by rw [aZ Aaa];omega⟩):P:=h
theorem aaC(h:P:=by
 go_in
 go_wp2
 go_ret;exact⟨rfl,rfl⟩):P:=h
theorem ahi(h:P:=by
 obtain⟨c0,c1,c2,c3,c4,c5,c6,c7,c8,c9⟩:=jr h.blk;clear h;go_in
 go_wp2_with fail;go_ret;exact⟨rfl,rfl⟩):P:=h
theorem ahj(h:P:=by
 rw [beq_eq_false_iff_ne];intro h;rw [ByteArray.toList_eq,ByteArray.toList_eq] at h;exact hp (ByteArray.ext (Array.ext' h))):P:=h
theorem aaD(h:P:=by
 go_in
 go_wp2
 go_ret;exact⟨rfl,rfl⟩):P:=h
theorem aaE(h:P:=by
 go_in
 go_wp2
 go_ret;exact⟨rfl,rfl⟩):P:=h
theorem ahk(h:P:=by
 have HBAD:=Hq (iR hlt (show kW l (j+1)=false by rw [ah jB];simp[hsl]));clear jB gU hsl;exact ai1):P:=h
theorem ahl(h:P:=by
 have h:=(cZ hok).1;unfold dH at h;simp only[Bool.and_eq_true,decide_eq_true_eq] at h;exact decide_eq_false Aaa):P:=h
theorem ahm(h:P:=by
 refine⟨h.1,?_⟩;rcases h.2 with h2|⟨g,cap,cur,hv,hg,hr⟩
 .exact .inl h2
 .exact .inr ⟨g,cap,cur,hv,Nat.le_trans hb hg,hr⟩):P:=h
theorem ahn(h:P:=by
 have h2I:(40:Int)<=(n.out.length:Int):=Aaa
 have q2:decide ((40:Int)<=(n.out.length:Int))=true:=by simpa using h2I
 exact Zw0):P:=h
theorem aho(h:P:=by
 go_in
 go_wp2_with (go_at_call 128;refine(HA _).mono ?_;rintro e w1 ⟨rfl,rfl⟩)
 exact aaA):P:=h
theorem aaG(h:P:=by
 unfold wpOp;simp only[hi];rw [if_pos hwi];exact .inl (h1 x hx)):P:=h
theorem aaH(h:P:=by
 unfold wpOp;simp only[hj];rw [if_pos hwj];exact .inl (h2 x hx)):P:=h
theorem aaI(h:P:=by
 go_in
 go_wp2
 go_ret;exact⟨rfl,rfl⟩):P:=h
theorem ahp(h:P:=by
 subst hji;exact(hy.toG hb).wpOp hi hx λy hy'=>⟨hy'.mono (Nat.le_trans hb hx.size),Dl (Ge.trans hx hy') H⟩):P:=h
theorem ahq(h:P:=by
 go_in
 go_wp2_with (go_at_call 124;refine HH.mono ?_;rintro e w1 ⟨rfl,rfl⟩)
 exact aaA):P:=h
theorem ahr(h:P:=by
 go_in
 go_wp2
 refine wp_loop_rounds 1 ?_;rw [rounds_succ];go_wp2
 go_ret;exact⟨rfl,rfl⟩):P:=h
theorem ahs(h:P:=by
 have hl:=aH s;unfold kb;cases hd:s.data.toList with
 |nil=>rw [hd] at hl;simp at hl;omega
 |cons b r=>simp):P:=h
theorem aht(h:P:=by
 simp only[Bool.and_eq_true,fV,decide_eq_true_iff] at h;exact⟨hK,Aaa,ajQ h.1.1.1,Aaa,.inl (Ns h.2)⟩):P:=h
theorem ahu(h:P:=by
 go_wp2_with fail;go_roundw
 case rel=>exact⟨k+1,Aaa,Aai,HB1⟩
 case measure=>simp[intOf];omega):P:=h
theorem aw0(h:P:=by
 obtain⟨g',off',e0,_,h0,_⟩:=jf.four (HL6.lies bX).1 0 Aac;cases e0
 simpa using h0):P:=h
theorem aaJ(h:P:=by
 exact((Below.refl _ _).alloc (Nat.le_refl _) _).alloc Aac _):P:=h
theorem ahv(h:P:=by
 go_wp2_with (go_at_call 63;refine(uI _ _ _ r _ h).mono ?_;rintro e w1 ⟨rfl,rfl⟩)
 go_ret;exact⟨rfl,rfl⟩):P:=h
theorem aw1(h:P:=by
 cases hq:IQ with
 |nil=>have:=ah HLQ;rw [hq] at this;simp at this
 |cons a b=>exact⟨a,b,rfl⟩):P:=h
theorem ahw(h:P:=by
 go_round
 case rel=>exact⟨k+1,x,Aaa,Aai,rfl,Ef.symm,HV⟩
 case measure=>simp[intOf];omega):P:=h
theorem ahx(h:P:=by
 rcases hrow.2 with⟨rfl,h0⟩|⟨g,cap,cur,rfl,_⟩
 .exact⟨none,0,by rw [h0]⟩
 .exact⟨_,_,rfl⟩):P:=h
theorem ahy(h:P:=by
 rw [List.length_append,List.length_append,iC,List.length_take,List.length_drop,List.length_drop];omega):P:=h
theorem ahz(h:P:=by
 obtain⟨a,cp,he,ha⟩:=GR.own_at (enc:=aW) (sz:=4) (l:=n.out) eu h.o;cases he
 exact ha):P:=h
theorem ahA(h:P:=by
 obtain⟨a,cp,he,ha⟩:=GR.own_at (enc:=aN) (sz:=4) (l:=n.reqs) bX h.r;cases he
 exact ha):P:=h
theorem aaK(h:P:=by
 simp only[Bool.and_eq_true,decide_eq_true_eq] at h;omega):P:=h
theorem aaL(h:P:=by
 simp only[Bool.and_eq_true,decide_eq_true_eq];omega):P:=h
theorem ahB(h:P:=by
 exact hk2.seen (hk1.seen hno.s hno.c4 hno.ci Aaa Aaa) hno.c4 hno.ci Aaa Aaa):P:=h
theorem ahC(h:P:=by
 have h:=ah kR k hlt;have h2:=ah mU;rw [<-ah HY] at h;rw [h,h2];rfl):P:=h
theorem ahD(h:P:=by
 rw [List.length_append,List.length_append,List.length_take,List.length_drop,h1];show _+4+_=_
 omega):P:=h
theorem ahE(h:P:=by
 go_quiet (fail);go_wp2_with fail;go_meet
 case rel=>exact⟨rfl,_,sH w1 _ _⟩):P:=h
theorem aaM(h:P:=by
 dsimp only at s0 s1 s2 s3 t0 t1 t2 t3;exact axu):P:=h
theorem ahF(h:P:=by
 rcases List.mem_cons.1 (hs a Aac) with h|h
 .exact absurd h hab
 .exact h):P:=h
theorem ahG(h:P:=by
 simp only[dA] at hpos;rw [List.getElem_set_ne Aaa] at hpos;exact hpos):P:=h
theorem ahH(h:P:=by
 go_in
 go_wp2
 go_ret;exact⟨aD HF.symm,rfl⟩):P:=h
theorem ahI(h:P:=by
 refine Ac hi h hf.symm ?_;have:=LH hs hL;rw [hf] at this;exact this):P:=h
theorem ahJ(h:P:=by
 unfold dH at h;simp only[Bool.and_eq_true] at h;exact(of_decide_eq_true h.1.1.1.2).2):P:=h
theorem aaN(h:P:=by
 obtain⟨p,rfl⟩:=regrown_of_below hx;exact hv p):P:=h
theorem ahK(h:P:=by
 go_simp;go_wp2_with fail;go_ret;exact⟨rfl,A,G,c,v,by rw [List.append_nil];exact HZ⟩):P:=h
theorem ahL(h:P:=by
 rw [<-xq s i j k hk hlt,Rf s i j k m v hk hlt hu h,Nat.mod_eq_of_lt Aaa]):P:=h
theorem ahM(h:P:=by
 rcases List.mem_cons.1 h1 with h2|h2
 .exact .inl (.inr h2)
 .exact .inr (hF y h2)):P:=h
theorem ahN(h:P:=by
 rcases List.mem_cons.1 hx with h2|h2
 .omega
 .have:=hA'.1 x h2;omega):P:=h
theorem ahO(h:P:=by
 clear hv2 hu2 hv5 hu;go_wp2
 go_ret2
 exact⟨get_none HR,Below.refl _ _⟩):P:=h
theorem ahP(h:P:=by
 have xE:=Hq hc1;clear hc1;go_wp2
 go_ret;exact⟨_,rfl,List.getElem_mem hk,xE,hk1⟩):P:=h
theorem ahQ(h:P:=by
 simp only[Bool.and_eq_true,fV,decide_eq_true_iff] at h;have:=hkey _ h.1.1.1;omega):P:=h
theorem aaO(h:P:=by
 exact⟨0,Nat.zero_le _,rfl,rfl,Below.refl _ _⟩):P:=h
theorem aaP(h:P:=by
 go_ret;exact⟨aD (HP.symm.trans HQ),hB⟩):P:=h
theorem ahR(h:P:=by
 cases sp with
 |nil=>simp at abD;omega
 |cons s0 sp'=>exact⟨s0,sp',rfl⟩):P:=h
theorem ahS(h:P:=by
 cases v.ownBlock with
 |none=>exact .inl rfl
 |some k=>exact .inr (by intro e;cases e)):P:=h
theorem ahT(h:P:=by
 simp only[Bool.and_eq_true] at h;exact⟨TW (of_decide_eq_true h.1.1.1),zm h.2⟩):P:=h
theorem ahU(h:P:=by
 subst hji;exact hy.wpOp hi hx λy hy'=>⟨hy',wI (Ge.trans hx hy') H⟩):P:=h
theorem ahV(h:P:=by
 subst hji;exact hy.wpOp hi hx λy hy'=>⟨hy',Dp (Ge.trans hx hy') H⟩):P:=h
theorem ahW(h:P:=by
 obtain⟨D,⟨es,clock,h1,h2⟩,ha⟩:=h;exact⟨D,⟨es,clock,hb.trans h1,h2⟩,ha⟩):P:=h
theorem ahX(h:P:=by
 subst hji;exact hy.wpOp hi hx λy hy'=>⟨hy',GJ (Ge.trans hx hy') H⟩):P:=h
theorem ahY(h:P:=by
 rintro e w' ⟨rfl,rfl⟩;exact⟨rfl,A,G,c,v,by rw [List.append_nil];exact h⟩):P:=h
theorem aaQ(h:P:=by
 rw [Nat.add_mul,Nat.one_mul] at this;omega):P:=h
theorem ahZ(h:P:=by
 go_in
 go_wp2_with fail;go_ret;exact⟨rfl,rfl⟩):P:=h
theorem ah0(h:P:=by
 rw [if_neg Aaa,if_neg ej];exact h.nd i j hi' hj hij Aaa h1 h2):P:=h
theorem ah1(h:P:=by
 exact⟨k+1,Aaa,Aai,iA.trans ((Ge.trans HX3 YX).mono iA.size)⟩):P:=h
theorem aw4(h:P:=by
 show(takeN n o.m).1.id=n.id
 unfold takeN;split
 .rfl
 .split<;>rfl):P:=h
theorem ah2(h:P:=by
 unfold bq at h;split at h
 .omega
 .split at h
  .omega
  .exact ag3):P:=h
theorem ah3(h:P:=by
 unfold dJ rP at *;split at h
 .cases h
 .rename_i hc
  rw [if_neg hc]):P:=h
theorem ah4(h:P:=by
 go_in
 go_wp2
 go_ret;exact⟨Aaf,rfl⟩):P:=h
theorem Yw0(h:P:=by
 open am8 in exact awq):P:=h
theorem Sw0.Kw0(h:P:=by
 have HCQ:=Hq (BA.nine (Nat.zero_le _));open aAF in exact Sm):P:=h
theorem Sw1.Kw0(h:P:=by
 open aAE in exact Sm):P:=h
theorem Sw2.Kw0(h:P:=by
 open aAD in exact Sm):P:=h
theorem Sw3.Kw0(h:P:=by
 open aAC in exact Sm):P:=h
theorem Sw4.Kw0(h:P:=by
 open aAB in exact Sm):P:=h
theorem Sw5.Kw0(h:P:=by
 open aAA in exact Sm):P:=h
theorem Sw6.Kw0(h:P:=by
 open aAz in exact Sm):P:=h
theorem Yw1(h:P:=by
 have HX:=Hq hx;have HKQ:=Hq hK;clear hx hK;generalize fQ n o=TT at *;open aAn in exact adH):P:=h
theorem Sw7.Kw1(h:P:=by
 have c0:W.cell? ⟨w2.heap.size,5,none⟩=some (.func (.func 50) #[.pointer (some ⟨wb,0,none⟩)] #[]):=cell_of_row W _ 5 _ _ (0,0) e1;exact Zw4):P:=h
theorem Sw8.Kw1(h:P:=by
 have c0:W.cell? ⟨w2.heap.size,4,none⟩=some (.func (.func 111) #[.pointer (some ⟨wb,0,none⟩)] #[]):=cell_of_row W _ 4 _ _ (0,0) e1;exact Zw4):P:=h
theorem Sw9.Kw1(h:P:=by
 have c0:W.cell? ⟨w2.heap.size,3,none⟩=some (.func (.func 110) #[.pointer (some ⟨wb,0,none⟩)] #[]):=cell_of_row W _ 3 _ _ (0,0) e1;exact Zw4):P:=h
theorem azf.Kw1(h:P:=by
 have c0:W.cell? ⟨w2.heap.size,2,none⟩=some (.func (.func 109) #[.pointer (some ⟨wb,0,none⟩)] #[]):=cell_of_row W _ 2 _ _ (0,0) e1;exact Zw4):P:=h
theorem azg.Kw1(h:P:=by
 have c0:W.cell? ⟨w2.heap.size,1,none⟩=some (.func (.func 108) #[.pointer (some ⟨wb,0,none⟩)] #[]):=cell_of_row W _ 1 _ _ (0,0) e1;exact Zw4):P:=h
theorem azh.Kw1(h:P:=by
 have c0:W.cell? ⟨w2.heap.size,0,none⟩=some (.func (.func 107) #[.pointer (some ⟨wb,0,none⟩)] #[]):=cell_of_row W _ 0 _ _ (0,0) e1;exact Zw4):P:=h
theorem Yw2(h:P:=by
 have Lu:aC [sb,G.s] wc W6:=by
  exact aAI
 have HIW:Hid (GR.W aS 1 W6 (some ⟨gi,0,none⟩) gi (bg s0 mL)):=by
  exact aAH
 have adB:Hid (W6.heap[sb]?=some (.cells #[.int .i64 mF,.int .i64 (eZ s0 mL),.slice (some ⟨gi,0,none⟩) (bg s0 mL).length OV] 90 (0,0))):=by rw [RA];exact gY _ hne1 (gY _ hne1 (gY _ hne1 (aT ZH 2 _)))
 have mV:=Hq (Lu.obj BD (λhx=>Aak));have adl:=Hq (Lu.obj akK (λhx=>Aak));have jV:=Hq (Lu.obj Og (λhx=>Aak))
 have hBs:B<=G.s:=by
  exact aAK
 have akv:=Hq ((lI.mono hB).trans (Lu.below (B:=B) (λx hx=>Aak) (Nat.le_trans hB lI.size)))
 have akH:=Hq (Apart.keeps (c:=c) (Apart.of_below lI) lI.size Lu (λx hx=>by
  have h1:x=sb\/x=G.s:=Aag
  rcases h1 with rfl|rfl
  .left;omega
  .right;omega))
 have aCn:gi < W6.heap.size:=Nat.lt_of_lt_of_le aBd Lu.size;have aCN:w.heap.size+3<=W6.heap.size:=by have:=aA adB;omega
 have HCO:Hid (∀x,x < w.heap.size->6 < c x->vM gi (bg s0 mL) (newC w.heap.size 9 c) x=9):=λx hx h=>by rw [vW (λhm=>by have:=(gV hm).1;omega),eT hx];exact H9 x h
 have Ee:Hid (∀x,w.heap.size<=x->x≠gi->vM gi (bg s0 mL) (newC w.heap.size 9 c) x=9):=λx hx h=>by rw [vW (λhm=>h (gV hm).1)];exact aZ hx
 clear RA Lu hW5 RZ y0 y1 y2 x0 x1 x2 s40 s41 s42 sf c0 c1 c2 c3 c4 c5 c6 c7 c8 hnl BD akK Og ZH lI;obtain⟨c0,c1,c2,c3,c4,c5,c6,c7,c8⟩:=nine mV;obtain⟨m0,m1,m2,m3,m4,m5,m6⟩:=jY adl;have hnl:=aA mV;have hml:=aA adl;go_upto_region 16 with fail;refine wp_at (λW7 Lp=>?_);have qE:=au W6 (.cells (cK 2 n.id mF mI 0 ⟨#[]⟩ 0) 32);have ha7:=heap_alloc_new W6 (.cells (cK 2 n.id mF mI 0 ⟨#[]⟩ 0) 32);rw [<-Lp] at qE ha7;have Zb:=Hq ha7;have qB:=Hq (ay mV qE);have adn:=Hq (ay adl qE);have nT:=Hq (ay jV qE);have adC:=Hq (ay adB qE);have adh:=Hq (HIW.below qE);have adr:=Hq (GZ.kc (k:=9) (KC.of_below qE) Aaa);have aiq:=Hq (akv.trans (qE.mono (Nat.le_trans hB Aaa)));have aix:=Hq (akH.step Aaa qE);obtain⟨ab,hab⟩:∃ab,W6.heap.size=ab:=⟨_,rfl⟩;have aCg:w.heap.size+3<=ab:=Aaa
 have habs:sb < ab:=by have:=aA adB;omega
 have aCh:gi < ab:=Aaa
 rw [hab] at Zb;rw [hab] at *;have hz7:=aA Zb;clear Lp qE ha7 c0 c1 c2 c3 c4 c5 c6 c7 c8 m0 m1 m2 m3 m4 m5 m6 hnl hml mV adl jV adB HIW GZ akv akH;obtain⟨m0,m1,m2,m3,m4,m5,m6⟩:=jY adn;obtain⟨s70,s71,s72⟩:=CK adC;have hml:=aA adn;have aBK:=aA adC;have Zl:=Hq (λW (ha:dX W (some ⟨gi,0,none⟩) (bg s0 mL))=>VR (some ⟨gi,0,none⟩) OV (bg s0 mL) mI W Aaa ha);exact Kw2):P:=h
theorem azi.Kw2(h:P:=by
 open ama in exact awl):P:=h
theorem azj.Kw2(h:P:=by
 open al9 in exact awl):P:=h
theorem azk.Kw2(h:P:=by
 obtain⟨c0,c1,c2,c3,c4,c5,c6,c7,c8⟩:=nine qB;open asN in exact afZ):P:=h
theorem Yw3(h:P:=by
 open aon in exact awz):P:=h
theorem azl.Kw3(h:P:=by
 obtain⟨c0,c1,c2,c3,c4,c5,c6,c7,c8⟩:=nine kC;have hml:=aA zi;have hnl:=aA kC;go_wp2_with fail;refine(HGV W2 (Nat.le_trans hB HB2.size) NW).mono ?_;open aqt in exact afi):P:=h
theorem azm.Kw3(h:P:=by
 open ak3 in exact av8):P:=h
theorem azn.Kw3(h:P:=by
 open aAG in exact av8):P:=h
theorem azo.Kw3(h:P:=by
 obtain⟨c0,c1,c2,c3,c4,c5,c6,c7,c8⟩:=nine kC;have hml:=aA zi;have hnl:=aA kC;have NK:=Hq (World.ownsRow_lit (base:=W2.heap.size) (e:=95) (size:=4) W2 #[] 0 (Nat.le_refl _) Aae rfl);go_wp2_with fail;clear m0 m1 m2 m3 m4 m5 m6 c0 c1 c2 c3 c4 c5 c6 c7 c8 hml hnl;go_loopw [7,8] (λv i wr=>∃(k:Nat) (a:Option Addr) (cp:Nat),k<=n.out.length/\v= .slice a (FL k).length cp/\i= .int .i64 k/\wr.ownsRow W2.heap.size 95 4 (.slice a (FL k).length cp) (FL k).length (GR.flat aW (FL k))/\aY W2 wr) (λ_ i _=>n.out.length - (intOf i).toNat)
 case atStart=>exact⟨0,some ⟨W2.heap.size,0,none⟩,0,Nat.zero_le _,by rw [ah HF0];rfl,rfl,by rw [ah HF0];exact NK,au W2 _⟩
 case round=>
  obtain⟨k,a,cp,hk,rfl,rfl,hown,hbw⟩:=hrel;have HO:=Hq hown;have iA:=Hq hbw;have mJ:=Hq (ay kC hbw);have Wj:=Hq (ay zi hbw);have HNK:=Hq (HFN k);clear hown hbw;obtain⟨m0,m1,m2,m3,m4,m5,m6⟩:=jY Wj;obtain⟨c0,c1,c2,c3,c4,c5,c6,c7,c8⟩:=nine mJ;have hml:=aA Wj;have hnl:=aA mJ;by_cases hlt:k < n.out.length
  .have Pg:(k:Int) < (n.out.length:Int):=Aaa
   have HFK:=Hq (HFS k hlt);obtain⟨g,off,e0,hg,s0,s1,s2,s3⟩:=SentAt.four (GR.At.below NW.at.o iA) k hlt;rw [e0] at c5;clear e0;generalize n.out[k]=sk at *;obtain⟨si,st,sk,sn⟩:=sk;dsimp only at s0 s1 s2 s3 HFK;obtain⟨FK,hFK⟩:∃FK,FL (k+1)=FK:=⟨_,rfl⟩;have HX0:=Hq hFK;rw [hFK] at HFK;clear hFK;by_cases hA:si=mI
   .by_cases hB2:st=mF
    .have HX:Hid (FK=FL k):=by unfold Hid;rw [ah HFK,if_pos ⟨hA,hB2⟩]
     have x0:(si != mI)=false:=by simp[hA]
     have x1:(st != mF)=false:=by simp[hB2]
     clear hA hB2 HFK;go_wp2_with fail;go_quiet (fail);go_wp2_with fail;go_roundw
     case rel=>exact⟨k+1,a,cp,Aaa,by rw [ah HX0,ah HX],Aai,by rw [ah HX0,ah HX];exact HO,iA.trans (Below.mono (B:=(wr.drewN nq).heap.size) ⟨rfl,rfl,rfl,Nat.le_refl _,λ_ _=>rfl⟩ iA.size)⟩
     case measure=>simp[intOf];omega
    .have HX:Hid (FK=FL k++[⟨si,st,sk,sn⟩]):=by unfold Hid;rw [ah HFK,if_neg (λe=>hB2 e.2)]
     have x0:(si != mI)=false:=by simp[hA]
     have x1:(st != mF)=true:=by simpa using hB2
     clear hA hB2 HFK;exact aw9
   .have HX:Hid (FK=FL k++[⟨si,st,sk,sn⟩]):=by unfold Hid;rw [ah HFK,if_neg (λe=>hA e.1)]
    have x0:(si != mI)=true:=by simpa using hA
    clear hA HFK;exact aw9
  .have hke:k=n.out.length:=Aaa
   subst hke;have hnlt:decide ((n.out.length:Int) < (n.out.length:Int))=false:=Aac
   have mO:=Hq (ay jU iA);have HN3:=Hq (NW.kc (k:=9) (KC.of_below iA) Aaa);have HB3:=Hq (HB2.trans (iA.mono HB2.size));have h2r:=aA jU;clear hlt hk HNK HFS HFN HF0 NK iA kC zi jU NW HB2;have f5n:=aj mJ 5;go_upto_region 14 with fail;refine wp_at (λZ hZ=>?_);have BD:Hid (Z.heap[w.heap.size]?=some (.cells (gH n.id n.par A.k n.kids.length A.ck n.next A.p n.pu.length A.cp a (FL n.out.length).length cp A.s n.seen.length A.cs n.old A.r n.reqs.length A.cr) 30 (0,0))):=by rw [hZ];exact pY mJ
   have Og:Hid (Z.heap[w.heap.size+2]?=some (.cells fU 30 (0,0))):=by rw [hZ];exact oC mO Aaa
   have Wl:Hid (NQ Z B n A G (newC w.heap.size 9 c)):=by rw [hZ];exact HN3.kc (k:=9) (KC.set (aZ (Nat.le_refl _))) Aaa
   have Nv:Hid (Z.ownsRow W2.heap.size 95 4 (.slice a (FL n.out.length).length cp) (FL n.out.length).length (GR.flat aW (FL n.out.length))):=by rw [hZ];exact dG HO (aC.set _) (λy hy=>by have:y=w.heap.size:=Aat;omega)
   have lI:Hid (Below B w Z):=by rw [hZ];exact(HB3.mono hB).setCell (p:=⟨w.heap.size,5,none⟩) hB _
   have HK4:Hid (Apart c w Z):=by rw [hZ];exact(Apart.of_below HB3).keeps HB3.size (aC.set _) (λy hy=>by have:y=w.heap.size:=Aat;omega)
   clear hZ f5n c0 c1 c2 c3 c4 c5 c6 c7 c8 m0 m1 m2 m3 m4 m5 m6 hml hnl mJ Wj mO HN3 HB3 HO;have rT:=Hq (ay Og (au Z (.cells #[] 32)));have vQ:=Hq (lI.trans ((au Z (.cells #[] 32)).mono (Nat.le_trans hB lI.size)));have HKA:=Hq (HK4.step lI.size (au Z (.cells #[] 32)));have KO:=Hq (Wl.kc (k:=9) (KC.of_below (au Z (.cells #[] 32))) Aaa);have HOA:=Hq (GR.own_below Nv (au Z (.cells #[] 32)));obtain⟨c0,c1,c2,c3,c4,c5,c6,c7,c8⟩:=nine BD;open al6 in exact Wz):P:=h
theorem azp.Kw3(h:P:=by
 obtain⟨c0,c1,c2,c3,c4,c5,c6,c7,c8⟩:=nine kC;have hml:=aA zi;have hnl:=aA kC;go_wp2_with fail;refine(UW W2 (Nat.le_trans hB HB2.size) NW).mono ?_;open aqs in exact afi):P:=h
theorem Yw4(h:P:=by
 have hiI:(i:Int) < (n.reqs.length:Int):=Aaa
 have akU:=Hq hrq;clear hrq;have hp:=jl hok;have Oe:=Hq (λW1 (ha:jf W1 gN n.reqs)=>AQ n (⟨a_k,jE,eD,eO,gN,aL,bE,aP,aM,aV⟩:bC) no W1 Aaa hp.1 ha);rw [hJ] at Oe;clear hp hok hJ;unfold iI;have H9:=Hq h9;clear h9;have kS:=Hq (h.nine hB);clear h;go_in
 go_upto_region 1 with fail;refine wp_at (λW0 hW=>?_);obtain⟨e1,e2,e3,e4⟩:=gD w (.cells (dD n (⟨a_k,jE,eD,eO,gN,aL,bE,aP,aM,aV⟩:bC)) 30) (.cells (cu K no k nn mK mF mT mI mL mk mN) 34) (.cells fU 30);open atq in exact aaf):P:=h
theorem azq.Kw4(h:P:=by
 dsimp only at q0 q1 q2 q3 h1 h2 h3;open aAi in exact av5):P:=h
theorem azr.Kw4(h:P:=by
 dsimp only at q0 q1 q2 q3 h1 h2 h3;exact aiZ):P:=h
theorem azs.Kw4(h:P:=by
 dsimp only at q0 q1 q2 q3 h1 h2;exact aiZ):P:=h
theorem azt.Kw4(h:P:=by
 dsimp only at q0 q1 q2 q3 h1;exact aiZ):P:=h
theorem Y6(h:P:=by
 obtain⟨d0,d1,d2,d3,d4,d5,d6,d7,d8⟩:=nine wK;have f0:=aj wK 0;have f1:=aj wK 1;have f2:=aj wK 2;have f3:=aj wK 3;have f4:=aj wK 4;have f5:=aj wK 5;have f6:=aj wK 6;have f7:=aj wK 7;have f8:=aj wK 8;have hrl:=aA wK;exact Kw5):P:=h
theorem azu.Kw5(h:P:=by
 open aqF in exact afo):P:=h
theorem azv.Kw5(h:P:=by
 open aqE in exact afo):P:=h
theorem azw.Kw5(h:P:=by
 open aqi in exact Va):P:=h
theorem azx.Kw5(h:P:=by
 open aqH in exact afp):P:=h
theorem azy.Kw5(h:P:=by
 open aqG in exact afp):P:=h
theorem azz.Kw5(h:P:=by
 open aqh in exact Va):P:=h
theorem azA.Kw5(h:P:=by
 open arh in exact afy):P:=h
theorem azB.Kw5(h:P:=by
 open arf in exact afy):P:=h
theorem azC.Kw5(h:P:=by
 open aqg in exact Va):P:=h
theorem azD.Kw5(h:P:=by
 open arj in exact afz):P:=h
theorem azE.Kw5(h:P:=by
 open ari in exact afz):P:=h
theorem azF.Kw5(h:P:=by
 open aqf in exact Va):P:=h
theorem Yw6(h:P:=by
 open anH in exact WB):P:=h
theorem azG.Kw6(h:P:=by
 go_wp2_with fail;exact bodyPost_ret (v:= .tuple #[wR ⟨2,F,T,I,0,ByteArray.empty,0⟩,.bool true]) Abb rfl ⟨Aaw,mH⟩):P:=h
theorem azH.Kw6(h:P:=by
 go_wp2_with fail;exact bodyPost_ret (v:= .tuple #[wR ⟨2,F,T,I,0,ByteArray.empty,N⟩,.bool false]) Abb rfl ⟨Aaw,mH⟩):P:=h
theorem azI.Kw6(h:P:=by
 go_wp2_with fail;exact bodyPost_ret (v:= .tuple #[wR ⟨2,F,T,I,0,k,N⟩,.bool false]) Abb rfl ⟨Aaw,mH⟩):P:=h
theorem azJ.Kw6(h:P:=by
 exact ag7):P:=h
theorem Yw7(h:P:=by
 cases h1:decide (old+1<=si/\si<=1000000000)
 case' false=>
  have a1:=rIn si (old+1) 1000000000 false W1 h1
  have HV:=Hq (show bb=true by rw [<-ah fO];simp[h1])
  clear fO
  refine wp_region_quiet_below Aab Aab ?_
  repeat (first|go_big_quiet_step ((first|(go_at_call_of 63 si;exact a1 _ _)))|quiet_step ((first|(go_at_call_of 63 si;exact a1 _ _))))
  refine wpQuiet_nil ?_
  intro _ hw'
  obtain⟨⟨dq,osq⟩,hw''⟩:=hw'
  subst hw''
  go_wp2_with fail
  go_meet
  case rel=>exact yg
 have a1:=rIn si (old+1) 1000000000 true W1 h1;cases h2:keyOk sx.data.toList
 case' false=>
  have a2:=aeI sx false W1 (Nat.le_trans hks Aah) h2
  have HV:=Hq (show bb=true by rw [<-ah fO];simp[h2])
  clear fO
  refine wp_region_quiet_below Aab Aab ?_
  repeat (first|go_big_quiet_step ((first|(go_at_call_of 63 si;exact a1 _ _)|(go_at_call 64;exact a2 _ _)))|quiet_step ((first|(go_at_call_of 63 si;exact a1 _ _)|(go_at_call 64;exact a2 _ _))))
  refine wpQuiet_nil ?_
  intro _ hw'
  obtain⟨⟨dq,osq⟩,hw''⟩:=hw'
  subst hw''
  go_wp2_with fail
  go_meet
  case rel=>exact yg
 have a2:=aeI sx true W1 (Nat.le_trans hks Aah) h2;cases h3:fV sn
 case' false=>
  have a3:=Kg sn false W1 h3
  have HV:=Hq (show bb=true by rw [<-ah fO];simp[h3])
  clear fO
  refine wp_region_quiet_below Aab Aab ?_
  repeat (first|go_big_quiet_step ((first|(go_at_call_of 63 si;exact a1 _ _)|(go_at_call 64;exact a2 _ _)|(go_at_call 61;exact a3 _ _)))|quiet_step ((first|(go_at_call_of 63 si;exact a1 _ _)|(go_at_call 64;exact a2 _ _)|(go_at_call 61;exact a3 _ _))))
  refine wpQuiet_nil ?_
  intro _ hw'
  obtain⟨⟨dq,osq⟩,hw''⟩:=hw'
  subst hw''
  go_wp2_with fail
  go_meet
  case rel=>exact yg
 have a3:=Kg sn true W1 h3;cases h4:decide (0<=st/\st<=2)
 case' false=>
  have a4:=rIn st 0 2 false W1 h4
  have HV:=Hq (show bb=true by rw [<-ah fO];simp[h4])
  clear fO
  refine wp_region_quiet_below Aab Aab ?_
  repeat (first|go_big_quiet_step ((first|(go_at_call_of 63 si;exact a1 _ _)|(go_at_call 64;exact a2 _ _)|(go_at_call 61;exact a3 _ _)|(go_at_call_of 63 st;exact a4 _ _)))|quiet_step ((first|(go_at_call_of 63 si;exact a1 _ _)|(go_at_call 64;exact a2 _ _)|(go_at_call 61;exact a3 _ _)|(go_at_call_of 63 st;exact a4 _ _))))
  refine wpQuiet_nil ?_
  intro _ hw'
  obtain⟨⟨dq,osq⟩,hw''⟩:=hw'
  subst hw''
  go_wp2_with fail
  go_meet
  case rel=>exact yg
 have a4:=rIn st 0 2 true W1 h4;exact Kw7):P:=h
theorem azK.Kw7(h:P:=by
 by_cases hp:y < si
 case' neg=>
  have hy:decide (si<=y)=true:=decide_eq_true Aaa
  have HV:=Hq (show bb=true by rw [<-ah fO];simp[hp])
  clear fO
  refine wp_region_quiet_below Aab Aab ?_
  repeat (first|go_big_quiet_step ((first|(go_at_call_of 63 si;exact a1 _ _)|(go_at_call 64;exact a2 _ _)|(go_at_call 61;exact a3 _ _)|(go_at_call_of 63 st;exact a4 _ _)))|quiet_step ((first|(go_at_call_of 63 si;exact a1 _ _)|(go_at_call 64;exact a2 _ _)|(go_at_call 61;exact a3 _ _)|(go_at_call_of 63 st;exact a4 _ _))))
  refine wpQuiet_nil ?_
  intro _ hw'
  obtain⟨⟨dq,osq⟩,hw''⟩:=hw'
  subst hw''
  go_wp2_with fail
  go_meet
  case rel=>exact yg
 have hy:decide (si<=y)=false:=decide_eq_false Aaa;have HV:=Hq (show bb=false by rw [<-ah fO];simp[h1,h2,h3,h4,hp]);exact axH):P:=h
theorem azL.Kw7(h:P:=by
 have HV:=Hq (show bb=false by rw [<-ah fO];simp[h1,h2,h3,h4]);exact axH):P:=h
theorem Yw8(h:P:=by
 cases h1:decide (1<=si/\si<=next - 1)
 case' false=>
  have a1:=rIn si 1 (next - 1) false W1 h1
  have HV:=Hq (show bb=true by rw [<-ah fO];simp[h1])
  clear fO
  refine wp_region_quiet_below Aab Aab ?_
  repeat (first|go_big_quiet_step ((first|(go_at_call 63;exact a1 _ _)))|quiet_step ((first|(go_at_call 63;exact a1 _ _))))
  refine wpQuiet_nil ?_
  intro _ hw'
  obtain⟨⟨dq,osq⟩,hw''⟩:=hw'
  subst hw''
  go_wp2_with fail
  go_meet
  case rel=>exact yg
 have a1:=rIn si 1 (next - 1) true W1 h1;cases h2:NN st
 case' false=>
  have a2:=ah Nu st false W1 vL h2
  have HV:=Hq (show bb=true by rw [<-ah fO];simp[h2])
  clear fO
  refine wp_region_quiet_below Aab Aab ?_
  repeat (first|go_big_quiet_step ((first|(go_at_call 63;exact a1 _ _)|(go_at_call 47;exact a2 _ _)))|quiet_step ((first|(go_at_call 63;exact a1 _ _)|(go_at_call 47;exact a2 _ _))))
  refine wpQuiet_nil ?_
  intro _ hw'
  obtain⟨⟨dq,osq⟩,hw''⟩:=hw'
  subst hw''
  go_wp2_with fail
  go_meet
  case rel=>exact yg
 have a2:=ah Nu st true W1 vL h2;cases h3:keyOk sx.data.toList
 case' false=>
  have a3:=aeI sx false W1 (Nat.le_trans hks Aah) h3
  have HV:=Hq (show bb=true by rw [<-ah fO];simp[h3])
  clear fO
  refine wp_region_quiet_below Aab Aab ?_
  repeat (first|go_big_quiet_step ((first|(go_at_call 63;exact a1 _ _)|(go_at_call 47;exact a2 _ _)|(go_at_call 64;exact a3 _ _)))|quiet_step ((first|(go_at_call 63;exact a1 _ _)|(go_at_call 47;exact a2 _ _)|(go_at_call 64;exact a3 _ _))))
  refine wpQuiet_nil ?_
  intro _ hw'
  obtain⟨⟨dq,osq⟩,hw''⟩:=hw'
  subst hw''
  go_wp2_with fail
  go_meet
  case rel=>exact yg
 have a3:=aeI sx true W1 (Nat.le_trans hks Aah) h3;cases h4:fV sn
 case' false=>
  have a4:=Kg sn false W1 h4
  have HV:=Hq (show bb=true by rw [<-ah fO];simp[h4])
  clear fO
  refine wp_region_quiet_below Aab Aab ?_
  repeat (first|go_big_quiet_step ((first|(go_at_call 63;exact a1 _ _)|(go_at_call 47;exact a2 _ _)|(go_at_call 64;exact a3 _ _)|(go_at_call 61;exact a4 _ _)))|quiet_step ((first|(go_at_call 63;exact a1 _ _)|(go_at_call 47;exact a2 _ _)|(go_at_call 64;exact a3 _ _)|(go_at_call 61;exact a4 _ _))))
  refine wpQuiet_nil ?_
  intro _ hw'
  obtain⟨⟨dq,osq⟩,hw''⟩:=hw'
  subst hw''
  go_wp2_with fail
  go_meet
  case rel=>exact yg
 have a4:=Kg sn true W1 h4;exact Kw8):P:=h
theorem azM.Kw8(h:P:=by
 by_cases hp:y < si
 case' neg=>
  have hy:decide (si<=y)=true:=decide_eq_true Aaa
  have HV:=Hq (show bb=true by rw [<-ah fO];simp[hp])
  clear fO
  refine wp_region_quiet_below Aab Aab ?_
  repeat (first|go_big_quiet_step ((first|(go_at_call 63;exact a1 _ _)|(go_at_call 47;exact a2 _ _)|(go_at_call 64;exact a3 _ _)|(go_at_call 61;exact a4 _ _)))|quiet_step ((first|(go_at_call 63;exact a1 _ _)|(go_at_call 47;exact a2 _ _)|(go_at_call 64;exact a3 _ _)|(go_at_call 61;exact a4 _ _))))
  refine wpQuiet_nil ?_
  intro _ hw'
  obtain⟨⟨dq,osq⟩,hw''⟩:=hw'
  subst hw''
  go_wp2_with fail
  go_meet
  case rel=>exact yg
 have hy:decide (si<=y)=false:=decide_eq_false Aaa;have HV:=Hq (show bb=false by rw [<-ah fO];simp[h1,h2,h3,h4,hp]);exact axI):P:=h
theorem azN.Kw8(h:P:=by
 have HV:=Hq (show bb=false by rw [<-ah fO];simp[h1,h2,h3,h4]);exact axI):P:=h
theorem Yw9(h:P:=by
 have Ej:=Hq (λW (ha:aI W (some ⟨gp,0,none⟩) n.pu)=>rM (some ⟨gp,0,none⟩) bE n.pu key W hl ha);rw [hpp] at Ej;unfold Al at Ej;clear hpp;have hbw0:=au w (.cells (dD n (⟨a_k,(some ⟨gp,0,none⟩),eD,eO,gN,aL,bE,aP,aM,aV⟩:bC)) 30);have kS:=Hq (h.nine hB);clear h;go_in
 go_upto_region 1 with fail;refine wp_at (λW0 hW=>?_);obtain⟨e1,e2,e3⟩:=iO w (.cells (dD n (⟨a_k,(some ⟨gp,0,none⟩),eD,eO,gN,aL,bE,aP,aM,aV⟩:bC)) 30) (.cells fU 30);open ape in exact awO):P:=h
theorem azO.Kw9(h:P:=by
 have hn6:=aA mV;go_upto_region 8 with fail;refine wp_at (λZ7 hZ=>?_)
 have Wu:Hid (Z7.heap[Z6.heap.size]?=some (.cells (fI n.next dst key pf) 95 (0,0))):=by
  rw [hZ];exact heap_alloc_new Z6 _
 open amK in exact awn):P:=h
theorem azP.Kw9(h:P:=by
 have hn6:=aA mV;go_upto_region 8 with fail;refine wp_at (λZ7 hZ=>?_)
 have Wu:Hid (Z7.heap[Z6.heap.size]?=some (.cells (fI n.next dst key most) 95 (0,0))):=by
  rw [hZ];exact heap_alloc_new Z6 _
 open amJ in exact awn):P:=h
theorem av2(h:P:=by
 have hiI:(i:Int) < (n.reqs.length:Int):=Aaa
 have HST:=Hq hst;clear hR hst;have hp:=jl hok;have Oe:=Hq (λW1 (ha:jf W1 gN n.reqs)=>AQ n (⟨a_k,jE,eD,eO,gN,aL,bE,aP,aM,aV⟩:bC) no W1 Aaa hp.1 ha);rw [hJ] at Oe;clear hp hok;unfold iI;have H9:=Hq h9;clear h9;have hbw0:=au w (.cells (dD n (⟨a_k,jE,eD,eO,gN,aL,bE,aP,aM,aV⟩:bC)) 30);open ar1 in exact Vf):P:=h
theorem azQ.AaF(h:P:=by
 clear hW' e4 gL;exact bodyPost_ret (v:= .tuple #[.agg (gH n.id n.par a_k n.kids.length aL n.next jE n.pu.length bE eD n.out.length aP eO n.seen.length aM n.old (some ⟨g,off,none⟩) n.reqs.length aV),.int .i64 0]) Abw rfl ⟨(⟨a_k,jE,eD,eO,(some ⟨g,off,none⟩),aL,bE,aP,aM,aV⟩:bC),rfl,HAT,nO,tZ⟩):P:=h
theorem azR.AaF(h:P:=by
 clear hW' e4 gL;exact bodyPost_ret (v:= .tuple #[.agg (gH n.id n.par a_k n.kids.length aL n.next jE n.pu.length bE eD n.out.length aP eO n.seen.length aM n.old (some ⟨g,off,none⟩) n.reqs.length aV),.int .i64 1]) Abw rfl ⟨(⟨a_k,jE,eD,eO,(some ⟨g,off,none⟩),aL,bE,aP,aM,aV⟩:bC),rfl,HAT,nO,tZ⟩):P:=h
theorem aiL(h:P:=by
 open anG in exact WB):P:=h
theorem azS.AaA(h:P:=by
 go_wp2_with fail;exact bodyPost_ret (v:= .tuple #[wR ⟨0,F,T,0,0,k,N⟩,.bool true]) Abb rfl ⟨Aaw,mH⟩):P:=h
theorem azT.AaA(h:P:=by
 go_wp2_with fail;exact bodyPost_ret (v:= .tuple #[wR ⟨0,F,T,0,L,k,N⟩,.bool false]) Abb rfl ⟨Aaw,mH⟩):P:=h
theorem azU.AaA(h:P:=by
 exact ag6):P:=h
theorem aiM(h:P:=by
 obtain⟨gi,OV,rfl,vD,aA6,hb4⟩:=hcut;have ZH:=Hq (ay adA hb4);have BD:=Hq (ay mJ hb4);have akK:=Hq (ay Wj hb4);have Og:=Hq (ay mO hb4);have lI:=Hq (HB3.trans (hb4.mono HB3.size));have aiz:=Hq (akN.kc (k:=9) (KC.of_below hb4) Aaa);have hgi:W3.heap.size<=gi:=(vD.lt gi rfl).1;have aBd:gi < wc.heap.size:=(vD.lt gi rfl).2
 have aCk:(bg s0 mL).length<=OV:=by
  exact aAL
 have aCL:=aA ZH;have hIL:(bg s0 mL).length<=1000:=Nat.le_trans (List.length_filter_le _ _) hil;have hW5:WO (wc.setCell ⟨sb,2,none⟩ (.slice (some ⟨gi,0,none⟩) (bg s0 mL).length OV)) (some ⟨gi,0,none⟩) OV gi (bg s0 mL):=(WO.of_own (ZV aR vD) vD aA6).keeps (aC.set _) (λx hx hm=>by have h1:=(gV hx).1;simp at hm;omega);have BA:=Hq (aiz.kc (k:=9) (w':=wc.setCell ⟨sb,2,none⟩ (.slice (some ⟨gi,0,none⟩) (bg s0 mL).length OV)) (KC.set (aZ Aaa)) Aaa);have RZ:=Hq (BA.seenPut i hi ⟨mF,eZ s0 mL,bg s0 mL⟩ (some ⟨gi,0,none⟩) OV gi hW5 (λx hx=>by rw [(gV hx).1];exact aZ Aaa));have aCq:G.s≠w.heap.size:=Aaa
 obtain⟨T,hT,hlT,hrT⟩:=aiz.s;obtain⟨_,_,hcT⟩:=hT i Aaa;open apr in exact awT):P:=h
theorem azV.AaL(h:P:=by
 open asI in exact afY):P:=h
theorem azW.AaL(h:P:=by
 open asH in exact afY):P:=h
theorem azX.AaL(h:P:=by
 have GZ:Hid (NQ W6 B (dA n (n.seen.set i ⟨mF,eZ s0 mL,bg s0 mL⟩)) (⟨a_k,jE,eD,(some ⟨G.s,0,none⟩),gN,aL,bE,aP,aM,aV⟩:bC) ⟨G.k,G.p,G.o,G.s,G.r,lS G.i i gi⟩ (vM gi (bg s0 mL) (newC w.heap.size 9 c))):=by rw [RA];exact RZ
 open azk in exact Yw2):P:=h
theorem KV(h:P:=by
 have hb:=au W0 (.cells #[] 32);have hW1:W1=W0.alloc (.cells #[] 32):=by rw [hW,<-hW0]
 rw [<-hW1] at hb;have HN:=Hq (ay e1 hb);have HO:=Hq (ay e2 hb);have HR:=Hq (ay e3 hb);have HB1:=Hq (e4.trans (hb.mono e4.size));clear hW hW0 hW1 e1 e2 e3 e4 hb;obtain⟨c0,c1,c2,c3,c4,c5,c6,c7,c8⟩:=nine HN;obtain⟨⟨p0,p1,p2,p3,p4,p5,p6,p7,p8,p9,oD⟩,_⟩:=aQ HO;exact AaC):P:=h
theorem azY.AaC(h:P:=by
 open am7 in exact awq):P:=h
theorem azZ.AaC(h:P:=by
 open arw in exact afC):P:=h
theorem az0.AaC(h:P:=by
 open Sw0 in exact Yw0):P:=h
theorem az1.AaC(h:P:=by
 open Sw1 in exact Yw0):P:=h
theorem az2.AaC(h:P:=by
 open Sw2 in exact Yw0):P:=h
theorem az3.AaC(h:P:=by
 open Sw3 in exact Yw0):P:=h
theorem az4.AaC(h:P:=by
 open Sw4 in exact Yw0):P:=h
theorem az5.AaC(h:P:=by
 open Sw5 in exact Yw0):P:=h
theorem az6.AaC(h:P:=by
 open Sw6 in exact Yw0):P:=h
theorem av3(h:P:=by
 go_in
 go_upto_region 1 with fail;refine wp_at (λW0 hW=>?_);obtain⟨e1,e2,e3,e4⟩:=gD w (.cells (dD n (⟨a_k,(some ⟨gp,0,none⟩),eD,eO,(some ⟨gr,0,none⟩),aL,bE,aP,aM,aV⟩:bC)) 30) (.cells (cu K no k nn mK mF mT mI mL mk mN) 34) (.cells fU 30);open atp in exact aaf):P:=h
theorem az7.AaM(h:P:=by
 have hnl:=aA mJ;have aBI:=aA R5;go_upto_region 13 with fail;refine wp_at (λW4 Rz=>?_);have BD:Hid (W4.heap[w.heap.size]?=some (.cells (gH n.id n.par a_k n.kids.length aL n.next (some ⟨gp,0,none⟩) n.pu.length bE eD n.out.length aP eO n.seen.length aM n.old (some ⟨gr,0,none⟩) n.reqs.length aV) 30 (0,0))):=by rw [Rz];exact mJ
 have aiH:Hid (W4.heap[W1.heap.size]?=some (.cells (eG no k nn 1) 97 (0,0))):=by rw [Rz];exact R5
 have adu:Hid (W4.heap[w.heap.size+1]?=some (.cells (cu K no k nn mK mF mT mI mL mk mN) 34 (0,0))):=by rw [Rz];exact KP
 have Og:Hid (W4.heap[w.heap.size+2]?=some (.cells fU 30 (0,0))):=by rw [Rz];exact mO
 have lI:Hid (aY w W4):=by rw [Rz];exact HB3
 open ard in exact afx):P:=h
theorem az8.AaM(h:P:=by
 have hnl:=aA mJ;have aBI:=aA R5;go_upto_region 13 with fail;refine wp_at (λW4 Rz=>?_);have hne1:w.heap.size≠W1.heap.size:=Aaa
 have BD:Hid (W4.heap[w.heap.size]?=some (.cells (gH n.id n.par a_k n.kids.length aL n.next av RL.length cv eD n.out.length aP eO n.seen.length aM n.old (some ⟨gr,0,none⟩) n.reqs.length aV) 30 (0,0))):=by rw [Rz];exact gY _ hne1 (aT mJ 4 _)
 have aiH:Hid (W4.heap[W1.heap.size]?=some (.cells (eG no k nn 0) 97 (0,0))):=by rw [Rz];exact aT (gY _ hne1.symm R5) 3 _
 have adu:Hid (W4.heap[w.heap.size+1]?=some (.cells (cu K no k nn mK mF mT mI mL mk mN) 34 (0,0))):=by rw [Rz];exact gY _ Aaa (gY _ Aaa KP)
 have Og:Hid (W4.heap[w.heap.size+2]?=some (.cells fU 30 (0,0))):=by rw [Rz];exact gY _ Aaa (gY _ Aaa mO)
 have lI:Hid (aY w W4):=by rw [Rz];exact(HB3.setCell (p:=⟨w.heap.size,4,none⟩) (Nat.le_refl _) _).setCell (p:=⟨W1.heap.size,3,none⟩) Aaf _
 have Wp:Hid (LO 143 fH 4 (w.heap.size+3) W4 av cv RL):=by
  rw [Rz];have hk:aC [w.heap.size,W1.heap.size] W3 ((W3.setCell ⟨w.heap.size,4,none⟩ (.slice av RL.length cv)).setCell ⟨W1.heap.size,3,none⟩ (.int .i64 0)):=((aC.set _).mono Aac).trans ((aC.set _).mono Aac);exact(HRW.keeps hk (λx hx=>Aak)).lower Aaa
 open arb in exact afx):P:=h
theorem Sk(h:P:=by
 have HW:=Hq h;obtain⟨K,no,k,nn,⟨mK,mF,mT,mI,mL,mk,mN⟩⟩:=o;dsimp only at *;open anP in exact WE):P:=h
theorem az9.AaB(h:P:=by
 go_in
 open alm in exact Wy):P:=h
theorem aAa.AaB(h:P:=by
 go_in
 open alk in exact Wy):P:=h
theorem aAb.AaB(h:P:=by
 go_in
 exact axq):P:=h
theorem aAc.AaB(h:P:=by
 go_in
 open alj in exact Wy):P:=h
theorem aAd.AaB(h:P:=by
 go_in
 open ali in exact Wy):P:=h
theorem aAe.AaB(h:P:=by
 go_in
 exact axq):P:=h
theorem aAf.AaB(h:P:=by
 go_in
 open alh in exact Wy):P:=h
theorem av4(h:P:=by
 have HUN:=Hq (λW (ha:aI W (some ⟨gp,0,none⟩) n.pu)=>Q6 gp 0 bE n.pu n.reqs[i].k n.reqs[i].n W (Nat.le_trans hz.p Aaa) vC hz.pk (hz.rk _ (List.getElem_mem hi)) ha);unfold iY at HUN;rw [hu] at HUN;clear hR hst hz vC hu;have hp:=jl hok;have Oe:=Hq (λW1 (ha:jf W1 gN n.reqs)=>AQ n (⟨a_k,(some ⟨gp,0,none⟩),eD,eO,gN,aL,bE,aP,aM,aV⟩:bC) no W1 Aaa hp.1 ha);rw [hJ] at Oe;clear hp hok;unfold iI;have H9:=Hq h9;clear h9;have hbw0:=au w (.cells (dD n (⟨a_k,(some ⟨gp,0,none⟩),eD,eO,gN,aL,bE,aP,aM,aV⟩:bC)) 30);open ar0 in exact Vf):P:=h
theorem aAg.AaJ(h:P:=by
 open alr in exact awc):P:=h
theorem aAh.AaJ(h:P:=by
 open alq in exact awc):P:=h
theorem av5(h:P:=by
 obtain⟨⟨p0,p1,p2,p3,p4,p5,p6,p7,p8,p9,oD⟩,_⟩:=aQ Wo;have hol:=aA Wo;obtain⟨c0,c1,c2,c3,c4,c5,c6,c7,c8⟩:=nine lC;obtain⟨d0,d1,d2,d3,d4,d5,d6,d7,d8⟩:=nine qC;have f0:=aj qC 0;have f1:=aj qC 1;have f2:=aj qC 2;have f3:=aj qC 3;have f4:=aj qC 4;have f5:=aj qC 5;have f6:=aj qC 6;have f7:=aj qC 7;have f8:=aj qC 8;have hnl:=aA lC;have hrl:=aA qC;clear q0;dsimp only at e0;subst e0;go_wp2_with fail;go_quiet (fail);go_wp2_with fail;refine aO (λW' hW'=>?_)
 have e4:W'.heap[w.heap.size+2]?=some (.cells (gH n.id n.par a_k n.kids.length aL n.next jE n.pu.length bE eD n.out.length aP eO n.seen.length aM n.old (some ⟨g,off,none⟩) n.reqs.length aV) 30 (0,0)):=by
  rw [hW'];exact GR.setW_blk (gH n.id n.par a_k n.kids.length aL n.next jE n.pu.length bE eD n.out.length aP eO n.seen.length aM n.old (some ⟨g,off,none⟩) n.reqs.length aV).toList (o:=0) (xs:=fU.toList) qC
 have gL:aC [w.heap.size+2] W1 W':=by
  rw [hW'];exact aC.trans (b:=W1.drewN nq) ⟨rfl,rfl,rfl,Nat.le_refl _,λ_ _ _=>rfl⟩ (aK (gH n.id n.par a_k n.kids.length aL n.next jE n.pu.length bE eD n.out.length aP eO n.seen.length aM n.old (some ⟨g,off,none⟩) n.reqs.length aV).toList (W1.drewN nq) 0)
 have HAT:=Hq (λW'' (ho:Out c w W' W'')=>(yZ.kc (k:=9) ((KC.keeps gL (λx hx=>by have:x=w.heap.size+2:=Aag;rw [this];exact aZ Aaa)).trans (KC.out H9 ho)) Aaa).rm);have nO:Hid (Below B w W'):=(HB1.mono hB).trans (gL.below (λx hx=>by have:x=w.heap.size+2:=Aag;omega) (Nat.le_trans hB (HB1.mono hB).size));have tZ:=Hq (Apart.keeps (c:=c) (Apart.of_below (HB1)) (HB1.mono hB).size gL (λx hx=>by have:x=w.heap.size+2:=Aag;omega));obtain⟨x0,x1,x2,x3,x4,x5,x6,x7,x8⟩:=nine e4;clear hW' e4 gL;exact AaN):P:=h
theorem aAi.AaN(h:P:=by
 exact bodyPost_ret (v:= .tuple #[.agg (gH n.id n.par a_k n.kids.length aL n.next jE n.pu.length bE eD n.out.length aP eO n.seen.length aM n.old (some ⟨g,off,none⟩) n.reqs.length aV),.int .i64 0]) Abs rfl ⟨(⟨a_k,jE,eD,eO,(some ⟨g,off,none⟩),aL,bE,aP,aM,aV⟩:bC),rfl,HAT,nO,tZ⟩):P:=h
theorem aAj.AaN(h:P:=by
 exact bodyPost_ret (v:= .tuple #[.agg (gH n.id n.par a_k n.kids.length aL n.next jE n.pu.length bE eD n.out.length aP eO n.seen.length aM n.old (some ⟨g,off,none⟩) n.reqs.length aV),.int .i64 1]) Abs rfl ⟨(⟨a_k,jE,eD,eO,(some ⟨g,off,none⟩),aL,bE,aP,aM,aV⟩:bC),rfl,HAT,nO,tZ⟩):P:=h
theorem adH(h:P:=by
 have hwl:=aA h.blk;have HIO:=Hq (λw1=>PD o w1);rw [ho] at HIO;obtain⟨K,no,k,nn,⟨mK,mF,mT,mI,mL,mk,mN⟩⟩:=o;dsimp only at *;open anO in exact WE):P:=h
theorem aAk.AaE(h:P:=by
 obtain rfl:=ah HKQ;obtain⟨⟨p0,p1,p2,p3,p4,p5,p6,p7,p8,p9,oD⟩,_⟩:=aQ Bf;have ajH:=aA Bf;go_wp2_with fail;refine(HAD w2 HW2).mono ?_;rintro e w3 ⟨rfl,hb3⟩;have HW3:=Hq (HW2.step hb3);have YR:=Hq (ay Bf hb3);clear hb3 HAD;go_upto_region 4 with fail;refine wp_at (λW hW=>?_);have e1:W.heap[w3.heap.size]?=some (.cells #[.func (.func 107) #[.pointer (some ⟨wb,0,none⟩)] #[],.func (.func 108) #[.pointer (some ⟨wb,0,none⟩)] #[],.func (.func 109) #[.pointer (some ⟨wb,0,none⟩)] #[],.func (.func 110) #[.pointer (some ⟨wb,0,none⟩)] #[],.func (.func 111) #[.pointer (some ⟨wb,0,none⟩)] #[],.func (.func 50) #[.pointer (some ⟨wb,0,none⟩)] #[],.func (.func 112) #[.pointer (some ⟨wb,0,none⟩)] #[]] 140 (0,0)):=Aby
 have e2:=au w3 (.cells #[.func (.func 107) #[.pointer (some ⟨wb,0,none⟩)] #[],.func (.func 108) #[.pointer (some ⟨wb,0,none⟩)] #[],.func (.func 109) #[.pointer (some ⟨wb,0,none⟩)] #[],.func (.func 110) #[.pointer (some ⟨wb,0,none⟩)] #[],.func (.func 111) #[.pointer (some ⟨wb,0,none⟩)] #[],.func (.func 50) #[.pointer (some ⟨wb,0,none⟩)] #[],.func (.func 112) #[.pointer (some ⟨wb,0,none⟩)] #[]] 140);rw [<-hW] at e2;have xC:=Hq (HW3.step e2);have Wp:=Hq (ay YR e2);have c0:W.cell? ⟨w3.heap.size,6,none⟩=some (.func (.func 112) #[.pointer (some ⟨wb,0,none⟩)] #[]):=cell_of_row W _ 6 _ _ (0,0) e1;exact Zw4):P:=h
theorem aAl.AaE(h:P:=by
 obtain⟨⟨p0,p1,p2,p3,p4,p5,p6,p7,p8,p9,oD⟩,_⟩:=aQ Bf;have ajH:=aA Bf;have hK6:=ah HK6;go_wp2_with fail;refine(HAD w2 HW2).mono ?_;rintro e w3 ⟨rfl,hb3⟩;have HW3:=Hq (HW2.step hb3);clear hb3 p0 p1 p2 p3 p4 p5 p6 p7 p8 p9 oD HAD;go_wp2_with fail;go_ret;exact⟨rfl,A,G,c,v,by rw [List.append_nil];exact HW3⟩):P:=h
theorem aAm.AaE(h:P:=by
 go_wp2_with fail;go_ret;exact⟨rfl,A,G,c,v,by rw [List.append_nil];exact HW2⟩):P:=h
theorem aAn.AaE(h:P:=by
 obtain rfl:=ah HKQ;obtain⟨⟨p0,p1,p2,p3,p4,p5,p6,p7,p8,p9,oD⟩,_⟩:=aQ Bf;have ajH:=aA Bf;go_upto_region 4 with fail;refine wp_at (λW hW=>?_);have e1:W.heap[w2.heap.size]?=some (.cells #[.func (.func 107) #[.pointer (some ⟨wb,0,none⟩)] #[],.func (.func 108) #[.pointer (some ⟨wb,0,none⟩)] #[],.func (.func 109) #[.pointer (some ⟨wb,0,none⟩)] #[],.func (.func 110) #[.pointer (some ⟨wb,0,none⟩)] #[],.func (.func 111) #[.pointer (some ⟨wb,0,none⟩)] #[],.func (.func 50) #[.pointer (some ⟨wb,0,none⟩)] #[],.func (.func 112) #[.pointer (some ⟨wb,0,none⟩)] #[]] 140 (0,0)):=Aby
 have e2:=au w2 (.cells #[.func (.func 107) #[.pointer (some ⟨wb,0,none⟩)] #[],.func (.func 108) #[.pointer (some ⟨wb,0,none⟩)] #[],.func (.func 109) #[.pointer (some ⟨wb,0,none⟩)] #[],.func (.func 110) #[.pointer (some ⟨wb,0,none⟩)] #[],.func (.func 111) #[.pointer (some ⟨wb,0,none⟩)] #[],.func (.func 50) #[.pointer (some ⟨wb,0,none⟩)] #[],.func (.func 112) #[.pointer (some ⟨wb,0,none⟩)] #[]] 140);rw [<-hW] at e2;have xC:=Hq (HW2.step e2);have Wp:=Hq (ay Bf e2);exact Kw1):P:=h
theorem av6(h:P:=by
 open aqS in exact Z0):P:=h
theorem aAo.AaI(h:P:=by
 have R4:=Hq (ay KQ hz);clear hz y0 y1 y2 y3 y4 y5 y6 y7 y8 z1 Sc;go_simp;obtain⟨⟨p0,p1,p2,p3,p4,p5,p6⟩,_⟩:=dQ R4;have hBz:=aA R4;go_wp2_with fail;refine(EI z HZ).mono ?_;rintro e y ⟨rfl,A',G',c',v',hY⟩;have HY:=Hq hY;clear hY EI p0 p1 p2 p3 p4 p5 p6;go_wp2_with fail;go_ret;exact⟨rfl,A',G',c',v',HY⟩):P:=h
theorem aAp.AaI(h:P:=by
 clear hz y0 y1 y2 y3 y4 y5 y6 y7 y8 z1 Sc;exact ahK):P:=h
theorem Sl(h:P:=by
 refine wp_region_quiet_below Aab Aab ?_;repeat (first|go_big_quiet_step (exact cO _ _)|quiet_step (exact cO _ _))
 refine wpQuiet_nil ?_;intro _ hw';obtain⟨⟨dq,osq⟩,hw''⟩:=hw';subst hw'';have mH:=Hq (vS.trans ((below_regrown _ dq osq).mono vS.size));exact AaD):P:=h
theorem aAq.AaD(h:P:=by
 clear y0 y1 y2 y3 y4 cO
 all_goals
  go_wp2_with fail
  go_roundw
  case rel=>exact⟨(j+1)+1,Aaa,Aai,Acw,mH⟩
  case measure=>simp[intOf];omega):P:=h
theorem aAr.AaD(h:P:=by
 clear y0 y1 y2 y3 cO
 all_goals
  go_wp2_with fail
  go_roundw
  case rel=>exact⟨0+1,Aaa,Aai,Acw,mH⟩
  case measure=>simp[intOf];omega):P:=h
theorem aAs.AaD(h:P:=by
 clear y0 y1 y2 y3 cO
 all_goals
  go_wp2_with fail
  go_ret
  exact⟨aD HBAD.symm,mH⟩):P:=h
theorem aAt.AaD(h:P:=by
 clear cO y0 y1 y2 y3 y4 y5 y6;exact ag7):P:=h
theorem aAu.AaD(h:P:=by
 clear cO y0 y1 y2 y3 y4 y5 y6;go_wp2_with fail;exact bodyPost_ret (v:= .tuple #[wR ⟨1,F,T,I,L,k,N⟩,.bool false]) Abb rfl ⟨Aaw,mH⟩):P:=h
theorem aAv.AaD(h:P:=by
 clear cO y0 y1 y2 y3 y4 y5 y6;exact ag6):P:=h
theorem aAw.AaD(h:P:=by
 clear y0 y1 y2 y3 y4 cO
 all_goals
  go_wp2_with fail
  go_ret
  exact⟨aD HBAD.symm,mH⟩):P:=h
theorem av7(h:P:=by
 generalize AY (tl s a)=z at *;clear e1 e2 hrs hub hsz hH hcap;generalize iK (ig (Dk (tl s a)))=bW at *;generalize ig (Dk (tl s a))=n at *;generalize s.extract a (a+4)=hd at *;have HQ:=Hq hq;clear hn hq;have hz2:¬(z < 0):=Aaa
 have hz3:decide (z < 0)=false:=decide_eq_false hz2;generalize Dk (tl s a)=tx at *;generalize iT (tl s a)=rs at *;have HC:=Hq hc;clear hc;open au3 in exact agC):P:=h
theorem aAx.AaK(h:P:=by
 exact bodyPost_ret (v:= .tuple #[.string tx,.int .i64 (a+4+z)]) Acv rfl ⟨rfl,pQ⟩):P:=h
theorem aAy.AaK(h:P:=by
 exact bodyPost_ret (v:= .tuple #[.string ⟨#[]⟩,.int .i64 (-1)]) Acv rfl ⟨rfl,pQ⟩):P:=h
theorem Sm(h:P:=by
 clear e5 hkx hX d0 d1 d2 d3 d4 d5 d6 d7 d8 f0 f1 f2 f3 f4 f5 f6 f7 f8 p0 p1 p2 p3 p4 p5 p6 p7 p8 p9 oD hnl hol mJ KP mO HB3 kS iX;obtain⟨c0,c1,c2,c3,c4,c5,c6,c7,c8⟩:=nine gU;obtain⟨⟨p0,p1,p2,p3,p4,p5,p6,p7,p8,p9,oD⟩,_⟩:=aQ HOX;have hnl:=aA gU;have hol:=aA HOX;exact AaH):P:=h
theorem aAz.AaH(h:P:=by
 open ao5 in exact awJ):P:=h
theorem aAA.AaH(h:P:=by
 go_wp2_with fail;refine(kR X A1 G1 c (Nat.zero_le _) H9 HPR BA).mono ?_;rintro e W5 ⟨A2,rfl,hat,hb5,hap⟩;open asZ in exact af6):P:=h
theorem aAB.AaH(h:P:=by
 go_wp2_with fail;refine(kR X A1 G1 c (Nat.zero_le _) H9 HPR BA).mono ?_;rintro e W5 ⟨A2,ma,mc,rfl,hat,hmt,hb5,hap⟩;have adj:=Hq hmt;clear hmt;open asY in exact af6):P:=h
theorem aAC.AaH(h:P:=by
 go_upto_region 23 with fail;clear p0 p1 p2 p3 p4 p5 p6 p7 p8 p9 oD hol;open amZ in exact aav):P:=h
theorem aAD.AaH(h:P:=by
 go_upto_region 26 with fail;have hrx:=aA qZ;have y0:=dB (b:=w.heap.size+2) Aaa c0;have y1:=dB (b:=w.heap.size+2) Aaa c1;have y2:=dB (b:=w.heap.size+2) Aaa c2;have y3:=dB (b:=w.heap.size+2) Aaa c3;have y4:=dB (b:=w.heap.size+2) Aaa c4;have y5:=dB (b:=w.heap.size+2) Aaa c5;have y6:=dB (b:=w.heap.size+2) Aaa c6;have y7:=dB (b:=w.heap.size+2) Aaa c7;have y8:=dB (b:=w.heap.size+2) Aaa c8;have z2:=dB (b:=w.heap.size+2) Aaa p2;have z3:=dB (b:=w.heap.size+2) Aaa p3;have hwb:w.heap.size+2<=X.heap.size:=Aaa
 clear c0 c1 c2 c3 c4 c5 c6 c7 c8 p0 p1 p2 p3 p4 p5 p6 p7 p8 p9 oD;refine kQ 12 (w.heap.size+2) Aab ?_;show jD _ _ _ _ _ _ 14 (Array.replicate 14 false) _ _
 refine tk [0,1,2,3,4,5,6,7,8,9] ?_;iterate 10 (refine tkB hwb (λK hK=>?_);go_simp;first|refine hK _ ?_|(apply Exists.intro;refine⟨λ_=>?_,hK _ ?_⟩;rfl);clear hK K)
 refine jc ?_;clear y0 y1 y2 y3 y4 y5 y6 y7 y8 z2 z3 hwb hnl hol gU HOX;refine iU 10 11 rfl rfl Aab Aad Aad Aae Aae (λx hx=>?_) (λx hx=>?_)
 .go_simp;refine⟨(au x _).mono (by have:=hx.size;omega),?_⟩;have GU:=Hq (Ge.trans hx (au x (.cells (cK 0 n.id n.par 0 0 k nn) 32)));have HM1:=Hq (heap_alloc_new x (.cells (cK 0 n.id n.par 0 0 k nn) 32));have hxs:=hx.size;clear hx;refine fC 11 rfl Aab Aad Aae (λy hy=>?_);have HY:=Hq (Ge.trans GU hy);have HMY:=Hq (ay HM1 hy);have Hg:=Hq (ay qZ HY);clear hy HM1 GU;open arH in exact afH
 .have Hg:=Hq (ay qZ hx);have hxs:=hx.size;open arG in exact afH):P:=h
theorem aAE.AaH(h:P:=by
 go_upto_region 19 with fail;open ala in exact Ht):P:=h
theorem aAF.AaH(h:P:=by
 open ao4 in exact awJ):P:=h
theorem av8(h:P:=by
 have hml:=aA zi;have rT:=Hq (ay jU (au W2 (.cells #[] 32)));have KO:=Hq (NW.kc (k:=9) (KC.of_below (au W2 (.cells #[] 32))) Aaa);have vQ:=Hq (HB2.trans ((au W2 (.cells #[] 32)).mono HB2.size));obtain⟨c0,c1,c2,c3,c4,c5,c6,c7,c8⟩:=nine kC;open al4 in exact Wz):P:=h
theorem aAG.AaG(h:P:=by
 exact bodyPost_ret (v:= .tuple #[(fT n A),.slice (some ⟨W2.heap.size,0,none⟩) 0 0,.int .i64 3]) Abx rfl ⟨A,some ⟨W2.heap.size,0,none⟩,0,rfl,HAT,λW'' _ i hi=>Aav,nO,tZ⟩):P:=h
theorem ak3.AaG(h:P:=by
 exact bodyPost_ret (v:= .tuple #[(fT n A),.slice (some ⟨W2.heap.size,0,none⟩) 0 0,.int .i64 1]) Abx rfl ⟨A,some ⟨W2.heap.size,0,none⟩,0,rfl,HAT,λW'' _ i hi=>Aav,nO,tZ⟩):P:=h
theorem aiN(h:P:=by
 obtain⟨rfl,hge⟩:=hcut;have lC:=Hq (ay adt hge);have NV:=Hq (ay adk hge);have qC:=Hq (ay akV hge);have HB1:=Hq (HB0.trans (hge.mono HB0.size));have Wn:=Hq (adq.kc (k:=9) (KC.of_below hge) Aaa);have aiK:=Hq (ZK.below hge);have hz1:w.heap.size+3<=wc.heap.size:=by have:=aA qC;omega
 obtain⟨t0,t1,t2⟩:=ah HT;have u0:=(hge.cell (p:=⟨G.s,i*3,none⟩) hgs0).trans t0;have u1:=(hge.cell (p:=⟨G.s,i*3+1,none⟩) hgs0).trans t1;have u2:=(hge.cell (p:=⟨G.s,i*3+2,none⟩) hgs0).trans t2;clear t0 t1 t2 hge c0 c1 c2 c3 c4 c5 c6 c7 c8 m0 m1 m2 m3 m4 m5 m6 hnl hml adt adk akV HB0 adq ZK HT;obtain⟨c0,c1,c2,c3,c4,c5,c6,c7,c8⟩:=nine lC;have hnl:=aA lC;have aCw:(i:Int) < (n.seen.length:Int):=Aaa
 go_upto_region 5 with fail;refine wp_at (λW2 hW2=>?_);have hb2:=au wc (.cells #[.int .i64 mF,.int .i64 s0.l,.slice bi s0.ids.length ci] 90);have hs2:=heap_alloc_new wc (.cells #[.int .i64 mF,.int .i64 s0.l,.slice bi s0.ids.length ci] 90);rw [<-hW2] at hb2 hs2;obtain⟨sb,hsb⟩:∃sb,wc.heap.size=sb:=⟨_,rfl⟩;rw [hsb] at hs2 hz1;have Wv:=Hq hs2;have kC:=Hq (ay lC hb2);have zi:=Hq (ay NV hb2);have jU:=Hq (ay qC hb2);have HB2:=Hq (HB1.trans (hb2.mono HB1.size));have akM:=Hq (Wn.kc (k:=9) (KC.of_below hb2) Aaa);have ak0:=Hq (aiK.below hb2);have hilt:∀x∈fp (G.i i) s0.ids,x < sb:=λx hx=>by rw [<-hsb];exact Si aiK x hx
 rw [hsb] at *;clear hW2 hb2 hs2 u0 u1 u2 c0 c1 c2 c3 c4 c5 c6 c7 c8 hnl lC NV qC HB1 Wn aiK;obtain⟨m0,m1,m2,m3,m4,m5,m6⟩:=jY zi;obtain⟨s00,s01,s02⟩:=CK Wv;have sf:=aj Wv 1;have hml:=aA zi;have hsl2:=aA Wv;go_upto_if 35 with fail;exact AaO):P:=h
theorem ak4.AaO(h:P:=by
 go_cut [8] from 15 (λp wx=>p= .pointer (some ⟨sb,0,none⟩)/\wx.heap[sb]?=some (.cells #[.int .i64 mF,.int .i64 (eZ s0 mL),.slice bi s0.ids.length ci] 90 (0,0))/\aC [sb] W2 wx)
 case first=>
  exact ai4
 case rest=>
  open alW in exact aiO):P:=h
theorem ak5.AaO(h:P:=by
 go_cut [8] from 15 (λp wx=>p= .pointer (some ⟨sb,0,none⟩)/\wx.heap[sb]?=some (.cells #[.int .i64 mF,.int .i64 (eZ s0 mL),.slice bi s0.ids.length ci] 90 (0,0))/\aC [sb] W2 wx)
 case first=>
  exact ai4
 case rest=>
  open alV in exact aiO):P:=h
theorem ak6.AaO(h:P:=by
 go_cut [8] from 15 (λp wx=>p= .pointer (some ⟨sb,0,none⟩)/\wx.heap[sb]?=some (.cells #[.int .i64 mF,.int .i64 (eZ s0 mL),.slice bi s0.ids.length ci] 90 (0,0))/\aC [sb] W2 wx)
 case first=>
  exact ai4
 case rest=>
  open alU in exact aiO):P:=h
theorem Ht(h:P:=by
 have y0:=cell_regrown c0;have y1:=cell_regrown c1;have y2:=cell_regrown c2;have y3:=cell_regrown c3;have y4:=cell_regrown c4;have y5:=cell_regrown c5;have y6:=cell_regrown c6;have y7:=cell_regrown c7;have y8:=cell_regrown c8;exact AaT):P:=h
theorem ak7.AaT(h:P:=by
 have x0:=cell_regrown d0;have x1:=cell_regrown d1;have x2:=cell_regrown d2;have x3:=cell_regrown d3;clear c0 c1 c2 c3 c4 c5 c6 c7 c8 c9 d0 d1 d2 d3 HR3;refine bV 7 Aab ?_;show fD _ _ _ _ _ 8 (Array.replicate 8 false) _ _
 refine tk [0,1,2,3,4,5] ?_;iterate 6 (refine su (λK hK=>?_);go_simp;refine hK _ ?_;clear hK K)
 refine jc ?_;refine Dn 6 20 rfl Aab Aab Aab Aab Aab (λ_ _ _ _ h=>h) (λK hK=>?_);go_simp
 first
  |(refine hK _ ?_;clear hK K)
  |(apply Exists.intro
    refine⟨λ_=>?_,hK _ ?_⟩
    (exact ayY _)
    clear hK K)
 clear y0 y1 y2 y3 y4 y5 y6 y7 y8 x0 x1 x2 x3;refine bf Aab (λx hx=>?_);have JD:=Hq (Bg x cc vv k hk ⟨qK,qF,qT,qI,qL,qk,qN⟩ HKk (JC.step hx));clear hx JC;refine aF 7 rfl Aab Aad ?_;go_simp;refine JD.mono ?_;rintro e y ⟨rfl,c',v',hY⟩;have HY:=Hq hY;clear hY JD;refine wpAny_done Aab ?_;go_simp;go_wp2_with fail;go_roundw
 case rel=>exact⟨k+1,c',v',Aaa,Aai,by rw [ah HT];exact HY⟩
 case measure=>simp[intOf];omega):P:=h
theorem ak8.AaT(h:P:=by
 have z1:=cell_regrown p1;have z2:=cell_regrown p2;clear c0 c1 c2 c3 c4 c5 c6 c7 c8 c9 p0 p1 p2 p3 p4 p5 p6 xB HW1;by_cases hT:mT=n.id
 .have hq:(mT == n.id)=true:=by simpa using hT
  have HD:=Hq (show(decide (mT=n.id)&&nb)=nb by rw [decide_eq_true hT];rfl);exact axg
 .have hq:(mT == n.id)=false:=by simpa using hT
  have HD:=Hq (show(decide (mT=n.id)&&nb)=false by rw [decide_eq_false hT];rfl);exact axg):P:=h
theorem ak9.AaT(h:P:=by
 have y9:=cell_regrown c9;have y10:=cell_regrown c10;clear e0 e1 c0 c1 c2 c3 c4 c5 c6 c7 c8 c9 c10;generalize bq ⟨s[0].toNat,N1,TX,N2,⟨mK,mF,mT,mI,mL,mk,mN⟩⟩=bo at *;refine dz Aab ?_;show iL _ _ _ _ 15 (Array.replicate 15 false) _ _
 refine tk [0,1,2,3,4,5,6,7,8,9,10,11] ?_;iterate 12 (refine vJ (λK hK=>?_);go_simp;refine hK _ ?_;clear hK K)
 refine jc ?_;refine dP 12 rfl Aab Aab Aab (λ_ _ _ _ h=>h) (λK hK=>?_);go_simp
 first
  |(refine hK _ ?_;clear hK K)
  |(apply Exists.intro
    refine⟨λ_=>?_,hK _ ?_⟩
    (exact lD _)
    clear hK K)
 refine tk [13,14] ?_;open auf in exact aam):P:=h
theorem ala.AaT(h:P:=by
 clear c0 c1 c2 c3 c4 c5 c6 c7 c8;refine bV 3 Aab ?_;show fD _ _ _ _ _ 6 (Array.replicate 6 false) _ _
 refine tk [0,1] ?_;iterate 2 (refine su (λK hK=>?_);go_simp;refine hK _ ?_;clear hK K)
 refine jc ?_;clear y0 y1 y2 y3 y4 y5 y6 y7 y8;refine dM 2 rfl Aab Aad (λx hx=>?_);go_simp;refine(kR x A1 (BA.at.below hx)).mono ?_;rintro e y ⟨ma,mc,rfl,g,hmw,hml,hby⟩;refine⟨hby,?_⟩;have HY:=Hq (Ge.trans hx hby);have hxs:=hx.size;clear hx hby kR gU HOX p0 p1 p2 p3 p4 p5 p6 p7 p8 p9 oD hnl hol;refine bf Aab (λz hz=>?_);have HZ:=Hq (Ge.trans HY hz);have JB:=Hq (ay qZ HZ);have pQ:=Hq (lU.trans (HZ.mono lU.size));have Eh:=Hq (BA.kc (k:=9) (KC.of_below HZ) Aaa);have Xj:∀x'∈fp g L1,(λq=>if q<=w.heap.size+2 then 9 else 0) x'=0:=λx' hx'=>if_neg (by have:=(hml x' hx').1;have:=aA qZ;omega)
 have HMW:=Hq ((KC.of_below (c:=λq=>if q<=w.heap.size+2 then 9 else 0) (k:=9) hz).w hmw Xj Aaa);have akA:=Hq Xj;clear hz Xj hmw hml HY HZ BA lU qZ;obtain⟨d0,d1,d2,d3,d4,d5,d6,d7,d8⟩:=nine JB;have f0:=aj JB 0;have f1:=aj JB 1;have f2:=aj JB 2;have f3:=aj JB 3;have f4:=aj JB 4;have f5:=aj JB 5;have f6:=aj JB 6;have f7:=aj JB 7;have f8:=aj JB 8;have hrl:=aA JB;refine aF 3 rfl Aab Aad ?_;go_simp;refine aF 4 rfl Aab Aad ?_;go_simp;refine aF 5 rfl Aab Aad ?_;go_simp;refine wpAny_done Aab ?_;go_simp;clear d0 d1 d2 d3 d4 d5 d6 d7 d8 f0 f1 f2 f3 f4 f5 f6 f7 f8 hrl;go_wp2_with fail;refine aO (λW' hW'=>?_)
 have e4:W'.heap[w.heap.size+2]?=some (.cells (dD n A1) 30 (0,0)):=by
  rw [hW'];exact GR.setW_blk (dD n A1).toList (o:=0) (xs:=fU.toList) JB
 have gL:aC [w.heap.size+2] z W':=by
  rw [hW'];exact aK (dD n A1).toList z 0
 have HMT:=Hq ((KC.keeps (c:=λq=>if q<=w.heap.size+2 then 9 else 0) (k:=9) gL (λx hx=>if_pos (by have:x=w.heap.size+2:=(by simpa using hx);omega))).w HMW akA Aaa);have HAT:=Hq (λW'' (ho:Dr w W' W'')=>((Eh.kc (k:=9) (KC.keeps gL (λx hx=>by have:x=w.heap.size+2:=Aag;rw [this];exact oI)) Aaa).kc (k:=9) (ho.kc (λx hx=>Zg x Aaa)) Aaa).rm);have nO:Hid (aY w W'):=pQ.trans (gL.below (λx hx=>by have:x=w.heap.size+2:=Aag;omega) pQ.size);obtain⟨x0,x1,x2,x3,x4,x5,x6,x7,x8⟩:=nine e4;clear hW' e4 gL;exact bodyPost_ret (v:= .tuple #[(fT n A1),.slice ma L1.length mc,.int .i64 0]) Abc rfl ⟨A1,ma,⟨mc,rfl⟩,HAT,λW'' ho=>((ho.kc (c:=λq=>if q<=w.heap.size+2 then 9 else 0) (k:=9) (λx hx=>if_pos Aaa)).w HMT akA Aaa).at,nO⟩):P:=h
theorem alb.AaT(h:P:=by
 have z1:=cell_regrown p1;clear c0 c1 c2 c3 c4 c5 c6 c7 c8 c9 p0 p1 p2 p3 p4 p5 p6;refine dz Aab ?_;show iL _ _ _ _ 8 (Array.replicate 8 false) _ _
 refine tk [0,1,2,3,4,5] ?_;iterate 6 (refine vJ (λK hK=>?_);go_simp;refine hK _ ?_;clear hK K)
 refine jc ?_;refine dP 6 rfl Aab Aab Aab (λ_ _ _ _ h=>h) (λK hK=>?_);go_simp
 first
  |(refine hK _ ?_;clear hK K)
  |(apply Exists.intro
    refine⟨λ_=>?_,hK _ ?_⟩
    (exact HKD _ (Sc _))
    clear hK K)
 refine tk [7] ?_;(refine vJ (λK hK=>?_);go_simp;refine hK _ ?_;clear hK K)
 refine jc ?_;refine fE Aab (λz hz=>?_);have HZ:=Hq (HW1.step hz);exact AaI):P:=h
theorem alc.AaT(h:P:=by
 have hnl:=aA mV;have hnr:=aA jV;have hnq:=aA DJ;clear c0 c1 c2 c3 c4 c5 c6 c7 c8;go_cut [5] from 11 (λcd wx=>cd= .int .i64 0/\wx.heap[w.heap.size+2]?=some (.cells (gH n.id n.par a_k n.kids.length aL n.next av RL.length cv eD n.out.length aP eO n.seen.length aM n.old (some ⟨gv,0,none⟩) (n.reqs.length+1) vc) 30 (0,0))/\aC [w.heap.size+2] wc wx)
 case first=>
  open aor in exact adN
 case rest=>
  open auD in exact agt):P:=h
theorem ald.AaT(h:P:=by
 have hnl:=aA xX;have hnr:=aA lY;have hnq:=aA KT;clear c0 c1 c2 c3 c4 c5 c6 c7 c8;go_cut [5] from 11 (λcd wx=>cd= .int .i64 0/\wx.heap[w.heap.size+2]?=some (.cells (gH n.id n.par a_k n.kids.length aL n.next av RL.length cv eD n.out.length aP eO n.seen.length aM IH.no (some ⟨g8,0,none⟩) n.reqs.length EW) 30 (0,0))/\aC [w.heap.size+2] W9 wx)
 case first=>
  open aoq in exact adN
 case rest=>
  open auF in exact agu):P:=h
theorem ale.AaT(h:P:=by
 have hnl:=aA mV;have hnr:=aA jV;have hnq:=aA DJ;clear c0 c1 c2 c3 c4 c5 c6 c7 c8;go_cut [5] from 11 (λcd wx=>cd= .int .i64 1/\wx.heap[w.heap.size+2]?=some (.cells (gH n.id n.par a_k n.kids.length aL n.next (some ⟨gp,0,none⟩) n.pu.length bE eD n.out.length aP eO n.seen.length aM n.old (some ⟨gv,0,none⟩) (n.reqs.length+1) vc) 30 (0,0))/\aC [w.heap.size+2] wc wx)
 case first=>
  open aop in exact adN
 case rest=>
  open auC in exact agt):P:=h
theorem alf.AaT(h:P:=by
 have hnl:=aA xX;have hnr:=aA lY;have hnq:=aA KT;clear c0 c1 c2 c3 c4 c5 c6 c7 c8;go_cut [5] from 11 (λcd wx=>cd= .int .i64 1/\wx.heap[w.heap.size+2]?=some (.cells (gH n.id n.par a_k n.kids.length aL n.next (some ⟨gp,0,none⟩) n.pu.length bE eD n.out.length aP eO n.seen.length aM IH.no (some ⟨g8,0,none⟩) n.reqs.length EW) 30 (0,0))/\aC [w.heap.size+2] W9 wx)
 case first=>
  open aoo in exact adN
 case rest=>
  open auE in exact agu):P:=h
theorem alg.AaT(h:P:=by
 have x0:=cell_regrown s0;have x1:=cell_regrown s1;have x2:=cell_regrown s2;have x3:=cell_regrown s3;have hnz:=aA N9;have hsz:=aA adD;clear c0 c1 c2 c3 c4 c5 c6 c7 c8 s0 s1 s2 s3;refine wJ 5 Aab ?_;show lH _ _ _ _ _ 8 (Array.replicate 8 false) _ _
 refine tk [0,1,2] ?_;iterate 3 (refine tkF (λK hK=>?_);go_simp;refine hK _ ?_;clear hK K)
 refine jc ?_;clear y0 y1 y2 y3 y4 y5 y6 y7 y8 x0 x1 x2 x3 hnz hsz N9 adD;refine Uz 3 rfl Aab Aad Aae (λx hx=>?_);go_simp;refine(EI x hx).mono ?_;rintro e y ⟨rfl,hby⟩;refine⟨hby,?_⟩;have HY:=Hq (Ge.trans hx hby);clear hx hby EI;refine jL 4 rfl rfl Aab Aad Aad Aae (λz hz=>?_) (λz hz=>?_)
 .have HZ:=Hq (Ge.trans HY hz);clear hz HY;go_simp;refine⟨au z _,?_⟩;refine Bd Aab (λz2 hz2=>?_);have HZ2:=Hq (Ge.trans HZ (Ge.trans (au z _) hz2));have HM2:=Hq (ay (heap_alloc_new z (.cells (cK qK qF qT qI qL qk qN) 32)) hz2);have xZ:=Hq (ay aiJ HZ2);have hmz:w.heap.size+1 < z.heap.size:=Nat.lt_of_lt_of_le (aA aiJ) HZ.size;clear hz2;open aru in exact afB
 .have HZ:=Hq (Ge.trans HY hz);have xZ:=Hq (ay aiJ HZ);clear hz HY;open ars in exact afB):P:=h
theorem Wy(h:P:=by
 go_upto_region 1 with fail;have y7:=cell_regrown c7;have z1:=cell_regrown p1;clear c0 c1 c2 c3 c4 c5 c6 c7 c8 c9 p0 p1 p2 p3 p4 p5 p6 p7 p8 p9 oD;refine dz Aab ?_;show iL _ _ _ _ 8 (Array.replicate 8 false) _ _
 refine tk [0,1,2,3,4,5,6,7] ?_;iterate 8 (refine vJ (λK hK=>?_);go_simp;refine hK _ ?_;clear hK K)
 refine jc ?_;refine fE Aab (λz hz=>?_);have HZ:=Hq (HW1.step hz);have R4:=Hq (ay xB hz);clear hz y7 z1 HW1 xB;go_simp;exact AaX):P:=h
theorem alh.AaX(h:P:=by
 clear h hc;open apd in exact awN):P:=h
theorem ali.AaX(h:P:=by
 open apE in exact afa):P:=h
theorem alj.AaX(h:P:=by
 open apD in exact afa):P:=h
theorem alk.AaX(h:P:=by
 clear h hc;open atY in exact agj):P:=h
theorem alm.AaX(h:P:=by
 clear h hc he hz;open apc in exact awN):P:=h
theorem aln.AaX(h:P:=by
 clear h hc;go_wp2_with fail;go_ret;exact⟨rfl,A,G,c,HZ⟩):P:=h
theorem av9(h:P:=by
 clear Pq;refine fC 0 rfl Aab Aad Aae (λx2 hx2=>?_);go_simp;have vT:=Hq (zh.trans (hx2.mono zh.size));have vY:wc.heap.size<=x2.heap.size:=vT.size;have aiI:=Hq (ay adx hx2);clear hx2;refine⟨(au x2 _).mono vY,?_⟩;have H6:=au x2 (.cells #[] 97);have Hr:=Hq (show(x2.alloc (.cells #[] 97)).ownsRow wc.heap.size 97 4 (.slice (some ⟨x2.heap.size,0,none⟩) 0 0) 0 (GR.flat aN []) from World.ownsRow_lit (base:=wc.heap.size) (e:=97) (size:=4) x2 #[] 0 vY Aah Aac);open asG in exact afX):P:=h
theorem alo.AeQ(h:P:=by
 have Hf:=Hq (show y3.heap[x1.heap.size]?=some (.cells (eG no k nn 0) 97 (0,0)) from by rw [yu.block _ (aA (ah xY)) (λhm=>ah KJ _ hm.symm rfl)];exact xY);open atP in exact aaj):P:=h
theorem alp.AeQ(h:P:=by
 have Hf:=Hq (show y3.heap[x1.heap.size]?=some (.cells (eG no k nn 1) 97 (0,0)) from by rw [yu.block _ (aA (ah xY)) (λhm=>ah KJ _ hm.symm rfl)];exact xY);open atO in exact aaj):P:=h
theorem awc(h:P:=by
 generalize n.reqs[i].n=qn at *;go_upto_region 8 with fail;have y4:=cell_regrown c4;have y8:=cell_regrown c8;have z1:=cell_regrown q1;have z2:=cell_regrown q2;clear c0 c1 c2 c3 c4 c5 c6 c7 c8 d0 d1 d2 d3 d4 d5 d6 d7 d8 f0 f1 f2 f3 f4 f5 f6 f7 f8 q0 q1 q2 q3;refine dz Aab ?_;show iL _ _ _ _ 20 (Array.replicate 20 false) _ _
 refine tk [0,1,2,3,4,5,6,7,8,9,10,11,12,13] ?_;iterate 14 (refine vJ (λK hK=>?_);go_simp;refine hK _ ?_;clear hK K)
 refine jc ?_;clear y4 y8 z1 z2;refine xw 14 rfl Aab Aad (λx hx=>?_);go_simp;refine(HUN x (GR.At.below yZ.at.p hx)).mono ?_;rintro e y ⟨v,rfl,hne,hrow,hby⟩;refine⟨hby,?_⟩;obtain⟨av,cv,rfl,_⟩:=GR.own_at (enc:=fH) (sz:=4) aX hrow;have HRW:=Hq hrow;have HXY:=Hq (Ge.trans hx hby);have hxs:=hx.size;clear hx hby hne hrow HUN;refine tk [15,16,17,18,19] ?_;iterate 5 (refine vJ (λK hK=>?_);go_simp;refine hK _ ?_;clear hK K)
 refine jc ?_;refine fE Aab (λz hz=>?_);have HZ:=Hq (Ge.trans HXY hz);have JB:=Hq (GR.own_below HRW hz);have N9:=Hq (ay lC HZ);have BG:=Hq (ay qZ HZ);have Eh:=Hq (yZ.kc (k:=9) (KC.of_below HZ) Aaa);have pQ:=Hq (HB1.trans (HZ.mono HB1.size));have hgz:g < z.heap.size:=Nat.lt_of_lt_of_le hg HZ.size;clear hz HXY HRW;go_simp;obtain⟨c0,c1,c2,c3,c4,c5,c6,c7,c8⟩:=nine N9;obtain⟨d0,d1,d2,d3,d4,d5,d6,d7,d8⟩:=nine BG;have f0:=aj BG 0;have f1:=aj BG 1;have f2:=aj BG 2;have f3:=aj BG 3;have f4:=aj BG 4;have f5:=aj BG 5;have f6:=aj BG 6;have f7:=aj BG 7;have f8:=aj BG 8;have hnl:=aA N9;have hrl:=aA BG;exact AdB):P:=h
theorem alq.AdB(h:P:=by
 go_wp2_with fail;refine aO (λW' hW'=>?_)
 have e4:W'.heap[w.heap.size+1]?=some (.cells (gH n.id n.par a_k n.kids.length aL n.next (some ⟨gp,0,none⟩) n.pu.length bE eD n.out.length aP eO n.seen.length aM n.old (some ⟨g,0,none⟩) n.reqs.length aV) 30 (0,0)):=by
  rw [hW'];exact GR.setW_blk (gH n.id n.par a_k n.kids.length aL n.next (some ⟨gp,0,none⟩) n.pu.length bE eD n.out.length aP eO n.seen.length aM n.old (some ⟨g,0,none⟩) n.reqs.length aV).toList (o:=0) (xs:=fU.toList) BG
 have gL:aC [w.heap.size+1] z W':=by
  rw [hW'];exact aK (gH n.id n.par a_k n.kids.length aL n.next (some ⟨gp,0,none⟩) n.pu.length bE eD n.out.length aP eO n.seen.length aM n.old (some ⟨g,0,none⟩) n.reqs.length aV).toList z 0
 have HAT:=Hq (λW'' (ho:Out c w W' W'')=>(Eh.kc (k:=9) ((KC.keeps gL (λx hx=>by have:x=w.heap.size+1:=Aag;rw [this];exact aZ Aaa)).trans (KC.out H9 ho)) Aaa).rm);have nO:Hid (Below B w W'):=(pQ.mono hB).trans (gL.below (λx hx=>by have:x=w.heap.size+1:=Aag;omega) (Nat.le_trans hB (pQ.mono hB).size));have tZ:=Hq (Apart.keeps (c:=c) (Apart.of_below pQ) (pQ.mono hB).size gL (λx hx=>by have:x=w.heap.size+1:=Aag;omega));obtain⟨x0,x1,x2,x3,x4,x5,x6,x7,x8⟩:=nine e4;clear hW' e4 gL;exact bodyPost_ret (v:= .tuple #[.agg (gH n.id n.par a_k n.kids.length aL n.next (some ⟨gp,0,none⟩) n.pu.length bE eD n.out.length aP eO n.seen.length aM n.old (some ⟨g,0,none⟩) n.reqs.length aV),.int .i64 1]) Abw rfl ⟨(⟨a_k,(some ⟨gp,0,none⟩),eD,eO,(some ⟨g,0,none⟩),aL,bE,aP,aM,aV⟩:bC),rfl,HAT,nO,tZ⟩):P:=h
theorem alr.AdB(h:P:=by
 have q3z:z.cell? ⟨g,i*4+3,none⟩=some (.int .i64 0):=(HZ.cell (p:=⟨g,i*4+3,none⟩) hg).trans HQ3
 have g3:z.frozen? ⟨g,i*4+3,none⟩=false:=by
  obtain⟨g',rest,e',_,hb'⟩:=Ai Eh.r (show 0 < n.reqs.length by omega);simp only[Option.some.injEq,Addr.mk.injEq,and_true] at e';obtain rfl:=e';exact aj hb' _
 have f4n:=aj N9 4
 have hgn:g≠w.heap.size:=λe=>by
  have h1:=Eh.cr g ((hgb g).2 rfl)
  rw [e] at h1
  have h2:newC w.heap.size 9 c w.heap.size=9:=aZ (Nat.le_refl _)
  rw [h2] at h1
  cases h1
 have aBh:g≠w.heap.size+1:=λe=>by
  have h1:=Eh.cr g ((hgb g).2 rfl)
  rw [e] at h1
  have h2:newC w.heap.size 9 c (w.heap.size+1)=9:=aZ Aaa
  rw [h2] at h1
  cases h1
 go_upto_region 13 with fail;refine wp_at (λZ2 hZ=>?_);have kC:Hid (Z2.heap[w.heap.size]?=some (.cells (gH n.id n.par a_k n.kids.length aL n.next av RL.length cv eD n.out.length aP eO n.seen.length aM n.old (some ⟨g,0,none⟩) n.reqs.length aV) 30 (0,0))):=by rw [hZ];exact(Below.heap_setCell _ _ _ _ (Ne.symm hgn)).trans (pY N9)
 have jU:Hid (Z2.heap[w.heap.size+1]?=some (.cells fU 30 (0,0))):=by rw [hZ];exact((Below.heap_setCell _ _ _ _ (Ne.symm aBh)).trans (Below.heap_setCell _ _ _ _ (show w.heap.size+1≠w.heap.size by omega))).trans BG
 have jZ:=Eh.kc (k:=9) (KC.set (g:=w.heap.size) (i:=4) (v:= .slice av RL.length cv) (aZ (Nat.le_refl _))) Aaa;have kB:KC (newC w.heap.size 9 c) 6 (z.setCell ⟨w.heap.size,4,none⟩ (.slice av RL.length cv)) Z2:=by rw [hZ];exact KC.set (jZ.cr g ((hgb g).2 rfl))
 have hwx:w.heap.size < x.heap.size/\g < x.heap.size:=by
  have:=aA lC;omega
 have hpz:Z2.ownsRow x.heap.size 143 4 (.slice av RL.length cv) RL.length (GR.flat fH RL):=by
  rw [hZ];exact dG (dG JB (aC.set _) (λy hy=>by have:y=w.heap.size:=Aat;omega)) (aC.set _) (λy hy=>by have:y=g:=Aat;omega)
 have hrz:=(jZ.r.stored (i*4+3) (.int .i64 2)).1;rw [Pb 2 n.reqs i hi,<-hZ] at hrz;have ZA:=Hq (And.intro (kB.w jZ.k jZ.ck Aaa) (And.intro hpz (And.intro (kB.own jZ.o jZ.co Aaa) (And.intro (kB.seenQ jZ.sq jZ.c4 jZ.ci Aaa Aaa) hrz))));have kR:=Hq (And.intro jZ.ck (And.intro jZ.co (And.intro jZ.c4 (And.intro jZ.ci (And.intro jZ.cr jZ.ni)))))
 have aiu:Hid (Below B w Z2):=by
  have hg0:B<=g:=hBg;rw [hZ];exact((pQ.mono hB).setCell (p:=⟨w.heap.size,4,none⟩) hB _).setCell (p:=⟨g,i*4+3,none⟩) hg0 _
 have ayK:Hid (Apart c w Z2):=λx hx hc=>by
  have hxg:x≠g:=λe=>by
   have h1:=Eh.cr g ((hgb g).2 rfl)
   rw [<-e,eT hx] at h1
   omega
  rw [hZ]
  exact(Below.heap_setCell _ _ _ _ hxg).trans ((Below.heap_setCell _ _ _ _ (Nat.ne_of_lt hx)).trans (pQ.block x hx))
 clear hZ jZ kB hpz hrz q3z g3 f4n c0 c1 c2 c3 c4 c5 c6 c7 c8 d0 d1 d2 d3 d4 d5 d6 d7 d8 f0 f1 f2 f3 f4 f5 f6 f7 f8 hnl hrl;obtain⟨c0,c1,c2,c3,c4,c5,c6,c7,c8⟩:=nine kC;obtain⟨d0,d1,d2,d3,d4,d5,d6,d7,d8⟩:=nine jU;have f0:=aj jU 0;have f1:=aj jU 1;have f2:=aj jU 2;have f3:=aj jU 3;have f4:=aj jU 4;have f5:=aj jU 5;have f6:=aj jU 6;have f7:=aj jU 7;have f8:=aj jU 8;have hnl:=aA kC;have hrl:=aA jU;go_wp2_with fail;refine aO (λW' hW'=>?_)
 have e4:W'.heap[w.heap.size+1]?=some (.cells (gH n.id n.par a_k n.kids.length aL n.next av RL.length cv eD n.out.length aP eO n.seen.length aM n.old (some ⟨g,0,none⟩) n.reqs.length aV) 30 (0,0)):=by
  rw [hW'];exact GR.setW_blk (gH n.id n.par a_k n.kids.length aL n.next av RL.length cv eD n.out.length aP eO n.seen.length aM n.old (some ⟨g,0,none⟩) n.reqs.length aV).toList (o:=0) (xs:=fU.toList) jU
 have gL:aC [w.heap.size+1] Z2 W':=by
  rw [hW'];exact aK (gH n.id n.par a_k n.kids.length aL n.next av RL.length cv eD n.out.length aP eO n.seen.length aM n.old (some ⟨g,0,none⟩) n.reqs.length aV).toList Z2 0
 have HAT:=Hq (λW'' (ho:Out c w W' W'')=>(show RM W'' ⟨a_k,av,eD,eO,(some ⟨g,0,none⟩),aL,cv,aP,aM,aV⟩ (eH (setPu n RL) (n.reqs.set i (qj n.reqs[i]))) from by
  have kF:KC (newC w.heap.size 9 c) 9 Z2 W'':=(KC.keeps gL (λy hy=>by have:y=w.heap.size+1:=Aat;rw [this];exact aZ Aaa)).trans (KC.out H9 ho)
  have hpF:W''.ownsRow x.heap.size 143 4 (.slice av RL.length cv) RL.length (GR.flat fH RL):=by
   obtain⟨F,hk,hF⟩:=ho;exact dG (dG ZA.2.1 gL (λy hy=>by have:y=w.heap.size+1:=Aat;have:=aA qZ;omega)) hk (λy hy=>by have:=(hF y hy).1;have:=aA qZ;omega)
  have hp9:∀g',av.map (λy=>y.block)=some g'->6 < newC w.heap.size 9 c g':=λg' hg'=>by
   have h1:=uQ hpF (nD hpF hg')
   have h2:=aA qZ
   rw [aZ Aaa]
   omega
  have hrF:W''.ownsRow B 97 4 (.slice (some ⟨g,0,none⟩) (n.reqs.set i (qj n.reqs[i])).length aV) (n.reqs.set i (qj n.reqs[i])).length (GR.flat aN (n.reqs.set i (qj n.reqs[i]))):=by
   rw [List.length_set];exact kF.own ZA.2.2.2.2 kR.2.2.2.2.1 Aaa
  exact RM.of (n:=eH (setPu n RL) (n.reqs.set i (qj n.reqs[i]))) (A:=⟨a_k,av,eD,eO,(some ⟨g,0,none⟩),aL,cv,aP,aM,aV⟩) (c:=newC w.heap.size 9 c) (kF.w ZA.1 kR.1 Aaa) kR.1 (kF.seenQ ZA.2.2.2.1 kR.2.2.1 kR.2.2.2.1 Aaa Aaa) kR.2.2.1 kR.2.2.2.1 kR.2.2.2.2.2
   (GR.own_ati aX hpF) (λg' hg' _=> .inr (hp9 g' hg')) (kF.own ZA.2.2.1 kR.2.1 Aaa) (λy hy=> .inl (kR.2.1 y hy)) hrF (λy hy=> .inl (kR.2.2.2.2.1 y hy))
   (λg' hg' _ h6=>⟨λe=>by have:=kR.2.1 g' e;omega,λe=>by have:=kR.2.2.2.2.1 g' e;omega⟩) (λy hy h6=>by have:=kR.2.1 y hy;omega)))
 have nO:Hid (Below B w W'):=aiu.trans (gL.below (λx hx=>by have:x=w.heap.size+1:=Aag;omega) (Nat.le_trans hB aiu.size));have tZ:=Hq (Apart.keeps (c:=c) ayK aiu.size gL (λx hx=>by have:x=w.heap.size+1:=Aag;omega));obtain⟨x0,x1,x2,x3,x4,x5,x6,x7,x8⟩:=nine e4;clear hW' e4 gL;exact bodyPost_ret (v:= .tuple #[.agg (gH n.id n.par a_k n.kids.length aL n.next av RL.length cv eD n.out.length aP eO n.seen.length aM n.old (some ⟨g,0,none⟩) n.reqs.length aV),.int .i64 0]) Abw rfl ⟨⟨a_k,av,eD,eO,(some ⟨g,0,none⟩),aL,cv,aP,aM,aV⟩,by rw [show fT (eH (setPu n RL) (n.reqs.set i (qj n.reqs[i]))) ⟨a_k,av,eD,eO,(some ⟨g,0,none⟩),aL,cv,aP,aM,aV⟩= .agg (gH n.id n.par a_k n.kids.length aL n.next av RL.length cv eD n.out.length aP eO n.seen.length aM n.old (some ⟨g,0,none⟩) n.reqs.length aV) from by simp[fT,dD,eH,setPu]],HAT,nO,tZ⟩):P:=h
theorem EL(h:P:=by
 rw [hop] at GN;unfold jX at GN;clear hop;have Du:=Hq (λW (h:aY w W)=>uT n A W hz (ha.below h));clear hz ha hok;go_in
 go_upto_region 2 with fail;refine wp_at (λW1 hW=>?_);exact AaR):P:=h
theorem als.AaR(h:P:=by
 open aqv in exact afj):P:=h
theorem alu.AaR(h:P:=by
 obtain⟨e1,e2,e3,e4⟩:=gD w (.cells (dD n A) 30) (.cells (cu 2 no k nn mK mF mT mI mL mk mN) 34) (.cells fU 30);have hsz:(((w.alloc (.cells (dD n A) 30)).alloc (.cells (cu 2 no k nn mK mF mT mI mL mk mN) 34)).alloc (.cells fU 30)).heap.size=w.heap.size+3:=Aac
 generalize hW0:((w.alloc (.cells (dD n A) 30)).alloc (.cells (cu 2 no k nn mK mF mT mI mL mk mN) 34)).alloc (.cells fU 30)=W0 at *;exact Zw9):P:=h
theorem alv.AaR(h:P:=by
 obtain⟨e1,e2,e3,e4⟩:=gD w (.cells (dD n A) 30) (.cells (cu 1 no k nn mK mF mT mI mL mk mN) 34) (.cells fU 30);have hsz:(((w.alloc (.cells (dD n A) 30)).alloc (.cells (cu 1 no k nn mK mF mT mI mL mk mN) 34)).alloc (.cells fU 30)).heap.size=w.heap.size+3:=Aac
 generalize hW0:((w.alloc (.cells (dD n A) 30)).alloc (.cells (cu 1 no k nn mK mF mT mI mL mk mN) 34)).alloc (.cells fU 30)=W0 at *;exact Zw9):P:=h
theorem alx.AaR(h:P:=by
 open aqx in exact afk):P:=h
theorem aly.AaR(h:P:=by
 obtain⟨e1,e2,e3,e4⟩:=gD w (.cells (dD n A) 30) (.cells (cu 6 no k nn mK mF mT mI mL mk mN) 34) (.cells fU 30);have hsz:(((w.alloc (.cells (dD n A) 30)).alloc (.cells (cu 6 no k nn mK mF mT mI mL mk mN) 34)).alloc (.cells fU 30)).heap.size=w.heap.size+3:=Aac
 generalize hW0:((w.alloc (.cells (dD n A) 30)).alloc (.cells (cu 6 no k nn mK mF mT mI mL mk mN) 34)).alloc (.cells fU 30)=W0 at *;exact awU):P:=h
theorem alz.AaR(h:P:=by
 open aqw in exact afk):P:=h
theorem alA.AaR(h:P:=by
 open aqz in exact afl):P:=h
theorem alB.AaR(h:P:=by
 open aqB in exact afm):P:=h
theorem alC.AaR(h:P:=by
 obtain⟨e1,e2,e3,e4⟩:=gD w (.cells (dD n A) 30) (.cells (cu 5 no k nn mK mF mT mI mL mk mN) 34) (.cells fU 30);have hsz:(((w.alloc (.cells (dD n A) 30)).alloc (.cells (cu 5 no k nn mK mF mT mI mL mk mN) 34)).alloc (.cells fU 30)).heap.size=w.heap.size+3:=Aac
 generalize hW0:((w.alloc (.cells (dD n A) 30)).alloc (.cells (cu 5 no k nn mK mF mT mI mL mk mN) 34)).alloc (.cells fU 30)=W0 at *;open az1 in exact KV):P:=h
theorem alD.AaR(h:P:=by
 open aqy in exact afl):P:=h
theorem alE.AaR(h:P:=by
 open aqA in exact afm):P:=h
theorem awd(h:P:=by
 open atu in exact aag):P:=h
theorem alF.Ae8(h:P:=by
 have abp:=au x3 (.cells (eG no k nn 0) 97);have Hf:=Hq (heap_alloc_new x3 (.cells (eG no k nn 0) 97));open ap2 in exact ZY):P:=h
theorem alG.Ae8(h:P:=by
 have abp:=au x3 (.cells (eG no k nn 1) 97);have Hf:=Hq (heap_alloc_new x3 (.cells (eG no k nn 1) 97));open ap1 in exact ZY):P:=h
theorem awe(h:P:=by
 cases h3:fV lo
 case' false=>
  have cS:=Kg lo false W1 h3
  have HV:=Hq (show bb=true by rw [<-ah fO];simp[h3])
  clear fO
  refine wp_region_quiet_below Aab Aab ?_
  repeat (first|go_big_quiet_step ((first|(go_at_call 47;exact cN _ _)|(go_at_call 61;exact cS _ _)))|quiet_step ((first|(go_at_call 47;exact cN _ _)|(go_at_call 61;exact cS _ _))))
  refine wpQuiet_nil ?_
  intro _ hw'
  obtain⟨⟨dq,osq⟩,hw''⟩:=hw'
  subst hw''
  go_wp2_with fail
  go_meet
  case rel=>exact yg
 have cS:=Kg lo true W1 h3;by_cases h4:ids.length<=40
 case' neg=>
  have hq:decide ((40:Int) < ids.length)=true:=decide_eq_true Aaa
  have HV:=Hq (show bb=true by rw [<-ah fO];simp[h4])
  clear fO
  refine wp_region_quiet_below Aab Aab ?_
  repeat (first|go_big_quiet_step ((first|(go_at_call 47;exact cN _ _)|(go_at_call 61;exact cS _ _)))|quiet_step ((first|(go_at_call 47;exact cN _ _)|(go_at_call 61;exact cS _ _))))
  refine wpQuiet_nil ?_
  intro _ hw'
  obtain⟨⟨dq,osq⟩,hw''⟩:=hw'
  subst hw''
  go_wp2_with fail
  go_meet
  case rel=>exact yg
 have hq:decide ((40:Int) < ids.length)=false:=decide_eq_false Aaa;exact AeP):P:=h
theorem alH.AeP(h:P:=by
 have HV:=Hq (show bb=false by rw [<-ah fO];simp[h1,h3,h4,h2]);exact axJ):P:=h
theorem alI.AeP(h:P:=by
 have HV:=Hq (show bb=false by rw [<-ah fO];simp[h1,h3,h4]);exact axJ):P:=h
theorem aau(h:P:=by
 go_upto_region 6 with fail;refine Fo.wp_at (λV hV=>?_);open auw in exact agq):P:=h
theorem alJ.Aa8(h:P:=by
 open aqL in exact afr):P:=h
theorem alK.Aa8(h:P:=by
 open aqK in exact afr):P:=h
theorem alL.Aa8(h:P:=by
 open avX in exact agV):P:=h
theorem alM.Aa8(h:P:=by
 clear hblk hV c0 c1 c2 c3;open ava in exact agF):P:=h
theorem alN.Aa8(h:P:=by
 clear hblk hV c0 c1 c2 c3;open au7 in exact agE):P:=h
theorem awf(h:P:=by
 obtain⟨c0,c1,c2,c3,c4,c5,c6,c7,c8⟩:=nine HS.blk;have hbl:=aA HS.blk;open aox in exact awE):P:=h
theorem alO.Aex(h:P:=by
 go_upto_region 6 with fail;go_cut [8] (λq wx=>∃qf A3,q= .pointer (some ⟨qf,0,none⟩)/\wx.heap[qf]?=some (.cells (dD m' A3) 30 (0,0))/\NL (w.heap.size+2) wx A3 m'/\aY wr wx)
 case first=>
  open aph in exact awP
 case rest=>
  obtain⟨qf,A3,rfl,hblk,hNL,hbx⟩:=hcut;have HS2:=Hq (HS.step hbx);have UL:=Hq hNL;have hB:w.heap.size+2<=B:=hsw;open apb in exact awM):P:=h
theorem alP.Aex(h:P:=by
 go_upto_region 12 with fail;go_cut [10] (λq wx=>∃qf A3,q= .pointer (some ⟨qf,0,none⟩)/\wx.heap[qf]?=some (.cells (dD m' A3) 30 (0,0))/\NL (w5.heap.size+1) wx A3 m'/\aY wr wx)
 case first=>
  open apg in exact awP
 case rest=>
  obtain⟨qf,A3,rfl,hblk,hNL,hbx⟩:=hcut;have HS2:=Hq (HS.step hbx);have UL:=Hq hNL;open apa in exact awM):P:=h
theorem awg(h:P:=by
 refine tk [0,1,2,5,6] ?_;iterate 5 (refine vJ (λK hK=>?_);go_simp;refine hK _ ?_;clear hK K)
 refine jc ?_;refine dP 7 rfl Aab Aab Aab (λ_ _ _ _ h=>h) (λK hK=>?_);go_simp
 first
  |(refine hK _ ?_;clear hK K)
  |(apply Exists.intro
    refine⟨λ_=>?_,hK _ ?_⟩
    (exact N1 _)
    clear hK K)
 refine tk [9,10] ?_;iterate 2 (refine vJ (λK hK=>?_);go_simp;refine hK _ ?_;clear hK K)
 refine jc ?_;refine dP 11 rfl Aab Aab Aab (λ_ _ _ _ h=>h) (λK hK=>?_);go_simp
 first
  |(refine hK _ ?_;clear hK K)
  |(apply Exists.intro
    refine⟨λ_=>?_,hK _ ?_⟩
    (exact N2 _)
    clear hK K)
 refine tk [13,14] ?_;iterate 2 (refine vJ (λK hK=>?_);go_simp;refine hK _ ?_;clear hK K)
 refine jc ?_;refine dP 15 rfl Aab Aab Aab (λ_ _ _ _ h=>h) (λK hK=>?_);go_simp
 first
  |(refine hK _ ?_;clear hK K)
  |(apply Exists.intro
    refine⟨λ_=>?_,hK _ ?_⟩
    (exact N3 _)
    clear hK K)
 refine tk [17,18] ?_;iterate 2 (refine vJ (λK hK=>?_);go_simp;refine hK _ ?_;clear hK K)
 refine jc ?_;refine dP 19 rfl Aab Aab Aab (λ_ _ _ _ h=>h) (λK hK=>?_);go_simp;exact AdH):P:=h
theorem alQ.AdH(h:P:=by
 first
  |(refine hK _ ?_;clear hK K)
  |(apply Exists.intro
    refine⟨λ_=>?_,hK _ ?_⟩
    (exact N4 _)
    clear hK K)
 refine tk [21,22] ?_;iterate 2 (refine vJ (λK hK=>?_);go_simp;refine hK _ ?_;clear hK K)
 refine jc ?_;refine dP 23 rfl Aab Aab Aab (λ_ _ _ _ h=>h) (λK hK=>?_);go_simp
 first
  |(refine hK _ ?_;clear hK K)
  |(apply Exists.intro
    refine⟨λ_=>?_,hK _ ?_⟩
    (exact N5 _)
    clear hK K)
 refine tk [25,26] ?_;iterate 2 (refine vJ (λK hK=>?_);go_simp;refine hK _ ?_;clear hK K)
 refine jc ?_;refine dP 27 rfl Aab Aab Aab (λ_ _ _ _ h=>h) (λK hK=>?_);go_simp
 first
  |(refine hK _ ?_;clear hK K)
  |(apply Exists.intro
    refine⟨λ_=>?_,hK _ ?_⟩
    (exact N6 _)
    clear hK K)
 clear y0 y1 y2 y3 y4 y5 y6 N1 N2 N3 N4 N5 N6;open aqD in exact afn):P:=h
theorem alR.AdH(h:P:=by
 first
  |(refine hK _ ?_;clear hK K)
  |(apply Exists.intro
    refine⟨λ_=>?_,hK _ ?_⟩
    (exact NM _)
    clear hK K)
 refine dP 20 rfl Aab Aab Aab (λ_ _ _ _ h=>h) (λK hK=>?_);go_simp
 first
  |(refine hK _ ?_;clear hK K)
  |(apply Exists.intro
    refine⟨λ_=>?_,hK _ ?_⟩
    (exact N4 _)
    clear hK K)
 clear y0 y1 y2 y3 y4 y5 y6 y7 y8 y9 y10 N1 N2 N3 N4 NM;open aqC in exact afn):P:=h
theorem awh(h:P:=by
 open asV in exact af4):P:=h
theorem alS.Afk(h:P:=by
 have Hf:=Hq (show y3.heap[x2.heap.size]?=some (.cells (eG no k nn 0) 97 (0,0)) from by rw [yu.block _ (aA (ah xY)) (λhm=>ah KJ _ hm.symm rfl)];exact xY);open atT in exact aak):P:=h
theorem alT.Afk(h:P:=by
 have Hf:=Hq (show y3.heap[x2.heap.size]?=some (.cells (eG no k nn 1) 97 (0,0)) from by rw [yu.block _ (aA (ah xY)) (λhm=>ah KJ _ hm.symm rfl)];exact xY);open atS in exact aak):P:=h
theorem aiO(h:P:=by
 obtain⟨rfl,hs3,hk3⟩:=hcut;clear m0 m1 m2 m3 m4 m5 m6 s00 s01 s02 sf hml hsl2;go_upto_region 7 with fail;refine wp_at (λW3 hW3=>?_);subst hW3;have adA:=Hq hs3;have mJ:=Hq (hk3.obj kC (λhx=>Aak));have Wj:=Hq (hk3.obj zi (λhx=>Aak));have mO:=Hq (hk3.obj jU (λhx=>Aak));have HB3:=Hq (HB2.trans (hk3.below (B:=w.heap.size) (λx hx=>Aak) HB2.size));have akN:=Hq (akM.kc (k:=9) (KC.keeps hk3 (λx hx=>by have:x=sb:=Aag;rw [this];exact aZ Aaa)) Aaa);have ak1:=Hq (ak0.keeps hk3 (λx hx hm=>by have h1:=hilt x hx;simp at hm;omega));clear hs3 hk3 kC zi jU HB2 akM ak0 Wv;have aCK:=aA adA;obtain⟨i0,hi0,hz0,hz1',hz2⟩:=info_parts uG;go_upto_block 2 with fail;exact AbQ):P:=h
theorem alU.AbQ(h:P:=by
 go_cut [9] from 15 (λv wx=>∃g cp,v= .slice (some ⟨g,0,none⟩) (bg s0 mL).length cp/\wx.ownsRow W3.heap.size 3 1 v (bg s0 mL).length (GR.flat aS (bg s0 mL))/\(bg s0 mL=[]->cp=0)/\aY W3 wx)
 case first=>
  exact Zw5
 case rest=>
  open azX in exact aiM):P:=h
theorem alV.AbQ(h:P:=by
 go_cut [9] from 15 (λv wx=>∃g cp,v= .slice (some ⟨g,0,none⟩) (bg s0 mL).length cp/\wx.ownsRow W3.heap.size 3 1 v (bg s0 mL).length (GR.flat aS (bg s0 mL))/\(bg s0 mL=[]->cp=0)/\aY W3 wx)
 case first=>
  exact Zw5
 case rest=>
  open azW in exact aiM):P:=h
theorem alW.AbQ(h:P:=by
 go_cut [9] from 15 (λv wx=>∃g cp,v= .slice (some ⟨g,0,none⟩) (bg s0 mL).length cp/\wx.ownsRow W3.heap.size 3 1 v (bg s0 mL).length (GR.flat aS (bg s0 mL))/\(bg s0 mL=[]->cp=0)/\aY W3 wx)
 case first=>
  exact Zw5
 case rest=>
  open azV in exact aiM):P:=h
theorem awi(h:P:=by
 obtain⟨gp,hgp⟩:=hP;subst hgp;have Rv:=Hq (λW (ha:aI W (some ⟨gp,0,none⟩) n.pu)=>acP gp 0 bE n.pu mk mN W (Nat.le_trans hz.p Aaa) vC hz.pk hmk ha);unfold iY at Rv;rw [hu] at Rv;clear hu hz vC;open aua in exact agl):P:=h
theorem alX.AdQ(h:P:=by
 go_cut [7] from 15 (λj wx=>j= .int .i64 (i:Nat)/\Ge W0 wx)
 case first=>
  exact ai3
 case rest=>
  open ak4 in exact aiN):P:=h
theorem alY.AdQ(h:P:=by
 go_cut [7] from 15 (λj wx=>j= .int .i64 (i:Nat)/\Ge W0 wx)
 case first=>
  exact ai3
 case rest=>
  open ak5 in exact aiN):P:=h
theorem awj(h:P:=by
 have hwb:wc.heap.size<=wc.heap.size:=Nat.le_refl _;have y8:=dB hnl c8;have z0:=dB Pk q0;have z1:=dB Pk q1;have z2:=dB Pk q2;have z3:=dB Pk q3;clear c0 c1 c2 c3 c4 c5 c6 c7 c8 q0 q1 q2 q3;have hpc:pos<=aV:=Aaa
 have Hl:=Hq (show jf wc (some ⟨gr,0,none⟩) (n.reqs.take pos) from GR.At.take HA5 pos)
 obtain⟨AD,hAD,hDR⟩:∃AD,(if aV=pos then some (⟨gr,0,none⟩:Addr) else some ⟨gr,pos*4,none⟩)=AD/\jf wc AD (n.reqs.drop pos):=by
  exact aAN
 have HDR:=Hq hDR;clear hDR;refine kQ 15 wc.heap.size Aab ?_;show jD _ _ _ _ _ _ 16 (Array.replicate 16 false) _ _
 refine tk [1,2,3,4,6,9,10,11,12] ?_;iterate 9 (refine tkB hwb (λK hK=>?_);go_simp;first|refine hK _ ?_|(apply Exists.intro;refine⟨λ_=>?_,hK _ ?_⟩;rfl);clear hK K)
 refine jc ?_;clear y8 z0 z1 z2 z3;have hlt1:(n.reqs.take pos).length=pos:=Abk
 have Xn:(n.reqs.drop pos).length=n.reqs.length - pos:=by rw [List.length_drop]
 exact AcO):P:=h
theorem alZ.AcO(h:P:=by
 have hL1:(n.reqs.take pos++[(⟨no,k,nn,0⟩:Rq)]).length=pos+1:=Adl
 have hL2:(n.reqs.take pos++[(⟨no,k,nn,0⟩:Rq)]++n.reqs.drop pos).length=pos+1+(n.reqs.length - pos):=Adm
 obtain⟨i0,hi,hz0,hz1,hz2⟩:=info_parts wS;have V7:=Hq (Below.refl wc.heap.size wc);refine iU 0 7 rfl rfl Aab Aad Aad Aae Aae (λx1 hx1=>?_) (λx1 hx1=>?_)
 .open aoC in exact awF
 .open asL in exact aac):P:=h
theorem al0.AcO(h:P:=by
 have hL1:(n.reqs.take pos++[(⟨no,k,nn,1⟩:Rq)]).length=pos+1:=Adl
 have hL2:(n.reqs.take pos++[(⟨no,k,nn,1⟩:Rq)]++n.reqs.drop pos).length=pos+1+(n.reqs.length - pos):=Adm
 obtain⟨i0,hi,hz0,hz1,hz2⟩:=info_parts wS;have V7:=Hq (Below.refl wc.heap.size wc);refine iU 0 7 rfl rfl Aab Aad Aad Aae Aae (λx1 hx1=>?_) (λx1 hx1=>?_)
 .open aoB in exact awF
 .open asK in exact aac):P:=h
theorem awk(h:P:=by
 have hTO:= @run_callFunc_extern prog 263 _ ReflectliteType.typeOf func263 Aab Aab Aab Aab;have hAT:= @run_callFunc_extern prog 308 _ (ReflectliteType.relation "AssignableTo" ReflectliteType.assignableTo) func308 Aab Aab Aab Aab;open avF in exact agP):P:=h
theorem al1.AdD(h:P:=by
 have el:=As.elemV a t (((w.alloc (.cells #[.pointer (some ⟨6,283,none⟩),.pointer (some a),.int .u64 150] 295)).alloc (.cells #[.iface 279 (.agg #[.iface 281 (.agg #[.int .i64 p])])] 279)).alloc (.cells #[.iface 281 (.agg #[.int .i64 p])] 279))
  (by rw [World.cell?_alloc_lt _ _ a Aaf,World.cell?_alloc_lt _ _ a Aaf,World.cell?_alloc_lt _ _ a hal];exact ha)
 have st:=As.setNo t ⟨w.heap.size+1+1+1,0,none⟩ p old ((((w.alloc (.cells #[.pointer (some ⟨6,283,none⟩),.pointer (some a),.int .u64 150] 295)).alloc (.cells #[.iface 279 (.agg #[.iface 281 (.agg #[.int .i64 p])])] 279)).alloc (.cells #[.iface 281 (.agg #[.int .i64 p])] 279)).alloc (.cells #[.int .i64 p] 281))
  (by rw [World.cell?_alloc_at _ _ _ _ Aac];rfl)
  (by rw [World.cell?_alloc_lt _ _ t Aaf,World.cell?_alloc_lt _ _ t Aaf,World.cell?_alloc_lt _ _ t Aaf,World.cell?_alloc_lt _ _ t htl];exact ht)
  (by rw [World.frozen?_alloc_old _ _ t Aaf,World.frozen?_alloc_old _ _ t Aaf,World.frozen?_alloc_old _ _ t Aaf,World.frozen?_alloc_old _ _ t (Nat.ne_of_lt htl)];exact hf)
 go_in
 go_wp2
 refine wp_loop_rounds 3 ?_;rw [rounds_succ];go_wp2
 rw [rounds_succ];go_wp2
 rw [rounds_succ];go_wp2
 go_ret;exact⟨rfl,by exact(((((Below.refl _ _).alloc Aaa _).alloc Aaf _).alloc Aaf _).alloc Aaf _).setCell (Nat.le_refl _) _⟩):P:=h
theorem al2.AdD(h:P:=by
 have el:=As.elemV a t ((w.alloc (.cells #[.pointer (some ⟨6,283,none⟩),.pointer (some a),.int .u64 150] 295)).alloc (.cells #[.iface 281 (.agg #[.int .i64 p])] 279))
  (by rw [World.cell?_alloc_lt _ _ a Aaf,World.cell?_alloc_lt _ _ a hal];exact ha)
 have st:=As.setNo t ⟨w.heap.size+1+1,0,none⟩ p old (((w.alloc (.cells #[.pointer (some ⟨6,283,none⟩),.pointer (some a),.int .u64 150] 295)).alloc (.cells #[.iface 281 (.agg #[.int .i64 p])] 279)).alloc (.cells #[.int .i64 p] 281))
  (by rw [World.cell?_alloc_at _ _ _ _ Aac];rfl)
  (by rw [World.cell?_alloc_lt _ _ t Aaf,World.cell?_alloc_lt _ _ t Aaf,World.cell?_alloc_lt _ _ t htl];exact ht)
  (by rw [World.frozen?_alloc_old _ _ t Aaf,World.frozen?_alloc_old _ _ t Aaf,World.frozen?_alloc_old _ _ t (Nat.ne_of_lt htl)];exact hf)
 go_in
 go_wp2
 refine wp_loop_rounds 2 ?_;rw [rounds_succ];go_wp2
 rw [rounds_succ];go_wp2
 go_ret;exact⟨rfl,by exact((((Below.refl _ _).alloc Aaa _).alloc Aaf _).alloc Aaf _).setCell (Nat.le_refl _) _⟩):P:=h
theorem Wz(h:P:=by
 obtain⟨d0,d1,d2,d3,d4,d5,d6,d7,d8⟩:=nine rT;have f0:=aj rT 0;have f1:=aj rT 1;have f2:=aj rT 2;have f3:=aj rT 3;have f4:=aj rT 4;have f5:=aj rT 5;have f6:=aj rT 6;have f7:=aj rT 7;have f8:=aj rT 8;exact Aa0):P:=h
theorem al3.Aa0(h:P:=by
 have hnl:=aA lC;have hrl:=aA rT;go_wp2_with fail;refine aO (λW' hW'=>?_)
 have e4:W'.heap[w.heap.size+2]?=some (.cells (dD n A) 30 (0,0)):=by
  exact aaF
 have gL:aC [w.heap.size+2] (W1.alloc (.cells #[] 32)) W':=by
  rw [hW'];exact aK (dD n A).toList (W1.alloc (.cells #[] 32)) 0
 open aoJ in exact awH):P:=h
theorem al4.Aa0(h:P:=by
 have hnl:=aA kC;have hrl:=aA rT;go_wp2_with fail;refine aO (λW' hW'=>?_)
 have e4:W'.heap[w.heap.size+2]?=some (.cells (dD n A) 30 (0,0)):=by
  exact aaF
 have gL:aC [w.heap.size+2] (W2.alloc (.cells #[] 32)) W':=by
  rw [hW'];exact aK (dD n A).toList (W2.alloc (.cells #[] 32)) 0
 open aoI in exact awH):P:=h
end Go.Proofs.YtacgbldlonoaaaaGreatDoor
