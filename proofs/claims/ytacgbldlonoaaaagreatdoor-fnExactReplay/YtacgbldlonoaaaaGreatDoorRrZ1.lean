/-
  Parts of proofs that stand more than once, each said once.
-/
import Derived.Test.YtacgbldlonoaaaaGreatDoorRows
import Derived.WalkSpells
import Derived.ShutString
import Derived.Lib.QuietBelow
import Derived.Laws.Cover1
import Derived.Laws.AppendOwnNone
import Derived.Deep.DeepCutAuto
import Derived.Deep.CutBlock
import Derived.Deep.RegionHeldLaw
import Derived.Deep.AppendLies
import Derived.Lib.BufferWrite
import Derived.Laws.CopyOwn
import Derived.Lib.ItoaLen
import Derived.Shelf.Spec.SearchS
import Derived.Shelf.SortM.Plain
import Derived.Shelf.SortM.SortNone
import Derived.Shelf.SlicesE.Clone
import Derived.Sort.OwnSortedInts
import Derived.Stop.Asserts
import Derived.RowKitTokens
import Derived.Shelf.Spec.SlicesInsertGrow
import Derived.Maps.Ext
import Derived.Lib.SlMapFilter
import Derived.Shelf.SlIterI.Nil
import Derived.Laws.EntriesVeiled
namespace Go.Proofs.YtacgbldlonoaaaaGreatDoor
set_option maxRecDepth 100000
variable{P:Prop}
theorem Aaa(h:P:=by omega):P:=h
theorem Aab(h:P:=by kernel_rfl):P:=h
theorem Aac(h:P:=by simp):P:=h
theorem Aad(h:P:=by rfl):P:=h
theorem Aae(h:P:=by decide):P:=h
theorem Aaf(h:P:=by simpa using hx):P:=h
theorem Aag(h:P:=by simp;omega):P:=h
theorem Aah(h:P:=by unfold maxLen;omega):P:=h
theorem Aai(h:P:=by go_num):P:=h
theorem Aaj(h:P:=by simp at hx;omega):P:=h
theorem Aak(h:P:=by simp[Act.eval]):P:=h
theorem Aal(h:P:=by unfold maxLen;dsimp only;omega):P:=h
theorem Aam(h:P:=by rw [ah HV]):P:=h
theorem Aan(h:P:=by rw [e]):P:=h
theorem Aao(h:P:=by simp[World.setCell]):P:=h
theorem Aap(h:P:=by simpa using hi):P:=h
theorem Aaq(h:P:=by simpa using h1):P:=h
theorem Aar(h:P:=by simpa using hy):P:=h
theorem Aas(h:P:=by simp at hi):P:=h
theorem Aat(h:P:=by simpa using hj):P:=h
theorem Aau(h:P:=by rw [ah HP]):P:=h
theorem Aav(h:P:=by rw [ah rR]):P:=h
theorem Aaw(h:P:=by rw [ah HSL];exact hi):P:=h
theorem Aax(h:P:=by cases h):P:=h
theorem Aay(h:P:=by simp[results,Tryz.results65,go_sem,uZ]):P:=h
theorem Aaz(h:P:=by simp[results,Tryz.results9,go_sem,x0,x1,x2,x3,x4,x5,x6,x7,x8]):P:=h
theorem Aba(h:P:=by simp at hx;simp[hx]):P:=h
theorem Abb(h:P:=by simp[hx]):P:=h
theorem Abc(h:P:=by simpa using hm):P:=h
theorem Abd(h:P:=by simp[h1]):P:=h
theorem Abe(h:P:=by rw [hW];exact aC.set _):P:=h
theorem Abf(h:P:=by simpa using hc):P:=h
theorem Abg(h:P:=by simpa using hpar):P:=h
theorem Abh(h:P:=by rw [h] at hr;cases hr):P:=h
theorem Abi(h:P:=by simpa using h):P:=h
theorem Abj(h:P:=by simpa using hr):P:=h
theorem Abk(h:P:=by rw [hf];simp):P:=h
theorem Abl(h:P:=by simp[results,Tryz.results39,go_sem,x0,x1,x2,x3,x4,x5,x6,x7,x8]):P:=h
theorem Abm(h:P:=by rw [List.length_take];omega):P:=h
theorem Abn(h:P:=by simp at hi;omega):P:=h
theorem Abo(h:P:=by simpa [Value.ownBlock] using hx):P:=h
theorem Abp(h:P:=by cases hk;exact Nat.le_refl _):P:=h
theorem Abq(h:P:=by simp only[ByteArray.size_append];omega):P:=h
theorem Abr(h:P:=by simp[results,Tryz.results119,go_sem,x0,x1,x2,x3,x4,x5,x6,x7,x8]):P:=h
theorem Abs(h:P:=by simp[results,Tryz.results40,go_sem,x0,x1,x2,x3,x4,x5,x6,x7,x8]):P:=h
theorem Abt(h:P:=by simp[results,Tryz.results41,go_sem,x0,x1,x2,x3,x4,x5,x6,x7,x8]):P:=h
theorem Abu(h:P:=by rw [hW];exact heap_alloc_new _ _):P:=h
theorem Abv(h:P:=by rw [hW];exact(kH w _ _).2):P:=h
theorem Abw(h:P:=by rw [hW];exact(kH w _ _).1):P:=h
theorem Abx(h:P:=by rw [hW];exact nY jX):P:=h
theorem Aby(h:P:=by rw [hW];exact iI eY hgl):P:=h
theorem Abz(h:P:=by simp[Act.eval,Act.put]):P:=h
theorem Aca(h:P:=by simpa using hk):P:=h
theorem Acb(h:P:=by rw [gT,List.length_drop]):P:=h
theorem Acd(h:P:=by rw [hW1];exact heap_alloc_new _ _):P:=h
theorem Ace(h:P:=by simpa using hE):P:=h
theorem Acf(h:P:=by unfold maxLen at hcm;omega):P:=h
theorem Acg(h:P:=by simpa using hw):P:=h
theorem Ach(h:P:=by simpa using hj'):P:=h
theorem Aci(h:P:=by simpa using hl):P:=h
theorem Acj(h:P:=by simpa using hz):P:=h
theorem Ack(h:P:=by rw [hW];exact nP hN1):P:=h
theorem Acl(h:P:=by rw [e];omega):P:=h
theorem Acm(h:P:=by simp[results,Tryz.results69,go_sem]):P:=h
theorem Acn(h:P:=by simp[results,Tryz.results144,go_sem]):P:=h
theorem Aco(h:P:=by rw [ah gG,ah mV,ah CF];rfl):P:=h
theorem Acp(h:P:=by simp[results,Tryz.results173,go_sem]):P:=h
theorem Acr(h:P:=by simp[results,Tryz.results140,go_sem,r0,r1,r2,r3,r4,r5,r6,r7,r8,r9,Zm]):P:=h
theorem Acs(h:P:=by rw [ah HS,ah HA,ah HK];rfl):P:=h
theorem Acu(h:P:=by rw [ah Ws];first|done|rfl):P:=h
theorem Acv(h:P:=by rw [ah Ws];exact Pg):P:=h
theorem Acw(h:P:=by simpa [iA] using h):P:=h
theorem Acx(h:P:=by rw [hW];exact nP XY):P:=h
theorem Acy(h:P:=by rw [hW];exact heap_alloc_new w2 _):P:=h
theorem Acz(h:P:=by simp[results,Tryz.results8,go_sem,d0,d1,d2,d3,d4,d5,d6,d7,d8]):P:=h
theorem Ada(h:P:=by rw [GR.flat_append,GR.flat_one];exact Qa):P:=h
theorem Adb(h:P:=by simp[results,Tryz.results42,go_sem,x0,x1,x2,x3,x4,x5,x6,x7,x8]):P:=h
theorem Adc(h:P:=by rw [List.length_append,hlt1];rfl):P:=h
theorem Ade(h:P:=by rw [List.length_append,hL1,TU]):P:=h
theorem Adf(h:P:=by simp[results,Tryz.results246,go_sem,r0,r1,r2,r3,r4,r5,r6]):P:=h
theorem Adg(h:P:=by simp[results,Tryz.results182,go_sem,r0,r1,r2,r3,r4,r5,r6]):P:=h
theorem Adh(h:P:=by rw [GR.flat_append];exact EY):P:=h
theorem Adi(h:P:=by rw [hW'];exact kQ jW (Nat.le_refl _)):P:=h
theorem Adj(h:P:=by rw [show cur.toList.length=cur.size from Array.length_toList,hcs];omega):P:=h
theorem Adk(h:P:=by simp[results,Tryz.results135,go_sem];try rfl):P:=h
theorem Adl(h:P:=by rw [List.mem_singleton.1 hf];omega):P:=h
theorem Adm(h:P:=by simp[results,Tryz.results126,go_sem,x0,x1,x2,x3,x4,x5,x6]):P:=h
theorem Adn(h:P:=by unfold qH at hhas;rw [hd] at hhas;simpa using hhas):P:=h
theorem Ado(h:P:=by simp[results,Tryz.results68,go_sem,r0,r1,r2,r3,r4,r5,r6,r7,r8]):P:=h
theorem Adp(h:P:=by simp[results,Tryz.results222,go_sem,r0,r1,r2,r3,r4,r5,r6]):P:=h
theorem Adq(h:P:=by rw [show cur.toList.length=cur.size from Array.length_toList,hcs]):P:=h
theorem Xn(h:P:=by
 rw [hW'];exact GR.setW_blk (dH n A).toList (o:=0) (xs:=gu.toList) tO):P:=h
theorem Zr0(h:P:=by
 unfold fq;have H9:=Hq h9;clear h9;have Gq:=Hq (λW (ha:aH W A.p n.pu)=>uL A.p A.cp n.pu key W hl ha);rw [hpp] at Gq;unfold zi at Gq;clear hpp;have hbw0:=aj w (.cells (dH n A) 30);have jP:=Hq (h.nine hB);clear h;go_enter Tryz.func42,Tryz.ntmps42
 go_upto_region 1 with fail;refine wp_at (λW0 hW=>?_);obtain⟨e1,e2,e3⟩:=iw w (.cells (dH n A) 30) (.cells gu 30);open akT in exact arW):P:=h
theorem Zr1(h:P:=by
 open aoz in exact acX):P:=h
theorem Zr2(h:P:=by
 open aoy in exact acX):P:=h
theorem Zr3(h:P:=by
 refine gF 8 rfl Aab Aad Aae (λx4 hx4=>?_);have VK:=Hq (Sy.trans (hx4.mono Sy.size));have Mk:tq.heap.size<=x4.heap.size:=VK.size;have Lg:=Hq (GR.own_below SY hx4);have CJ:=Hq (ay EG hx4);clear hx4;obtain⟨v4,y4,TY,Qa,Di,Yq⟩:=fV x4 tq.heap.size 24 24 3 i0 (.int .i64 0) 1 8 Tryz.underlying24 hi0 hz0 hz1' hz2 rfl Aae (.slice avR (pos) cvR) (pos) (GR.flat aW ((aY s0 mL).take pos)) Lg ⟨rb,0,none⟩ 1 1 (aW mI) rfl (World.news_of_block CJ) (by intro u hu;simp at hu;subst hu;rfl) Aah Aaa Mk;refine Lib.wp_append_run x4 (.tmp 131) (.tmp 134) 24 24 rfl _ _ Aak Aak v4 y4 TY ?_;refine⟨(Below.refl _ _).grown Di Mk (λb hb=>(Lg.lt b hb).1),?_⟩;go_simp;have VL:=Hq (VK.grown Di Mk (λb hb=>(Lg.lt b hb).1));have Pm:Hid (y4.ownsRow tq.heap.size 3 1 v4 (pos+1) (GR.flat aW ((aY s0 mL).take pos++[mI]))):=Hq Ada;have aaw:=Hq (show y4.heap[rb]?=some (.cells #[.int .i64 mI] 3 (0,0)) from by rw [Di.block _ (aA (ah CJ)) (λhm=>ah Sw _ hm.symm rfl)];exact CJ);open apP in exact WY):P:=h
theorem Zr4(h:P:=by
 have hnl:=aA e1;clear hW e1 e2 p0 p1 p2 p3 p4 p5 p6 p7 p8 p9 mP;obtain⟨⟨p0,p1,p2,p3,p4,p5,p6,p7,p8,p9,mP⟩,_⟩:=aU SI;have axG:=aA SI;have y0:=cell_regrown c0;have z0:=cell_regrown p0;have z1:=cell_regrown p1;have z2:=cell_regrown p2;have z3:=cell_regrown p3;have z4:=cell_regrown p4;have z5:=cell_regrown p5;have z6:=cell_regrown p6;have z7:=cell_regrown p7;have z8:=cell_regrown p8;have z9:=cell_regrown p9;have z10:=cell_regrown mP;clear p0 p1 p2 p3 p4 p5 p6 p7 p8 p9 mP c0;refine bE 5 Aab ?_;show eF _ _ _ _ _ 7 (Array.replicate 7 false) _ _
 refine tk [0,1,2,3,4] ?_;iterate 5 (refine qA (λK hK=>?_);go_simp;refine hK _ ?_;clear hK K)
 refine iN ?_;clear y0 z0 z1 z2 z3 z4 z5 z6 z7 z8 z9 z10;refine aT Aab (λx hx=>?_);have HXX:=Hq (HX x (vJ.step hx));clear hx;refine aF 5 rfl Aab Aad ?_;go_simp;refine HXX.mono ?_;rintro e y ⟨rfl,A',G',c',v',hY⟩;have HY:=Hq hY;clear hY HXX;refine aF 6 rfl Aab Aad ?_;go_simp;refine wpAny_done Aab ?_;go_simp;go_wp2_with fail;go_ret;exact⟨rfl,A',G',c',v',HY⟩):P:=h
theorem Zr5(h:P:=by
 go_wp2_with fail;go_loopw [9,10] (λv j wr=>∃k g cp:Nat,k<=s0.ids.length/\j= .int .i64 k/\v= .slice (some ⟨g,0,none⟩) (nO s0 mL k).length cp/\wr.ownsRow W3.heap.size 3 1 v (nO s0 mL k).length (GR.flat aW (nO s0 mL k))/\(nO s0 mL k=[]->cp=0)/\aX W3 wr) (λ_ j _=>s0.ids.length - (intOf j).toNat)
 case atStart=>exact⟨0,_,_,Nat.zero_le _,rfl,rfl,World.ownsRow_lit _ #[] 0 (Nat.le_refl _) Aae rfl,λ_=>rfl,aj _ _⟩
 case round=>
  obtain⟨k,g,cp,hk,rfl,rfl,hown,atm,hbel⟩:=hrel;have aeZ:=Hq atm;clear atm;have fO:=Hq hbel;obtain⟨_,s31,s32⟩:=Ao (ay aaz hbel);clear hbel;by_cases hlt:k < s0.ids.length
  .obtain⟨eb,hgb,hcell⟩:=(ahi.below fO) k hlt;open aoM in exact acZ
  .have hke:k=s0.ids.length:=Aaa
   subst hke;have hd:decide ((s0.ids.length:Int) < (s0.ids.length:Int))=false:=Aac
   rw [zR] at hown aeZ;have axM:(Value.slice (some ⟨g,0,none⟩) (nO s0 mL s0.ids.length).length cp)= .slice (some ⟨g,0,none⟩) (aY s0 mL).length cp:=by rw [zR]
   rw [zR];go_wp2_with fail;go_meet
   case rel=>exact⟨g,cp,rfl,hown,aeZ,fO⟩):P:=h
theorem Zr6(h:P:=by
 clear Cb nG HKZ Vo;obtain⟨c0,c1,c2,c3,c4,c5,c6,c7,c8⟩:=nine KU;obtain⟨s0,s1,s2,s3⟩:=fQ aaC;open ahx in exact EK):P:=h
theorem ar6(h:P:=by
 rw [hX];exact GR.setW_blk (dH n A1).toList (o:=0) (xs:=(dH n A).toList) kS):P:=h
theorem ase(h:P:=by
 rw [hX];exact aL (dH n A1).toList W3 0):P:=h
theorem Zr7(h:P:=by
 clear hu;unfold iH at jO;have Ez:=Hq (λW=>jf ⟨0,no,k,nn,⟨mK,mF,mT,mI,mL,mk,mN⟩⟩ W Aal Aal);open ahS in exact CK):P:=h
theorem Zr8(h:P:=by
 open avd in exact IW):P:=h
theorem Zr9(h:P:=by
 open avc in exact IW):P:=h
theorem ar4(h:P:=by
 open avb in exact IW):P:=h
theorem afw(h:P:=by
 open avr in exact arh):P:=h
theorem afx(h:P:=by
 rw [hR];have HR:=Hq hR;clear hR;cases hk:keyOk k.data.toList
 .have HK:=Hq (λw1=>lK k false w1 hs hk);cases hn:fD n
  .have HN:=Hq (λw1=>l04Some n false w1 hn);have HP:=Hq (show R=(decide (no=0)&&false&&false&&kX ⟨mK,mF,mT,mI,mL,mk,mN⟩) by rw [<-ah HR];simp[bV,hk,hn]);clear HR;clear hk hn;go_enter Tryz.func36,Tryz.ntmps36
   go_wp2_with (first|(go_at_call_of 64 k;refine(HK _).mono ?_;rintro e w1 ⟨rfl,rfl⟩)|(go_at_call_of 61 n;refine(HN _).mono ?_;rintro e w1 ⟨rfl,rfl⟩))
   all_goals
    go_ret
    refine⟨aD ?_,aj w _⟩
    rw [ah HP]
    simp[kX, *]
  .have HN:=Hq (λw1=>l04Some n true w1 hn);have HP:=Hq (show R=(decide (no=0)&&false&&true&&kX ⟨mK,mF,mT,mI,mL,mk,mN⟩) by rw [<-ah HR];simp[bV,hk,hn]);clear HR;clear hk hn;go_enter Tryz.func36,Tryz.ntmps36
   go_wp2_with (first|(go_at_call_of 64 k;refine(HK _).mono ?_;rintro e w1 ⟨rfl,rfl⟩)|(go_at_call_of 61 n;refine(HN _).mono ?_;rintro e w1 ⟨rfl,rfl⟩))
   all_goals
    go_ret
    refine⟨aD ?_,aj w _⟩
    rw [ah HP]
    simp[kX, *]
 .have HK:=Hq (λw1=>lK k true w1 hs hk);cases hn:fD n
  .have HN:=Hq (λw1=>l04Some n false w1 hn);have HP:=Hq (show R=(decide (no=0)&&true&&false&&kX ⟨mK,mF,mT,mI,mL,mk,mN⟩) by rw [<-ah HR];simp[bV,hk,hn]);clear HR;clear hk hn;go_enter Tryz.func36,Tryz.ntmps36
   go_wp2_with (first|(go_at_call_of 64 k;refine(HK _).mono ?_;rintro e w1 ⟨rfl,rfl⟩)|(go_at_call_of 61 n;refine(HN _).mono ?_;rintro e w1 ⟨rfl,rfl⟩))
   all_goals
    go_ret
    refine⟨aD ?_,aj w _⟩
    rw [ah HP]
    simp[kX, *]
  .have HN:=Hq (λw1=>l04Some n true w1 hn);have HP:=Hq (show R=(decide (no=0)&&true&&true&&kX ⟨mK,mF,mT,mI,mL,mk,mN⟩) by rw [<-ah HR];simp[bV,hk,hn]);clear HR;clear hk hn;go_enter Tryz.func36,Tryz.ntmps36
   go_wp2_with (first|(go_at_call_of 64 k;refine(HK _).mono ?_;rintro e w1 ⟨rfl,rfl⟩)|(go_at_call_of 61 n;refine(HN _).mono ?_;rintro e w1 ⟨rfl,rfl⟩))
   all_goals
    go_ret
    refine⟨aD ?_,aj w _⟩
    rw [ah HP]
    simp[kX, *]):P:=h
theorem ar7(h:P:=by
 by_cases hmK:mK=0
 case' neg=>
  have awy:¬(0:Int)=mK:=λe=>hmK e.symm
  go_wp2_with fail
  go_ret
  exact⟨aD (by rw [ah HP];simp[kX,hmK]),gZ⟩
 subst hmK;by_cases hmF:mF=0
 case' neg=>
  have aww:¬(0:Int)=mF:=λe=>hmF e.symm
  go_wp2_with fail
  go_ret
  exact⟨aD (by rw [ah HP];simp[kX,hmF]),gZ⟩
 subst hmF;by_cases hmT:mT=0
 case' neg=>
  have awD:¬(0:Int)=mT:=λe=>hmT e.symm
  go_wp2_with fail
  go_ret
  exact⟨aD (by rw [ah HP];simp[kX,hmT]),gZ⟩
 subst hmT;by_cases hmI:mI=0
 case' neg=>
  have awx:¬(0:Int)=mI:=λe=>hmI e.symm
  go_wp2_with fail
  go_ret
  exact⟨aD (by rw [ah HP];simp[kX,hmI]),gZ⟩
 subst hmI;by_cases hmL:mL=0
 case' neg=>
  have awz:¬(0:Int)=mL:=λe=>hmL e.symm
  go_wp2_with fail
  go_ret
  exact⟨aD (by rw [ah HP];simp[kX,hmL]),gZ⟩
 subst hmL;by_cases hmk:mk.toList=[]
 case' neg=>
  go_wp2_with fail
  go_ret
  exact⟨aD (by rw [ah HP];simp[kX,hmk]),gZ⟩
 by_cases hmN:mN=0
 case' neg=>
  have awC:¬(0:Int)=mN:=λe=>hmN e.symm
  go_wp2_with fail
  go_ret
  exact⟨aD (by rw [ah HP];simp[kX,hmk,hmN]),gZ⟩
 subst hmN;go_wp2_with fail;go_ret;exact⟨aD (by rw [ah HP];simp[kX,hmk]),gZ⟩):P:=h
theorem ar9(h:P:=by
 go_wp2_with fail;refine aN (λW' hW'=>?_)
 have e4:W'.heap[w.heap.size+2]?=some (.cells (fK n.id n.par a_k n.kids.length aJ n.next (some ⟨gp,0,none⟩) n.pu.length bq dR n.out.length aO (some ⟨G.s,0,none⟩) n.seen.length aK n.old fU n.reqs.length aP) 30 (0,0)):=by
  rw [hW'];exact GR.setW_blk (fK n.id n.par a_k n.kids.length aJ n.next (some ⟨gp,0,none⟩) n.pu.length bq dR n.out.length aO (some ⟨G.s,0,none⟩) n.seen.length aK n.old fU n.reqs.length aP).toList (o:=0) (xs:=gu.toList) kJ
 have fH:aC [w.heap.size+2] (W8.alloc (.cells #[] 32)) W':=by
  rw [hW'];exact aL (fK n.id n.par a_k n.kids.length aJ n.next (some ⟨gp,0,none⟩) n.pu.length bq dR n.out.length aO (some ⟨G.s,0,none⟩) n.seen.length aK n.old fU n.reqs.length aP).toList (W8.alloc (.cells #[] 32)) 0
 have Yl:w.heap.size+2≠gi:=Aaa
 have SE:=Hq (aaq.kc (k:=9) (KC.keeps fH (λx hx=>by have:x=w.heap.size+2:=Aaf;rw [this];exact BX _ Aaa Yl)) Aaa)
 have HAT:Hid (∀W'',Out c w W' W''->RM W'' (⟨a_k,(some ⟨gp,0,none⟩),dR,(some ⟨G.s,0,none⟩),fU,aJ,bq,aO,aK,aP⟩:bH) (dB n (n.seen.set i ⟨mF,eH s0 mL,aY s0 mL⟩))):=λW'' ho=>by
  obtain⟨F,hk,hF⟩:=ho
  have hold:=(SE.kc (k:=9) (KC.keeps hk (λx hx=>HCO x (hF x hx).1 (hF x hx).2)) Aaa)
  have ho:Out c w W' W'':=⟨F,hk,hF⟩
  exact hold.rm
 have Ew:Hid (∀W'',Out c w W' W''->GR.At jF 7 W'' (some ⟨W8.heap.size,0,none⟩) []):=λW'' ho j hj=>(by simp at hj)
 have lQ:Hid (Below B w W'):=aae.trans (fH.below (λx hx=>by have:x=w.heap.size+2:=Aaf;omega) (by have h1:=aA kJ;omega));have rG:=Hq (Apart.keeps (c:=c) aai (by have h1:=aA kJ;omega) fH (λx hx=>by have:x=w.heap.size+2:=Aaf;omega));obtain⟨x0,x1,x2,x3,x4,x5,x6,x7,x8⟩:=nine e4;clear hW' e4 fH
 first
  |exact bodyPost_ret (v:= .tuple #[.agg (fK n.id n.par a_k n.kids.length aJ n.next (some ⟨gp,0,none⟩) n.pu.length bq dR n.out.length aO (some ⟨G.s,0,none⟩) n.seen.length aK n.old fU n.reqs.length aP),.slice (some ⟨W8.heap.size,0,none⟩) 0 0,.int .i64 1]) Abr rfl ⟨(⟨a_k,(some ⟨gp,0,none⟩),dR,(some ⟨G.s,0,none⟩),fU,aJ,bq,aO,aK,aP⟩:bH),(some ⟨W8.heap.size,0,none⟩),⟨0,by simp[fI,dH,dB]⟩,HAT,Ew,lQ,rG⟩
  |exact bodyPost_ret (v:= .tuple #[.agg (fK n.id n.par a_k n.kids.length aJ n.next (some ⟨gp,0,none⟩) n.pu.length bq dR n.out.length aO (some ⟨G.s,0,none⟩) n.seen.length aK n.old fU n.reqs.length aP),.slice (some ⟨W8.heap.size,0,none⟩) 0 0,.int .i64 1]) Abr rfl ⟨(⟨a_k,(some ⟨gp,0,none⟩),dR,(some ⟨G.s,0,none⟩),fU,aJ,bq,aO,aK,aP⟩:bH),(some ⟨W8.heap.size,0,none⟩),0,by simp[fI,dH,dB],HAT,Ew,lQ,rG⟩):P:=h
theorem asb(h:P:=by
 refine aN (λW' hW'=>?_)
 have e4:W'.heap[w.heap.size+2]?=some (.cells (fK n.id n.par a_k n.kids.length aJ n.next iX n.pu.length bq dR n.out.length aO (some ⟨G.s,0,none⟩) n.seen.length aK n.old fU n.reqs.length aP) 30 (0,0)):=by
  rw [hW'];exact GR.setW_blk (fK n.id n.par a_k n.kids.length aJ n.next iX n.pu.length bq dR n.out.length aO (some ⟨G.s,0,none⟩) n.seen.length aK n.old fU n.reqs.length aP).toList (o:=0) (xs:=gu.toList) lY
 have fH:aC [w.heap.size+2] W7 W':=by
  rw [hW'];exact aL (fK n.id n.par a_k n.kids.length aJ n.next iX n.pu.length bq dR n.out.length aO (some ⟨G.s,0,none⟩) n.seen.length aK n.old fU n.reqs.length aP).toList W7 0
 have Yl:w.heap.size+2≠gi:=Aaa
 have SE:=Hq (aap.kc (k:=9) (KC.keeps fH (λx hx=>by have:x=w.heap.size+2:=Aaf;rw [this];exact BX _ Aaa Yl)) Aaa)
 have HAT:Hid (∀W'',Out c w W' W''->RM W'' (⟨a_k,iX,dR,(some ⟨G.s,0,none⟩),fU,aJ,bq,aO,aK,aP⟩:bH) (dB n (n.seen.set i ⟨mF,eH s0 mL,aY s0 mL⟩))):=λW'' ho=>by
  obtain⟨F,hk,hF⟩:=ho
  have hold:=(SE.kc (k:=9) (KC.keeps hk (λx hx=>HCO x (hF x hx).1 (hF x hx).2)) Aaa)
  have ho:Out c w W' W'':=⟨F,hk,hF⟩
  exact hold.rm
 have Ew:Hid (∀W'',Out c w W' W''->GR.At jF 7 W'' (some ⟨ab,0,none⟩) [⟨2,n.id,mF,mI,0,ByteArray.empty,0⟩]):=λW'' ho j hj=>Pw (fH.obj VB (λhm=>by simp at hm;omega)) ho Aaa j hj
 have lQ:Hid (Below B w W'):=aeU.trans (fH.below (λx hx=>by have:x=w.heap.size+2:=Aaf;omega) (by have h1:=aA lY;omega));have rG:=Hq (Apart.keeps (c:=c) ae1 (by have h1:=aA lY;omega) fH (λx hx=>by have:x=w.heap.size+2:=Aaf;omega));obtain⟨x0,x1,x2,x3,x4,x5,x6,x7,x8⟩:=nine e4;clear hW' e4 fH
 first
  |exact bodyPost_ret (v:= .tuple #[.agg (fK n.id n.par a_k n.kids.length aJ n.next iX n.pu.length bq dR n.out.length aO (some ⟨G.s,0,none⟩) n.seen.length aK n.old fU n.reqs.length aP),.slice (some ⟨ab,0,none⟩) 1 1,.int .i64 0]) Abr rfl ⟨(⟨a_k,iX,dR,(some ⟨G.s,0,none⟩),fU,aJ,bq,aO,aK,aP⟩:bH),(some ⟨ab,0,none⟩),⟨1,by simp[fI,dH,dB]⟩,HAT,Ew,lQ,rG⟩
  |exact bodyPost_ret (v:= .tuple #[.agg (fK n.id n.par a_k n.kids.length aJ n.next iX n.pu.length bq dR n.out.length aO (some ⟨G.s,0,none⟩) n.seen.length aK n.old fU n.reqs.length aP),.slice (some ⟨ab,0,none⟩) 1 1,.int .i64 0]) Abr rfl ⟨(⟨a_k,iX,dR,(some ⟨G.s,0,none⟩),fU,aJ,bq,aO,aK,aP⟩:bH),(some ⟨ab,0,none⟩),1,by simp[fI,dH,dB],HAT,Ew,lQ,rG⟩):P:=h
theorem afy(h:P:=by
 go_wp2_with fail;refine wp_region_quiet_lit Aab Aab ?_;repeat (first|go_big_quiet_step ((first|(go_at_call 64;exact nT _ _ hks hkb' _ _)|(go_at_call_of 62 (IntKind.i64.wrap (pf+ps));exact gB _ _ g4 _ _)|(go_at_call_of 62 (pf+ps);exact gB _ _ g5 _ _)|(go_at_call_of 62 pm;exact gB _ _ g1 _ _)|(go_at_call_of 62 pf;exact gB _ _ g2 _ _)|(go_at_call_of 62 ps;exact gB _ _ g3 _ _)))|quiet_step ((first|(go_at_call 64;exact nT _ _ hks hkb' _ _)|(go_at_call_of 62 (IntKind.i64.wrap (pf+ps));exact gB _ _ g4 _ _)|(go_at_call_of 62 (pf+ps);exact gB _ _ g5 _ _)|(go_at_call_of 62 pm;exact gB _ _ g1 _ _)|(go_at_call_of 62 pf;exact gB _ _ g2 _ _)|(go_at_call_of 62 ps;exact gB _ _ g3 _ _))))
 refine wpQuiet_nil ?_;intro _ hw';obtain⟨nq,hw''⟩:=hw';subst hw'';go_wp2_with fail;go_ret;exact⟨aD HBAD.symm,(fO.alloc fO.size _).trans ⟨rfl,rfl,rfl,Nat.le_refl _,λ_ _=>rfl⟩⟩):P:=h
theorem afz(h:P:=by
 open ap0 in exact adl):P:=h
theorem Lu(h:P:=by
 clear HR;clear hk hn ho;go_enter Tryz.func36,Tryz.ntmps36
 go_wp2_with (first|(go_at_call_of 64 k;refine(HK _).mono ?_;rintro e w1 ⟨rfl,rfl⟩)|(go_at_call_of 61 n;refine(HN _).mono ?_;rintro e w1 ⟨rfl,rfl⟩)|(go_at_call_of 61 no;refine(HO _).mono ?_;rintro e w1 ⟨rfl,rfl⟩))
 all_goals
  go_ret
  refine⟨aD ?_,aj w _⟩
  rw [ah HP]
  simp[kX, *]):P:=h
theorem asg(h:P:=by
 have hcap2:(s.size:Int)<=(cap:Int):=Aaa
 rw [Kn s a 0 4 Aaa] at hq;open aix in exact aaH):P:=h
theorem ash(h:P:=by
 have hcap2:(s.size:Int)<=(cap:Int):=Aaa
 rw [Kn s a 0 4 Aaa] at hq;open aiw in exact aaH):P:=h
theorem Pt(h:P:=by
 open anj in exact acz):P:=h
theorem asi(h:P:=by
 rw [hR];have hd:decide (o.no<=n.old)=false:=decide_eq_false hc;open anm in exact WE):P:=h
theorem asj(h:P:=by
 go_wp2_with fail;go_quiet (fail);have Yk:(wr.drewN nq).ownsRow W2.heap.size 95 4 (.slice a (FL k).length cp) (FL k).length (GR.flat aR (FL k)):=ah HO;have hnk:=ah HNK;obtain⟨hi,hz0,hz1,hz2⟩:=ah HI;have hwb:W2.heap.size<=wr.heap.size:=gZ.size;go_wp2_with (at_builtin;refine wpList_append_own _ rfl _ _ 26 rfl W2.heap.size 95 i0 (.agg (eU 0 0 ByteArray.empty 0)) 4 40 Tryz.underlying26 hi hz0 hz1 hz2 rfl Aae _ _ _ rfl (Yk.alloc _) ⟨wr.heap.size,0,none⟩ 1 1 (aR ⟨si,st,sk,sn⟩) rfl rfl ?c1 ?c2 ?c3 ?c4 ?c5 ?_)
 case c1=>exact World.news_of_block (heap_alloc_new (wr.drewN nq) _)
 case c2=>exact rO _
 case c3=>unfold maxLen;omega
 case c4=>omega
 case c5=>exact Nat.le_trans hwb (aj (wr.drewN nq) _).size
 intro v' w5 hown' hgrow _;obtain⟨an,cn,hv,_⟩:=GR.own_at (enc:=aR) (sz:=4) (l:=FL k++[⟨si,st,sk,sn⟩]) cZ (by rw [List.length_append,ig];exact hown');rw [List.length_append] at hv;have hv':v'= .slice an ((FL k).length+1) cn:=hv;clear hv;subst hv'
 have Ku:Hid (w5.ownsRow W2.heap.size 95 4 (.slice an FK.length cn) FK.length (GR.flat aR FK)):=by
  unfold Hid;rw [ah HX,List.length_append,ig];exact hown'
 have jW:Hid (aX W2 w5):=(gZ.trans (Below.trans (b:=wr.drewN nq) ⟨rfl,rfl,rfl,Nat.le_refl _,λ_ _=>rfl⟩ ((aj (wr.drewN nq) (.cells (eU si st sk sn) 95)).mono hwb))).trans ⟨hgrow.os,hgrow.tape,hgrow.output,hgrow.size,λx hx=>hgrow.block x (Nat.lt_of_lt_of_le hx (Nat.le_trans hwb (aj (wr.drewN nq) _).size)) (λe=>by have:=sG Yk e.symm;omega)⟩;clear hown' hgrow Yk hi hz0 hz1 hz2 c0 c1 c2 c3 c4 c5 c6 c7 c8 m0 m1 m2 m3 m4 m5 m6 s0 s1 s2 s3;go_wp2_with fail;go_roundw
 case rel=>exact⟨k+1,an,cn,Aaa,by rw [ah HX0,ah HX,List.length_append];rfl,Aai,by rw [ah HX0];exact Ku,jW⟩
 case measure=>simp[intOf];omega):P:=h
theorem asl(h:P:=by
 refine gF 11 rfl Aab Aad Aae (λxf hxf=>?_);have HGg:=Hq (Ge.trans HGf hxf);have Vp:=Hq (ay HQf hxf);have HDg:=Hq (Ge.trans HDf hxf);clear hxf;obtain⟨d0,d1,d2,d3,d4,d5,d6,d7,d8⟩:=nine Vp;have f0:=au Vp 0;have f1:=au Vp 1;have f2:=au Vp 2;have f3:=au Vp 3;have f4:=au Vp 4;have f5:=au Vp 5;have f6:=au Vp 6;have f7:=au Vp 7;have f8:=au Vp 8;have hrl:=aA Vp;go_simp;have hkq:aC [qf] xf (GR.setW xf qf 0 (dH m' A3).toList):=aL (g:=qf) _ xf 0;refine⟨hkq.below (λx hx=>by rw [List.mem_singleton.1 hx];exact hqV) HGg.size,?_⟩;have HBQ:=Hq (GR.setW_blk (dH m' A3).toList (o:=0) (xs:=gu.toList) Vp);have HKD:=Hq (aC.trans (F:=[qf]) (aC.of_below HDg) hkq);have uR:=Hq (Below.trans HGg (hkq.below (B:=wr.heap.size) (λx hx=>by rw [List.mem_singleton.1 hx];exact hqV) HGg.size));clear hkq d0 d1 d2 d3 d4 d5 d6 d7 d8 f0 f1 f2 f3 f4 f5 f6 f7 f8 hrl;have hwp:=uR.size;refine tk [12] ?_;(refine tkB hwp (λK hK=>?_);go_simp;first|refine hK _ ?_|(apply Exists.intro;refine⟨λ_=>?_,hK _ ?_⟩;rfl);clear hK K)
 refine iN ?_;clear hwp;refine nW Aab (λz hz=>?_);have atS:=Hq (ay HBQ hz);have HNz:=Hq (((HNL.or hqd HKD).step hz).mono (Nat.le_trans hsz hxs));have atT:=Hq (uR.trans (hz.mono uR.size));clear hz HBQ HKD uR;refine aF 13 rfl Aab Aad ?_;go_simp;refine wpAny_done Aab ?_;go_simp;go_wp2_with fail;go_meet
 case rel=>exact⟨qf,A3,rfl,atS,HNz,atT⟩):P:=h
theorem asn(h:P:=by
 go_wp2_with fail;go_loopw [10] (λi wr=>∃j q:Nat,j<=n.reqs.length/\i= .int .i64 j/\(∀x (hx:x < n.reqs.length),x < j->n.reqs[x].no < no)/\wr=W4.drewN q) (λi _=>n.reqs.length - (intOf i).toNat)
 case atStart=>exact⟨0,0,Nat.zero_le _,rfl,λx hx h=>Aaa,rfl⟩
 case round=>
  obtain⟨j,q,hj,rfl,hlo,rfl⟩:=hrel;have VQ:=Hq hlo;clear hlo;by_cases hlt:j < n.reqs.length
  .obtain⟨g',off',e0,hg',y0,_,_,_⟩:=iU.four HA4 j hlt;cases e0
   rw [Nat.zero_add] at y0
   have HUP:=Hq (fun(h:no<=n.reqs[j].no)=>JM (l:=n.reqs) (no:=no) EA (i:=j) hj VQ (λx hx hjx=>by
    rcases Nat.lt_or_eq_of_le hjx with h1|h1
    .have:=List.pairwise_iff_getElem.1 EA j x hlt hx h1;omega
    .subst h1;exact h))
   have VT:=Hq (fun(h:n.reqs[j].no < no)=>show∀x (hx:x < n.reqs.length),x < j+1->n.reqs[x].no < no from λx hx h2=>by
    by_cases e:x=j
    .subst e;exact h
    .exact VQ x hx Aaa)
   generalize n.reqs[j].no=rn at *;by_cases hcmp:rn < no
   .go_wp2_with fail;go_quiet (fail);go_wp2_with fail;go_roundw
    case rel=>exact⟨j+1,_,Aaa,Aai,VT hcmp,rfl⟩
    case measure=>simp[intOf];omega
   .have Yd:decide (rn < no)=false:=decide_eq_false hcmp;have HJ:=Hq (HUP Aaa);go_wp2_with fail;go_quiet (fail);go_wp2_with fail;go_meet
    case rel=>exact⟨by rw [ah HJ],⟨rfl,rfl,rfl,Nat.le_refl _,λ_ _=>rfl⟩⟩
  .have hje:j=n.reqs.length:=Aaa
   subst hje;have HJ:=Hq (JM (l:=n.reqs) (no:=no) EA (i:=n.reqs.length) (Nat.le_refl _) VQ (λx hx hjx=>Aaa));have Yd:decide ((n.reqs.length:Int) < (n.reqs.length:Int))=false:=Aac
   go_wp2_with fail;go_quiet (fail);go_wp2_with fail;go_meet
   case rel=>exact⟨by rw [ah HJ],⟨rfl,rfl,rfl,Nat.le_refl _,λ_ _=>rfl⟩⟩):P:=h
theorem afA(h:P:=by
 go_wp2_with fail;go_loopw [7] (λj wr=>∃x q:Nat,x<=i/\j= .int .i64 x/\wr=W0.drewN q) (λj _=>i - (intOf j).toNat)
 case atStart=>exact⟨0,0,Nat.zero_le _,rfl,rfl⟩
 case round=>
  obtain⟨x,q,hx,rfl,rfl⟩:=hrel;have hxl:x < n.seen.length:=Aaa
  obtain⟨b',c',e',hg',⟨u0,_,_⟩,_,_⟩:=fP.three aao.s x hxl;by_cases hxi:x=i
  .subst hxi;rw [hs0,hfi] at u0;have hnn:(mF != mF)=false:=Aac
   go_wp2_with fail;go_quiet (fail);go_wp2_with fail;go_meet
   case rel=>exact⟨rfl,⟨rfl,rfl,rfl,Nat.le_refl _,λ_ _=>rfl⟩⟩
  .have hne:=hbef x hxl Aaa;generalize n.seen[x].f=fx at *;have hnn:(fx != mF)=true:=by simpa using hne
   go_wp2_with fail;go_quiet (fail);go_wp2_with fail;go_roundw
   case rel=>exact⟨x+1,_,Aaa,Aai,rfl⟩
   case measure=>simp[intOf];omega):P:=h
theorem aso(h:P:=by
 by_cases hk:k.toList=[]
 case' neg=>
  go_wp2_with fail
  go_ret
  exact⟨aD (by rw [ah HP];simp[kX,hk]),gZ⟩
 by_cases hn:n=0
 case' neg=>
  have hn':¬(0:Int)=n:=λe=>hn e.symm
  go_wp2_with fail
  go_ret
  exact⟨aD (by rw [ah HP];simp[kX,hk,hn]),gZ⟩
 subst hn;by_cases hmK:mK=0
 case' neg=>
  have awy:¬(0:Int)=mK:=λe=>hmK e.symm
  go_wp2_with fail
  go_ret
  exact⟨aD (by rw [ah HP];simp[kX,hk,hmK]),gZ⟩
 subst hmK;by_cases hmF:mF=0
 case' neg=>
  have aww:¬(0:Int)=mF:=λe=>hmF e.symm
  go_wp2_with fail
  go_ret
  exact⟨aD (by rw [ah HP];simp[kX,hk,hmF]),gZ⟩
 subst hmF;by_cases hmT:mT=0
 case' neg=>
  have awD:¬(0:Int)=mT:=λe=>hmT e.symm
  go_wp2_with fail
  go_ret
  exact⟨aD (by rw [ah HP];simp[kX,hk,hmT]),gZ⟩
 subst hmT;by_cases hmI:mI=0
 case' neg=>
  have awx:¬(0:Int)=mI:=λe=>hmI e.symm
  go_wp2_with fail
  go_ret
  exact⟨aD (by rw [ah HP];simp[kX,hk,hmI]),gZ⟩
 subst hmI;by_cases hmL:mL=0
 case' neg=>
  have awz:¬(0:Int)=mL:=λe=>hmL e.symm
  go_wp2_with fail
  go_ret
  exact⟨aD (by rw [ah HP];simp[kX,hk,hmL]),gZ⟩
 subst hmL;by_cases hmk:mk.toList=[]
 case' neg=>
  go_wp2_with fail
  go_ret
  exact⟨aD (by rw [ah HP];simp[kX,hk,hmk]),gZ⟩
 by_cases hmN:mN=0
 case' neg=>
  have awC:¬(0:Int)=mN:=λe=>hmN e.symm
  go_wp2_with fail
  go_ret
  exact⟨aD (by rw [ah HP];simp[kX,hk,hmk,hmN]),gZ⟩
 subst hmN;go_wp2_with fail;go_ret;exact⟨aD (by rw [ah HP];simp[kX,hk,hmk]),gZ⟩):P:=h
theorem asq(h:P:=by
 open ap5 in exact adn):P:=h
theorem wB(h:P:=by
 exact⟨Aam,below_regrown _ dq osq⟩):P:=h
theorem asr(h:P:=by
 open am1 in exact aco):P:=h
theorem Xj(h:P:=by
 intro k ok hk hki hun hno;refine hfree k ok hk hki ?_ hno;by_cases hjk:j=k
 .subst hjk;exact hjun
 .rw [getD_set_ne true hjk] at hun;exact hun):P:=h
theorem asu(h:P:=by
 open aiA in exact afj):P:=h
theorem asv(h:P:=by
 rw [ah HD];clear HD hT;go_enter Tryz.func106,Tryz.ntmps106
 go_upto_region 1 with fail;refine dw Aab ?_;show gX _ _ _ _ 18 (Array.replicate 18 false) _ _
 refine tk [0,1,2,3,4,5,6,7,8,9,10,11,12,13,14] ?_;iterate 15 (refine tY (λK hK=>?_);go_simp;refine hK _ ?_;clear hK K)
 refine iN ?_;refine dD 15 rfl Aab Aab Aab (λ_ _ _ _ h=>h) (λK hK=>?_);go_simp
 first
  |(refine hK _ ?_;clear hK K)
  |(apply Exists.intro
    refine⟨λ_=>?_,hK _ ?_⟩
    (exact HNB _ (Pk _))
    clear hK K)
 refine tk [16,17] ?_;open apj in exact WW):P:=h
theorem asw(h:P:=by
 open ajj in exact arC):P:=h
theorem afB(h:P:=by
 by_cases hlow:s0.l < mL
 .have hd:decide (s0.l < mL)=true:=decide_eq_true hlow;have HLW:=Hq (show eH s0 mL=mL from if_pos hlow);go_wp2_with fail;go_meet
  case rel=>exact⟨rfl,by rw [ah HLW];exact bC SV 1 _,aC.set _⟩
 .have hd:decide (s0.l < mL)=false:=decide_eq_false hlow;have HLW:=Hq (show eH s0 mL=s0.l from if_neg hlow);go_wp2_with fail;go_meet
  case rel=>exact⟨rfl,by rw [ah HLW];exact SV,aC.refl _ _⟩):P:=h
theorem asx(h:P:=by
 open aji in exact arC):P:=h
theorem asy(h:P:=by
 have hold:=(jP.kc (k:=9) ((KC.of_below nG).trans (KC.out H9 ho)) Aaa);have hp:=(ah Pe).out (w:=w) Aaa ho;have hr:=(ah HLZ).out (w:=w) Aaa ho
 have hp9:∀g',av.map (λy=>y.block)=some g'->6 < newC w.heap.size 9 c g':=λg' hg'=>by
  have h1:=hp.lo (nu hp hg')
  rw [aS Aaa]
  omega
 exact NQ.put hold hold _ _ rfl rfl rfl rfl (hp.lies aZ).1 (λg' hg' _=> .inr (hp9 g' hg')) hold.o (λy hy=> .inl (hold.co y hy)) hr (λy hy=> .inr (by have h1:=hr.lo hy;rw [aS Aaa];omega))
  (λg' hg' _ h6=>⟨λe=>by have:=hold.co g' e;omega,hp.ne hr Aae (nu hp hg')⟩) (λy hy h6=>by have:=hold.co y hy;omega)):P:=h
theorem asz(h:P:=by
 open apo in exact Ll):P:=h
theorem XA(h:P:=by
 go_wp2_with fail;refine H.mono ?_;rintro e w1 ⟨a1,c1,g,hg,rfl,hblk,hb⟩;have HK:=Hq hblk;have HB:=Hq hb;clear hblk hb;go_wp2_with fail;go_ret2
 exact⟨_,_,g,hg,rfl,HK,HB⟩):P:=h
theorem asA(h:P:=by
 obtain⟨k,hk,rfl,rfl,rfl⟩:=hrel;have hb:=Mth.sums_lt (s.data.toList.take k);by_cases hlt:k < s.size
 .have HS:Hid (Mth.sums (s.data.toList.take (k+1))=Mth.sumStep (Mth.sums (s.data.toList.take k)) s[k]):=by rw [Mth.take_snoc s k hlt];exact Mth.sums_snoc _ _
  have hc:s[k].toNat < 256:=s[k].toNat_lt;go_wp2
  go_round
  case rel=>exact⟨k+1,Aaa,Aai,by rw [HS.out];simp[Mth.sumStep],by rw [HS.out];simp[Mth.sumStep]⟩
  case measure=>simp[intOf];omega
 .rw [Mth.take_all s k hlt];rw [Mth.take_all s k hlt] at hb;go_wp2
  go_ret;exact⟨JN Aaa,rfl⟩):P:=h
theorem afC(h:P:=by
 have HK:=Hq (λw1=>gV k false w1 hk);cases hn:fD n
 .have HN:=Hq (λw1=>isSomeAmount n false w1 hn);have HP:=Hq (show R=(decide (no=0)&&false&&false&&kX ⟨mK,mF,mT,mI,mL,mk,mN⟩) by rw [<-ah HR];simp[bV,hk,hn]);exact afz
 .have HN:=Hq (λw1=>isSomeAmount n true w1 hn);have HP:=Hq (show R=(decide (no=0)&&false&&true&&kX ⟨mK,mF,mT,mI,mL,mk,mN⟩) by rw [<-ah HR];simp[bV,hk,hn]);exact afz):P:=h
theorem afD(h:P:=by
 refine wpQuiet_nil ?_;intro _ hw';obtain⟨⟨dq,osq⟩,hw''⟩:=hw';subst hw'';go_wp2_with fail;go_meet
 case rel=>exact wB):P:=h
theorem afE(h:P:=by
 open anC in exact acD):P:=h
theorem asB(h:P:=by
 have hcap2:(s.size:Int)<=(cap:Int):=Aaa
 open aiv in exact aaH):P:=h
theorem asC(h:P:=by
 open ahD in exact Tf):P:=h
theorem asD(h:P:=by
 have hil:i < l.length:=by simpa using hi'
 by_cases e:i=k
 .subst e;refine⟨b,cc,?_,?_⟩
  .rw [List.getElem_set_self,List.getElem?_set_self O6]
  .rw [List.getElem_set_self];unfold qZ;rw [if_pos rfl];exact hi.keeps hkp (λx hx=>by simpa using hgi x hx)
 .obtain⟨b',c',ht,hi2⟩:=hr i hil;refine⟨b',c',?_,?_⟩
  .rw [List.getElem_set_ne Aaa,List.getElem?_set_ne Aaa];exact ht
  .rw [List.getElem_set_ne Aaa];unfold qZ;rw [if_neg e];exact hi2.keeps hkp (λx hx=>by simpa using hg4 x (jw hil x hx))):P:=h
theorem asE(h:P:=by
 have hold:=(jP.kc (k:=9) ((KC.of_below nG).trans (KC.out H9 ho)) Aaa);have hr:=(ah HLZ).out (w:=w) Aaa ho
 exact NQ.put hold hold _ _ rfl rfl rfl rfl hold.p.at (λg' hg' hp'=> .inl (hold.cpB hold g' hg' hp')) hold.o (λy hy=> .inl (hold.co y hy)) hr (λy hy=> .inr (by have h1:=hr.lo hy;rw [aS Aaa];omega))
  (λg' hg' hp' h6=>by have:=hold.cpB hold g' hg' hp';omega) (λy hy h6=>by have:=hold.co y hy;omega)):P:=h
theorem afF(h:P:=by
 obtain⟨g,off,e,hg,hc⟩:=h i hi;refine⟨g,off,e,hg,?_,?_,?_,?_⟩
 .simpa using hc 0 Aaa
 .simpa [Nat.add_assoc] using hc 1 Aaa
 .simpa [Nat.add_assoc] using hc 2 Aaa
 .simpa [Nat.add_assoc] using hc 3 Aaa):P:=h
theorem avQ(h:P:=by
 rw [Vx];exact hW5.W.keeps (aL [.int .i64 mF,.int .i64 (eH s0 mL),.slice (some ⟨gi,0,none⟩) (aY s0 mL).length LJ] _ (i*3)) (λx hx hm=>by have h1:=(gH hx).1;simp at hm;omega)):P:=h
theorem aaL(h:P:=by
 go_wp2_with (go_at_call 242;refine(noNumberAt _ _).mono ?_;rintro e w' ⟨rfl,rfl⟩)
 go_ret3
 exact⟨Zq HR,rfl⟩):P:=h
theorem asF(h:P:=by
 constructor
 .intro hf;have e:l=l.take i++l[i]::l.drop (i+1):=by rw [<-List.drop_eq_getElem_cons hi,List.take_append_drop]
  have h2:(l.take i++l[i]::l.drop (i+1)).find? f=some l[i]:=by
   rw [List.find?_append,h,List.find?_cons,hf];rfl
  rw [<-e] at h2;exact h2
 .intro hf;rw [List.take_succ_eq_append_getElem hi,List.find?_append,h,List.find?_cons,hf];rfl):P:=h
theorem afG(h:P:=by
 have HN:=Hq (λw1=>isSomeAmount n false w1 hn);have HP:=Hq (show R=(decide (no=0)&&true&&false&&kX ⟨mK,mF,mT,mI,mL,mk,mN⟩) by rw [<-ah HR];simp[bV,hk,hn]);exact afz):P:=h
theorem avS(h:P:=by
 rw [Vx];exact((aC.set _).mono Aac).trans ((aL [.int .i64 mF,.int .i64 (eH s0 mL),.slice (some ⟨gi,0,none⟩) (aY s0 mL).length LJ] _ (i*3)).mono Aac)):P:=h
theorem avU(h:P:=by
 rw [Ck s a Aaa];have h:=rM hc (a+4) (s.size - (a+4)) (s.size - (a+4)) Aaa;rw [h,show a+min (s.size - a) 1006=a+4+(s.size - (a+4)) by omega]):P:=h
theorem Tk(h:P:=by
 have h:=ah mV;rw [List.take_length] at h;exact lS.trans h):P:=h
theorem asG(h:P:=by
 have h1:=(bQ hok).1;have h2:=(bQ hok).2.2.1;have h3:=uF h1;rw [vH h1,Bool.and_eq_true,decide_eq_true_eq] at h2;have h4:=congrArg List.length h2.1;rw [List.length_map,oU] at h4;unfold dZ at h1;simp only[Bool.and_eq_true,decide_eq_true_eq] at h1;split at h3<;>omega):P:=h
theorem aaM(h:P:=by
 obtain⟨T,hT,hl,_⟩:=Vt.no.s;have:=(hT i (by rw [hl,ah HSL];exact hi)).2.2 2 Aaa;exact this.2):P:=h
theorem asH(h:P:=by
 refine run_convert_bytes_back (P:=Tryz.prog) w 22 9 5 ⟨g,0,none⟩ 1 [UInt8.ofNat K.toNat] Tryz.underlying22 Tryz.underlying5 Tryz.underlying9 ?_;intro j hj;obtain rfl:j=0:=Aat
 show w.cell? ⟨g,0,none⟩=_
 rw [hc];simp only[List.getElem_cons_zero];rw [toNat_byte _ Aaa];congr 2
 omega):P:=h
theorem asI(h:P:=by
 clear hbad;go_enter Tryz.func216,Tryz.ntmps216
 go_wp2_with (first|(go_at_call 241;refine(HS _).mono ?_;rintro e w1 ⟨rfl,rfl⟩;simp only[qz])|(go_at_call 242;refine(noNumberAt _ _).mono ?_;rintro e w' ⟨rfl,rfl⟩))
 go_ret3
 exact⟨by rw [ah HR];rfl,Below.refl _ _⟩):P:=h
theorem asJ(h:P:=by
 obtain⟨e,hg,hc⟩:=h i hi;exact⟨e,hg,⟨by simpa using(hc 0 Aaa).1,by simpa using(hc 1 Aaa).1,by simpa using(hc 2 Aaa).1,by simpa using(hc 3 Aaa).1⟩,by simpa using(hc 0 Aaa).2,(hc 1 Aaa).2,(hc 2 Aaa).2,(hc 3 Aaa).2⟩):P:=h
theorem avV(h:P:=by
 rcases Nat.lt_or_ge G.s B with h1|h1
 .have h2:=jP.lo G.s h1;rw [dW Aaa,hc4] at h2;omega
 .exact h1):P:=h
theorem avW(h:P:=by
 rcases xX.2 with⟨h1,_⟩|⟨g1,axc,axd,hv1,_,_,axE,_⟩
 .simp at h1
 .simp only[Value.slice.injEq] at hv1;omega):P:=h
theorem avX(h:P:=by
 rw [Ck s a Aaa];have h:=rM hc (a+4) 1002 1002 Aaa;rw [h,show a+min (s.size - a) 1006=a+4+1002 by omega]):P:=h
theorem asK(h:P:=by
 go_wp2_with (go_at_call 63;first|(refine(oh _ _ _ _ ?_ ?_).mono ?_;omega;omega;rintro e w' ⟨rfl,rfl⟩)|(refine(qM _ _ _ _ ?_).mono ?_;omega;rintro e w' ⟨rfl,rfl⟩))
 go_ret;exact⟨aD (by rw [ah HF];simp;omega),rfl⟩):P:=h
theorem asL(h:P:=by
 open aku in exact IX):P:=h
theorem asM(h:P:=by
 clear HR;clear ho;go_enter Tryz.func36,Tryz.ntmps36
 go_wp2_with (first|(go_at_call_of 61 no;refine(HO _).mono ?_;rintro e w1 ⟨rfl,rfl⟩))
 all_goals
  go_ret
  refine⟨aD ?_,aj w _⟩
  rw [ah HP]
  simp[kX, *]):P:=h
theorem aaN(h:P:=by
 obtain⟨_,_,e0,_⟩:=fP.three Gz.wk.no.s i Aaw;exact e0):P:=h
theorem avY(h:P:=by
 by_cases hcz:aP=pos
 .refine⟨_,rfl,?_⟩;rw [show n.reqs.drop pos=[] by apply List.drop_eq_nil_of_le;omega];exact GR.at_nil _ _
 .refine⟨_,rfl,?_⟩;rw [if_neg hcz];exact GR.At.drop HA5 pos):P:=h
theorem asN(h:P:=by
 have hw:Region.wanted o (yielded ops a.tmps)=true:=by simp[Region.wanted,hgd]
 rw [if_pos hw];exact wp_append_own w s x t ho base e i z size bytes ht hi hz hsize hby hzs hsz v n xs hs hown ad m c news hx hl hnews h1 h63 hbytes hbase h):P:=h
theorem afH(h:P:=by
 cases fuel with
 |zero=>exact⟨h.1,λy hy=>h.2 y (Ge.trans hx hy)⟩
 |succ fuel=>exact λy hy=>h y (Ge.trans hx hy)):P:=h
theorem asO(h:P:=by
 intro vs;induction vs with
 |nil=>intro w o _;rfl
 |cons v vs ih=>
  intro w o h
  rw [List.length_cons] at h
  exact(ih (w.setCell ⟨g,o,none⟩ v) (o+1) Aaa).trans (World.cell?_setCell_other _ _ _ _ (by simp<;>omega))):P:=h
theorem aaO(h:P:=by
 unfold World.setCell;simp only[Array.getElem?_modify];rw [if_pos trivial,h];rfl):P:=h
theorem avZ(h:P:=by
 rw [hW'];exact GR.setW_blk (fK n.id n.par a_k n.kids.length aJ n.next iX n.pu.length bq dR n.out.length aO dY n.seen.length aK n.old (some ⟨g,off,none⟩) n.reqs.length aP).toList (o:=0) (xs:=gu.toList) oZ):P:=h
theorem asP(h:P:=by
 unfold iP at h;rcases List.mem_append.1 h with h|h
 .exact .inr ((List.takeWhile_sublist _).mem h)
 .rcases List.mem_cons.1 h with h|h
  .exact .inl h
  .exact .inr ((List.dropWhile_sublist _).mem (Eo l p.k q h))):P:=h
theorem asQ(h:P:=by
 have hm:l[i]∈qJ l key:=by
  rw [head_take];exact List.mem_take_iff_getElem.2 ⟨i,Aaa,rfl⟩
 have:=xW hm;rw [e] at this;exact absurd this (List.lt_irrefl _)):P:=h
theorem asR(h:P:=by
 have HP:Hid (TT=false):=ah HBAD (by rw [ah za,hbv];rfl);subst hbv;clear HBAD gG eY lS za;go_wp2_with fail;go_ret;exact⟨aD HP.symm,IG⟩):P:=h
theorem asS(h:P:=by
 clear hbad;go_enter Tryz.func139,Tryz.ntmps139
 go_wp2_with (go_at_call 181;refine(HS _).mono ?_;rintro e w1 ⟨rfl,hb1⟩;simp only[qx])
 go_ret2
 exact⟨by rw [ah HR];rfl,hb1⟩):P:=h
theorem asT(h:P:=by
 go_wp2_with fail;refine HKP.mono ?_;rintro e wz ⟨rfl,A5,G5,c5,hfin⟩;have Bg:=Hq hfin;clear hfin;go_wp2_with fail;go_ret;rw [ah HAD];exact⟨rfl,A5,G5,c5,Bg⟩):P:=h
theorem asU(h:P:=by
 go_wp2_with fail;go_quiet (fail);go_wp2_with fail;go_meet
 case rel=>exact⟨by rw [<-ah Gq,ah HJ],⟨rfl,rfl,rfl,Nat.le_refl _,λ_ _=>rfl⟩⟩):P:=h
theorem asV(h:P:=by
 intro x hx;rw [hr];refine⟨λh=>Aax,λj hj=>?_⟩;obtain rfl:j=i:=Aat
 refine⟨λe=>absurd e hiE,λ_=>?_⟩;unfold wpOp;simp only[hi];rw [if_pos hw];exact .inl (h x hx)):P:=h
theorem asW(h:P:=by
 clear eY;refine wp_region_quiet_below Aab Aab ?_;repeat (first|go_big_quiet_step ((first|(go_at_call_of 63 si;exact a1 _ _)|(go_at_call 64;exact a2 _ _)|(go_at_call 61;exact a3 _ _)|(go_at_call_of 63 st;exact a4 _ _)))|quiet_step ((first|(go_at_call_of 63 si;exact a1 _ _)|(go_at_call 64;exact a2 _ _)|(go_at_call 61;exact a3 _ _)|(go_at_call_of 63 st;exact a4 _ _))))
 exact afD):P:=h
theorem asX(h:P:=by
 clear eY;refine wp_region_quiet_below Aab Aab ?_;repeat (first|go_big_quiet_step ((first|(go_at_call 63;exact a1 _ _)|(go_at_call 47;exact a2 _ _)|(go_at_call 64;exact a3 _ _)|(go_at_call 61;exact a4 _ _)))|quiet_step ((first|(go_at_call 63;exact a1 _ _)|(go_at_call 47;exact a2 _ _)|(go_at_call 64;exact a3 _ _)|(go_at_call 61;exact a4 _ _))))
 exact afD):P:=h
theorem asY(h:P:=by
 clear eY;refine wp_region_quiet_below Aab Aab ?_;repeat (first|go_big_quiet_step ((first|(go_at_call 47;exact cN _ _)|(go_at_call 61;exact cS _ _)))|quiet_step ((first|(go_at_call 47;exact cN _ _)|(go_at_call 61;exact cS _ _))))
 exact afD):P:=h
theorem aaP(h:P:=by
 go_wp2_with fail
 all_goals
  go_ret
  exact⟨by simp[*],aj w _⟩):P:=h
theorem asZ(h:P:=by
 subst hbv;clear HBAD gG eY lS za;go_wp2_with fail;go_roundw
 case rel=>exact⟨k+1,Aaa,Aai,HG,aeW,IG⟩
 case measure=>simp[intOf];omega):P:=h
theorem as0(h:P:=by
 by_cases h:0<=iO s i
 .exact(iE h).2.2.2.1
 .unfold iO at h;unfold jc;cases hG:textOf s i.toNat (gU s i) with
  |none=>simp[Vb]
  |some p=>rw [hG] at h;exact absurd (by simp[OH]) h):P:=h
theorem Tn(h:P:=by
 go_ret;exact⟨aD HP.symm,aj w _⟩):P:=h
theorem as1(h:P:=by
 have h2I:¬(40:Int)<=(n.out.length:Int):=Aaa
 have q2:decide ((40:Int)<=(n.out.length:Int))=false:=by simpa using h2I
 have q3:decide ((1000000000:Int)<=n.next)=true:=by simpa using h3
 exact Zr0):P:=h
theorem av0(h:P:=by
 rw [hW'];exact aL (fK n.id n.par a_k n.kids.length aJ n.next iX n.pu.length bq dR n.out.length aO dY n.seen.length aK n.old (some ⟨g,off,none⟩) n.reqs.length aP).toList W1 0):P:=h
theorem as3(h:P:=by
 exact⟨hc.w h.k h.ck Aaa,hc.w h.p h.cp Aaa,hc.own h.o h.co Aaa,hc.seen h.s h.c4 h.ci Aaa Aaa,hc.own h.r h.cr Aaa,h.lo,h.ck,h.cp,h.co,h.c4,h.ci,h.cr,h.ni⟩):P:=h
theorem afI(h:P:=by
 rcases Nat.lt_or_ge g w.heap.size with h'|h'
 .exact h'
 .rw [Array.getElem?_eq_none h'] at h;cases h):P:=h
theorem as4(h:P:=by
 exact⟨e,Nat.lt_of_lt_of_le hg hk.size,λj hj=>⟨(World.cell?_of_block (w:=w) (hk.block g hg hne)).trans (hc j hj).1,(World.frozen?_of_block (w:=w) (hk.block g hg hne)).trans (hc j hj).2⟩⟩):P:=h
theorem XB(h:P:=by
 repeat (refine Below.setNew ?_ Aaa)
 exact HB1):P:=h
theorem as5(h:P:=by
 rw [Jf];exact((show um aM 4 (w.heap.size+3) wc (some ⟨gv,1*4,none⟩) IT from⟨HTA,λg off e=>by cases e;exact awU⟩).keeps (aC.set _) (λx hx=>Aaj)).1):P:=h
theorem as6(h:P:=by
 obtain⟨g',off',e,hg',hc⟩:=hat i hi;cases e
 refine⟨rfl,hg',λj hj=>⟨?_,?_⟩⟩
 .have:=hc j hj;rwa [Nat.zero_add] at this
 .unfold World.frozen?;rw [hblk];simp):P:=h
theorem afJ(h:P:=by
 rintro e w' ⟨rfl,A',G',c',hW'⟩;exact⟨rfl,A',G',c',v,by rw [List.append_nil];exact hW'⟩):P:=h
theorem as7(h:P:=by
 generalize l[k]=y at *;go_wp2_with fail;go_round
 case rel=>exact⟨k+1,Aaa,Aai,by rw [ah HS,ah HN];rfl⟩
 case measure=>simp[intOf];omega):P:=h
theorem as8(h:P:=by
 have hc:∀i,w.cell? ⟨g,i,none⟩=#[v0,v1,v2,v3,v4,v5,v6,v7,v8,v9,v10][i]?:=λi=>cell_of_row w g i _ t (0,0) h
 exact⟨hc 0,hc 1,hc 2,hc 3,hc 4,hc 5,hc 6,hc 7,hc 8,hc 9,hc 10⟩):P:=h
theorem afK(h:P:=by
 split at h
 .omega
 .split at h
  .omega
  .split at h
   .omega
   .cases h):P:=h
theorem as9(h:P:=by
 go_wp2_with fail;refine(HO _).mono ?_;rintro e w1 ⟨rfl,hb1⟩;have hB:=(aj w _).trans (hb1.mono Aac);clear hb1 HO;go_wp2_with fail;go_ret;exact⟨rfl,hB⟩):P:=h
theorem ar5(h:P:=by
 obtain⟨g,rest,e,hb,_⟩:=yH xq.r (show 0 < n.reqs.length by omega);exact⟨g,e,hb,λx=>by rw [show fU=some ⟨g,0,none⟩ from e];simp[Value.ownBlock,eq_comm]⟩):P:=h
theorem Xi(h:P:=by
 go_ret;exact⟨aD HN.symm,aj w _⟩):P:=h
theorem adK(h:P:=by
 go_wp2_with fail;refine(HO _).mono ?_;rintro e w1 ⟨rfl,hb1⟩;have hB:=(aj w _).trans (hb1.mono Aac);clear hb1;go_wp2_with fail;go_ret;exact⟨rfl,hB⟩):P:=h
theorem adL(h:P:=by
 rw [Below.heap_setCell _ _ _ _ hkn',hg.block k Aag (λe=>by have:=hvb k e.symm;omega),Below.heap_alloc _ _ _ Aaa];exact h.keep.block k hk hkn):P:=h
theorem adM(h:P:=by
 go_wp2_with fail;exact bodyPost_ret (v:= .tuple #[uZ ⟨0,F,T,I,L,k,N⟩,.bool false]) Aay rfl ⟨Aau,lT⟩):P:=h
theorem adN(h:P:=by
 go_wp2_with fail;exact bodyPost_ret (v:= .tuple #[uZ ⟨2,F,T,I,L,k,N⟩,.bool false]) Aay rfl ⟨Aau,lT⟩):P:=h
theorem adO(h:P:=by
 rcases Nat.lt_or_ge 5 w.heap.size with h'|h'
 .exact h'
 .have h:=hH;unfold Handle World.cell? at h;rw [Array.getElem?_eq_none h'] at h;cases h):P:=h
theorem adP(h:P:=by
 rw [ej,<-hf,hu] at h2;injection e with e
 subst e;have ea:(⟨g,off,none⟩:Addr).add j=⟨g,off+j,none⟩:=by unfold Addr.add;split<;>simp_all
 rw [ea];exact h2):P:=h
theorem adQ(h:P:=by
 have h2:=jy.co x h1;rcases hm' with h3|h3
 .rw [aS Aaa] at h2;cases h2
 .rw [dW h3.1] at h2;omega):P:=h
theorem adR(h:P:=by
 exact⟨e,Nat.lt_of_lt_of_le hg hs,λj hj=>⟨(World.cell?_of_block (w:=w) hbx).trans (hc j hj).1,(World.frozen?_of_block (w:=w) hbx).trans (hc j hj).2⟩⟩):P:=h
theorem adS(h:P:=by
 intro vs;induction vs with
 |nil=>intro w o;rfl
 |cons v vs ih=>intro w o;exact(ih (w.setCell ⟨g,o,none⟩ v) (o+1)).trans (by rw [World.frozen?_setCell])):P:=h
theorem adT(h:P:=by
 have h:=ah jO k hlt;have h2:=ah mV;rw [<-ah HY] at h;exact h.trans (by rw [show(λs t:Int=>iA s t)=iA from rfl,h2];rfl)):P:=h
theorem Rt(h:P:=by
 have:=ready_mono hj hji;rw [H.1] at this;cases this):P:=h
theorem adU(h:P:=by
 rw [hr];refine⟨λh=>Aax,λj hj=>?_⟩;obtain rfl:j=i:=Aat
 unfold wpOp;simp only[hi];rw [if_pos hw];exact .inl (h x hx)):P:=h
theorem adV(h:P:=by
 rw [List.length_append] at hv6;have hv7:v'= .slice a6 (n.out.length+1) c6:=hv6;subst hv7;exact⟨a6,c6,w',hr,by rw [ig];exact ho,hg,hw⟩):P:=h
theorem adW(h:P:=by
 intro vs;induction vs with
 |nil=>intro w o;rfl
 |cons v vs ih=>intro w o;exact(ih (w.setCell ⟨g,o,none⟩ v) (o+1)).trans Aao):P:=h
theorem adX(h:P:=by
 rcases KV with h|⟨j,y,h1,h2,h3⟩
 .exact .inl h
 .exact .inr ⟨j,y,h1,h2,(hbw.cell (p:=⟨g,off+j*4,none⟩) hgw).trans h3⟩):P:=h
theorem Ru(h:P:=by
 rw [h1];exact⟨h2r,by rw [aS Aaa];omega⟩):P:=h
theorem Xk(h:P:=by
 go_enter Tryz.func133,Tryz.ntmps133
 go_wp2
 go_ret;exact⟨rfl,rfl⟩):P:=h
theorem adY(h:P:=by
 obtain⟨c0,c1,c2,c3,c4,c5,c6,c7,c8,c9⟩:=iQ h.blk;clear h;go_enter Tryz.func168,Tryz.ntmps168
 go_wp2_with fail;go_ret;exact⟨rfl,rfl⟩):P:=h
theorem adZ(h:P:=by
 rw [beq_eq_false_iff_ne];intro h;rw [ByteArray.toList_eq,ByteArray.toList_eq] at h;exact hp (ByteArray.ext (Array.ext' h))):P:=h
theorem Xl(h:P:=by
 go_enter Tryz.func176,Tryz.ntmps176
 go_wp2
 go_ret;exact⟨rfl,rfl⟩):P:=h
theorem Xm(h:P:=by
 go_enter Tryz.func177,Tryz.ntmps177
 go_wp2
 go_ret;exact⟨rfl,rfl⟩):P:=h
theorem ad1(h:P:=by
 have HBAD:=Hq (iC hlt (show jT l (j+1)=false by rw [ah iT];simp[hsl]));clear iT gG hsl;exact afy):P:=h
theorem ad3(h:P:=by
 have h:=(bQ hok).1;unfold dZ at h;simp only[Bool.and_eq_true,decide_eq_true_eq] at h;exact decide_eq_false Aaa):P:=h
theorem ad4(h:P:=by
 refine⟨h.1,?_⟩;rcases h.2 with h2|⟨g,cap,cur,hv,hg,hr⟩
 .exact .inl h2
 .exact .inr ⟨g,cap,cur,hv,Nat.le_trans hb hg,hr⟩):P:=h
theorem ad5(h:P:=by
 have h2I:(40:Int)<=(n.out.length:Int):=Aaa
 have q2:decide ((40:Int)<=(n.out.length:Int))=true:=by simpa using h2I
 exact Zr0):P:=h
theorem ad6(h:P:=by
 go_enter Tryz.func130,Tryz.ntmps130
 go_wp2_with (go_at_call 128;refine(HA _).mono ?_;rintro e w1 ⟨rfl,rfl⟩)
 exact Xi):P:=h
theorem Xo(h:P:=by
 unfold wpOp;simp only[hi];rw [if_pos hwi];exact .inl (h1 x hx)):P:=h
theorem Xp(h:P:=by
 unfold wpOp;simp only[hj];rw [if_pos hwj];exact .inl (h2 x hx)):P:=h
theorem Xq(h:P:=by
 go_enter Tryz.func63,Tryz.ntmps63
 go_wp2
 go_ret;exact⟨rfl,rfl⟩):P:=h
theorem ad7(h:P:=by
 subst hji;exact(hy.toG hb).wpOp hi hx λy hy'=>⟨hy'.mono (Nat.le_trans hb hx.size),Ba (Ge.trans hx hy') H⟩):P:=h
theorem ad8(h:P:=by
 go_enter Tryz.func47,Tryz.ntmps47
 go_wp2_with (go_at_call 124;refine HH.mono ?_;rintro e w1 ⟨rfl,rfl⟩)
 exact Xi):P:=h
theorem ad9(h:P:=by
 go_enter Tryz.func250,Tryz.ntmps250
 go_wp2
 refine wp_loop_rounds 1 ?_;rw [rounds_succ];go_wp2
 go_ret;exact⟨rfl,rfl⟩):P:=h
theorem aea(h:P:=by
 have hl:=bn s;unfold kb;cases hd:s.data.toList with
 |nil=>rw [hd] at hl;simp at hl;omega
 |cons b r=>simp):P:=h
theorem aeb(h:P:=by
 go_wp2_with fail;go_roundw
 case rel=>exact⟨k+1,Aaa,Aai,HB1⟩
 case measure=>simp[intOf];omega):P:=h
theorem ar8(h:P:=by
 obtain⟨g',off',e0,_,h0,_⟩:=iU.four (HL6.lies bg).1 0 Aac;cases e0
 simpa using h0):P:=h
theorem Xr(h:P:=by
 exact((Below.refl _ _).alloc (Nat.le_refl _) _).alloc Aac _):P:=h
theorem aec(h:P:=by
 go_wp2_with (go_at_call 63;refine(rW _ _ _ r _ h).mono ?_;rintro e w1 ⟨rfl,rfl⟩)
 go_ret;exact⟨rfl,rfl⟩):P:=h
theorem asa(h:P:=by
 cases hq:IQ with
 |nil=>have:=ah HLQ;rw [hq] at this;simp at this
 |cons a b=>exact⟨a,b,rfl⟩):P:=h
theorem Rv(h:P:=by
 exact⟨0,Nat.zero_le _,rfl,Below.refl _ _⟩):P:=h
theorem aed(h:P:=by
 go_round
 case rel=>exact⟨k+1,x,Aaa,Aai,rfl,BZ.symm,HV⟩
 case measure=>simp[intOf];omega):P:=h
theorem aee(h:P:=by
 rcases hrow.2 with⟨rfl,h0⟩|⟨g,cap,cur,rfl,_⟩
 .exact⟨none,0,by rw [h0]⟩
 .exact⟨_,_,rfl⟩):P:=h
theorem aef(h:P:=by
 rw [List.length_append,List.length_append,gT,List.length_take,List.length_drop,List.length_drop];omega):P:=h
theorem aeg(h:P:=by
 cases hv:v'.ownBlock with
 |none=>exact .inl rfl
 |some k=>exact .inr (λe=>hne k hv (by injection e))):P:=h
theorem aeh(h:P:=by
 obtain⟨a,cp,he,ha⟩:=GR.own_at (enc:=aR) (sz:=4) (l:=n.out) cZ h.o;cases he
 exact ha):P:=h
theorem aei(h:P:=by
 obtain⟨a,cp,he,ha⟩:=GR.own_at (enc:=aM) (sz:=4) (l:=n.reqs) bg h.r;cases he
 exact ha):P:=h
theorem Xt(h:P:=by
 simp only[Bool.and_eq_true,decide_eq_true_eq] at h;omega):P:=h
theorem Xu(h:P:=by
 simp only[Bool.and_eq_true,decide_eq_true_eq];omega):P:=h
theorem aej(h:P:=by
 exact hk2.seen (hk1.seen hno.s hno.c4 hno.ci Aaa Aaa) hno.c4 hno.ci Aaa Aaa):P:=h
theorem aek(h:P:=by
 have h:=ah jO k hlt;have h2:=ah mV;rw [<-ah HY] at h;rw [h,h2];rfl):P:=h
theorem Xv(h:P:=by
 have:=gH hx;rw [this.1];exact dQ Aaa):P:=h
theorem ael(h:P:=by
 rw [List.length_append,List.length_append,List.length_take,List.length_drop,h1];show _+4+_=_
 omega):P:=h
theorem aem(h:P:=by
 rcases List.mem_cons.1 (hs a Aac) with h|h
 .exact absurd h hab
 .exact h):P:=h
theorem aen(h:P:=by
 go_enter Tryz.func131,Tryz.ntmps131
 go_wp2
 go_ret;exact⟨aD HF.symm,rfl⟩):P:=h
theorem aeo(h:P:=by
 refine yE hi h hf.symm ?_;have:=Jm hs hL;rw [hf] at this;exact this):P:=h
theorem Xw(h:P:=by
 obtain⟨p,rfl⟩:=regrown_of_below hx;exact hv p):P:=h
theorem aep(h:P:=by
 go_simp;go_wp2_with fail;go_ret;exact⟨rfl,A,G,c,v,by rw [List.append_nil];exact HZ⟩):P:=h
theorem aer(h:P:=by
 rw [<-vF s i j k hk hlt,OJ s i j k m v hk hlt hu h,Nat.mod_eq_of_lt Aaa]):P:=h
theorem aes(h:P:=by
 rcases List.mem_cons.1 h1 with h2|h2
 .exact .inl (.inr h2)
 .exact .inr (hF y h2)):P:=h
theorem aeu(h:P:=by
 rcases List.mem_cons.1 hx with h2|h2
 .omega
 .have:=hA'.1 x h2;omega):P:=h
theorem aev(h:P:=by
 clear hv2 hu2 hv5 hu;go_wp2
 go_ret2
 exact⟨get_none HR,Below.refl _ _⟩):P:=h
theorem Xx(h:P:=by
 exact⟨0,Nat.zero_le _,rfl,rfl,Below.refl _ _⟩):P:=h
theorem Xy(h:P:=by
 go_ret;exact⟨aD (HP.symm.trans HQ),hB⟩):P:=h
theorem aew(h:P:=by
 cases sp with
 |nil=>simp at Yo;omega
 |cons s0 sp'=>exact⟨s0,sp',rfl⟩):P:=h
theorem aex(h:P:=by
 cases v.ownBlock with
 |none=>exact .inl rfl
 |some k=>exact .inr (by intro e;cases e)):P:=h
theorem aey(h:P:=by
 simp only[Bool.and_eq_true] at h;exact⟨Qq (of_decide_eq_true h.1.1.1),zm h.2⟩):P:=h
theorem aez(h:P:=by
 subst hji;exact hy.wpOp hi hx λy hy'=>⟨hy',uO (Ge.trans hx hy') H⟩):P:=h
theorem aeA(h:P:=by
 subst hji;exact hy.wpOp hi hx λy hy'=>⟨hy',Bb (Ge.trans hx hy') H⟩):P:=h
theorem aeB(h:P:=by
 obtain⟨D,⟨es,clock,h1,h2⟩,ha⟩:=h;exact⟨D,⟨es,clock,hb.trans h1,h2⟩,ha⟩):P:=h
theorem aeC(h:P:=by
 subst hji;exact hy.wpOp hi hx λy hy'=>⟨hy',Eu (Ge.trans hx hy') H⟩):P:=h
theorem aeD(h:P:=by
 rintro e w' ⟨rfl,rfl⟩;exact⟨rfl,A,G,c,v,by rw [List.append_nil];exact h⟩):P:=h
theorem Xz(h:P:=by
 rw [Nat.add_mul,Nat.one_mul] at this;omega):P:=h
theorem aeE(h:P:=by
 go_enter Tryz.func162,Tryz.ntmps162
 go_wp2_with fail;go_ret;exact⟨rfl,rfl⟩):P:=h
theorem aeF(h:P:=by
 rw [if_neg Aaa,if_neg ej];exact h.nd i j hi' hj hij Aaa h1 h2):P:=h
theorem aeG(h:P:=by
 exact⟨k+1,Aaa,Aai,gZ.trans ((Ge.trans HX3 Vs).mono gZ.size)⟩):P:=h
theorem asf(h:P:=by
 show(takeN n o.m).1.id=n.id
 unfold takeN;split
 .rfl
 .split<;>rfl):P:=h
theorem aeH(h:P:=by
 unfold dx qj at *;split at h
 .cases h
 .rename_i hc
  rw [if_neg hc]):P:=h
theorem Yr0(h:P:=by
 open ajl in exact arD):P:=h
theorem Sr0.Kr0(h:P:=by
 have HCQ:=Hq (zo.nine (Nat.zero_le _));open avN in exact Pq):P:=h
theorem Sr1.Kr0(h:P:=by
 open avM in exact Pq):P:=h
theorem Sr2.Kr0(h:P:=by
 open avL in exact Pq):P:=h
theorem Sr3.Kr0(h:P:=by
 open avK in exact Pq):P:=h
theorem Sr4.Kr0(h:P:=by
 open avJ in exact Pq):P:=h
theorem Sr5.Kr0(h:P:=by
 open avI in exact Pq):P:=h
theorem Sr6.Kr0(h:P:=by
 open avH in exact Pq):P:=h
theorem Yr1(h:P:=by
 have HX:=Hq hx;have HKQ:=Hq hK;clear hx hK;generalize eZ n o=TT at *;open avv in exact aaG):P:=h
theorem Sr7.Kr1(h:P:=by
 have c0:W.cell? ⟨w2.heap.size,5,none⟩=some (.func (.func 50) #[.pointer (some ⟨wb,0,none⟩)] #[]):=cell_of_row W _ 5 _ _ (0,0) e1;exact Zr4):P:=h
theorem Sr8.Kr1(h:P:=by
 have c0:W.cell? ⟨w2.heap.size,4,none⟩=some (.func (.func 111) #[.pointer (some ⟨wb,0,none⟩)] #[]):=cell_of_row W _ 4 _ _ (0,0) e1;exact Zr4):P:=h
theorem Sr9.Kr1(h:P:=by
 have c0:W.cell? ⟨w2.heap.size,3,none⟩=some (.func (.func 110) #[.pointer (some ⟨wb,0,none⟩)] #[]):=cell_of_row W _ 3 _ _ (0,0) e1;exact Zr4):P:=h
theorem aum.Kr1(h:P:=by
 have c0:W.cell? ⟨w2.heap.size,2,none⟩=some (.func (.func 109) #[.pointer (some ⟨wb,0,none⟩)] #[]):=cell_of_row W _ 2 _ _ (0,0) e1;exact Zr4):P:=h
theorem aun.Kr1(h:P:=by
 have c0:W.cell? ⟨w2.heap.size,1,none⟩=some (.func (.func 108) #[.pointer (some ⟨wb,0,none⟩)] #[]):=cell_of_row W _ 1 _ _ (0,0) e1;exact Zr4):P:=h
theorem auo.Kr1(h:P:=by
 have c0:W.cell? ⟨w2.heap.size,0,none⟩=some (.func (.func 107) #[.pointer (some ⟨wb,0,none⟩)] #[]):=cell_of_row W _ 0 _ _ (0,0) e1;exact Zr4):P:=h
theorem Yr2(h:P:=by
 have TR:aC [sb,G.s] wc W6:=by
  exact avS
 have HIW:Hid (GR.W aW 1 W6 (some ⟨gi,0,none⟩) gi (aY s0 mL)):=by
  exact avQ
 have aaA:Hid (W6.heap[sb]?=some (.cells #[.int .i64 mF,.int .i64 (eH s0 mL),.slice (some ⟨gi,0,none⟩) (aY s0 mL).length LJ] 90 (0,0))):=by rw [Vx];exact gK _ hne1 (gK _ hne1 (gK _ hne1 (bC Wq 2 _)))
 have lq:=Hq (TR.obj zq (λhx=>Aaj));have aal:=Hq (TR.obj ag2 (λhx=>Aaj));have jl:=Hq (TR.obj K8 (λhx=>Aaj))
 have hBs:B<=G.s:=by
  exact avV
 have agO:=Hq ((pE.mono hB).trans (TR.below (B:=B) (λx hx=>Aaj) (Nat.le_trans hB pE.size)))
 have ag0:=Hq (Apart.keeps (c:=c) (Apart.of_below pE) pE.size TR (λx hx=>by
  have h1:x=sb\/x=G.s:=Aaf
  rcases h1 with rfl|rfl
  .left;omega
  .right;omega))
 have axn:gi < W6.heap.size:=Nat.lt_of_lt_of_le awm TR.size;have axN:w.heap.size+3<=W6.heap.size:=by have:=aA aaA;omega
 have HCO:Hid (∀x,x < w.heap.size->6 < c x->tQ gi (aY s0 mL) (newC w.heap.size 9 c) x=9):=λx hx h=>by rw [uq (λhm=>by have:=(gH hm).1;omega),dW hx];exact H9 x h
 have BX:Hid (∀x,w.heap.size<=x->x≠gi->tQ gi (aY s0 mL) (newC w.heap.size 9 c) x=9):=λx hx h=>by rw [uq (λhm=>h (gH hm).1)];exact aS hx
 clear Vx TR hW5 Pd y0 y1 y2 x0 x1 x2 s40 s41 s42 sf c0 c1 c2 c3 c4 c5 c6 c7 c8 hnl zq ag2 K8 Wq pE;obtain⟨c0,c1,c2,c3,c4,c5,c6,c7,c8⟩:=nine lq;obtain⟨m0,m1,m2,m3,m4,m5,m6⟩:=jr aal;have hnl:=aA lq;have hml:=aA aal;go_upto_region 16 with fail;refine wp_at (λW7 Jf=>?_);have uf:=aj W6 (.cells (bJ 2 n.id mF mI 0 ⟨#[]⟩ 0) 32);have ha7:=heap_alloc_new W6 (.cells (bJ 2 n.id mF mI 0 ⟨#[]⟩ 0) 32);rw [<-Jf] at uf ha7;have VB:=Hq ha7;have ou:=Hq (ay lq uf);have aam:=Hq (ay aal uf);have lY:=Hq (ay jl uf);have aaB:=Hq (ay aaA uf);have aah:=Hq (HIW.below uf);have aap:=Hq (ED.kc (k:=9) (KC.of_below uf) Aaa);have aeU:=Hq (agO.trans (uf.mono (Nat.le_trans hB Aaa)));have ae1:=Hq (ag0.step Aaa uf);obtain⟨ab,hab⟩:∃ab,W6.heap.size=ab:=⟨_,rfl⟩;have axh:w.heap.size+3<=ab:=Aaa
 have habs:sb < ab:=by have:=aA aaA;omega
 have axi:gi < ab:=Aaa
 rw [hab] at VB;rw [hab] at *;have hz7:=aA VB;clear Jf uf ha7 c0 c1 c2 c3 c4 c5 c6 c7 c8 m0 m1 m2 m3 m4 m5 m6 hnl hml lq aal jl aaA HIW ED agO ag0;obtain⟨m0,m1,m2,m3,m4,m5,m6⟩:=jr aam;obtain⟨s70,s71,s72⟩:=Ao aaB;have hml:=aA aam;have awS:=aA aaB;have VN:=Hq (λW (ha:eu W (some ⟨gi,0,none⟩) (aY s0 mL))=>Sq (some ⟨gi,0,none⟩) LJ (aY s0 mL) mI W Aaa ha);exact Kr2):P:=h
theorem aup.Kr2(h:P:=by
 open aiq in exact arx):P:=h
theorem auq.Kr2(h:P:=by
 open aip in exact arx):P:=h
theorem aur.Kr2(h:P:=by
 obtain⟨c0,c1,c2,c3,c4,c5,c6,c7,c8⟩:=nine ou;open aob in exact acN):P:=h
theorem Yr3(h:P:=by
 open aj8 in exact arM):P:=h
theorem aus.Kr3(h:P:=by
 obtain⟨c0,c1,c2,c3,c4,c5,c6,c7,c8⟩:=nine jE;have hml:=aA xB;have hnl:=aA jE;go_wp2_with fail;refine(HGV W2 (Nat.le_trans hB HB2.size) KP).mono ?_;open al7 in exact abZ):P:=h
theorem aut.Kr3(h:P:=by
 open ahk in exact ark):P:=h
theorem auu.Kr3(h:P:=by
 open avP in exact ark):P:=h
theorem auv.Kr3(h:P:=by
 obtain⟨c0,c1,c2,c3,c4,c5,c6,c7,c8⟩:=nine jE;have hml:=aA xB;have hnl:=aA jE;have KN:=Hq (World.ownsRow_lit (base:=W2.heap.size) (e:=95) (size:=4) W2 #[] 0 (Nat.le_refl _) Aae rfl);go_wp2_with fail;clear m0 m1 m2 m3 m4 m5 m6 c0 c1 c2 c3 c4 c5 c6 c7 c8 hml hnl;go_loopw [7,8] (λv i wr=>∃(k:Nat) (a:Option Addr) (cp:Nat),k<=n.out.length/\v= .slice a (FL k).length cp/\i= .int .i64 k/\wr.ownsRow W2.heap.size 95 4 (.slice a (FL k).length cp) (FL k).length (GR.flat aR (FL k))/\aX W2 wr) (λ_ i _=>n.out.length - (intOf i).toNat)
 case atStart=>exact⟨0,some ⟨W2.heap.size,0,none⟩,0,Nat.zero_le _,by rw [ah HF0];rfl,rfl,by rw [ah HF0];exact KN,aj W2 _⟩
 case round=>
  obtain⟨k,a,cp,hk,rfl,rfl,hown,hbw⟩:=hrel;have HO:=Hq hown;have gZ:=Hq hbw;have kS:=Hq (ay jE hbw);have SA:=Hq (ay xB hbw);have HNK:=Hq (HFN k);clear hown hbw;obtain⟨m0,m1,m2,m3,m4,m5,m6⟩:=jr SA;obtain⟨c0,c1,c2,c3,c4,c5,c6,c7,c8⟩:=nine kS;have hml:=aA SA;have hnl:=aA kS;by_cases hlt:k < n.out.length
  .have Md:(k:Int) < (n.out.length:Int):=Aaa
   have HFK:=Hq (HFS k hlt);obtain⟨g,off,e0,hg,s0,s1,s2,s3⟩:=SentAt.four (GR.At.below KP.at.o gZ) k hlt;rw [e0] at c5;clear e0;generalize n.out[k]=sk at *;obtain⟨si,st,sk,sn⟩:=sk;dsimp only at s0 s1 s2 s3 HFK;obtain⟨FK,hFK⟩:∃FK,FL (k+1)=FK:=⟨_,rfl⟩;have HX0:=Hq hFK;rw [hFK] at HFK;clear hFK;by_cases hA:si=mI
   .by_cases hB2:st=mF
    .have HX:Hid (FK=FL k):=by unfold Hid;rw [ah HFK,if_pos ⟨hA,hB2⟩]
     have x0:(si != mI)=false:=by simp[hA]
     have x1:(st != mF)=false:=by simp[hB2]
     clear hA hB2 HFK;go_wp2_with fail;go_quiet (fail);go_wp2_with fail;go_roundw
     case rel=>exact⟨k+1,a,cp,Aaa,by rw [ah HX0,ah HX],Aai,by rw [ah HX0,ah HX];exact HO,gZ.trans (Below.mono (B:=(wr.drewN nq).heap.size) ⟨rfl,rfl,rfl,Nat.le_refl _,λ_ _=>rfl⟩ gZ.size)⟩
     case measure=>simp[intOf];omega
    .have HX:Hid (FK=FL k++[⟨si,st,sk,sn⟩]):=by unfold Hid;rw [ah HFK,if_neg (λe=>hB2 e.2)]
     have x0:(si != mI)=false:=by simp[hA]
     have x1:(st != mF)=true:=by simpa using hB2
     clear hA hB2 HFK;exact asj
   .have HX:Hid (FK=FL k++[⟨si,st,sk,sn⟩]):=by unfold Hid;rw [ah HFK,if_neg (λe=>hA e.1)]
    have x0:(si != mI)=true:=by simpa using hA
    clear hA HFK;exact asj
  .have hke:k=n.out.length:=Aaa
   subst hke;have hnlt:decide ((n.out.length:Int) < (n.out.length:Int))=false:=Aac
   have kU:=Hq (ay jk gZ);have HN3:=Hq (KP.kc (k:=9) (KC.of_below gZ) Aaa);have HB3:=Hq (HB2.trans (gZ.mono HB2.size));have h2r:=aA jk;clear hlt hk HNK HFS HFN HF0 KN gZ jE xB jk KP HB2;have f5n:=au kS 5;go_upto_region 14 with fail;refine wp_at (λZ hZ=>?_);have zq:Hid (Z.heap[w.heap.size]?=some (.cells (fK n.id n.par A.k n.kids.length A.ck n.next A.p n.pu.length A.cp a (FL n.out.length).length cp A.s n.seen.length A.cs n.old A.r n.reqs.length A.cr) 30 (0,0))):=by rw [hZ];exact nP kS
   have K8:Hid (Z.heap[w.heap.size+2]?=some (.cells gu 30 (0,0))):=by rw [hZ];exact jU kU Aaa
   have HN4:Hid (NQ Z B n A G (newC w.heap.size 9 c)):=by rw [hZ];exact HN3.kc (k:=9) (KC.set (aS (Nat.le_refl _))) Aaa
   have HO4:Hid (Z.ownsRow W2.heap.size 95 4 (.slice a (FL n.out.length).length cp) (FL n.out.length).length (GR.flat aR (FL n.out.length))):=by rw [hZ];exact dA HO (aC.set _) (λy hy=>by have:y=w.heap.size:=Aar;omega)
   have pE:Hid (Below B w Z):=by rw [hZ];exact(HB3.mono hB).setCell (p:=⟨w.heap.size,5,none⟩) hB _
   have HK4:Hid (Apart c w Z):=by rw [hZ];exact(Apart.of_below HB3).keeps HB3.size (aC.set _) (λy hy=>by have:y=w.heap.size:=Aar;omega)
   clear hZ f5n c0 c1 c2 c3 c4 c5 c6 c7 c8 m0 m1 m2 m3 m4 m5 m6 hml hnl kS SA kU HN3 HB3 HO;have tO:=Hq (ay K8 (aj Z (.cells #[] 32)));have tZ:=Hq (pE.trans ((aj Z (.cells #[] 32)).mono (Nat.le_trans hB pE.size)));have HKA:=Hq (HK4.step pE.size (aj Z (.cells #[] 32)));have Vl:=Hq (HN4.kc (k:=9) (KC.of_below (aj Z (.cells #[] 32))) Aaa);have HOA:=Hq (GR.own_below HO4 (aj Z (.cells #[] 32)));obtain⟨c0,c1,c2,c3,c4,c5,c6,c7,c8⟩:=nine zq;open ail in exact Tg):P:=h
theorem auw.Kr3(h:P:=by
 obtain⟨c0,c1,c2,c3,c4,c5,c6,c7,c8⟩:=nine jE;have hml:=aA xB;have hnl:=aA jE;go_wp2_with fail;refine(Q8 W2 (Nat.le_trans hB HB2.size) KP).mono ?_;open al6 in exact abZ):P:=h
theorem Yr4(h:P:=by
 have hiI:(i:Int) < (n.reqs.length:Int):=Aaa
 have ahb:=Hq hrq;clear hrq;have hp:=iM hok;have K7:=Hq (λW1 (ha:iU W1 fU n.reqs)=>yP n (⟨a_k,iX,dR,dY,fU,aJ,bq,aO,aK,aP⟩:bH) no W1 Aaa hp.1 ha);rw [hJ] at K7;clear hp hok hJ;unfold gY;have H9:=Hq h9;clear h9;have jP:=Hq (h.nine hB);clear h;go_enter Tryz.func39,Tryz.ntmps39
 go_upto_region 1 with fail;refine wp_at (λW0 hW=>?_);obtain⟨e1,e2,e3,e4⟩:=fC w (.cells (dH n (⟨a_k,iX,dR,dY,fU,aJ,bq,aO,aK,aP⟩:bH)) 30) (.cells (bY K no k nn mK mF mT mI mL mk mN) 34) (.cells gu 30);open aoH in exact WI):P:=h
theorem auy.Kr4(h:P:=by
 dsimp only at q0 q1 q2 q3 h1 h2 h3;open avq in exact arh):P:=h
theorem auz.Kr4(h:P:=by
 dsimp only at q0 q1 q2 q3 h1 h2 h3;exact afw):P:=h
theorem auA.Kr4(h:P:=by
 dsimp only at q0 q1 q2 q3 h1 h2;exact afw):P:=h
theorem auB.Kr4(h:P:=by
 dsimp only at q0 q1 q2 q3 h1;exact afw):P:=h
theorem Vu(h:P:=by
 obtain⟨d0,d1,d2,d3,d4,d5,d6,d7,d8⟩:=nine uS;have f0:=au uS 0;have f1:=au uS 1;have f2:=au uS 2;have f3:=au uS 3;have f4:=au uS 4;have f5:=au uS 5;have f6:=au uS 6;have f7:=au uS 7;have f8:=au uS 8;have hrl:=aA uS;exact Kr5):P:=h
theorem auC.Kr5(h:P:=by
 open amn in exact ab5):P:=h
theorem auD.Kr5(h:P:=by
 open amm in exact ab5):P:=h
theorem auE.Kr5(h:P:=by
 open alT in exact Rc):P:=h
theorem auF.Kr5(h:P:=by
 open amq in exact ab6):P:=h
theorem auG.Kr5(h:P:=by
 open amo in exact ab6):P:=h
theorem auH.Kr5(h:P:=by
 open alS in exact Rc):P:=h
theorem auI.Kr5(h:P:=by
 open amN in exact acg):P:=h
theorem auJ.Kr5(h:P:=by
 open amM in exact acg):P:=h
theorem auK.Kr5(h:P:=by
 open alR in exact Rc):P:=h
theorem auL.Kr5(h:P:=by
 open amP in exact ach):P:=h
theorem auM.Kr5(h:P:=by
 open amO in exact ach):P:=h
theorem auN.Kr5(h:P:=by
 open alQ in exact Rc):P:=h
theorem Yr6(h:P:=by
 open ajP in exact Ti):P:=h
theorem auO.Kr6(h:P:=by
 go_wp2_with fail;exact bodyPost_ret (v:= .tuple #[uZ ⟨2,F,T,I,0,ByteArray.empty,0⟩,.bool true]) Aay rfl ⟨Aau,lT⟩):P:=h
theorem auP.Kr6(h:P:=by
 go_wp2_with fail;exact bodyPost_ret (v:= .tuple #[uZ ⟨2,F,T,I,0,ByteArray.empty,N⟩,.bool false]) Aay rfl ⟨Aau,lT⟩):P:=h
theorem auQ.Kr6(h:P:=by
 go_wp2_with fail;exact bodyPost_ret (v:= .tuple #[uZ ⟨2,F,T,I,0,k,N⟩,.bool false]) Aay rfl ⟨Aau,lT⟩):P:=h
theorem auR.Kr6(h:P:=by
 exact adN):P:=h
theorem Yr7(h:P:=by
 cases h1:decide (old+1<=si/\si<=1000000000)
 case' false=>
  have a1:=rIn si (old+1) 1000000000 false W1 h1
  have HV:=Hq (show bb=true by rw [<-ah eY];simp[h1])
  clear eY
  refine wp_region_quiet_below Aab Aab ?_
  repeat (first|go_big_quiet_step ((first|(go_at_call_of 63 si;exact a1 _ _)))|quiet_step ((first|(go_at_call_of 63 si;exact a1 _ _))))
  refine wpQuiet_nil ?_
  intro _ hw'
  obtain⟨⟨dq,osq⟩,hw''⟩:=hw'
  subst hw''
  go_wp2_with fail
  go_meet
  case rel=>exact wB
 have a1:=rIn si (old+1) 1000000000 true W1 h1;cases h2:keyOk sx.data.toList
 case' false=>
  have a2:=abt sx false W1 (Nat.le_trans hks Aah) h2
  have HV:=Hq (show bb=true by rw [<-ah eY];simp[h2])
  clear eY
  refine wp_region_quiet_below Aab Aab ?_
  repeat (first|go_big_quiet_step ((first|(go_at_call_of 63 si;exact a1 _ _)|(go_at_call 64;exact a2 _ _)))|quiet_step ((first|(go_at_call_of 63 si;exact a1 _ _)|(go_at_call 64;exact a2 _ _))))
  refine wpQuiet_nil ?_
  intro _ hw'
  obtain⟨⟨dq,osq⟩,hw''⟩:=hw'
  subst hw''
  go_wp2_with fail
  go_meet
  case rel=>exact wB
 have a2:=abt sx true W1 (Nat.le_trans hks Aah) h2;cases h3:fD sn
 case' false=>
  have a3:=Ie sn false W1 h3
  have HV:=Hq (show bb=true by rw [<-ah eY];simp[h3])
  clear eY
  refine wp_region_quiet_below Aab Aab ?_
  repeat (first|go_big_quiet_step ((first|(go_at_call_of 63 si;exact a1 _ _)|(go_at_call 64;exact a2 _ _)|(go_at_call 61;exact a3 _ _)))|quiet_step ((first|(go_at_call_of 63 si;exact a1 _ _)|(go_at_call 64;exact a2 _ _)|(go_at_call 61;exact a3 _ _))))
  refine wpQuiet_nil ?_
  intro _ hw'
  obtain⟨⟨dq,osq⟩,hw''⟩:=hw'
  subst hw''
  go_wp2_with fail
  go_meet
  case rel=>exact wB
 have a3:=Ie sn true W1 h3;cases h4:decide (0<=st/\st<=2)
 case' false=>
  have a4:=rIn st 0 2 false W1 h4
  have HV:=Hq (show bb=true by rw [<-ah eY];simp[h4])
  clear eY
  refine wp_region_quiet_below Aab Aab ?_
  repeat (first|go_big_quiet_step ((first|(go_at_call_of 63 si;exact a1 _ _)|(go_at_call 64;exact a2 _ _)|(go_at_call 61;exact a3 _ _)|(go_at_call_of 63 st;exact a4 _ _)))|quiet_step ((first|(go_at_call_of 63 si;exact a1 _ _)|(go_at_call 64;exact a2 _ _)|(go_at_call 61;exact a3 _ _)|(go_at_call_of 63 st;exact a4 _ _))))
  refine wpQuiet_nil ?_
  intro _ hw'
  obtain⟨⟨dq,osq⟩,hw''⟩:=hw'
  subst hw''
  go_wp2_with fail
  go_meet
  case rel=>exact wB
 have a4:=rIn st 0 2 true W1 h4;exact Kr7):P:=h
theorem auS.Kr7(h:P:=by
 by_cases hp:y < si
 case' neg=>
  have hy:decide (si<=y)=true:=decide_eq_true Aaa
  have HV:=Hq (show bb=true by rw [<-ah eY];simp[hp])
  clear eY
  refine wp_region_quiet_below Aab Aab ?_
  repeat (first|go_big_quiet_step ((first|(go_at_call_of 63 si;exact a1 _ _)|(go_at_call 64;exact a2 _ _)|(go_at_call 61;exact a3 _ _)|(go_at_call_of 63 st;exact a4 _ _)))|quiet_step ((first|(go_at_call_of 63 si;exact a1 _ _)|(go_at_call 64;exact a2 _ _)|(go_at_call 61;exact a3 _ _)|(go_at_call_of 63 st;exact a4 _ _))))
  refine wpQuiet_nil ?_
  intro _ hw'
  obtain⟨⟨dq,osq⟩,hw''⟩:=hw'
  subst hw''
  go_wp2_with fail
  go_meet
  case rel=>exact wB
 have hy:decide (si<=y)=false:=decide_eq_false Aaa;have HV:=Hq (show bb=false by rw [<-ah eY];simp[h1,h2,h3,h4,hp]);exact asW):P:=h
theorem auT.Kr7(h:P:=by
 have HV:=Hq (show bb=false by rw [<-ah eY];simp[h1,h2,h3,h4]);exact asW):P:=h
theorem Yr8(h:P:=by
 cases h1:decide (1<=si/\si<=next - 1)
 case' false=>
  have a1:=rIn si 1 (next - 1) false W1 h1
  have HV:=Hq (show bb=true by rw [<-ah eY];simp[h1])
  clear eY
  refine wp_region_quiet_below Aab Aab ?_
  repeat (first|go_big_quiet_step ((first|(go_at_call 63;exact a1 _ _)))|quiet_step ((first|(go_at_call 63;exact a1 _ _))))
  refine wpQuiet_nil ?_
  intro _ hw'
  obtain⟨⟨dq,osq⟩,hw''⟩:=hw'
  subst hw''
  go_wp2_with fail
  go_meet
  case rel=>exact wB
 have a1:=rIn si 1 (next - 1) true W1 h1;cases h2:NN st
 case' false=>
  have a2:=ah OY st false W1 tN h2
  have HV:=Hq (show bb=true by rw [<-ah eY];simp[h2])
  clear eY
  refine wp_region_quiet_below Aab Aab ?_
  repeat (first|go_big_quiet_step ((first|(go_at_call 63;exact a1 _ _)|(go_at_call 47;exact a2 _ _)))|quiet_step ((first|(go_at_call 63;exact a1 _ _)|(go_at_call 47;exact a2 _ _))))
  refine wpQuiet_nil ?_
  intro _ hw'
  obtain⟨⟨dq,osq⟩,hw''⟩:=hw'
  subst hw''
  go_wp2_with fail
  go_meet
  case rel=>exact wB
 have a2:=ah OY st true W1 tN h2;cases h3:keyOk sx.data.toList
 case' false=>
  have a3:=abt sx false W1 (Nat.le_trans hks Aah) h3
  have HV:=Hq (show bb=true by rw [<-ah eY];simp[h3])
  clear eY
  refine wp_region_quiet_below Aab Aab ?_
  repeat (first|go_big_quiet_step ((first|(go_at_call 63;exact a1 _ _)|(go_at_call 47;exact a2 _ _)|(go_at_call 64;exact a3 _ _)))|quiet_step ((first|(go_at_call 63;exact a1 _ _)|(go_at_call 47;exact a2 _ _)|(go_at_call 64;exact a3 _ _))))
  refine wpQuiet_nil ?_
  intro _ hw'
  obtain⟨⟨dq,osq⟩,hw''⟩:=hw'
  subst hw''
  go_wp2_with fail
  go_meet
  case rel=>exact wB
 have a3:=abt sx true W1 (Nat.le_trans hks Aah) h3;cases h4:fD sn
 case' false=>
  have a4:=Ie sn false W1 h4
  have HV:=Hq (show bb=true by rw [<-ah eY];simp[h4])
  clear eY
  refine wp_region_quiet_below Aab Aab ?_
  repeat (first|go_big_quiet_step ((first|(go_at_call 63;exact a1 _ _)|(go_at_call 47;exact a2 _ _)|(go_at_call 64;exact a3 _ _)|(go_at_call 61;exact a4 _ _)))|quiet_step ((first|(go_at_call 63;exact a1 _ _)|(go_at_call 47;exact a2 _ _)|(go_at_call 64;exact a3 _ _)|(go_at_call 61;exact a4 _ _))))
  refine wpQuiet_nil ?_
  intro _ hw'
  obtain⟨⟨dq,osq⟩,hw''⟩:=hw'
  subst hw''
  go_wp2_with fail
  go_meet
  case rel=>exact wB
 have a4:=Ie sn true W1 h4;exact Kr8):P:=h
theorem auU.Kr8(h:P:=by
 by_cases hp:y < si
 case' neg=>
  have hy:decide (si<=y)=true:=decide_eq_true Aaa
  have HV:=Hq (show bb=true by rw [<-ah eY];simp[hp])
  clear eY
  refine wp_region_quiet_below Aab Aab ?_
  repeat (first|go_big_quiet_step ((first|(go_at_call 63;exact a1 _ _)|(go_at_call 47;exact a2 _ _)|(go_at_call 64;exact a3 _ _)|(go_at_call 61;exact a4 _ _)))|quiet_step ((first|(go_at_call 63;exact a1 _ _)|(go_at_call 47;exact a2 _ _)|(go_at_call 64;exact a3 _ _)|(go_at_call 61;exact a4 _ _))))
  refine wpQuiet_nil ?_
  intro _ hw'
  obtain⟨⟨dq,osq⟩,hw''⟩:=hw'
  subst hw''
  go_wp2_with fail
  go_meet
  case rel=>exact wB
 have hy:decide (si<=y)=false:=decide_eq_false Aaa;have HV:=Hq (show bb=false by rw [<-ah eY];simp[h1,h2,h3,h4,hp]);exact asX):P:=h
theorem auV.Kr8(h:P:=by
 have HV:=Hq (show bb=false by rw [<-ah eY];simp[h1,h2,h3,h4]);exact asX):P:=h
theorem Yr9(h:P:=by
 have Gq:=Hq (λW (ha:aH W (some ⟨gp,0,none⟩) n.pu)=>uL (some ⟨gp,0,none⟩) bq n.pu key W hl ha);rw [hpp] at Gq;unfold zi at Gq;clear hpp;have hbw0:=aj w (.cells (dH n (⟨a_k,(some ⟨gp,0,none⟩),dR,dY,fU,aJ,bq,aO,aK,aP⟩:bH)) 30);have jP:=Hq (h.nine hB);clear h;go_enter Tryz.func42,Tryz.ntmps42
 go_upto_region 1 with fail;refine wp_at (λW0 hW=>?_);obtain⟨e1,e2,e3⟩:=iw w (.cells (dH n (⟨a_k,(some ⟨gp,0,none⟩),dR,dY,fU,aJ,bq,aO,aK,aP⟩:bH)) 30) (.cells gu 30);open akS in exact arW):P:=h
theorem auW.Kr9(h:P:=by
 have hn6:=aA lq;go_upto_region 8 with fail;refine wp_at (λZ7 hZ=>?_)
 have HS7:Hid (Z7.heap[Z6.heap.size]?=some (.cells (eU n.next dst key pf) 95 (0,0))):=by
  rw [hZ];exact heap_alloc_new Z6 _
 open aiX in exact arA):P:=h
theorem auX.Kr9(h:P:=by
 have hn6:=aA lq;go_upto_region 8 with fail;refine wp_at (λZ7 hZ=>?_)
 have HS7:Hid (Z7.heap[Z6.heap.size]?=some (.cells (eU n.next dst key most) 95 (0,0))):=by
  rw [hZ];exact heap_alloc_new Z6 _
 open aiW in exact arA):P:=h
theorem arb(h:P:=by
 have hiI:(i:Int) < (n.reqs.length:Int):=Aaa
 have HST:=Hq hst;clear hR hst;have hp:=iM hok;have K7:=Hq (λW1 (ha:iU W1 fU n.reqs)=>yP n (⟨a_k,iX,dR,dY,fU,aJ,bq,aO,aK,aP⟩:bH) no W1 Aaa hp.1 ha);rw [hJ] at K7;clear hp hok;unfold gY;have H9:=Hq h9;clear h9;have hbw0:=aj w (.cells (dH n (⟨a_k,iX,dR,dY,fU,aJ,bq,aO,aK,aP⟩:bH)) 30);open anu in exact Rl):P:=h
theorem auY.Kr10(h:P:=by
 clear hW' e4 fH;exact bodyPost_ret (v:= .tuple #[.agg (fK n.id n.par a_k n.kids.length aJ n.next iX n.pu.length bq dR n.out.length aO dY n.seen.length aK n.old (some ⟨g,off,none⟩) n.reqs.length aP),.int .i64 0]) Abs rfl ⟨(⟨a_k,iX,dR,dY,(some ⟨g,off,none⟩),aJ,bq,aO,aK,aP⟩:bH),rfl,HAT,lQ,rG⟩):P:=h
theorem auZ.Kr10(h:P:=by
 clear hW' e4 fH;exact bodyPost_ret (v:= .tuple #[.agg (fK n.id n.par a_k n.kids.length aJ n.next iX n.pu.length bq dR n.out.length aO dY n.seen.length aK n.old (some ⟨g,off,none⟩) n.reqs.length aP),.int .i64 1]) Abs rfl ⟨(⟨a_k,iX,dR,dY,(some ⟨g,off,none⟩),aJ,bq,aO,aK,aP⟩:bH),rfl,HAT,lQ,rG⟩):P:=h
theorem afe(h:P:=by
 open ajO in exact Ti):P:=h
theorem au0.Kr11(h:P:=by
 go_wp2_with fail;exact bodyPost_ret (v:= .tuple #[uZ ⟨0,F,T,0,0,k,N⟩,.bool true]) Aay rfl ⟨Aau,lT⟩):P:=h
theorem au1.Kr11(h:P:=by
 go_wp2_with fail;exact bodyPost_ret (v:= .tuple #[uZ ⟨0,F,T,0,L,k,N⟩,.bool false]) Aay rfl ⟨Aau,lT⟩):P:=h
theorem au2.Kr11(h:P:=by
 exact adM):P:=h
theorem aff(h:P:=by
 obtain⟨gi,LJ,rfl,xX,awg,hb4⟩:=hcut;have Wq:=Hq (ay aaz hb4);have zq:=Hq (ay kS hb4);have ag2:=Hq (ay SA hb4);have K8:=Hq (ay kU hb4);have pE:=Hq (HB3.trans (hb4.mono HB3.size));have ae3:=Hq (ag5.kc (k:=9) (KC.of_below hb4) Aaa);have hgi:W3.heap.size<=gi:=(xX.lt gi rfl).1;have awm:gi < wc.heap.size:=(xX.lt gi rfl).2
 have axk:(aY s0 mL).length<=LJ:=by
  exact avW
 have axL:=aA Wq;have hIL:(aY s0 mL).length<=1000:=Nat.le_trans (List.length_filter_le _ _) hil;have hW5:WO (wc.setCell ⟨sb,2,none⟩ (.slice (some ⟨gi,0,none⟩) (aY s0 mL).length LJ)) (some ⟨gi,0,none⟩) LJ gi (aY s0 mL):=(WO.of_own (abV aQ xX) xX awg).keeps (aC.set _) (λx hx hm=>by have h1:=(gH hx).1;simp at hm;omega);have zo:=Hq (ae3.kc (k:=9) (w':=wc.setCell ⟨sb,2,none⟩ (.slice (some ⟨gi,0,none⟩) (aY s0 mL).length LJ)) (KC.set (aS Aaa)) Aaa);have Pd:=Hq (zo.seenPut i hi ⟨mF,eH s0 mL,aY s0 mL⟩ (some ⟨gi,0,none⟩) LJ gi hW5 (λx hx=>by rw [(gH hx).1];exact aS Aaa));have axr:G.s≠w.heap.size:=Aaa
 obtain⟨T,hT,hlT,hrT⟩:=ae3.s;obtain⟨_,_,hcT⟩:=hT i Aaa;open ak3 in exact arY):P:=h
theorem au3.Kr12(h:P:=by
 open an6 in exact acM):P:=h
theorem au4.Kr12(h:P:=by
 open an5 in exact acM):P:=h
theorem au5.Kr12(h:P:=by
 have ED:Hid (NQ W6 B (dB n (n.seen.set i ⟨mF,eH s0 mL,aY s0 mL⟩)) (⟨a_k,iX,dR,(some ⟨G.s,0,none⟩),fU,aJ,bq,aO,aK,aP⟩:bH) ⟨G.k,G.p,G.o,G.s,G.r,qZ G.i i gi⟩ (tQ gi (aY s0 mL) (newC w.heap.size 9 c))):=by rw [Vx];exact Pd
 open aur in exact Yr2):P:=h
theorem IW(h:P:=by
 have hb:=aj W0 (.cells #[] 32);have hW1:W1=W0.alloc (.cells #[] 32):=by rw [hW,<-hW0]
 rw [<-hW1] at hb;have HN:=Hq (ay e1 hb);have HO:=Hq (ay e2 hb);have HR:=Hq (ay e3 hb);have HB1:=Hq (e4.trans (hb.mono e4.size));clear hW hW0 hW1 e1 e2 e3 e4 hb;obtain⟨c0,c1,c2,c3,c4,c5,c6,c7,c8⟩:=nine HN;obtain⟨⟨p0,p1,p2,p3,p4,p5,p6,p7,p8,p9,mP⟩,_⟩:=aU HO;exact Kr13):P:=h
theorem au6.Kr13(h:P:=by
 open ajk in exact arD):P:=h
theorem au7.Kr13(h:P:=by
 open amZ in exact acn):P:=h
theorem au8.Kr13(h:P:=by
 open Sr0 in exact Yr0):P:=h
theorem au9.Kr13(h:P:=by
 open Sr1 in exact Yr0):P:=h
theorem ava.Kr13(h:P:=by
 open Sr2 in exact Yr0):P:=h
theorem avb.Kr13(h:P:=by
 open Sr3 in exact Yr0):P:=h
theorem avc.Kr13(h:P:=by
 open Sr4 in exact Yr0):P:=h
theorem avd.Kr13(h:P:=by
 open Sr5 in exact Yr0):P:=h
theorem ave.Kr13(h:P:=by
 open Sr6 in exact Yr0):P:=h
theorem ard(h:P:=by
 go_enter Tryz.func39,Tryz.ntmps39
 go_upto_region 1 with fail;refine wp_at (λW0 hW=>?_);obtain⟨e1,e2,e3,e4⟩:=fC w (.cells (dH n (⟨a_k,(some ⟨gp,0,none⟩),dR,dY,(some ⟨gr,0,none⟩),aJ,bq,aO,aK,aP⟩:bH)) 30) (.cells (bY K no k nn mK mF mT mI mL mk mN) 34) (.cells gu 30);open aoG in exact WI):P:=h
theorem avf.Kr14(h:P:=by
 have hnl:=aA kS;have awQ:=aA Pf;go_upto_region 13 with fail;refine wp_at (λW4 TJ=>?_);have zq:Hid (W4.heap[w.heap.size]?=some (.cells (fK n.id n.par a_k n.kids.length aJ n.next (some ⟨gp,0,none⟩) n.pu.length bq dR n.out.length aO dY n.seen.length aK n.old (some ⟨gr,0,none⟩) n.reqs.length aP) 30 (0,0))):=by rw [TJ];exact kS
 have afa:Hid (W4.heap[W1.heap.size]?=some (.cells (dX no k nn 1) 97 (0,0))):=by rw [TJ];exact Pf
 have aas:Hid (W4.heap[w.heap.size+1]?=some (.cells (bY K no k nn mK mF mT mI mL mk mN) 34 (0,0))):=by rw [TJ];exact IL
 have K8:Hid (W4.heap[w.heap.size+2]?=some (.cells gu 30 (0,0))):=by rw [TJ];exact kU
 have pE:Hid (aX w W4):=by rw [TJ];exact HB3
 open amL in exact acf):P:=h
theorem avg.Kr14(h:P:=by
 have hnl:=aA kS;have awQ:=aA Pf;go_upto_region 13 with fail;refine wp_at (λW4 TJ=>?_);have hne1:w.heap.size≠W1.heap.size:=Aaa
 have zq:Hid (W4.heap[w.heap.size]?=some (.cells (fK n.id n.par a_k n.kids.length aJ n.next av RL.length cv dR n.out.length aO dY n.seen.length aK n.old (some ⟨gr,0,none⟩) n.reqs.length aP) 30 (0,0))):=by rw [TJ];exact gK _ hne1 (bC kS 4 _)
 have afa:Hid (W4.heap[W1.heap.size]?=some (.cells (dX no k nn 0) 97 (0,0))):=by rw [TJ];exact bC (gK _ hne1.symm Pf) 3 _
 have aas:Hid (W4.heap[w.heap.size+1]?=some (.cells (bY K no k nn mK mF mT mI mL mk mN) 34 (0,0))):=by rw [TJ];exact gK _ Aaa (gK _ Aaa IL)
 have K8:Hid (W4.heap[w.heap.size+2]?=some (.cells gu 30 (0,0))):=by rw [TJ];exact gK _ Aaa (gK _ Aaa kU)
 have pE:Hid (aX w W4):=by rw [TJ];exact(HB3.setCell (p:=⟨w.heap.size,4,none⟩) (Nat.le_refl _) _).setCell (p:=⟨W1.heap.size,3,none⟩) Aag _
 have SI:Hid (LO 143 fE 4 (w.heap.size+3) W4 av cv RL):=by
  rw [TJ];have hk:aC [w.heap.size,W1.heap.size] W3 ((W3.setCell ⟨w.heap.size,4,none⟩ (.slice av RL.length cv)).setCell ⟨W1.heap.size,3,none⟩ (.int .i64 0)):=((aC.set _).mono Aac).trans ((aC.set _).mono Aac);exact(HRW.keeps hk (λx hx=>Aaj)).lower Aaa
 open amK in exact acf):P:=h
theorem Po(h:P:=by
 have HW:=Hq h;obtain⟨K,no,k,nn,⟨mK,mF,mT,mI,mL,mk,mN⟩⟩:=o;dsimp only at *;open ajX in exact Tj):P:=h
theorem avh.Kr15(h:P:=by
 go_enter Tryz.func109,Tryz.ntmps109
 open ahC in exact Tf):P:=h
theorem avi.Kr15(h:P:=by
 go_enter Tryz.func109,Tryz.ntmps109
 open ahB in exact Tf):P:=h
theorem avj.Kr15(h:P:=by
 go_enter Tryz.func109,Tryz.ntmps109
 exact asC):P:=h
theorem avk.Kr15(h:P:=by
 go_enter Tryz.func108,Tryz.ntmps108
 open ahA in exact Tf):P:=h
theorem avl.Kr15(h:P:=by
 go_enter Tryz.func108,Tryz.ntmps108
 open ahz in exact Tf):P:=h
theorem avm.Kr15(h:P:=by
 go_enter Tryz.func108,Tryz.ntmps108
 exact asC):P:=h
theorem avn.Kr15(h:P:=by
 go_enter Tryz.func109,Tryz.ntmps109
 open ahy in exact Tf):P:=h
theorem arf(h:P:=by
 have HUN:=Hq (λW (ha:aH W (some ⟨gp,0,none⟩) n.pu)=>OC gp 0 bq n.pu n.reqs[i].k n.reqs[i].n W (Nat.le_trans hz.p Aaa) tu hz.pk (hz.rk _ (List.getElem_mem hi)) ha);unfold iH at HUN;rw [hu] at HUN;clear hR hst hz tu hu;have hp:=iM hok;have K7:=Hq (λW1 (ha:iU W1 fU n.reqs)=>yP n (⟨a_k,(some ⟨gp,0,none⟩),dR,dY,fU,aJ,bq,aO,aK,aP⟩:bH) no W1 Aaa hp.1 ha);rw [hJ] at K7;clear hp hok;unfold gY;have H9:=Hq h9;clear h9;have hbw0:=aj w (.cells (dH n (⟨a_k,(some ⟨gp,0,none⟩),dR,dY,fU,aJ,bq,aO,aK,aP⟩:bH)) 30);open ant in exact Rl):P:=h
theorem avo.Kr16(h:P:=by
 open ahH in exact arn):P:=h
theorem avp.Kr16(h:P:=by
 open ahG in exact arn):P:=h
theorem arh(h:P:=by
 obtain⟨⟨p0,p1,p2,p3,p4,p5,p6,p7,p8,p9,mP⟩,_⟩:=aU SH;have hol:=aA SH;obtain⟨c0,c1,c2,c3,c4,c5,c6,c7,c8⟩:=nine jZ;obtain⟨d0,d1,d2,d3,d4,d5,d6,d7,d8⟩:=nine ow;have f0:=au ow 0;have f1:=au ow 1;have f2:=au ow 2;have f3:=au ow 3;have f4:=au ow 4;have f5:=au ow 5;have f6:=au ow 6;have f7:=au ow 7;have f8:=au ow 8;have hnl:=aA jZ;have hrl:=aA ow;clear q0;dsimp only at e0;subst e0;go_wp2_with fail;go_quiet (fail);go_wp2_with fail;refine aN (λW' hW'=>?_)
 have e4:W'.heap[w.heap.size+2]?=some (.cells (fK n.id n.par a_k n.kids.length aJ n.next iX n.pu.length bq dR n.out.length aO dY n.seen.length aK n.old (some ⟨g,off,none⟩) n.reqs.length aP) 30 (0,0)):=by
  rw [hW'];exact GR.setW_blk (fK n.id n.par a_k n.kids.length aJ n.next iX n.pu.length bq dR n.out.length aO dY n.seen.length aK n.old (some ⟨g,off,none⟩) n.reqs.length aP).toList (o:=0) (xs:=gu.toList) ow
 have fH:aC [w.heap.size+2] W1 W':=by
  rw [hW'];exact aC.trans (b:=W1.drewN nq) ⟨rfl,rfl,rfl,Nat.le_refl _,λ_ _ _=>rfl⟩ (aL (fK n.id n.par a_k n.kids.length aJ n.next iX n.pu.length bq dR n.out.length aO dY n.seen.length aK n.old (some ⟨g,off,none⟩) n.reqs.length aP).toList (W1.drewN nq) 0)
 have HAT:=Hq (λW'' (ho:Out c w W' W'')=>(xq.kc (k:=9) ((KC.keeps fH (λx hx=>by have:x=w.heap.size+2:=Aaf;rw [this];exact aS Aaa)).trans (KC.out H9 ho)) Aaa).rm);have lQ:Hid (Below B w W'):=(HB1.mono hB).trans (fH.below (λx hx=>by have:x=w.heap.size+2:=Aaf;omega) (Nat.le_trans hB (HB1.mono hB).size));have rG:=Hq (Apart.keeps (c:=c) (Apart.of_below (HB1)) (HB1.mono hB).size fH (λx hx=>by have:x=w.heap.size+2:=Aaf;omega));obtain⟨x0,x1,x2,x3,x4,x5,x6,x7,x8⟩:=nine e4;clear hW' e4 fH;exact Kr17):P:=h
theorem avq.Kr17(h:P:=by
 exact bodyPost_ret (v:= .tuple #[.agg (fK n.id n.par a_k n.kids.length aJ n.next iX n.pu.length bq dR n.out.length aO dY n.seen.length aK n.old (some ⟨g,off,none⟩) n.reqs.length aP),.int .i64 0]) Abl rfl ⟨(⟨a_k,iX,dR,dY,(some ⟨g,off,none⟩),aJ,bq,aO,aK,aP⟩:bH),rfl,HAT,lQ,rG⟩):P:=h
theorem avr.Kr17(h:P:=by
 exact bodyPost_ret (v:= .tuple #[.agg (fK n.id n.par a_k n.kids.length aJ n.next iX n.pu.length bq dR n.out.length aO dY n.seen.length aK n.old (some ⟨g,off,none⟩) n.reqs.length aP),.int .i64 1]) Abl rfl ⟨(⟨a_k,iX,dR,dY,(some ⟨g,off,none⟩),aJ,bq,aO,aK,aP⟩:bH),rfl,HAT,lQ,rG⟩):P:=h
theorem aaG(h:P:=by
 have hwl:=aA h.blk;have HIO:=Hq (λw1=>MF o w1);rw [ho] at HIO;obtain⟨K,no,k,nn,⟨mK,mF,mT,mI,mL,mk,mN⟩⟩:=o;dsimp only at *;open ajW in exact Tj):P:=h
theorem avs.Kr18(h:P:=by
 obtain rfl:=ah HKQ;obtain⟨⟨p0,p1,p2,p3,p4,p5,p6,p7,p8,p9,mP⟩,_⟩:=aU yZ;have aga:=aA yZ;go_wp2_with fail;refine(HAD w2 HW2).mono ?_;rintro e w3 ⟨rfl,hb3⟩;have HW3:=Hq (HW2.step hb3);have Vm:=Hq (ay yZ hb3);clear hb3 HAD;go_upto_region 4 with fail;refine wp_at (λW hW=>?_);have e1:W.heap[w3.heap.size]?=some (.cells #[.func (.func 107) #[.pointer (some ⟨wb,0,none⟩)] #[],.func (.func 108) #[.pointer (some ⟨wb,0,none⟩)] #[],.func (.func 109) #[.pointer (some ⟨wb,0,none⟩)] #[],.func (.func 110) #[.pointer (some ⟨wb,0,none⟩)] #[],.func (.func 111) #[.pointer (some ⟨wb,0,none⟩)] #[],.func (.func 50) #[.pointer (some ⟨wb,0,none⟩)] #[],.func (.func 112) #[.pointer (some ⟨wb,0,none⟩)] #[]] 140 (0,0)):=Abu
 have e2:=aj w3 (.cells #[.func (.func 107) #[.pointer (some ⟨wb,0,none⟩)] #[],.func (.func 108) #[.pointer (some ⟨wb,0,none⟩)] #[],.func (.func 109) #[.pointer (some ⟨wb,0,none⟩)] #[],.func (.func 110) #[.pointer (some ⟨wb,0,none⟩)] #[],.func (.func 111) #[.pointer (some ⟨wb,0,none⟩)] #[],.func (.func 50) #[.pointer (some ⟨wb,0,none⟩)] #[],.func (.func 112) #[.pointer (some ⟨wb,0,none⟩)] #[]] 140);rw [<-hW] at e2;have vJ:=Hq (HW3.step e2);have SI:=Hq (ay Vm e2);have c0:W.cell? ⟨w3.heap.size,6,none⟩=some (.func (.func 112) #[.pointer (some ⟨wb,0,none⟩)] #[]):=cell_of_row W _ 6 _ _ (0,0) e1;exact Zr4):P:=h
theorem avt.Kr18(h:P:=by
 obtain⟨⟨p0,p1,p2,p3,p4,p5,p6,p7,p8,p9,mP⟩,_⟩:=aU yZ;have aga:=aA yZ;have hK6:=ah HK6;go_wp2_with fail;refine(HAD w2 HW2).mono ?_;rintro e w3 ⟨rfl,hb3⟩;have HW3:=Hq (HW2.step hb3);clear hb3 p0 p1 p2 p3 p4 p5 p6 p7 p8 p9 mP HAD;go_wp2_with fail;go_ret;exact⟨rfl,A,G,c,v,by rw [List.append_nil];exact HW3⟩):P:=h
theorem avu.Kr18(h:P:=by
 go_wp2_with fail;go_ret;exact⟨rfl,A,G,c,v,by rw [List.append_nil];exact HW2⟩):P:=h
theorem avv.Kr18(h:P:=by
 obtain rfl:=ah HKQ;obtain⟨⟨p0,p1,p2,p3,p4,p5,p6,p7,p8,p9,mP⟩,_⟩:=aU yZ;have aga:=aA yZ;go_upto_region 4 with fail;refine wp_at (λW hW=>?_);have e1:W.heap[w2.heap.size]?=some (.cells #[.func (.func 107) #[.pointer (some ⟨wb,0,none⟩)] #[],.func (.func 108) #[.pointer (some ⟨wb,0,none⟩)] #[],.func (.func 109) #[.pointer (some ⟨wb,0,none⟩)] #[],.func (.func 110) #[.pointer (some ⟨wb,0,none⟩)] #[],.func (.func 111) #[.pointer (some ⟨wb,0,none⟩)] #[],.func (.func 50) #[.pointer (some ⟨wb,0,none⟩)] #[],.func (.func 112) #[.pointer (some ⟨wb,0,none⟩)] #[]] 140 (0,0)):=Abu
 have e2:=aj w2 (.cells #[.func (.func 107) #[.pointer (some ⟨wb,0,none⟩)] #[],.func (.func 108) #[.pointer (some ⟨wb,0,none⟩)] #[],.func (.func 109) #[.pointer (some ⟨wb,0,none⟩)] #[],.func (.func 110) #[.pointer (some ⟨wb,0,none⟩)] #[],.func (.func 111) #[.pointer (some ⟨wb,0,none⟩)] #[],.func (.func 50) #[.pointer (some ⟨wb,0,none⟩)] #[],.func (.func 112) #[.pointer (some ⟨wb,0,none⟩)] #[]] 140);rw [<-hW] at e2;have vJ:=Hq (HW2.step e2);have SI:=Hq (ay yZ e2);exact Kr1):P:=h
theorem ari(h:P:=by
 open amD in exact WB):P:=h
theorem avw.Kr19(h:P:=by
 have Pe:=Hq (ay IU hz);clear hz y0 y1 y2 y3 y4 y5 y6 y7 y8 z1 Pk;go_simp;obtain⟨⟨p0,p1,p2,p3,p4,p5,p6⟩,_⟩:=dG Pe;have hBz:=aA Pe;go_wp2_with fail;refine(CG z HZ).mono ?_;rintro e y ⟨rfl,A',G',c',v',hY⟩;have HY:=Hq hY;clear hY CG p0 p1 p2 p3 p4 p5 p6;go_wp2_with fail;go_ret;exact⟨rfl,A',G',c',v',HY⟩):P:=h
theorem avx.Kr19(h:P:=by
 clear hz y0 y1 y2 y3 y4 y5 y6 y7 y8 z1 Pk;exact aep):P:=h
theorem Pp(h:P:=by
 refine wp_region_quiet_below Aab Aab ?_;repeat (first|go_big_quiet_step (exact cO _ _)|quiet_step (exact cO _ _))
 refine wpQuiet_nil ?_;intro _ hw';obtain⟨⟨dq,osq⟩,hw''⟩:=hw';subst hw'';have lT:=Hq (uR.trans ((below_regrown _ dq osq).mono uR.size));exact Kr20):P:=h
theorem avy.Kr20(h:P:=by
 clear y0 y1 y2 y3 y4 cO
 all_goals
  go_wp2_with fail
  go_roundw
  case rel=>exact⟨(j+1)+1,Aaa,Aai,Aco,lT⟩
  case measure=>simp[intOf];omega):P:=h
theorem avz.Kr20(h:P:=by
 clear y0 y1 y2 y3 cO
 all_goals
  go_wp2_with fail
  go_roundw
  case rel=>exact⟨0+1,Aaa,Aai,Aco,lT⟩
  case measure=>simp[intOf];omega):P:=h
theorem avA.Kr20(h:P:=by
 clear y0 y1 y2 y3 cO
 all_goals
  go_wp2_with fail
  go_ret
  exact⟨aD HBAD.symm,lT⟩):P:=h
theorem avB.Kr20(h:P:=by
 clear cO y0 y1 y2 y3 y4 y5 y6;exact adN):P:=h
theorem avC.Kr20(h:P:=by
 clear cO y0 y1 y2 y3 y4 y5 y6;go_wp2_with fail;exact bodyPost_ret (v:= .tuple #[uZ ⟨1,F,T,I,L,k,N⟩,.bool false]) Aay rfl ⟨Aau,lT⟩):P:=h
theorem avD.Kr20(h:P:=by
 clear cO y0 y1 y2 y3 y4 y5 y6;exact adM):P:=h
theorem avE.Kr20(h:P:=by
 clear y0 y1 y2 y3 y4 cO
 all_goals
  go_wp2_with fail
  go_ret
  exact⟨aD HBAD.symm,lT⟩):P:=h
theorem arj(h:P:=by
 generalize yR (tl s a)=z at *;clear e1 e2 hrs hub hsz hH hcap;generalize kR (jA (BP (tl s a)))=bW at *;generalize jA (BP (tl s a))=n at *;generalize s.extract a (a+4)=hd at *;have HQ:=Hq hq;clear hn hq;have hz2:¬(z < 0):=Aaa
 have hz3:decide (z < 0)=false:=decide_eq_false hz2;generalize BP (tl s a)=tx at *;generalize iD (tl s a)=rs at *;have HC:=Hq hc;clear hc;open ap4 in exact adn):P:=h
theorem avF.Kr21(h:P:=by
 exact bodyPost_ret (v:= .tuple #[.string tx,.int .i64 (a+4+z)]) Acn rfl ⟨rfl,nG⟩):P:=h
theorem avG.Kr21(h:P:=by
 exact bodyPost_ret (v:= .tuple #[.string ⟨#[]⟩,.int .i64 (-1)]) Acn rfl ⟨rfl,nG⟩):P:=h
theorem Pq(h:P:=by
 clear e5 hkx hX d0 d1 d2 d3 d4 d5 d6 d7 d8 f0 f1 f2 f3 f4 f5 f6 f7 f8 p0 p1 p2 p3 p4 p5 p6 p7 p8 p9 mP hnl hol kS IL kU HB3 jP jW;obtain⟨c0,c1,c2,c3,c4,c5,c6,c7,c8⟩:=nine gG;obtain⟨⟨p0,p1,p2,p3,p4,p5,p6,p7,p8,p9,mP⟩,_⟩:=aU HOX;have hnl:=aA gG;have hol:=aA HOX;exact Kr22):P:=h
theorem avH.Kr22(h:P:=by
 open aky in exact arS):P:=h
theorem avI.Kr22(h:P:=by
 go_wp2_with fail;refine(jO X A1 G1 c (Nat.zero_le _) H9 HPR zo).mono ?_;rintro e W5 ⟨A2,rfl,hat,hb5,hap⟩;open aol in exact acS):P:=h
theorem avJ.Kr22(h:P:=by
 go_wp2_with fail;refine(jO X A1 G1 c (Nat.zero_le _) H9 HPR zo).mono ?_;rintro e W5 ⟨A2,ma,mc,rfl,hat,hmt,hb5,hap⟩;have aaj:=Hq hmt;clear hmt;open aok in exact acS):P:=h
theorem avK.Kr22(h:P:=by
 go_upto_region 23 with fail;clear p0 p1 p2 p3 p4 p5 p6 p7 p8 p9 mP hol;open ajc in exact Xf):P:=h
theorem avL.Kr22(h:P:=by
 go_upto_region 26 with fail;have hrx:=aA oZ;have y0:=cK (b:=w.heap.size+2) Aaa c0;have y1:=cK (b:=w.heap.size+2) Aaa c1;have y2:=cK (b:=w.heap.size+2) Aaa c2;have y3:=cK (b:=w.heap.size+2) Aaa c3;have y4:=cK (b:=w.heap.size+2) Aaa c4;have y5:=cK (b:=w.heap.size+2) Aaa c5;have y6:=cK (b:=w.heap.size+2) Aaa c6;have y7:=cK (b:=w.heap.size+2) Aaa c7;have y8:=cK (b:=w.heap.size+2) Aaa c8;have z2:=cK (b:=w.heap.size+2) Aaa p2;have z3:=cK (b:=w.heap.size+2) Aaa p3;have hwb:w.heap.size+2<=X.heap.size:=Aaa
 clear c0 c1 c2 c3 c4 c5 c6 c7 c8 p0 p1 p2 p3 p4 p5 p6 p7 p8 p9 mP;refine lN 12 (w.heap.size+2) Aab ?_;show iR _ _ _ _ _ _ 14 (Array.replicate 14 false) _ _
 refine tk [0,1,2,3,4,5,6,7,8,9] ?_;iterate 10 (refine tkB hwb (λK hK=>?_);go_simp;first|refine hK _ ?_|(apply Exists.intro;refine⟨λ_=>?_,hK _ ?_⟩;rfl);clear hK K)
 refine iN ?_;clear y0 y1 y2 y3 y4 y5 y6 y7 y8 z2 z3 hwb hnl hol gG HOX;refine jM 10 11 rfl rfl Aab Aad Aad Aae Aae (λx hx=>?_) (λx hx=>?_)
 .go_simp;refine⟨(aj x _).mono (by have:=hx.size;omega),?_⟩;have EB:=Hq (Ge.trans hx (aj x (.cells (bJ 0 n.id n.par 0 0 k nn) 32)));have HM1:=Hq (heap_alloc_new x (.cells (bJ 0 n.id n.par 0 0 k nn) 32));have hxs:=hx.size;clear hx;refine gF 11 rfl Aab Aad Aae (λy hy=>?_);have HY:=Hq (Ge.trans EB hy);have HMY:=Hq (ay HM1 hy);have Kw:=Hq (ay oZ HY);clear hy HM1 EB;open am7 in exact acs
 .have Kw:=Hq (ay oZ hx);have hxs:=hx.size;open am6 in exact acs):P:=h
theorem avM.Kr22(h:P:=by
 go_upto_region 19 with fail;open ahr in exact EK):P:=h
theorem avN.Kr22(h:P:=by
 open akx in exact arS):P:=h
theorem ark(h:P:=by
 have hml:=aA xB;have tO:=Hq (ay jk (aj W2 (.cells #[] 32)));have Vl:=Hq (KP.kc (k:=9) (KC.of_below (aj W2 (.cells #[] 32))) Aaa);have tZ:=Hq (HB2.trans ((aj W2 (.cells #[] 32)).mono HB2.size));obtain⟨c0,c1,c2,c3,c4,c5,c6,c7,c8⟩:=nine jE;open aij in exact Tg):P:=h
theorem avP.Kr23(h:P:=by
 exact bodyPost_ret (v:= .tuple #[(fI n A),.slice (some ⟨W2.heap.size,0,none⟩) 0 0,.int .i64 3]) Abt rfl ⟨A,some ⟨W2.heap.size,0,none⟩,0,rfl,HAT,λW'' _ i hi=>Aas,lQ,rG⟩):P:=h
theorem ahk.Kr23(h:P:=by
 exact bodyPost_ret (v:= .tuple #[(fI n A),.slice (some ⟨W2.heap.size,0,none⟩) 0 0,.int .i64 1]) Abt rfl ⟨A,some ⟨W2.heap.size,0,none⟩,0,rfl,HAT,λW'' _ i hi=>Aas,lQ,rG⟩):P:=h
theorem afg(h:P:=by
 obtain⟨rfl,hge⟩:=hcut;have jZ:=Hq (ay aar hge);have KO:=Hq (ay aak hge);have ow:=Hq (ay ahc hge);have HB1:=Hq (HB0.trans (hge.mono HB0.size));have SG:=Hq (aao.kc (k:=9) (KC.of_below hge) Aaa);have afd:=Hq (HWI.below hge);have hz1:w.heap.size+3<=wc.heap.size:=by have:=aA ow;omega
 obtain⟨t0,t1,t2⟩:=ah HT;have u0:=(hge.cell (p:=⟨G.s,i*3,none⟩) hgs0).trans t0;have u1:=(hge.cell (p:=⟨G.s,i*3+1,none⟩) hgs0).trans t1;have u2:=(hge.cell (p:=⟨G.s,i*3+2,none⟩) hgs0).trans t2;clear t0 t1 t2 hge c0 c1 c2 c3 c4 c5 c6 c7 c8 m0 m1 m2 m3 m4 m5 m6 hnl hml aar aak ahc HB0 aao HWI HT;obtain⟨c0,c1,c2,c3,c4,c5,c6,c7,c8⟩:=nine jZ;have hnl:=aA jZ;have axx:(i:Int) < (n.seen.length:Int):=Aaa
 go_upto_region 5 with fail;refine wp_at (λW2 hW2=>?_);have hb2:=aj wc (.cells #[.int .i64 mF,.int .i64 s0.l,.slice bi s0.ids.length ci] 90);have hs2:=heap_alloc_new wc (.cells #[.int .i64 mF,.int .i64 s0.l,.slice bi s0.ids.length ci] 90);rw [<-hW2] at hb2 hs2;obtain⟨sb,hsb⟩:∃sb,wc.heap.size=sb:=⟨_,rfl⟩;rw [hsb] at hs2 hz1;have SV:=Hq hs2;have jE:=Hq (ay jZ hb2);have xB:=Hq (ay KO hb2);have jk:=Hq (ay ow hb2);have HB2:=Hq (HB1.trans (hb2.mono HB1.size));have ag4:=Hq (SG.kc (k:=9) (KC.of_below hb2) Aaa);have ahh:=Hq (afd.below hb2);have hilt:∀x∈fp (G.i i) s0.ids,x < sb:=λx hx=>by rw [<-hsb];exact ara afd x hx
 rw [hsb] at *;clear hW2 hb2 hs2 u0 u1 u2 c0 c1 c2 c3 c4 c5 c6 c7 c8 hnl jZ KO ow HB1 SG afd;obtain⟨m0,m1,m2,m3,m4,m5,m6⟩:=jr xB;obtain⟨s00,s01,s02⟩:=Ao SV;have sf:=au SV 1;have hml:=aA xB;have hsl2:=aA SV;go_upto_if 35 with fail;exact Kr24):P:=h
theorem ahl.Kr24(h:P:=by
 go_cut [8] from 15 (λp wx=>p= .pointer (some ⟨sb,0,none⟩)/\wx.heap[sb]?=some (.cells #[.int .i64 mF,.int .i64 (eH s0 mL),.slice bi s0.ids.length ci] 90 (0,0))/\aC [sb] W2 wx)
 case first=>
  exact afB
 case rest=>
  open aia in exact afh):P:=h
theorem ahm.Kr24(h:P:=by
 go_cut [8] from 15 (λp wx=>p= .pointer (some ⟨sb,0,none⟩)/\wx.heap[sb]?=some (.cells #[.int .i64 mF,.int .i64 (eH s0 mL),.slice bi s0.ids.length ci] 90 (0,0))/\aC [sb] W2 wx)
 case first=>
  exact afB
 case rest=>
  open ah9 in exact afh):P:=h
theorem ahn.Kr24(h:P:=by
 go_cut [8] from 15 (λp wx=>p= .pointer (some ⟨sb,0,none⟩)/\wx.heap[sb]?=some (.cells #[.int .i64 mF,.int .i64 (eH s0 mL),.slice bi s0.ids.length ci] 90 (0,0))/\aC [sb] W2 wx)
 case first=>
  exact afB
 case rest=>
  open ah8 in exact afh):P:=h
theorem EK(h:P:=by
 have y0:=cell_regrown c0;have y1:=cell_regrown c1;have y2:=cell_regrown c2;have y3:=cell_regrown c3;have y4:=cell_regrown c4;have y5:=cell_regrown c5;have y6:=cell_regrown c6;have y7:=cell_regrown c7;have y8:=cell_regrown c8;exact Kr25):P:=h
theorem aho.Kr25(h:P:=by
 have x0:=cell_regrown d0;have x1:=cell_regrown d1;have x2:=cell_regrown d2;have x3:=cell_regrown d3;clear c0 c1 c2 c3 c4 c5 c6 c7 c8 c9 d0 d1 d2 d3 HR3;refine bE 7 Aab ?_;show eF _ _ _ _ _ 8 (Array.replicate 8 false) _ _
 refine tk [0,1,2,3,4,5] ?_;iterate 6 (refine qA (λK hK=>?_);go_simp;refine hK _ ?_;clear hK K)
 refine iN ?_;refine uP 6 20 rfl Aab Aab Aab Aab Aab (λ_ _ _ _ h=>h) (λK hK=>?_);go_simp
 first
  |(refine hK _ ?_;clear hK K)
  |(apply Exists.intro
    refine⟨λ_=>?_,hK _ ?_⟩
    (exact auh _)
    clear hK K)
 clear y0 y1 y2 y3 y4 y5 y6 y7 y8 x0 x1 x2 x3;refine aT Aab (λx hx=>?_);have Gu:=Hq (HSY x cc vv k hk ⟨qK,qF,qT,qI,qL,qk,qN⟩ HKk (HS3.step hx));clear hx HS3;refine aF 7 rfl Aab Aad ?_;go_simp;refine Gu.mono ?_;rintro e y ⟨rfl,c',v',hY⟩;have HY:=Hq hY;clear hY Gu;refine wpAny_done Aab ?_;go_simp;go_wp2_with fail;go_roundw
 case rel=>exact⟨k+1,c',v',Aaa,Aai,by rw [ah HT];exact HY⟩
 case measure=>simp[intOf];omega):P:=h
theorem ahp.Kr25(h:P:=by
 have z1:=cell_regrown p1;have z2:=cell_regrown p2;clear c0 c1 c2 c3 c4 c5 c6 c7 c8 c9 p0 p1 p2 p3 p4 p5 p6 xD HW1;by_cases hT:mT=n.id
 .have hq:(mT == n.id)=true:=by simpa using hT
  have HD:=Hq (show(decide (mT=n.id)&&nb)=nb by rw [decide_eq_true hT];rfl);exact asv
 .have hq:(mT == n.id)=false:=by simpa using hT
  have HD:=Hq (show(decide (mT=n.id)&&nb)=false by rw [decide_eq_false hT];rfl);exact asv):P:=h
theorem ahq.Kr25(h:P:=by
 have y9:=cell_regrown c9;have y10:=cell_regrown c10;clear e0 e1 c0 c1 c2 c3 c4 c5 c6 c7 c8 c9 c10;generalize bV ⟨s[0].toNat,N1,TX,N2,⟨mK,mF,mT,mI,mL,mk,mN⟩⟩=bo at *;refine dw Aab ?_;show gX _ _ _ _ 15 (Array.replicate 15 false) _ _
 refine tk [0,1,2,3,4,5,6,7,8,9,10,11] ?_;iterate 12 (refine tY (λK hK=>?_);go_simp;refine hK _ ?_;clear hK K)
 refine iN ?_;refine dD 12 rfl Aab Aab Aab (λ_ _ _ _ h=>h) (λK hK=>?_);go_simp
 first
  |(refine hK _ ?_;clear hK K)
  |(apply Exists.intro
    refine⟨λ_=>?_,hK _ ?_⟩
    (exact lS _)
    clear hK K)
 refine tk [13,14] ?_;open aph in exact WW):P:=h
theorem ahr.Kr25(h:P:=by
 clear c0 c1 c2 c3 c4 c5 c6 c7 c8;refine bE 3 Aab ?_;show eF _ _ _ _ _ 6 (Array.replicate 6 false) _ _
 refine tk [0,1] ?_;iterate 2 (refine qA (λK hK=>?_);go_simp;refine hK _ ?_;clear hK K)
 refine iN ?_;clear y0 y1 y2 y3 y4 y5 y6 y7 y8;refine dz 2 rfl Aab Aad (λx hx=>?_);go_simp;refine(jO x A1 (zo.at.below hx)).mono ?_;rintro e y ⟨ma,mc,rfl,g,hmw,hml,hby⟩;refine⟨hby,?_⟩;have HY:=Hq (Ge.trans hx hby);have hxs:=hx.size;clear hx hby jO gG HOX p0 p1 p2 p3 p4 p5 p6 p7 p8 p9 mP hnl hol;refine aT Aab (λz hz=>?_);have HZ:=Hq (Ge.trans HY hz);have Gs:=Hq (ay oZ HZ);have nG:=Hq (kE.trans (HZ.mono kE.size));have Cb:=Hq (zo.kc (k:=9) (KC.of_below HZ) Aaa);have TL:∀x'∈fp g L1,(λq=>if q<=w.heap.size+2 then 9 else 0) x'=0:=λx' hx'=>if_neg (by have:=(hml x' hx').1;have:=aA oZ;omega)
 have HMW:=Hq ((KC.of_below (c:=λq=>if q<=w.heap.size+2 then 9 else 0) (k:=9) hz).w hmw TL Aaa);have agU:=Hq TL;clear hz TL hmw hml HY HZ zo kE oZ;obtain⟨d0,d1,d2,d3,d4,d5,d6,d7,d8⟩:=nine Gs;have f0:=au Gs 0;have f1:=au Gs 1;have f2:=au Gs 2;have f3:=au Gs 3;have f4:=au Gs 4;have f5:=au Gs 5;have f6:=au Gs 6;have f7:=au Gs 7;have f8:=au Gs 8;have hrl:=aA Gs;refine aF 3 rfl Aab Aad ?_;go_simp;refine aF 4 rfl Aab Aad ?_;go_simp;refine aF 5 rfl Aab Aad ?_;go_simp;refine wpAny_done Aab ?_;go_simp;clear d0 d1 d2 d3 d4 d5 d6 d7 d8 f0 f1 f2 f3 f4 f5 f6 f7 f8 hrl;go_wp2_with fail;refine aN (λW' hW'=>?_)
 have e4:W'.heap[w.heap.size+2]?=some (.cells (dH n A1) 30 (0,0)):=by
  rw [hW'];exact GR.setW_blk (dH n A1).toList (o:=0) (xs:=gu.toList) Gs
 have fH:aC [w.heap.size+2] z W':=by
  rw [hW'];exact aL (dH n A1).toList z 0
 have HMT:=Hq ((KC.keeps (c:=λq=>if q<=w.heap.size+2 then 9 else 0) (k:=9) fH (λx hx=>if_pos (by have:x=w.heap.size+2:=(by simpa using hx);omega))).w HMW agU Aaa);have HAT:=Hq (λW'' (ho:Co w W' W'')=>((Cb.kc (k:=9) (KC.keeps fH (λx hx=>by have:x=w.heap.size+2:=Aaf;rw [this];exact wY)) Aaa).kc (k:=9) (ho.kc (λx hx=>VG x Aaa)) Aaa).rm);have lQ:Hid (aX w W'):=nG.trans (fH.below (λx hx=>by have:x=w.heap.size+2:=Aaf;omega) nG.size);obtain⟨x0,x1,x2,x3,x4,x5,x6,x7,x8⟩:=nine e4;clear hW' e4 fH;exact bodyPost_ret (v:= .tuple #[(fI n A1),.slice ma L1.length mc,.int .i64 0]) Aaz rfl ⟨A1,ma,⟨mc,rfl⟩,HAT,λW'' ho=>((ho.kc (c:=λq=>if q<=w.heap.size+2 then 9 else 0) (k:=9) (λx hx=>if_pos Aaa)).w HMT agU Aaa).at,lQ⟩):P:=h
theorem ahs.Kr25(h:P:=by
 have z1:=cell_regrown p1;clear c0 c1 c2 c3 c4 c5 c6 c7 c8 c9 p0 p1 p2 p3 p4 p5 p6;refine dw Aab ?_;show gX _ _ _ _ 8 (Array.replicate 8 false) _ _
 refine tk [0,1,2,3,4,5] ?_;iterate 6 (refine tY (λK hK=>?_);go_simp;refine hK _ ?_;clear hK K)
 refine iN ?_;refine dD 6 rfl Aab Aab Aab (λ_ _ _ _ h=>h) (λK hK=>?_);go_simp
 first
  |(refine hK _ ?_;clear hK K)
  |(apply Exists.intro
    refine⟨λ_=>?_,hK _ ?_⟩
    (exact HKD _ (Pk _))
    clear hK K)
 refine tk [7] ?_;(refine tY (λK hK=>?_);go_simp;refine hK _ ?_;clear hK K)
 refine iN ?_;refine eX Aab (λz hz=>?_);have HZ:=Hq (HW1.step hz);exact Kr19):P:=h
theorem aht.Kr25(h:P:=by
 have hnl:=aA lq;have hnr:=aA jl;have hnq:=aA Bu;clear c0 c1 c2 c3 c4 c5 c6 c7 c8;go_cut [5] from 11 (λcd wx=>cd= .int .i64 0/\wx.heap[w.heap.size+2]?=some (.cells (fK n.id n.par a_k n.kids.length aJ n.next av RL.length cv dR n.out.length aO dY n.seen.length aK n.old (some ⟨gv,0,none⟩) (n.reqs.length+1) vc) 30 (0,0))/\aC [w.heap.size+2] wc wx)
 case first=>
  open akd in exact aaK
 case rest=>
  open apE in exact adb):P:=h
theorem ahu.Kr25(h:P:=by
 have hnl:=aA vZ;have hnr:=aA kJ;have hnq:=aA IV;clear c0 c1 c2 c3 c4 c5 c6 c7 c8;go_cut [5] from 11 (λcd wx=>cd= .int .i64 0/\wx.heap[w.heap.size+2]?=some (.cells (fK n.id n.par a_k n.kids.length aJ n.next av RL.length cv dR n.out.length aO dY n.seen.length aK IH.no (some ⟨g8,0,none⟩) n.reqs.length CV) 30 (0,0))/\aC [w.heap.size+2] W9 wx)
 case first=>
  open akc in exact aaK
 case rest=>
  open apG in exact ade):P:=h
theorem ahv.Kr25(h:P:=by
 have hnl:=aA lq;have hnr:=aA jl;have hnq:=aA Bu;clear c0 c1 c2 c3 c4 c5 c6 c7 c8;go_cut [5] from 11 (λcd wx=>cd= .int .i64 1/\wx.heap[w.heap.size+2]?=some (.cells (fK n.id n.par a_k n.kids.length aJ n.next (some ⟨gp,0,none⟩) n.pu.length bq dR n.out.length aO dY n.seen.length aK n.old (some ⟨gv,0,none⟩) (n.reqs.length+1) vc) 30 (0,0))/\aC [w.heap.size+2] wc wx)
 case first=>
  open akb in exact aaK
 case rest=>
  open apD in exact adb):P:=h
theorem ahw.Kr25(h:P:=by
 have hnl:=aA vZ;have hnr:=aA kJ;have hnq:=aA IV;clear c0 c1 c2 c3 c4 c5 c6 c7 c8;go_cut [5] from 11 (λcd wx=>cd= .int .i64 1/\wx.heap[w.heap.size+2]?=some (.cells (fK n.id n.par a_k n.kids.length aJ n.next (some ⟨gp,0,none⟩) n.pu.length bq dR n.out.length aO dY n.seen.length aK IH.no (some ⟨g8,0,none⟩) n.reqs.length CV) 30 (0,0))/\aC [w.heap.size+2] W9 wx)
 case first=>
  open aj9 in exact aaK
 case rest=>
  open apF in exact ade):P:=h
theorem ahx.Kr25(h:P:=by
 have x0:=cell_regrown s0;have x1:=cell_regrown s1;have x2:=cell_regrown s2;have x3:=cell_regrown s3;have hnz:=aA KU;have hsz:=aA aaC;clear c0 c1 c2 c3 c4 c5 c6 c7 c8 s0 s1 s2 s3;refine uQ 5 Aab ?_;show jv _ _ _ _ _ 8 (Array.replicate 8 false) _ _
 refine tk [0,1,2] ?_;iterate 3 (refine tkF (λK hK=>?_);go_simp;refine hK _ ?_;clear hK K)
 refine iN ?_;clear y0 y1 y2 y3 y4 y5 y6 y7 y8 x0 x1 x2 x3 hnz hsz KU aaC;refine QN 3 rfl Aab Aad Aae (λx hx=>?_);go_simp;refine(CG x hx).mono ?_;rintro e y ⟨rfl,hby⟩;refine⟨hby,?_⟩;have HY:=Hq (Ge.trans hx hby);clear hx hby CG;refine jd 4 rfl rfl Aab Aad Aad Aae (λz hz=>?_) (λz hz=>?_)
 .have HZ:=Hq (Ge.trans HY hz);clear hz HY;go_simp;refine⟨aj z _,?_⟩;refine yX Aab (λz2 hz2=>?_);have HZ2:=Hq (Ge.trans HZ (Ge.trans (aj z _) hz2));have HM2:=Hq (ay (heap_alloc_new z (.cells (bJ qK qF qT qI qL qk qN) 32)) hz2);have wu:=Hq (ay afc HZ2);have hmz:w.heap.size+1 < z.heap.size:=Nat.lt_of_lt_of_le (aA afc) HZ.size;clear hz2;open amX in exact acj
 .have HZ:=Hq (Ge.trans HY hz);have wu:=Hq (ay afc HZ);clear hz HY;open amW in exact acj):P:=h
theorem Tf(h:P:=by
 go_upto_region 1 with fail;have y7:=cell_regrown c7;have z1:=cell_regrown p1;clear c0 c1 c2 c3 c4 c5 c6 c7 c8 c9 p0 p1 p2 p3 p4 p5 p6 p7 p8 p9 mP;refine dw Aab ?_;show gX _ _ _ _ 8 (Array.replicate 8 false) _ _
 refine tk [0,1,2,3,4,5,6,7] ?_;iterate 8 (refine tY (λK hK=>?_);go_simp;refine hK _ ?_;clear hK K)
 refine iN ?_;refine eX Aab (λz hz=>?_);have HZ:=Hq (HW1.step hz);have Pe:=Hq (ay xD hz);clear hz y7 z1 HW1 xD;go_simp;exact Kr26):P:=h
theorem ahy.Kr26(h:P:=by
 clear h hc;open akR in exact arV):P:=h
theorem ahz.Kr26(h:P:=by
 open alh in exact arZ):P:=h
theorem ahA.Kr26(h:P:=by
 open alg in exact arZ):P:=h
theorem ahB.Kr26(h:P:=by
 clear h hc;open ao8 in exact ac3):P:=h
theorem ahC.Kr26(h:P:=by
 clear h hc he hz;open akQ in exact arV):P:=h
theorem ahD.Kr26(h:P:=by
 clear h hc;go_wp2_with fail;go_ret;exact⟨rfl,A,G,c,HZ⟩):P:=h
theorem arl(h:P:=by
 clear Mr;refine gF 0 rfl Aab Aad Aae (λx2 hx2=>?_);go_simp;have uj:=Hq (xw.trans (hx2.mono xw.size));have uy:wc.heap.size<=x2.heap.size:=uj.size;have afb:=Hq (ay aav hx2);clear hx2;refine⟨(aj x2 _).mono uy,?_⟩;have EU:=aj x2 (.cells #[] 97);have EJ:=Hq (show(x2.alloc (.cells #[] 97)).ownsRow wc.heap.size 97 4 (.slice (some ⟨x2.heap.size,0,none⟩) 0 0) 0 (GR.flat aM []) from World.ownsRow_lit (base:=wc.heap.size) (e:=97) (size:=4) x2 #[] 0 uy Aah Aac);open an4 in exact acL):P:=h
theorem ahE.Kr27(h:P:=by
 have EG:=Hq (show y3.heap[x1.heap.size]?=some (.cells (dX no k nn 0) 97 (0,0)) from by rw [wF.block _ (aA (ah wm)) (λhm=>ah IJ _ hm.symm rfl)];exact wm);open ao3 in exact WR):P:=h
theorem ahF.Kr27(h:P:=by
 have EG:=Hq (show y3.heap[x1.heap.size]?=some (.cells (dX no k nn 1) 97 (0,0)) from by rw [wF.block _ (aA (ah wm)) (λhm=>ah IJ _ hm.symm rfl)];exact wm);open ao2 in exact WR):P:=h
theorem arn(h:P:=by
 generalize n.reqs[i].n=qn at *;go_upto_region 8 with fail;have y4:=cell_regrown c4;have y8:=cell_regrown c8;have z1:=cell_regrown q1;have z2:=cell_regrown q2;clear c0 c1 c2 c3 c4 c5 c6 c7 c8 d0 d1 d2 d3 d4 d5 d6 d7 d8 f0 f1 f2 f3 f4 f5 f6 f7 f8 q0 q1 q2 q3;refine dw Aab ?_;show gX _ _ _ _ 20 (Array.replicate 20 false) _ _
 refine tk [0,1,2,3,4,5,6,7,8,9,10,11,12,13] ?_;iterate 14 (refine tY (λK hK=>?_);go_simp;refine hK _ ?_;clear hK K)
 refine iN ?_;clear y4 y8 z1 z2;refine Aq 14 rfl Aab Aad (λx hx=>?_);go_simp;refine(HUN x (GR.At.below xq.at.p hx)).mono ?_;rintro e y ⟨v,rfl,hne,hrow,hby⟩;refine⟨hby,?_⟩;obtain⟨av,cv,rfl,_⟩:=GR.own_at (enc:=fE) (sz:=4) aZ hrow;have HRW:=Hq hrow;have HXY:=Hq (Ge.trans hx hby);have hxs:=hx.size;clear hx hby hne hrow HUN;refine tk [15,16,17,18,19] ?_;iterate 5 (refine tY (λK hK=>?_);go_simp;refine hK _ ?_;clear hK K)
 refine iN ?_;refine eX Aab (λz hz=>?_);have HZ:=Hq (Ge.trans HXY hz);have Gs:=Hq (GR.own_below HRW hz);have KU:=Hq (ay jZ HZ);have zu:=Hq (ay oZ HZ);have Cb:=Hq (xq.kc (k:=9) (KC.of_below HZ) Aaa);have nG:=Hq (HB1.trans (HZ.mono HB1.size));have hgz:g < z.heap.size:=Nat.lt_of_lt_of_le hg HZ.size;clear hz HXY HRW;go_simp;obtain⟨c0,c1,c2,c3,c4,c5,c6,c7,c8⟩:=nine KU;obtain⟨d0,d1,d2,d3,d4,d5,d6,d7,d8⟩:=nine zu;have f0:=au zu 0;have f1:=au zu 1;have f2:=au zu 2;have f3:=au zu 3;have f4:=au zu 4;have f5:=au zu 5;have f6:=au zu 6;have f7:=au zu 7;have f8:=au zu 8;have hnl:=aA KU;have hrl:=aA zu;exact Kr28):P:=h
theorem ahG.Kr28(h:P:=by
 go_wp2_with fail;refine aN (λW' hW'=>?_)
 have e4:W'.heap[w.heap.size+1]?=some (.cells (fK n.id n.par a_k n.kids.length aJ n.next (some ⟨gp,0,none⟩) n.pu.length bq dR n.out.length aO dY n.seen.length aK n.old (some ⟨g,0,none⟩) n.reqs.length aP) 30 (0,0)):=by
  rw [hW'];exact GR.setW_blk (fK n.id n.par a_k n.kids.length aJ n.next (some ⟨gp,0,none⟩) n.pu.length bq dR n.out.length aO dY n.seen.length aK n.old (some ⟨g,0,none⟩) n.reqs.length aP).toList (o:=0) (xs:=gu.toList) zu
 have fH:aC [w.heap.size+1] z W':=by
  rw [hW'];exact aL (fK n.id n.par a_k n.kids.length aJ n.next (some ⟨gp,0,none⟩) n.pu.length bq dR n.out.length aO dY n.seen.length aK n.old (some ⟨g,0,none⟩) n.reqs.length aP).toList z 0
 have HAT:=Hq (λW'' (ho:Out c w W' W'')=>(Cb.kc (k:=9) ((KC.keeps fH (λx hx=>by have:x=w.heap.size+1:=Aaf;rw [this];exact aS Aaa)).trans (KC.out H9 ho)) Aaa).rm);have lQ:Hid (Below B w W'):=(nG.mono hB).trans (fH.below (λx hx=>by have:x=w.heap.size+1:=Aaf;omega) (Nat.le_trans hB (nG.mono hB).size));have rG:=Hq (Apart.keeps (c:=c) (Apart.of_below nG) (nG.mono hB).size fH (λx hx=>by have:x=w.heap.size+1:=Aaf;omega));obtain⟨x0,x1,x2,x3,x4,x5,x6,x7,x8⟩:=nine e4;clear hW' e4 fH;exact bodyPost_ret (v:= .tuple #[.agg (fK n.id n.par a_k n.kids.length aJ n.next (some ⟨gp,0,none⟩) n.pu.length bq dR n.out.length aO dY n.seen.length aK n.old (some ⟨g,0,none⟩) n.reqs.length aP),.int .i64 1]) Abs rfl ⟨(⟨a_k,(some ⟨gp,0,none⟩),dR,dY,(some ⟨g,0,none⟩),aJ,bq,aO,aK,aP⟩:bH),rfl,HAT,lQ,rG⟩):P:=h
theorem ahH.Kr28(h:P:=by
 have q3z:z.cell? ⟨g,i*4+3,none⟩=some (.int .i64 0):=(HZ.cell (p:=⟨g,i*4+3,none⟩) hg).trans HQ3
 have g3:z.frozen? ⟨g,i*4+3,none⟩=false:=by
  obtain⟨g',rest,e',_,hb'⟩:=yH Cb.r (show 0 < n.reqs.length by omega);simp only[Option.some.injEq,Addr.mk.injEq,and_true] at e';obtain rfl:=e';exact au hb' _
 have f4n:=au KU 4
 have hgn:g≠w.heap.size:=λe=>by
  have h1:=Cb.cr g ((hgb g).2 rfl)
  rw [e] at h1
  have h2:newC w.heap.size 9 c w.heap.size=9:=aS (Nat.le_refl _)
  rw [h2] at h1
  cases h1
 have awo:g≠w.heap.size+1:=λe=>by
  have h1:=Cb.cr g ((hgb g).2 rfl)
  rw [e] at h1
  have h2:newC w.heap.size 9 c (w.heap.size+1)=9:=aS Aaa
  rw [h2] at h1
  cases h1
 go_upto_region 13 with fail;refine wp_at (λZ2 hZ=>?_);have jE:Hid (Z2.heap[w.heap.size]?=some (.cells (fK n.id n.par a_k n.kids.length aJ n.next av RL.length cv dR n.out.length aO dY n.seen.length aK n.old (some ⟨g,0,none⟩) n.reqs.length aP) 30 (0,0))):=by rw [hZ];exact(Below.heap_setCell _ _ _ _ (Ne.symm hgn)).trans (nP KU)
 have jk:Hid (Z2.heap[w.heap.size+1]?=some (.cells gu 30 (0,0))):=by rw [hZ];exact((Below.heap_setCell _ _ _ _ (Ne.symm awo)).trans (Below.heap_setCell _ _ _ _ (show w.heap.size+1≠w.heap.size by omega))).trans zu
 have jy:=Cb.kc (k:=9) (KC.set (g:=w.heap.size) (i:=4) (v:= .slice av RL.length cv) (aS (Nat.le_refl _))) Aaa;have kB:KC (newC w.heap.size 9 c) 6 (z.setCell ⟨w.heap.size,4,none⟩ (.slice av RL.length cv)) Z2:=by rw [hZ];exact KC.set (jy.cr g ((hgb g).2 rfl))
 have hwx:w.heap.size < x.heap.size/\g < x.heap.size:=by
  have:=aA jZ;omega
 have hpz:Z2.ownsRow x.heap.size 143 4 (.slice av RL.length cv) RL.length (GR.flat fE RL):=by
  rw [hZ];exact dA (dA Gs (aC.set _) (λy hy=>by have:y=w.heap.size:=Aar;omega)) (aC.set _) (λy hy=>by have:y=g:=Aar;omega)
 have hrz:=(jy.r.stored (i*4+3) (.int .i64 2)).1;rw [L9 2 n.reqs i hi,<-hZ] at hrz;have Wl:=Hq (And.intro (kB.w jy.k jy.ck Aaa) (And.intro hpz (And.intro (kB.own jy.o jy.co Aaa) (And.intro (kB.seenQ jy.sq jy.c4 jy.ci Aaa Aaa) hrz))));have jO:=Hq (And.intro jy.ck (And.intro jy.co (And.intro jy.c4 (And.intro jy.ci (And.intro jy.cr jy.ni)))))
 have aeY:Hid (Below B w Z2):=by
  have hg0:B<=g:=hBg;rw [hZ];exact((nG.mono hB).setCell (p:=⟨w.heap.size,4,none⟩) hB _).setCell (p:=⟨g,i*4+3,none⟩) hg0 _
 have atW:Hid (Apart c w Z2):=λx hx hc=>by
  have hxg:x≠g:=λe=>by
   have h1:=Cb.cr g ((hgb g).2 rfl)
   rw [<-e,dW hx] at h1
   omega
  rw [hZ]
  exact(Below.heap_setCell _ _ _ _ hxg).trans ((Below.heap_setCell _ _ _ _ (Nat.ne_of_lt hx)).trans (nG.block x hx))
 clear hZ jy kB hpz hrz q3z g3 f4n c0 c1 c2 c3 c4 c5 c6 c7 c8 d0 d1 d2 d3 d4 d5 d6 d7 d8 f0 f1 f2 f3 f4 f5 f6 f7 f8 hnl hrl;obtain⟨c0,c1,c2,c3,c4,c5,c6,c7,c8⟩:=nine jE;obtain⟨d0,d1,d2,d3,d4,d5,d6,d7,d8⟩:=nine jk;have f0:=au jk 0;have f1:=au jk 1;have f2:=au jk 2;have f3:=au jk 3;have f4:=au jk 4;have f5:=au jk 5;have f6:=au jk 6;have f7:=au jk 7;have f8:=au jk 8;have hnl:=aA jE;have hrl:=aA jk;go_wp2_with fail;refine aN (λW' hW'=>?_)
 have e4:W'.heap[w.heap.size+1]?=some (.cells (fK n.id n.par a_k n.kids.length aJ n.next av RL.length cv dR n.out.length aO dY n.seen.length aK n.old (some ⟨g,0,none⟩) n.reqs.length aP) 30 (0,0)):=by
  rw [hW'];exact GR.setW_blk (fK n.id n.par a_k n.kids.length aJ n.next av RL.length cv dR n.out.length aO dY n.seen.length aK n.old (some ⟨g,0,none⟩) n.reqs.length aP).toList (o:=0) (xs:=gu.toList) jk
 have fH:aC [w.heap.size+1] Z2 W':=by
  rw [hW'];exact aL (fK n.id n.par a_k n.kids.length aJ n.next av RL.length cv dR n.out.length aO dY n.seen.length aK n.old (some ⟨g,0,none⟩) n.reqs.length aP).toList Z2 0
 have HAT:=Hq (λW'' (ho:Out c w W' W'')=>(show RM W'' ⟨a_k,av,dR,dY,(some ⟨g,0,none⟩),aJ,cv,aO,aK,aP⟩ (dS (setPu n RL) (n.reqs.set i (nU n.reqs[i]))) from by
  have kF:KC (newC w.heap.size 9 c) 9 Z2 W'':=(KC.keeps fH (λy hy=>by have:y=w.heap.size+1:=Aar;rw [this];exact aS Aaa)).trans (KC.out H9 ho)
  have hpF:W''.ownsRow x.heap.size 143 4 (.slice av RL.length cv) RL.length (GR.flat fE RL):=by
   obtain⟨F,hk,hF⟩:=ho;exact dA (dA Wl.2.1 fH (λy hy=>by have:y=w.heap.size+1:=Aar;have:=aA oZ;omega)) hk (λy hy=>by have:=(hF y hy).1;have:=aA oZ;omega)
  have hp9:∀g',av.map (λy=>y.block)=some g'->6 < newC w.heap.size 9 c g':=λg' hg'=>by
   have h1:=sG hpF (nu hpF hg')
   have h2:=aA oZ
   rw [aS Aaa]
   omega
  have hrF:W''.ownsRow B 97 4 (.slice (some ⟨g,0,none⟩) (n.reqs.set i (nU n.reqs[i])).length aP) (n.reqs.set i (nU n.reqs[i])).length (GR.flat aM (n.reqs.set i (nU n.reqs[i]))):=by
   rw [List.length_set];exact kF.own Wl.2.2.2.2 jO.2.2.2.2.1 Aaa
  exact RM.of (n:=dS (setPu n RL) (n.reqs.set i (nU n.reqs[i]))) (A:=⟨a_k,av,dR,dY,(some ⟨g,0,none⟩),aJ,cv,aO,aK,aP⟩) (c:=newC w.heap.size 9 c) (kF.w Wl.1 jO.1 Aaa) jO.1 (kF.seenQ Wl.2.2.2.1 jO.2.2.1 jO.2.2.2.1 Aaa Aaa) jO.2.2.1 jO.2.2.2.1 jO.2.2.2.2.2
   (GR.own_ati aZ hpF) (λg' hg' _=> .inr (hp9 g' hg')) (kF.own Wl.2.2.1 jO.2.1 Aaa) (λy hy=> .inl (jO.2.1 y hy)) hrF (λy hy=> .inl (jO.2.2.2.2.1 y hy))
   (λg' hg' _ h6=>⟨λe=>by have:=jO.2.1 g' e;omega,λe=>by have:=jO.2.2.2.2.1 g' e;omega⟩) (λy hy h6=>by have:=jO.2.1 y hy;omega)))
 have lQ:Hid (Below B w W'):=aeY.trans (fH.below (λx hx=>by have:x=w.heap.size+1:=Aaf;omega) (Nat.le_trans hB aeY.size));have rG:=Hq (Apart.keeps (c:=c) atW aeY.size fH (λx hx=>by have:x=w.heap.size+1:=Aaf;omega));obtain⟨x0,x1,x2,x3,x4,x5,x6,x7,x8⟩:=nine e4;clear hW' e4 fH;exact bodyPost_ret (v:= .tuple #[.agg (fK n.id n.par a_k n.kids.length aJ n.next av RL.length cv dR n.out.length aO dY n.seen.length aK n.old (some ⟨g,0,none⟩) n.reqs.length aP),.int .i64 0]) Abs rfl ⟨⟨a_k,av,dR,dY,(some ⟨g,0,none⟩),aJ,cv,aO,aK,aP⟩,by rw [show fI (dS (setPu n RL) (n.reqs.set i (nU n.reqs[i]))) ⟨a_k,av,dR,dY,(some ⟨g,0,none⟩),aJ,cv,aO,aK,aP⟩= .agg (fK n.id n.par a_k n.kids.length aJ n.next av RL.length cv dR n.out.length aO dY n.seen.length aK n.old (some ⟨g,0,none⟩) n.reqs.length aP) from by simp[fI,dH,dS,setPu]],HAT,lQ,rG⟩):P:=h
theorem CK(h:P:=by
 rw [hop] at Ez;unfold jB at Ez;clear hop;have Bf:=Hq (λW (h:aX w W)=>sQ n A W hz (ha.below h));clear hz ha hok;go_enter Tryz.func9,Tryz.ntmps9
 go_upto_region 2 with fail;refine wp_at (λW1 hW=>?_);exact Kr29):P:=h
theorem ahI.Kr29(h:P:=by
 open al9 in exact ab0):P:=h
theorem ahJ.Kr29(h:P:=by
 obtain⟨e1,e2,e3,e4⟩:=fC w (.cells (dH n A) 30) (.cells (bY 2 no k nn mK mF mT mI mL mk mN) 34) (.cells gu 30);have hsz:(((w.alloc (.cells (dH n A) 30)).alloc (.cells (bY 2 no k nn mK mF mT mI mL mk mN) 34)).alloc (.cells gu 30)).heap.size=w.heap.size+3:=Aac
 generalize hW0:((w.alloc (.cells (dH n A) 30)).alloc (.cells (bY 2 no k nn mK mF mT mI mL mk mN) 34)).alloc (.cells gu 30)=W0 at *;exact Zr8):P:=h
theorem ahK.Kr29(h:P:=by
 obtain⟨e1,e2,e3,e4⟩:=fC w (.cells (dH n A) 30) (.cells (bY 1 no k nn mK mF mT mI mL mk mN) 34) (.cells gu 30);have hsz:(((w.alloc (.cells (dH n A) 30)).alloc (.cells (bY 1 no k nn mK mF mT mI mL mk mN) 34)).alloc (.cells gu 30)).heap.size=w.heap.size+3:=Aac
 generalize hW0:((w.alloc (.cells (dH n A) 30)).alloc (.cells (bY 1 no k nn mK mF mT mI mL mk mN) 34)).alloc (.cells gu 30)=W0 at *;exact Zr8):P:=h
theorem ahL.Kr29(h:P:=by
 open amf in exact ab1):P:=h
theorem ahM.Kr29(h:P:=by
 obtain⟨e1,e2,e3,e4⟩:=fC w (.cells (dH n A) 30) (.cells (bY 6 no k nn mK mF mT mI mL mk mN) 34) (.cells gu 30);have hsz:(((w.alloc (.cells (dH n A) 30)).alloc (.cells (bY 6 no k nn mK mF mT mI mL mk mN) 34)).alloc (.cells gu 30)).heap.size=w.heap.size+3:=Aac
 generalize hW0:((w.alloc (.cells (dH n A) 30)).alloc (.cells (bY 6 no k nn mK mF mT mI mL mk mN) 34)).alloc (.cells gu 30)=W0 at *;exact Zr9):P:=h
theorem ahN.Kr29(h:P:=by
 open ame in exact ab1):P:=h
theorem ahO.Kr29(h:P:=by
 open amh in exact ab2):P:=h
theorem ahP.Kr29(h:P:=by
 open amj in exact ab3):P:=h
theorem ahQ.Kr29(h:P:=by
 obtain⟨e1,e2,e3,e4⟩:=fC w (.cells (dH n A) 30) (.cells (bY 5 no k nn mK mF mT mI mL mk mN) 34) (.cells gu 30);have hsz:(((w.alloc (.cells (dH n A) 30)).alloc (.cells (bY 5 no k nn mK mF mT mI mL mk mN) 34)).alloc (.cells gu 30)).heap.size=w.heap.size+3:=Aac
 generalize hW0:((w.alloc (.cells (dH n A) 30)).alloc (.cells (bY 5 no k nn mK mF mT mI mL mk mN) 34)).alloc (.cells gu 30)=W0 at *;open au9 in exact IW):P:=h
theorem ahR.Kr29(h:P:=by
 open amg in exact ab2):P:=h
end Go.Proofs.YtacgbldlonoaaaaGreatDoor
