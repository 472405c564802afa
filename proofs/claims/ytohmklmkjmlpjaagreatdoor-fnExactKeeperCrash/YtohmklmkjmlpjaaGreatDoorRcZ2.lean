/-
  Parts of proofs that stand more than once, each said once.
-/
import Derived.Test.YtohmklmkjmlpjaaGreatDoorRcZ1
namespace Go.Proofs.YtohmklmkjmlpjaaGreatDoor
open Go.Proofs.Tryz
set_option maxRecDepth 100000
variable{P:Prop}
theorem anZ.AdA(h:P:=by
 obtain⟨c0,c1,c2,c3,c4,c5,c6,c7,c8⟩:=nine vR;have cf:=aj vR 4;have hnl:=aA vR;have aDP:decide ((40:Int)<=((aY s0 mL).length:Int))=false:=aGi Aaa;go_upto_region 22 with fail;refine wp_at (λW9 hW9=>?_);have hnb:w.heap.size≠gi:=Aaa
 have WR:aC [w.heap.size] W8 W9:=by rw [hW9];exact aC.set _
 have DR:Hid (W9.heap[w.heap.size]?=some (.cells (iT n.id n.par a_k n.kids.length bf n.next av RL.length cv fP n.out.length bJ (some ⟨G.s,0,none⟩) n.seen.length bg n.old gX n.reqs.length bC) 40 (0,0))):=by rw [hW9];exact aT vR 4 _
 have aew:=Hq (WR.obj amZ (λhx=>Abg));have qz:=Hq (WR.obj Io (λhx=>Abg));have aax:=Hq (WR.obj ani (λhx=>Aaj));have amD:=Hq (WR.obj amC (λhx=>Aaj));have akg:=Hq (amS.keeps WR (λx hx hm=>by have h1:=(dQ hx).1;simp at hm;omega));have aez:=Hq (akk.kc (k:=9) (KC.keeps WR (λx hx=>by have:x=w.heap.size:=Aah;rw [this];exact EJ _ (aGh _) hnb)) Aaa);have aem:=Hq (aj9.trans (WR.below (B:=B) (λx hx=>Aaj) Aaa));have aep:=Hq (Apart.keeps (c:=c) aki Aaa WR (λx hx=>by have:x=w.heap.size:=Aah;omega));have HP9:=Hq (HRW.keeps WR (λx hx=>Aaj));have hz9:W8.heap.size<=W9.heap.size:=WR.size;clear hW9 WR HRW vR amZ Io ani amC amS akk aj9 aki c0 c1 c2 c3 c4 c5 c6 c7 c8 cf hnl;obtain⟨m0,m1,m2,m3,m4,m5,m6⟩:=jV aew;have hml:=aA aew;obtain⟨pos,hpos⟩:∃pos,((aY s0 mL).takeWhile (λy=>decide (y < mI))).length=pos:=⟨_,rfl⟩;have HIN:=Hq (show lX (aY s0 mL) mI=(aY s0 mL).take pos++([mI]++(aY s0 mL).drop pos) by rw [<-hpos];exact acU _ _);have hpl:pos<=(aY s0 mL).length:=by rw [<-hpos];exact aBt _ _
 have JQ:=Hq hpos;clear hpos;go_upto_block 4 with fail;go_cut [14] from 15 (λj wx=>j= .int .i64 (pos:Nat)/\Ge W9 wx)
 case first=>
  go_wp2_with fail;go_loopw [14] (λj wr=>∃x q:Nat,x<=(aY s0 mL).length/\j= .int .i64 x/\(∀y (hy:y < (aY s0 mL).length),y < x->(aY s0 mL)[y] < mI)/\wr=W9.drewN q) (λj _=>(aY s0 mL).length - (intOf j).toNat)
  case atStart=>exact⟨0,0,aGB _,rfl,λy hy h=>Aaa,rfl⟩
  case round=>
   obtain⟨x,q,hx,rfl,hlo,rfl⟩:=hrel;have HLO:=Hq hlo;clear hlo;by_cases hlt:x < (aY s0 mL).length
   .obtain⟨_,hgb,hcell⟩:=(ah akg) x hlt;open avz in exact ahs
   .have hje:x=(aY s0 mL).length:=Aaa
    subst hje;have HJ:=Hq (ad6 (l:=aY s0 mL) (x:=mI) (aGh _) HLO (λh=>absurd h (Nat.lt_irrefl _)));have acd:decide (((aY s0 mL).length:Int) < ((aY s0 mL).length:Int))=false:=Aac
    exact aix
 case rest=>
  obtain⟨rfl,hge⟩:=hcut;clear m0 m1 m2 m3 m4 m5 m6 hml;go_upto_region 25 with fail;refine wp_at (λvL aDJ=>?_);subst aDJ;have agv:=Hq (au DR hge);have aan:=Hq (au aew hge);have agy:=Hq (au qz hge);have aau:=Hq (au aax hge);have agi:=Hq (au amD hge);have VL:=Hq (akg.below hge);have agu:=Hq (aez.kc (k:=9) (KC.of_below hge) Aaa);have agk:=Hq (aem.trans (hge.mono Aaa));have agp:=Hq (aep.step Aaa hge);have aeB:=Hq (HP9.below hge);have aFS:W9.heap.size<=vL.heap.size:=hge.size;clear hge DR aew qz aax amD akg aez aem aep HP9;have aAP:=aA aau;have aFl:∀x∈fp gi (aY s0 mL),x < vL.heap.size:=XL VL;go_cut [14] from 15 (λ_ wx=>∃g2 cq2,vL.heap.size<=g2/\wx.ownsRow vL.heap.size 3 1 (.slice (some ⟨g2,0,none⟩) ((aY s0 mL).length+1) cq2) ((aY s0 mL).length+1) (GR.flat aS (lX (aY s0 mL) mI))/\wx.heap[sb]?=some (.cells #[.int .i64 mF,.int .i64 (fK s0 mL),.slice (some ⟨g2,0,none⟩) ((aY s0 mL).length+1) cq2] 110 (0,0))/\aC [sb] vL wx)
  case first=>
   obtain⟨m0,m1,m2,m3,m4,m5,m6⟩:=jV aan;have hml:=aA aan;have hwb:vL.heap.size<=vL.heap.size:=aGh _;have y3:=dz hml m3;clear m0 m1 m2 m3 m4 m5 m6;have hpc:pos<=Po:=Aaa
   have ES:=Hq (show dH vL (some ⟨gi,0,none⟩) ((aY s0 mL).take pos) from GR.At.take VL.at pos)
   obtain⟨AD,hAD,hDR⟩:∃AD,(if Po=pos then some (⟨gi,0,none⟩:Addr) else some ⟨gi,pos,none⟩)=AD/\dH vL AD ((aY s0 mL).drop pos):=by
    by_cases hcz:Po=pos
    .refine⟨_,rfl,?_⟩;rw [show(aY s0 mL).drop pos=[] by apply aHA;omega];exact GR.at_nil _ _
    .refine⟨_,rfl,?_⟩;rw [aGr hcz];have h:=GR.At.drop VL.at pos;rw [Nat.mul_one] at h;exact h
   have HDR:=Hq hDR;clear hDR;refine mY 14 vL.heap.size Aab ?_;show jv _ _ _ _ _ _ 15 (Array.replicate 15 false) _ _
   refine tk [1,2,3,5,6,9,10,11] ?_;iterate 8 (refine tkB hwb (λK hK=>?_);go_simp;first|refine hK _ ?_|(apply Exists.intro;refine⟨λ_=>?_,hK _ ?_⟩;rfl);clear hK K)
   refine kD ?_;clear y3;have hlt1:((aY s0 mL).take pos).length=pos:=Abk
   have acp:((aY s0 mL).drop pos).length=(aY s0 mL).length - pos:=by rw [aGS]
   have hL1:((aY s0 mL).take pos++[mI]).length=pos+1:=by rw [aGp,hlt1];rfl
   have hL2:((aY s0 mL).take pos++[mI]++(aY s0 mL).drop pos).length=pos+1+((aY s0 mL).length - pos):=by rw [aGp,hL1,acp]
   have HG0:=Hq (aGs vL.heap.size vL);refine nS 0 7 rfl rfl Aab Aad Aad Aae Aae (λx1 hx1=>?_) (λx1 hx1=>?_)
   .open ara in exact ayJ
   .open aqZ in exact ayJ
  case rest=>
   obtain⟨g2,cq2,hg2,hown2,aAL,Mv⟩:=hcut;have aav:=Hq aAL;have VQ:=Hq (Mv.obj agv (λhx=>Aaj));have agz:=Hq (Mv.obj agy (λhx=>Aaj));have agj:=Hq (Mv.obj agi (λhx=>Aaj));have aao:=Hq (agu.kc (k:=9) (KC.keeps Mv (λx hx=>by have:x=sb:=Aah;rw [this];exact EJ _ Aaa Aaa)) Aaa);have agl:=Hq (agk.trans (Mv.below (B:=B) (λx hx=>Aaj) Aaa));have agq:=Hq (Apart.keeps (c:=c) agp Aaa Mv (λx hx=>by have:x=sb:=Aah;omega));have am6:=Hq (aeB.keeps Mv (λx hx=>Aaj));have aFT:vL.heap.size<=wc.heap.size:=Mv.size;have ab7:(lX (aY s0 mL) mI).length=(aY s0 mL).length+1:=by rw [ah HIN];simp;omega
   have acv:wc.ownsRow vL.heap.size 3 1 (.slice (some ⟨g2,0,none⟩) (lX (aY s0 mL) mI).length cq2) (lX (aY s0 mL) mI).length (GR.flat aS (lX (aY s0 mL) mI)):=by rw [ab7];exact hown2
   have HW2:=Hq (WO.of_own (agC (l:=lX (aY s0 mL) mI) aO acv) acv (λe=>by rw [e] at ab7;simp at ab7))
   have Om:Hid (∀g,av.map (λy=>y.block)=some g->0 < RL.length->W7.heap.size<=g/\g < vL.heap.size):=λg hg hp=>by
    obtain⟨g',off,e,hgl,_⟩:=aeB.1 0 hp
    have h2:=aeB.2 g' off e
    rw [e] at hg
    cases hg
    exact⟨h2,hgl⟩
   have aFk:g2 < wc.heap.size:=(hown2.lt g2 rfl).2;have alD:g2≠gi:=Aaa
   have aAB:i < (n.seen.set i ⟨mF,fK s0 mL,aY s0 mL⟩).length:=by rw [aHU];exact hi
   have HNP:=Hq (aao.seenPut i aAB ⟨mF,fK s0 mL,lX (aY s0 mL) mI⟩ (some ⟨g2,0,none⟩) cq2 g2 HW2 (λx hx=>by rw [(dQ hx).1];exact EJ _ Aaa alD));obtain⟨T,hT,hlT,hrT⟩:=aao.s;obtain⟨_,_,hcT⟩:=hT i (by rw [hlT];exact aAB);open ark in exact ayN):P:=h
theorem ayp(h:P:=by
 open arh in exact ayL):P:=h
theorem an0.Ad0(h:P:=by
 open axE in exact ah3):P:=h
theorem an1.Ad0(h:P:=by
 clear hcw;go_wp2_with fail;refine(Nv _ _ Aaa Aaa).mono ?_;rintro e w6 ⟨t5,rfl,hb⟩;have VN:=Hq (oh.below (oh.set (oh.set (oh.set (oh.set (oh.set HK HS _ _) HS _ _) HS _ _) HS _ _) HS _ _) hb);have hg6:g < w6.heap.size:=aGq hg (by have:=hb.size;simpa using this);clear hb q0 f0 q1 f1 q2 f2 q3 f3 q4 f4 q5 f5 q6 f6 HK;obtain⟨gg,eg,_,_,hcw⟩:=(HW.scr VN) k hlt;cases eg
 open axG in exact ah4):P:=h
theorem akD(h:P:=by
 have HN:=Hq (λw1=>aQ n true w1 hn);have HP:=Hq (show R=(decide (no=0)&&true&&true&&lY ⟨mK,mF,mT,mI,mL,mk,mN⟩) by rw [<-ah HR];simp[cK,hk,hn]);open awI in exact ahJ):P:=h
theorem an2.AcO(h:P:=by
 have hX:W.heap[w.heap.size+1]?=some (.cells (cu 4 0 k n 0 0 0 0 0 ⟨#[]⟩ 0) 100 (0,0)):=Abs
 have hY:W.heap[w.heap.size]?=some (.cells (cu 4 no k n mK mF mT mI mL mk mN) 100 (0,0)):=Abt
 exact ak1):P:=h
theorem an3.AcO(h:P:=by
 have hX:W.heap[w.heap.size+1]?=some (.cells (cu 3 0 k n 0 0 0 0 0 ⟨#[]⟩ 0) 100 (0,0)):=Abs
 have hY:W.heap[w.heap.size]?=some (.cells (cu 3 no k n mK mF mT mI mL mk mN) 100 (0,0)):=Abt
 exact ak1):P:=h
theorem an4.AcO(h:P:=by
 have hX:W.heap[w.heap.size+1]?=some (.cells (cu 0 0 k n 0 0 0 0 0 ⟨#[]⟩ 0) 100 (0,0)):=Abs
 have hY:W.heap[w.heap.size]?=some (.cells (cu 0 no k n mK mF mT mI mL mk mN) 100 (0,0)):=Abt
 exact ak1):P:=h
theorem vT(h:P:=by
 have hke:k=l.length:=Aaa
 subst hke;have hnlt:decide ((l.length:Int) < (l.length:Int))=false:=Aac
 exact AaO):P:=h
theorem an5.AaO(h:P:=by
 have HX:=Hq (show aD l key=⟨key,0,0,0⟩ by
  have h:=ah HN
  rw [aGL] at h
  unfold aD
  rw [h]
  rfl)
 go_wp2_with fail;refine aGn (v:= .agg (jh key 0 0 0)) (by simp[results,results151,go_sem]) rfl ⟨by rw [ah HX],?_⟩;exact(aGs _ _).alloc (aGh _) _):P:=h
theorem an6.AaO(h:P:=by
 have h:=ah HN;rw [aGL] at h;have HF:=Hq h;clear h;go_wp2_with fail;go_ret;exact⟨aF HF.symm,rfl⟩):P:=h
theorem an7.AaO(h:P:=by
 go_wp2_with fail;go_ret;exact⟨rfl,⟨T,I,HB,hTl,HI,HIM⟩,dS⟩):P:=h
theorem an8.AaO(h:P:=by
 have h:=ah HM;rw [aGL] at h;have HME:=Hq h;clear hm h;go_wp2_with fail;go_ret;exact⟨mQ (by rw [ah HME]),dS⟩):P:=h
theorem an9.AaO(h:P:=by
 have h:=ah HM;rw [aGL] at h;have HME:=Hq h;have hS:=ah HR;rw [afN] at hS;have HS:=Hq hS;clear hm h hS;go_wp2_with fail;go_ret;exact⟨mQ (by rw [ah HME]),HS,HK⟩):P:=h
theorem aoa.AaO(h:P:=by
 have HX:=Hq (show aD l key=⟨key,0,0,0⟩ by
  have h:=ah HN
  rw [aGL] at h
  unfold aD
  rw [h]
  rfl)
 go_wp2_with fail;refine(jR _).mono ?_;rintro e w1 ⟨rfl,hb1⟩;have hB:w1.heap[w.heap.size]?=some (.cells (jh ⟨#[]⟩ 0 0 0) 108 (0,0)):=by rw [hb1.block _ afv];exact Hu
 have HB:=Hq hB;have HB2:=Hq (dS.trans (hb1.mono dS.size));obtain⟨⟨r0,r1,r2,r3⟩,s0,s1,s2,s3⟩:=gu hB;clear hB hb1;go_wp2_with fail;clear r0 r1 r2 r3;refine Fo.bodyPost_at (λW' hW'=>?_);obtain⟨⟨r0,r1,r2,r3⟩,_⟩:=gu (show W'.heap[w.heap.size]?=some (.cells (jh key 0 0 0) 108 (0,0)) by rw [hW'];exact Fo.four_set HB);have hbb:aI w W':=by rw [hW'];exact Fo.four_below HB2 (aGh _)
 refine aGn (v:= .agg (jh key 0 0 0)) (by simp[results,results240,go_sem,r0,r1,r2,r3]) rfl ⟨by rw [ah HX],hbb⟩):P:=h
theorem aob.AaO(h:P:=by
 go_wp2_with fail;go_ret;exact⟨a',c',g,hg,rfl,HB,dS⟩):P:=h
theorem aoc.AaO(h:P:=by
 have h:=ah HN;rw [aGL] at h;have HF:=Hq h;clear h;go_wp2_with fail;go_ret;exact⟨⟨-1,rfl,by rw [ah HF];rfl⟩,rfl⟩):P:=h
theorem aod.AaO(h:P:=by
 go_wp2_with fail;go_ret2
 have h:=ah HP;rw [aGL] at h;exact⟨_,_,_,rfl,h,dS⟩):P:=h
theorem aoe.AaO(h:P:=by
 have Sr:=Hq (place_at l pk l.length (aGh _) jG (λh=>absurd h (Nat.lt_irrefl _))).1;exact ai2):P:=h
theorem aof.AaO(h:P:=by
 go_wp2_with fail;go_ret;exact⟨_,rfl,GR.own_below HO dS,HB1.trans (dS.mono HB1.size)⟩):P:=h
theorem aog.AaO(h:P:=by
 have HF:=Hq (Zc jG);go_wp2_with fail;go_ret;exact⟨aF (by rw [ah HF];simp<;>omega),dS⟩):P:=h
theorem aoh.AaO(h:P:=by
 go_wp2_with fail;go_ret;have h:=ah jG;rw [aGL] at h;exact⟨z,rfl,.inr ⟨hz0,hz1,Aaa,h⟩,dS⟩):P:=h
theorem aoi.AaO(h:P:=by
 clear hm;go_wp2_with fail;go_ret;exact⟨mQ (by have:=ah HM;omega),dS⟩):P:=h
theorem aoj.AaO(h:P:=by
 clear hm;go_wp2_with fail;go_ret;exact⟨mQ (by have:=ah HM;omega),HR,HK⟩):P:=h
theorem aok.AaO(h:P:=by
 go_wp2_with fail;go_ret;have h:=ah jG;rw [aGL] at h;exact⟨z,rfl,dS,.inr ⟨hz0,hz1,Aaa,h⟩⟩):P:=h
theorem aol.AaO(h:P:=by
 go_wp2_with fail;go_ret;exact⟨rfl,dS⟩):P:=h
theorem aom.AaO(h:P:=by
 go_wp2_with fail;go_ret;have h:=ah HB;rw [aGL,Nat.sub_self,List.replicate_zero,aHB] at h;exact⟨rfl,h,dS⟩):P:=h
theorem akE(h:P:=by
 obtain⟨rfl,hs3,hk3⟩:=hcut;clear m0 m1 m2 m3 m4 m5 m6 s00 s01 s02 sf hml hsl2;go_upto_region 7 with fail;refine wp_at (λW3 hW3=>?_);subst hW3;have aeH:=Hq hs3;have l7:=Hq (hk3.obj kK (λhx=>Aaj));have XB:=Hq (hk3.obj zD (λhx=>Aaj));have lV:=Hq (hk3.obj jS (λhx=>Aaj));have HB3:=Hq (HB2.trans (hk3.below (B:=w.heap.size) (λx hx=>Aaj) HB2.size));have am2:=Hq (am1.kc (k:=9) (KC.keeps hk3 (λx hx=>by have:x=sb:=Aah;rw [this];exact bQ Aaa)) Aaa);have anr:=Hq (anq.keeps hk3 (λx hx hm=>by have h1:=hilt x hx;simp at hm;omega));clear hs3 hk3 kK zD jS HB2 am1 anq XJ;have aFK:=aA aeH;obtain⟨i0,hi0,hz0,hz1',hz2⟩:=aGV xB;go_upto_block 2 with fail;exact AcD):P:=h
theorem aon.AcD(h:P:=by
 go_cut [9] from 15 (λv wx=>∃g cp,v= .slice (some ⟨g,0,none⟩) (aY s0 mL).length cp/\wx.ownsRow W3.heap.size 3 1 v (aY s0 mL).length (GR.flat aS (aY s0 mL))/\(aY s0 mL=[]->cp=0)/\aI W3 wx)
 case first=>
  exact Zk5
 case rest=>
  open aCG in exact akA):P:=h
theorem aoo.AcD(h:P:=by
 go_cut [9] from 15 (λv wx=>∃g cp,v= .slice (some ⟨g,0,none⟩) (aY s0 mL).length cp/\wx.ownsRow W3.heap.size 3 1 v (aY s0 mL).length (GR.flat aS (aY s0 mL))/\(aY s0 mL=[]->cp=0)/\aI W3 wx)
 case first=>
  exact Zk5
 case rest=>
  open aCF in exact akA):P:=h
theorem aop.AcD(h:P:=by
 go_cut [9] from 15 (λv wx=>∃g cp,v= .slice (some ⟨g,0,none⟩) (aY s0 mL).length cp/\wx.ownsRow W3.heap.size 3 1 v (aY s0 mL).length (GR.flat aS (aY s0 mL))/\(aY s0 mL=[]->cp=0)/\aI W3 wx)
 case first=>
  exact Zk5
 case rest=>
  open aCE in exact akA):P:=h
theorem ayq(h:P:=by
 obtain⟨gp,hgp⟩:=hP;subst hgp;have OU:=Hq (λW (ha:aH W (some ⟨gp,0,none⟩) n.pu)=>adP gp 0 dJ n.pu mk mN W (aGm hz.p Aaa) xR hz.pk hmk ha);unfold jm at OU;rw [hu] at OU;clear hu hz xR;open av2 in exact ahy):P:=h
theorem aoq.Ad5(h:P:=by
 go_cut [7] from 15 (λj wx=>j= .int .i64 (i:Nat)/\Ge W0 wx)
 case first=>
  exact akU
 case rest=>
  open aDo in exact akC):P:=h
theorem aor.Ad5(h:P:=by
 go_cut [7] from 15 (λj wx=>j= .int .i64 (i:Nat)/\Ge W0 wx)
 case first=>
  exact akU
 case rest=>
  open aDp in exact akC):P:=h
theorem XP(h:P:=by
 obtain⟨d0,d1,d2,d3,d4,d5,d6,d7,d8⟩:=nine vS;have f0:=aj vS 0;have f1:=aj vS 1;have f2:=aj vS 2;have f3:=aj vS 3;have f4:=aj vS 4;have f5:=aj vS 5;have f6:=aj vS 6;have f7:=aj vS 7;have f8:=aj vS 8;exact AaY):P:=h
theorem aos.AaY(h:P:=by
 have hnl:=aA lF;have hrl:=aA vS;go_wp2_with fail;refine aP (λW' hW'=>?_)
 have e4:W'.heap[w.heap.size+2]?=some (.cells (dG n A) 40 (0,0)):=by
  exact abn
 have fU:aC [w.heap.size+2] (W1.alloc (.cells #[] 98)) W':=by
  rw [hW'];exact aX (dG n A).toList (W1.alloc (.cells #[] 98)) 0
 open aqJ in exact ayC):P:=h
theorem aot.AaY(h:P:=by
 have hnl:=aA kK;have hrl:=aA vS;go_wp2_with fail;refine aP (λW' hW'=>?_)
 have e4:W'.heap[w.heap.size+2]?=some (.cells (dG n A) 40 (0,0)):=by
  exact abn
 have fU:aC [w.heap.size+2] (W2.alloc (.cells #[] 98)) W':=by
  rw [hW'];exact aX (dG n A).toList (W2.alloc (.cells #[] 98)) 0
 open aqI in exact ayC):P:=h
theorem aou.AaY(h:P:=by
 have hrl:=aA vS;go_wp2_with fail;refine aP (λW' hW'=>?_)
 have e4:W'.heap[w.heap.size+2]?=some (.cells (dG N1 A2) 40 (0,0)):=by
  rw [hW'];exact GR.setW_blk (dG N1 A2).toList (o:=0) (xs:=iP.toList) vS
 have fU:aC [w.heap.size+2] (W5.alloc (.cells (dG N1 A2) 40)) W':=by
  rw [hW'];exact aX (dG N1 A2).toList (W5.alloc (.cells (dG N1 A2) 40)) 0
 have HAT:=Hq (λW'' (ho:Ez w W' W'')=>aad W'' (ho.out (c:=c) ((aC.of_below (ay W5 (.cells (dG N1 A2) 40))).trans fU) hrx HC9));have pO:Hid (aI w W'):=vY.trans (fU.below (λx hx=>by have:x=w.heap.size+2:=Aah;omega) vY.size);obtain⟨x0,x1,x2,x3,x4,x5,x6,x7,x8⟩:=nine e4;clear hW' e4 fU;exact aGn (v:= .tuple #[(gP N1 A2),.slice (some ⟨W0.heap.size,0,none⟩) 0 0,.int .i64 CX]) Aaz rfl ⟨A2,some ⟨W0.heap.size,0,none⟩,0,rfl,HAT,λW'' _ i hi=>Aas,pO⟩):P:=h
theorem aov.AaY(h:P:=by
 have hnl:=aA DK;have hrl:=aA vS;go_wp2_with fail;refine aP (λW' hW'=>?_)
 have e4:W'.heap[w.heap.size+2]?=some (.cells (iT n.id n.par A.k n.kids.length A.ck n.next A.p n.pu.length A.cp a (FL n.out.length).length cp A.s n.seen.length A.cs n.old A.r n.reqs.length A.cr) 40 (0,0)):=by
  rw [hW'];exact GR.setW_blk (iT n.id n.par A.k n.kids.length A.ck n.next A.p n.pu.length A.cp a (FL n.out.length).length cp A.s n.seen.length A.cs n.old A.r n.reqs.length A.cr).toList (o:=0) (xs:=iP.toList) vS
 have fU:aC [w.heap.size+2] (Z.alloc (.cells #[] 98)) W':=by
  rw [hW'];exact aX (iT n.id n.par A.k n.kids.length A.ck n.next A.p n.pu.length A.cp a (FL n.out.length).length cp A.s n.seen.length A.cs n.old A.r n.reqs.length A.cr).toList (Z.alloc (.cells #[] 98)) 0
 have HAT:=Hq (λW'' (ho:Out c w W' W'')=>(show RM W'' ⟨A.k,A.p,a,A.s,A.r,A.ck,A.cp,cp,A.cs,A.cr⟩ (setOut n (FL n.out.length)) from by
  have kF:KC (newC w.heap.size 9 c) 9 (Z.alloc (.cells #[] 98)) W'':=(KC.keeps fU (λy hy=>by have:y=w.heap.size+2:=Aar;rw [this];exact bQ Aaa)).trans (KC.out H9 ho)
  have hoF:W''.ownsRow W2.heap.size 91 4 (.slice a (FL n.out.length).length cp) (FL n.out.length).length (GR.flat aM (FL n.out.length)):=by
   obtain⟨F,hk,hF⟩:=ho;exact(dU (dU HOA fU (λy hy=>by have:y=w.heap.size+2:=Aar;omega)) hk (λy hy=>by have:=(hF y hy).1;omega))
  have h5:=HNA.kc (k:=9) kF Aaa
  exact NQ.put h5 h5 (setOut n (FL n.out.length)) ⟨A.k,A.p,a,A.s,A.r,A.ck,A.cp,cp,A.cs,A.cr⟩ rfl rfl rfl rfl h5.p.at (λg' hg' hp'=> .inl (h5.cpB h5 g' hg' hp')) hoF (λy hy=> .inr (by have h1:=uZ hoF hy;rw [bQ Aaa];omega)) h5.r (λy hy=> .inl (h5.cr y hy))
   (λg' hg' hp' h6=>by have:=h5.cpB h5 g' hg' hp';omega) (λy hy h6 e=>by have:=h5.cr y e;omega)))
 open atU in exact ag2):P:=h
theorem aow.AaY(h:P:=by
 have hnl:=aA HNA;have hrl:=aA vS;go_wp2_with fail;refine aP (λW' hW'=>?_)
 have e4:W'.heap[w.heap.size+2]?=some (.cells (dG N1 A1) 40 (0,0)):=by
  rw [hW'];exact GR.setW_blk (dG N1 A1).toList (o:=0) (xs:=iP.toList) vS
 have fU:aC [w.heap.size+2] (W3.alloc (.cells (dG N1 A1) 40)) W':=by
  rw [hW'];exact aX (dG N1 A1).toList (W3.alloc (.cells (dG N1 A1) 40)) 0
 have HAT:=Hq (λW'' (ho:Out c w W' W'')=>(show RM W'' A1 N1 from(by
  obtain⟨F,hk,hF⟩:=ho
  exact aad _ ⟨(w.heap.size+2)::F,aC.trans (b:=W') ((aC.of_below (ay W3 (.cells (dG N1 A1) 40))).trans (fU.mono (λx hx=>Aba))) (hk.mono (λx hx=>Aan)),λy hy=>by
   rcases aGF.1 hy with h1|h1
   .exact WB
   .exact⟨aGq (hF y h1).1 h02,by rw [fE (hF y h1).1];exact(hF y h1).2⟩⟩)))
 have Ol:=Hq (λW'' (ho:Out c w W' W'')=>(show GR.At mE 7 W'' ma L1 from(by
  obtain⟨F,hk,hF⟩:=ho
  exact aer _ ⟨(w.heap.size+2)::F,aC.trans (b:=W') ((aC.of_below (ay W3 (.cells (dG N1 A1) 40))).trans (fU.mono (λx hx=>Aba))) (hk.mono (λx hx=>Aan)),λy hy=>by
   rcases aGF.1 hy with h1|h1
   .exact WB
   .exact⟨aGq (hF y h1).1 h02,by rw [fE (hF y h1).1];exact(hF y h1).2⟩⟩)))
 open atT in exact ag2):P:=h
theorem aox.AaY(h:P:=by
 have hnl:=aA lF;have hrl:=aA vS;open ars in exact ayO):P:=h
theorem aeO(h:P:=by
 have hrs:(iZ (tl s a)).size<=maxLen:=by have:=tQ (tl s a);rw [xL] at this;unfold maxLen;omega
 have HG:=Hq (MQ (iZ (tl s a)) 0 hrs w hH);have hub:=Vd (iZ (tl s a)) 0;have hsz:=tQ (tl s a);have hz1:Bf (tl s a)<=1002:=by unfold Bf;omega
 have e1:j6 (iZ (tl s a)) 0=Ei (tl s a):=rfl;have e2:jc (iZ (tl s a)) 0=Bf (tl s a):=rfl;rw [e1,e2] at HG;exact AbG):P:=h
theorem aoy.AbG(h:P:=by
 generalize Bf (tl s a)=z at *;clear e1 e2 hrs hub hsz hH hcap hs;generalize Ei (tl s a)=tx at *;generalize iZ (tl s a)=rs at *;have HC:=Hq hc;clear hc;rw [h4];clear h4;exact azu):P:=h
theorem aoz.AbG(h:P:=by
 generalize Bf (tl s a)=z at *;clear e1 e2 hrs hub hsz hH hcap;generalize Ei (tl s a)=tx at *;generalize iZ (tl s a)=rs at *;have HC:=Hq hc;clear hc;exact azu):P:=h
theorem aoA.AbG(h:P:=by
 open aun in exact ag8):P:=h
theorem aoB.AbG(h:P:=by
 open aum in exact ag8):P:=h
theorem akF(h:P:=by
 open awg in exact ahA):P:=h
theorem aoC.Ab3(h:P:=by
 obtain⟨c0,c1,c2,c3,c4,c5,c6,c7,c8⟩:=nine lF;open apd in exact aa9):P:=h
theorem aoD.Ab3(h:P:=by
 obtain⟨g,e0,hBg,hgb⟩:∃g,gX=some ⟨g,0,none⟩/\B<=g/\(∀x,(Value.slice gX n.reqs.length bC).ownBlock=some x↔x=g):=by
  exact azf
 obtain⟨g',off,e0',hg,q0,q1,q2,q3⟩:=gZ.four vZ.at.r i hi;rw [e0] at e0';simp only[aHM,Addr.mk.injEq,and_true] at e0';obtain⟨rfl,rfl⟩:=e0';rw [aHj] at q0 q1 q2 q3;rw [ah HST] at q3;obtain⟨c0,c1,c2,c3,c4,c5,c6,c7,c8⟩:=nine lF;open apc in exact aa9):P:=h
theorem aoE.Ab3(h:P:=by
 obtain⟨g,off,e0,hg,q0,q1,q2,q3⟩:=gZ.four vZ.at.r i hi;rw [ah HST] at q3;obtain⟨c0,c1,c2,c3,c4,c5,c6,c7,c8⟩:=nine lF;open apb in exact aa9):P:=h
theorem aeP(h:P:=by
 have h1:uU F=true:=by unfold nC at hr;simp only[aGl] at hr;exact hr.1.1
 have h2:uU T=true:=by unfold nC at hr;simp only[aGl] at hr;exact hr.1.2
 have hft:¬F=T:=by unfold nC at hr;simp only[aGl,aGR] at hr;exact hr.2
 have H1:=Hq (λw1=>nV F true w1 h1);have H2:=Hq (λw1=>nV T true w1 h2);clear h1 h2;exact AbM):P:=h
theorem aoF.AbM(h:P:=by
 have HP:=Hq (show cZ ⟨K,F,T,I,L,k,N⟩=false by simp[cZ,hr,k0,k1,k2]);clear hr;exact aiy):P:=h
theorem aoG.AbM(h:P:=by
 cases hc2:fO I
 case' false=>
  have HP:=Hq (show cZ ⟨2,F,T,I,L,k,N⟩=false by simp[cZ,hr,hc2]);have EI:=Hq (λw1=>eU I false w1 hc2);exact ak2
 have EI:=Hq (λw1=>eU I true w1 hc2);by_cases hz:k.size=0
 case' neg=>
  have hne:k.toList.isEmpty=false:=kX k Aaa;have HP:=Hq (show cZ ⟨2,F,T,I,L,k,N⟩=false by simp[cZ,hr,hc2,hz]);exact ak2
 obtain rfl:=eq_empty k hz;by_cases hzN:N=0
 case' neg=>
  have HP:=Hq (show cZ ⟨2,F,T,I,L,ByteArray.empty,N⟩=false by simp[cZ,hr,hc2,hz,hzN]);have he:(N == 0)=false:=by simp[hzN]
  exact azU
 subst hzN;by_cases hzL:L=0
 case' neg=>
  have HP:=Hq (show cZ ⟨2,F,T,I,L,ByteArray.empty,0⟩=false by simp[cZ,hr,hc2,hz,hzL]);have he:(L == 0)=false:=by simp[hzL]
  exact azU
 subst hzL;have HP:=Hq (show cZ ⟨2,F,T,I,0,ByteArray.empty,0⟩=true by simp[cZ,hr,hc2,hz]);exact ak2):P:=h
theorem aoH.AbM(h:P:=by
 cases hc2:keyOk k.data.toList
 case' false=>
  have HP:=Hq (show cZ ⟨1,F,T,I,L,k,N⟩=false by simp[cZ,hr,hc2]);exact azW
 have EI:=Hq (λw1=>oJ k true w1 hs hc2);cases hc3:fO N
 case' false=>
  have HP:=Hq (show cZ ⟨1,F,T,I,L,k,N⟩=false by simp[cZ,hr,hc2,hc3]);have HC3:=Hq (λw1=>eU N false w1 hc3);exact ak0
 have HC3:=Hq (λw1=>eU N true w1 hc3);cases hc4:fO I
 case' false=>
  have HP:=Hq (show cZ ⟨1,F,T,I,L,k,N⟩=false by simp[cZ,hr,hc2,hc3,hc4]);have HC4:=Hq (λw1=>eU I false w1 hc4);clear hr hc2 hc3 hc4;go_in
  go_wp2_with (first|(go_at_call_of 100 F;refine(H1 _).mono ?_;rintro e w1 ⟨rfl,rfl⟩)|(go_at_call_of 100 T;refine(H2 _).mono ?_;rintro e w1 ⟨rfl,rfl⟩)|(go_at_call_of 52 k;refine(EI _).mono ?_;rintro e w1 ⟨rfl,rfl⟩)|(go_at_call_of 49 N;refine(HC3 _).mono ?_;rintro e w1 ⟨rfl,rfl⟩)|(go_at_call_of 49 I;refine(HC4 _).mono ?_;rintro e w1 ⟨rfl,rfl⟩))
  exact xQ
 have HC4:=Hq (λw1=>eU I true w1 hc4);cases FD:decide (1<=L/\L<=I)
 case' false=>
  have HP:=Hq (show cZ ⟨1,F,T,I,L,k,N⟩=false by simp[cZ,hr,hc2,hc3,hc4,FD]);have HC5:=Hq (λw1=>yQ L 1 I false w1 FD);exact azM
 have HC5:=Hq (λw1=>yQ L 1 I true w1 FD);have HP:=Hq (show cZ ⟨1,F,T,I,L,k,N⟩=true by simp[cZ,hr,hc2,hc3,hc4,FD]);exact azM):P:=h
theorem aoI.AbM(h:P:=by
 cases hc2:keyOk k.data.toList
 case' false=>
  have HP:=Hq (show cZ ⟨0,F,T,I,L,k,N⟩=false by simp[cZ,hr,hc2]);exact azW
 have EI:=Hq (λw1=>oJ k true w1 hs hc2);cases hc3:fO N
 case' false=>
  have HP:=Hq (show cZ ⟨0,F,T,I,L,k,N⟩=false by simp[cZ,hr,hc2,hc3]);have HC3:=Hq (λw1=>eU N false w1 hc3);exact ak0
 have HC3:=Hq (λw1=>eU N true w1 hc3);by_cases hzI:I=0
 case' neg=>
  have HP:=Hq (show cZ ⟨0,F,T,I,L,k,N⟩=false by simp[cZ,hr,hc2,hc3,hzI]);have he:(I == 0)=false:=by simp[hzI]
  exact azO
 subst hzI;by_cases hzL:L=0
 case' neg=>
  have HP:=Hq (show cZ ⟨0,F,T,0,L,k,N⟩=false by simp[cZ,hr,hc2,hc3,hzL]);have he:(L == 0)=false:=by simp[hzL]
  exact azO
 subst hzL;have HP:=Hq (show cZ ⟨0,F,T,0,0,k,N⟩=true by simp[cZ,hr,hc2,hc3]);exact ak0):P:=h
theorem XQ(h:P:=by
 have y0:=aGj c0;have y1:=aGj c1;have y2:=aGj c2;have y3:=aGj c3;have y4:=aGj c4;have y5:=aGj c5;have y6:=aGj c6;have y7:=aGj c7;have y8:=aGj c8;exact AaZ):P:=h
theorem aoJ.AaZ(h:P:=by
 have x0:=aGj d0;have x1:=aGj d1;have x2:=aGj d2;have x3:=aGj d3;clear c0 c1 c2 c3 c4 c5 c6 c7 c8 c9 d0 d1 d2 d3 HR3;refine dx 7 Aab ?_;show fA _ _ _ _ _ 8 (Array.replicate 8 false) _ _
 refine tk [0,1,2,3,4,5] ?_;iterate 6 (refine vX (λK hK=>?_);go_simp;refine hK _ ?_;clear hK K)
 refine kD ?_;refine eX 6 20 rfl Aab Aab Aab Aab Aab (λ_ _ _ _ h=>h) (λK hK=>?_);go_simp
 first
  |(refine hK _ ?_;clear hK K)
  |(apply Exists.intro
    refine⟨λ_=>?_,hK _ ?_⟩
    (exact aBV _)
    clear hK K)
 clear y0 y1 y2 y3 y4 y5 y6 y7 y8 x0 x1 x2 x3;refine bE Aab (λx hx=>?_);have JU:=Hq (HSY x cc vv k hk ⟨qK,qF,qT,qI,qL,qk,qN⟩ HKk (ER.step hx));clear hx ER;refine aG 7 rfl Aab Aad ?_;go_simp;refine JU.mono ?_;rintro e y ⟨rfl,c',v',hY⟩;have HY:=Hq hY;clear hY JU;refine wpAny_done Aab ?_;go_simp;go_wp2_with fail;go_roundw
 case rel=>exact⟨k+1,c',v',Aaa,Aaf,by rw [ah HT];exact HY⟩
 case measure=>simp[intOf];omega):P:=h
theorem aoK.AaZ(h:P:=by
 have z1:=aGj p1;have z2:=aGj p2;clear c0 c1 c2 c3 c4 c5 c6 c7 c8 c9 p0 p1 p2 p3 p4 p5 p6 yg HW1;by_cases hT:mT=n.id
 .have hq:(mT == n.id)=true:=by simpa using hT
  have HD:=Hq (show(decide (mT=n.id)&&nb)=nb by rw [aGk hT];rfl);exact azz
 .have hq:(mT == n.id)=false:=by simpa using hT
  have HD:=Hq (show(decide (mT=n.id)&&nb)=false by rw [aGi hT];rfl);exact azz):P:=h
theorem aoL.AaZ(h:P:=by
 have y9:=aGj c9;have y10:=aGj c10;clear e0 e1 c0 c1 c2 c3 c4 c5 c6 c7 c8 c9 c10;generalize cK ⟨s[0].toNat,N1,TX,N2,⟨mK,mF,mT,mI,mL,mk,mN⟩⟩=bo at *;refine dB Aab ?_;show iq _ _ _ _ 15 (Array.replicate 15 false) _ _
 refine tk [0,1,2,3,4,5,6,7,8,9,10,11] ?_;iterate 12 (refine BA (λK hK=>?_);go_simp;refine hK _ ?_;clear hK K)
 refine kD ?_;refine aV 12 rfl Aab Aab Aab (λ_ _ _ _ h=>h) (λK hK=>?_);go_simp
 first
  |(refine hK _ ?_;clear hK K)
  |(apply Exists.intro
    refine⟨λ_=>?_,hK _ ?_⟩
    (exact oN _)
    clear hK K)
 refine tk [13,14] ?_;open awO in exact aaY):P:=h
theorem aoM.AaZ(h:P:=by
 have x0:=aGj s0;have x1:=aGj s1;have x2:=aGj s2;have x3:=aGj s3;have hnz:=aA OJ;have hsz:=aA aky;clear c0 c1 c2 c3 c4 c5 c6 c7 c8 s0 s1 s2 s3;refine Ho 5 Aab ?_;show kU _ _ _ _ _ 8 (Array.replicate 8 false) _ _
 refine tk [0,1,2] ?_;iterate 3 (refine tkF (λK hK=>?_);go_simp;refine hK _ ?_;clear hK K)
 refine kD ?_;clear y0 y1 y2 y3 y4 y5 y6 y7 y8 x0 x1 x2 x3 hnz hsz OJ aky;refine VD 3 rfl Aab Aad Aae (λx hx=>?_);go_simp;refine(Il x hx).mono ?_;rintro e y ⟨rfl,hby⟩;refine⟨hby,?_⟩;have HY:=Hq (Ge.trans hx hby);clear hx hby Il;refine VE 4 rfl rfl Aab Aad Aad Aae (λz hz=>?_) (λz hz=>?_)
 .have HZ:=Hq (Ge.trans HY hz);clear hz HY;go_simp;refine⟨ay z _,?_⟩;refine Oh Aab (λz2 hz2=>?_);have HZ2:=Hq (Ge.trans HZ (Ge.trans (ay z _) hz2));have OE:=Hq (au (aGg z (.cells (bX qK qF qT qI qL qk qN) 98)) hz2);have yH:=Hq (au akv HZ2);have hmz:w.heap.size+1 < z.heap.size:=aGq (aA akv) HZ.size;clear hz2;open atc in exact agO
 .have HZ:=Hq (Ge.trans HY hz);have yH:=Hq (au akv HZ);clear hz HY;open atb in exact agO):P:=h
theorem aoN.AaZ(h:P:=by
 clear c0 c1 c2 c3 c4 c5 c6 c7 c8;refine dx 3 Aab ?_;show fA _ _ _ _ _ 6 (Array.replicate 6 false) _ _
 refine tk [0,1] ?_;iterate 2 (refine vX (λK hK=>?_);go_simp;refine hK _ ?_;clear hK K)
 refine kD ?_;clear y0 y1 y2 y3 y4 y5 y6 y7 y8;refine dP 2 rfl Aab Aad (λx hx=>?_);go_simp;refine(jR x A1 (BH.at.below hx)).mono ?_;rintro e y ⟨ma,mc,rfl,g,hmw,hml,hby⟩;refine⟨hby,?_⟩;have HY:=Hq (Ge.trans hx hby);have hxs:=hx.size;clear hx hby jR iQ HOX p0 p1 p2 p3 p4 p5 p6 p7 p8 p9 oU hnl hol;refine bE Aab (λz hz=>?_);have HZ:=Hq (Ge.trans HY hz);have JR:=Hq (au rD HZ);have uo:=Hq (kJ.trans (HZ.mono kJ.size));have Ih:=Hq (BH.kc (k:=9) (KC.of_below HZ) Aaa);have Ml:∀x'∈fp g L1,(λq=>if q<=w.heap.size+2 then 9 else 0) x'=0:=λx' hx'=>aGr (by have:=(hml x' hx').1;have:=aA rD;omega)
 have HMW:=Hq ((KC.of_below (c:=λq=>if q<=w.heap.size+2 then 9 else 0) (k:=9) hz).w hmw Ml Aaa);have amN:=Hq Ml;clear hz Ml hmw hml HY HZ BH kJ rD;obtain⟨d0,d1,d2,d3,d4,d5,d6,d7,d8⟩:=nine JR;have f0:=aj JR 0;have f1:=aj JR 1;have f2:=aj JR 2;have f3:=aj JR 3;have f4:=aj JR 4;have f5:=aj JR 5;have f6:=aj JR 6;have f7:=aj JR 7;have f8:=aj JR 8;have hrl:=aA JR;refine aG 3 rfl Aab Aad ?_;go_simp;refine aG 4 rfl Aab Aad ?_;go_simp;refine aG 5 rfl Aab Aad ?_;go_simp;refine wpAny_done Aab ?_;go_simp;clear d0 d1 d2 d3 d4 d5 d6 d7 d8 f0 f1 f2 f3 f4 f5 f6 f7 f8 hrl;go_wp2_with fail;refine aP (λW' hW'=>?_)
 have e4:W'.heap[w.heap.size+2]?=some (.cells (dG n A1) 40 (0,0)):=by
  rw [hW'];exact GR.setW_blk (dG n A1).toList (o:=0) (xs:=iP.toList) JR
 have fU:aC [w.heap.size+2] z W':=by
  rw [hW'];exact aX (dG n A1).toList z 0
 have Ol:=Hq ((KC.keeps (c:=λq=>if q<=w.heap.size+2 then 9 else 0) (k:=9) fU (λx hx=>aGC (by have:x=w.heap.size+2:=(by simpa using hx);omega))).w HMW amN Aaa);have HAT:=Hq (λW'' (ho:Ez w W' W'')=>((Ih.kc (k:=9) (KC.keeps fU (λx hx=>by have:x=w.heap.size+2:=Aah;rw [this];exact EI)) Aaa).kc (k:=9) (ho.kc (λx hx=>HC9 x Aaa)) Aaa).rm);have pO:Hid (aI w W'):=uo.trans (fU.below (λx hx=>by have:x=w.heap.size+2:=Aah;omega) uo.size);obtain⟨x0,x1,x2,x3,x4,x5,x6,x7,x8⟩:=nine e4;clear hW' e4 fU;exact aGn (v:= .tuple #[(gP n A1),.slice ma L1.length mc,.int .i64 0]) Aaz rfl ⟨A1,ma,⟨mc,rfl⟩,HAT,λW'' ho=>((ho.kc (c:=λq=>if q<=w.heap.size+2 then 9 else 0) (k:=9) (λx hx=>aGC Aaa)).w Ol amN Aaa).at,pO⟩):P:=h
theorem aoO.AaZ(h:P:=by
 have z1:=aGj p1;clear c0 c1 c2 c3 c4 c5 c6 c7 c8 c9 p0 p1 p2 p3 p4 p5 p6;refine dB Aab ?_;show iq _ _ _ _ 8 (Array.replicate 8 false) _ _
 refine tk [0,1,2,3,4,5] ?_;iterate 6 (refine BA (λK hK=>?_);go_simp;refine hK _ ?_;clear hK K)
 refine kD ?_;refine aV 6 rfl Aab Aab Aab (λ_ _ _ _ h=>h) (λK hK=>?_);go_simp
 first
  |(refine hK _ ?_;clear hK K)
  |(apply Exists.intro
    refine⟨λ_=>?_,hK _ ?_⟩
    (exact HKD _ (Tg _))
    clear hK K)
 refine tk [7] ?_;(refine BA (λK hK=>?_);go_simp;refine hK _ ?_;clear hK K)
 refine kD ?_;refine fF Aab (λz hz=>?_);have HZ:=Hq (HW1.step hz);exact AaL):P:=h
theorem aeQ(h:P:=by
 have hbw:aI wr W1:=by rw [hW1];exact ay wr _
 have BF:=Hq (au Hu hbw);have rZ:=Hq (dS.trans (hbw.mono dS.size));exact AbD):P:=h
theorem aoP.AbD(h:P:=by
 have HI1:=Hq (GR.At.below HI hbw);have hgw1:=hbw.size;have HKI:=Hq (GR.At.below HA rZ)
 have DU:Hid ((k=0/\pv=true)\/∃(j:Nat) (y:Int),k=j+1/\pv=decide (y < fr)/\W1.cell? ⟨g,off+j*3,none⟩=some (.int .i64 y)):=by
  rcases Sr with h|⟨j,y,h1,h2,h3⟩
  .exact .inl h
  .exact .inr ⟨j,y,h1,h2,(hbw.cell (p:=⟨g,off+j*3,none⟩) hgw).trans h3⟩
 clear hW1 hbw q0 q1 q2 c0 c1 c2 c3 c4 c5 c6 Sr HI Hu;obtain⟨d0,d1,d2⟩:=three HW1;open atw in exact agX):P:=h
theorem aoQ.AbD(h:P:=by
 have hgw1:=hbw.size
 have DU:Hid ((k=0/\pv=true)\/∃(j:Nat) (y:Int),k=j+1/\pv=decide (y < si)/\W1.cell? ⟨g,off+j*4,none⟩=some (.int .i64 y)):=by
  exact ai1
 clear hW1 hbw q0 q1 q2 q3 c0 c1 c2 c3 c4 c5 c6 c7 c8 Sr Hu;obtain⟨d0,d1,d2,d3⟩:=iO HW1;open atv in exact agX):P:=h
theorem aoR.AbD(h:P:=by
 clear hW1 hbw q0 q1 q2 q3 Hu;obtain⟨d0,d1,d2,d3⟩:=iO HW1;go_cut [56] (λr wx=>r= .bool bb/\wx=W1)
 case first=>
  by_cases g1:y < si
  case' neg=>
   have hb1:decide (si<=y)=true:=aGk Aaa
   have HV:=Hq (show bb=true by rw [<-ah fI];simp[g1])
   clear fI Bu
   go_wp2_with (fail)
   go_meet
   case rel=>exact⟨Aam,rfl⟩
  have hb1:decide (si<=y)=false:=aGi Aaa;cases g2:rz si
  case' false=>
   have Hg2:=Hq (λw1=>kV si false w1 g2)
   have HV:=Hq (show bb=true by rw [<-ah fI];simp[g2])
   clear fI Bu
   go_wp2_with (first|(go_at_call 207;refine(Hg2 _).mono ?_;rintro e w9 ⟨rfl,rfl⟩))
   go_meet
   case rel=>exact⟨Aam,rfl⟩
  have Hg2:=Hq (λw1=>kV si true w1 g2);cases g3:keyOk sx.data.toList
  case' false=>
   have Hg3:=Hq (λw1=>iH sx false w1 g3)
   have HV:=Hq (show bb=true by rw [<-ah fI];simp[g3])
   clear fI Bu
   go_wp2_with (first|(go_at_call 207;refine(Hg2 _).mono ?_;rintro e w9 ⟨rfl,rfl⟩)|(go_at_call 204;refine(Hg3 _).mono ?_;rintro e w9 ⟨rfl,rfl⟩))
   go_meet
   case rel=>exact⟨Aam,rfl⟩
  have Hg3:=Hq (λw1=>iH sx true w1 g3);cases g4:fO sn
  case' false=>
   have Hg4:=Hq (λw1=>aQ sn false w1 g4)
   have HV:=Hq (show bb=true by rw [<-ah fI];simp[g4])
   clear fI Bu
   go_wp2_with (first|(go_at_call 207;refine(Hg2 _).mono ?_;rintro e w9 ⟨rfl,rfl⟩)|(go_at_call 204;refine(Hg3 _).mono ?_;rintro e w9 ⟨rfl,rfl⟩)|(go_at_call 169;refine(Hg4 _).mono ?_;rintro e w9 ⟨rfl,rfl⟩))
   go_meet
   case rel=>exact⟨Aam,rfl⟩
  have Hg4:=Hq (λw1=>aQ sn true w1 g4);by_cases g5:0<=st
  case' neg=>
   have hb5:decide (st < 0)=true:=aGk Aaa
   have HV:=Hq (show bb=true by rw [<-ah fI];simp[g5])
   clear fI Bu
   go_wp2_with (first|(go_at_call 207;refine(Hg2 _).mono ?_;rintro e w9 ⟨rfl,rfl⟩)|(go_at_call 204;refine(Hg3 _).mono ?_;rintro e w9 ⟨rfl,rfl⟩)|(go_at_call 169;refine(Hg4 _).mono ?_;rintro e w9 ⟨rfl,rfl⟩))
   go_meet
   case rel=>exact⟨Aam,rfl⟩
  have hb5:decide (st < 0)=false:=aGi Aaa;by_cases g6:st<=2
  case' neg=>
   have hb6:decide (2 < st)=true:=aGk Aaa
   have HV:=Hq (show bb=true by rw [<-ah fI];simp[g6])
   clear fI Bu
   go_wp2_with (first|(go_at_call 207;refine(Hg2 _).mono ?_;rintro e w9 ⟨rfl,rfl⟩)|(go_at_call 204;refine(Hg3 _).mono ?_;rintro e w9 ⟨rfl,rfl⟩)|(go_at_call 169;refine(Hg4 _).mono ?_;rintro e w9 ⟨rfl,rfl⟩))
   go_meet
   case rel=>exact⟨Aam,rfl⟩
  have hb6:decide (2 < st)=false:=aGi Aaa;have HV:=Hq (show bb=false by rw [<-ah fI];simp[g1,g2,g3,g4,g5,g6]);clear fI Bu;go_wp2_with (first|(go_at_call 207;refine(Hg2 _).mono ?_;rintro e w9 ⟨rfl,rfl⟩)|(go_at_call 204;refine(Hg3 _).mono ?_;rintro e w9 ⟨rfl,rfl⟩)|(go_at_call 169;refine(Hg4 _).mono ?_;rintro e w9 ⟨rfl,rfl⟩))
  go_meet
  case rel=>exact⟨Aam,rfl⟩
 case rest=>
  obtain⟨rfl,rfl⟩:=hcut;clear fI;cases hbv:bb
  .have HG:=Hq (show iA KB RR (reqs.take (k+1))=true by rw [ah Bu,hbv];rfl);subst hbv;clear HBAD Bu;go_wp2_with fail;go_roundw
   case rel=>exact⟨k+1,si,Aaa,Aaf,rfl,El.symm,HG,BF,rZ⟩
   case measure=>simp[intOf];omega
  .have HP:=Hq (HBAD (by rw [ah Bu,hbv];rfl));subst hbv;clear HBAD Bu;go_wp2_with fail;go_ret;exact⟨aF HP.symm,rZ⟩):P:=h
theorem aoS.AbD(h:P:=by
 clear hW1 hbw q0 q1 q2 q3 Hu;obtain⟨d0,d1,d2,d3⟩:=iO HW1;obtain⟨c0,c1,c2,c3,c4,c5,c6,c7,c8⟩:=nine BF;go_cut [46] (λr wx=>r= .bool bb/\aI W1 wx)
 case first=>
  by_cases h1:y < si
  case' neg=>
   have HV:=Hq (show bb=true by rw [<-ah fI];simp[h1])
   have hb1:decide (si<=y)=true:=aGk Aaa
   clear fI Bu
   go_wp2_with fail
   go_meet
   case rel=>exact⟨Aam,aGs _ _⟩
  have hb1:decide (si<=y)=false:=aGi Aaa;by_cases h2:si < next
  case' neg=>
   have HV:=Hq (show bb=true by rw [<-ah fI];simp[h2])
   have hb2:decide (next<=si)=true:=aGk Aaa
   clear fI Bu
   go_wp2_with fail
   go_meet
   case rel=>exact⟨Aam,aGs _ _⟩
  have hb2:decide (next<=si)=false:=aGi Aaa;go_wp2_with fail;refine(Sl _ _ rZ).mono ?_;rintro e w2 ⟨rfl,hb3⟩;have HB3:=Hq hb3;have HW2:=Hq (au HW1 hb3);clear hb3 d0 d1 d2 d3 c0 c1 c2 c3 c4 c5 c6 c7 c8;obtain⟨d0,d1,d2,d3⟩:=iO HW2;cases h3:NN st
  case' false=>
   have HV:=Hq (show bb=true by rw [<-ah fI];simp[h3])
   clear fI Bu h3
   go_wp2_with fail
   go_meet
   case rel=>exact⟨Aam,HB3⟩
  cases h4:keyOk sx.data.toList
  case' false=>
   have HV:=Hq (show bb=true by rw [<-ah fI];simp[h4])
   have H4:=Hq (λw1=>iH sx false w1 h4)
   clear fI Bu h3 h4
   go_wp2_with (go_at_call 204;refine(H4 _).mono ?_;rintro e w9 ⟨rfl,rfl⟩)
   go_meet
   case rel=>exact⟨Aam,HB3⟩
  have H4:=Hq (λw1=>iH sx true w1 h4);have HV:=Hq (show bb= !fO sn by rw [<-ah fI];simp[h1,h2,h3,h4]);have H5:=Hq (λw1=>aQ sn _ w1 rfl);clear fI Bu h3 h4;go_wp2_with (first|(go_at_call 204;refine(H4 _).mono ?_;rintro e w9 ⟨rfl,rfl⟩)|(go_at_call 169;refine(H5 _).mono ?_;rintro e w9 ⟨rfl,rfl⟩))
  go_meet
  case rel=>exact⟨Aam,HB3⟩
 case rest=>
  obtain⟨rfl,hbx⟩:=hcut;open auD in exact Wp):P:=h
theorem ayr(h:P:=by
 clear hz hok hm hL he HR hw hF hks hb HID;generalize (takeN n o.m).1=n' at *;open as3 in exact aaI):P:=h
theorem aoT.Ac6(h:P:=by
 obtain⟨c0,c1,c2,c3,c4,c5,c6,c7,c8,c9⟩:=jW HY.blk;obtain⟨⟨p0,p1,p2,p3,p4,p5,p6⟩,_⟩:=eT Il;have alM:=aA HY.blk;have aFd:=aA Il;go_upto_region 10 with fail;have y0:=aGj c0;have z1:=aGj p1;have z3:=aGj p3;clear c0 c1 c2 c3 c4 c5 c6 c7 c8 c9 p0 p1 p2 p3 p4 p5 p6;refine dx 11 Aab ?_;show fA _ _ _ _ _ 12 (Array.replicate 12 false) _ _
 refine tk [0,1,2,3,4,5,6,7,8,9,10] ?_;iterate 11 (refine vX (λK hK=>?_);go_simp;refine hK _ ?_;clear hK K)
 refine kD ?_;clear y0 z1 z3;refine bE Aab (λx hx=>?_);have JU:=Hq (HSY x A' G' c' n' (HY.step hx));clear hx;refine aG 11 rfl Aab Aad ?_;go_simp;refine JU.mono ?_;rintro e z ⟨rfl,c2,v2,hZ⟩;have HZ:=Hq hZ;clear hZ JU;refine wpAny_done Aab ?_;go_simp;go_wp2_with fail;go_ret;exact⟨rfl,A',G',c2,v2,HZ⟩):P:=h
theorem aoU.Ac6(h:P:=by
 go_wp2_with fail;go_ret;exact⟨rfl,A',G',c',v,by rw [aHB];exact HY⟩):P:=h
theorem O4(h:P:=by
 open av7 in exact OZ):P:=h
theorem aoV.AaT(h:P:=by
 clear HO p0 p1 p2 p3 p4 p5 p6;have f1:=adl;open aDb in exact Tt):P:=h
theorem aoW.AaT(h:P:=by
 clear HO HM p0 p1 p2 p3 p4 p5 p6;have f1:=adn;open aqd in exact akI):P:=h
theorem aoX.AaT(h:P:=by
 clear HO p0 p1 p2 p3 p4 p5 p6;have f1:=adn;open aDc in exact Tt):P:=h
theorem aoY.AaT(h:P:=by
 clear HO p0 p1 p2 p3 p4 p5 p6;have f1:=Xe;open aDd in exact Tt):P:=h
theorem aoZ.AaT(h:P:=by
 clear p0 p1 p2 p3 p4 p5 p6;refine dB Aab ?_;show iq _ _ _ _ 30 (Array.replicate 30 false) _ _
 open anU in exact aym):P:=h
theorem ao0.AaT(h:P:=by
 have y7:=aGj p7;have y8:=aGj p8;have y9:=aGj p9;have y10:=aGj oU;clear p0 p1 p2 p3 p4 p5 p6 p7 p8 p9 oU;refine dB Aab ?_;show iq _ _ _ _ 23 (Array.replicate 23 false) _ _
 open anV in exact aym):P:=h
theorem ao1.AaT(h:P:=by
 clear HO HM p0 p1 p2 p3 p4 p5 p6;have f1:=Xe;open aqc in exact akI):P:=h
theorem ao2.AaT(h:P:=by
 clear HO HM p0 p1 p2 p3 p4 p5 p6;have f1:=adl;open aqb in exact akI):P:=h
theorem aa8(h:P:=by
 rw [hmo] at HMO;unfold oz at HMO;have Sl:=Hq (λW (ha:dH W A.k n.kids)=>GK n A mF W hkl ha);rw [h2] at Sl;clear hmo h2;have mZ:=Hq (h.nine hB);clear h;go_in
 go_upto_region 1 with fail;refine wp_at (λW0 hW=>?_);exact Aa9):P:=h
theorem ao3.Aa9(h:P:=by
 obtain⟨e1,e2,e3,e4⟩:=gF w (.cells (dG n A) 40) (.cells (bX 0 mF mT mI mL mk mN) 98) (.cells iP 40);open aB9 in exact Yk3):P:=h
theorem ao4.Aa9(h:P:=by
 obtain⟨e1,e2,e3,e4⟩:=gF w (.cells (dG n A) 40) (.cells (bX 0 mF mT mI mL mk mN) 98) (.cells iP 40);open aCa in exact Yk3):P:=h
theorem ao5.Aa9(h:P:=by
 obtain⟨e1,e2,e3,e4⟩:=gF w (.cells (dG n A) 40) (.cells (bX mK mF mT mI mL mk mN) 98) (.cells iP 40);open aCb in exact Yk3):P:=h
theorem ao6.Aa9(h:P:=by
 obtain⟨e1,e2,e3,e4⟩:=gF w (.cells (dG n A) 40) (.cells (bX 2 mF mT mI mL mk mN) 98) (.cells iP 40);open aCc in exact Yk3):P:=h
theorem ao7.Aa9(h:P:=by
 obtain⟨e1,e2,e3,e4⟩:=gF w (.cells (dG n A) 40) (.cells (bX 1 mF mT mI mL mk mN) 98) (.cells iP 40);open aCd in exact Yk3):P:=h
theorem ays(h:P:=by
 go_upto_region 1 with fail;have y0:=aGj c0;have y1:=aGj c1;clear c0 c1;refine dB Aab ?_;show iq _ _ _ _ 14 (Array.replicate 14 false) _ _
 refine tk [0,1,2,3,4,5,6,7] ?_;iterate 8 (refine BA (λK hK=>?_);go_simp;refine hK _ ?_;clear hK K)
 refine kD ?_;refine aV 8 rfl Aab Aab Aab (λ_ _ _ _ h=>h) (λK hK=>?_);go_simp
 first
  |(refine hK _ ?_;clear hK K)
  |(apply Exists.intro
    refine⟨λ_=>?_,hK _ ?_⟩
    (exact HC _ (Tg _))
    clear hK K)
 refine tk [9,10,11,12,13] ?_;iterate 5 (refine BA (λK hK=>?_);go_simp;refine hK _ ?_;clear hK K)
 refine kD ?_;refine fF Aab (λz hz=>?_);have HZ:=Hq hz;have JR:=Hq (aK H hz);clear hz y0 y1 Tg HC H;go_simp;go_wp2_with fail;refine(HG _ JR).mono ?_;rintro e w1 ⟨rfl,rfl⟩;go_wp2_with fail;exact Aff):P:=h
theorem ao8.Aff(h:P:=by
 exact⟨rfl,rfl,HZ⟩):P:=h
theorem ao9.Aff(h:P:=by
 go_ret;exact⟨rfl,jT.set JR _,(dW.of_below HZ).trans (dW.set _)⟩):P:=h
theorem aa9(h:P:=by
 obtain⟨d0,d1,d2,d3,d4,d5,d6,d7,d8⟩:=nine rD;have f0:=aj rD 0;have f1:=aj rD 1;have f2:=aj rD 2;have f3:=aj rD 3;have f4:=aj rD 4;have f5:=aj rD 5;have f6:=aj rD 6;have f7:=aj rD 7;have f8:=aj rD 8;exact Aa3):P:=h
theorem apa.Aa3(h:P:=by
 open awv in exact ahG):P:=h
theorem apb.Aa3(h:P:=by
 have hnl:=aA lF;have hrl:=aA rD;clear q0 q1 q2 HST;dsimp only at e0;subst e0;go_wp2_with fail;refine aP (λW' hW'=>?_)
 have e4:W'.heap[w.heap.size+1]?=some (.cells (iT n.id n.par a_k n.kids.length bf n.next ku n.pu.length dJ fP n.out.length bJ gN n.seen.length bg n.old (some ⟨g,off,none⟩) n.reqs.length bC) 40 (0,0)):=by
  exact azc
 have fU:aC [w.heap.size+1] W1 W':=by
  exact azd
 open aqN in exact ayE):P:=h
theorem apc.Aa3(h:P:=by
 have hnl:=aA lF;have hrl:=aA rD;first|dsimp only at e0|skip
 subst e0;have HQ3:=Hq q3;have HQS:=Hq (And.intro q0 (And.intro q1 (And.intro q2 q3)));generalize n.reqs[i].k=qk at *;exact AaJ):P:=h
theorem apd.Aa3(h:P:=by
 have hnl:=aA lF;open awu in exact ahG):P:=h
theorem ape.Aa3(h:P:=by
 have hrl:=aA rD;go_wp2_with fail;refine aP (λW' hW'=>?_)
 have e4:W'.heap[w.heap.size+2]?=some (.cells (dG n A1) 40 (0,0)):=by
  rw [hW'];exact GR.setW_blk (dG n A1).toList (o:=0) (xs:=iP.toList) rD
 have fU:aC [w.heap.size+2] X W':=by
  rw [hW'];exact aX (dG n A1).toList X 0
 open awr in exact ahE):P:=h
theorem ayt(h:P:=by
 open atd in exact agP):P:=h
theorem apf.Aev(h:P:=by
 rintro e W3 ⟨A1,G1,cc,rfl,hNO,hb3,_,_⟩;have lV:=Hq (au EP hb3);have HB3:=Hq (iy.trans (hb3.mono iy.size));have mZ:=Hq hNO;have hrs:=aA EP;clear hb3 hNO c0 c1 c2 c3 c4 c5 c6 c7 c8 hnl Oj Ii akn EP;exact azw):P:=h
theorem apg.Aev(h:P:=by
 rintro e W3 ⟨A1,G1,cc,rfl,hNO,hb3,hP1,hP2,hR1,hR2⟩;have lV:=Hq (au EP hb3);have l7:=Hq (au Ii hb3);have Lu:=Hq (au akn hb3);have HB3:=Hq (iy.trans (hb3.mono iy.size));have HPR:=Hq (And.intro (And.intro hP1 hP2) (And.intro hR1 hR2));have mZ:=Hq (hNO.flat (b:=0) (aGB _));have HC9:=Hq (λx (hx:x < w.heap.size+3)=>Yg (b:=0) (aGB _) (hNO.lo x (by have:=aA EP;omega)));have hrs:=aA EP;have H9:=Hq (abW 0 cc);generalize yt 0 cc=c at *;have EI:=Hq (HC9 (w.heap.size+2) Aaa);have Oi:=Hq (HC9 w.heap.size Aaa);clear hb3 hNO hP1 hP2 hR1 hR2 c0 c1 c2 c3 c4 c5 c6 c7 c8 hnl Oj Ii akn EP;obtain⟨d0,d1,d2,d3,d4,d5,d6,d7,d8⟩:=nine l7;have f0:=aj l7 0;have f1:=aj l7 1;have f2:=aj l7 2;have f3:=aj l7 3;have f4:=aj l7 4;have f5:=aj l7 5;have f6:=aj l7 6;have f7:=aj l7 7;have f8:=aj l7 8;obtain⟨⟨p0,p1,p2,p3,p4,p5,p6,p7,p8,p9,oU⟩,_⟩:=aL Lu;have hnl:=aA l7;have hol:=aA Lu;go_upto_region 5 with fail;refine wp_at (λX hX=>?_)
 have e5:X.heap[w.heap.size]?=some (.cells (dG n A1) 40 (0,0)):=by
  exact azi
 have hkx:aC [w.heap.size] W3 X:=by
  exact azp
 have iQ:=Hq e5;have HOX:=Hq ((hkx.block _ (aA Lu) Aac).trans Lu);have rD:=Hq ((hkx.block _ (aA lV) Aac).trans lV);have kJ:=Hq (HB3.trans (hkx.below (B:=w.heap.size) (λx hx=>by have:x=w.heap.size:=Aah;omega) HB3.size));have BH:=Hq (mZ.kc (k:=9) (KC.keeps hkx (λx hx=>by have:x=w.heap.size:=Aah;rw [this];exact Oi)) Aaa);exact Kk0):P:=h
theorem akG(h:P:=by
 obtain⟨pk,pm,pf,ps⟩:=p;unfold iI at hp;simp only[aGl] at hp;obtain⟨⟨⟨⟨_,a1⟩,a2⟩,a3⟩,a4⟩:=hp;have b1:0<=pm/\pm<=1000000000:=aGw a1;have b2:0<=pf/\pf<=1000000000:=aGw a2;have b3:0<=ps/\ps<=1000000000:=aGw a3;obtain⟨Ou,a11⟩:=b1;obtain⟨a20,a21⟩:=b2;obtain⟨a30,a31⟩:=b3;obtain⟨h10,h11⟩:=h1;obtain⟨h20,h21⟩:=h2;obtain⟨h30,h31⟩:=h3;clear a1 a2 a3 a4;exact AbU):P:=h
theorem aph.AbU(h:P:=by
 dsimp only at hf;clear he;rcases hf with hf|⟨hf,hs⟩
 all_goals
  go_in
  go_upto_region 5 with fail
  refine Fo.wp_at (λV hV=>?_)
  obtain⟨_,hC,hbel⟩:=Bc (w:=w) (w1:=V) (by rw [hV];exact aGs _ _)
  have HC:=Hq hC
  have dS:=Hq hbel
  have vv:=(HE.below hbel).var 4 Aaa
  have hsz:=(show w.heap.size+1+1 < V.heap.size from Fo.lt_of_blk hC)
  obtain⟨⟨r0,r1,r2,r3⟩,s0,s1,s2,s3⟩:=gu hC
  clear hC hbel hV
  go_region
  all_goals
   go_wp2_with fail
   refine Fo.bodyPost_at (λW' hW'=>?_)
   obtain⟨⟨t0,t1,t2,t3⟩,_⟩:=gu (show W'.heap[w.heap.size+1+1]?=some (.cells (jh ⟨#[]⟩ 0 0 0) 108 (0,0)) by rw [hW'];exact Fo.four_set (w:=V.drew) HC)
   have hbb:aI w W':=by rw [hW'];exact Fo.four_below (w:=V.drew) (dS.trans ⟨rfl,rfl,rfl,aGh _,λ_ _=>rfl⟩) Aaa
   exact aGn (v:= .tuple #[.agg (jh ⟨#[]⟩ 0 0 0),uJ (E 4)]) (by simp[results,results303,go_sem,t0,t1,t2,t3]) rfl ⟨rfl,hbb⟩):P:=h
theorem apj.AbU(h:P:=by
 dsimp only at hf hs;clear hok he;open aya in exact aic):P:=h
theorem apk.AbU(h:P:=by
 dsimp only at hf hs;clear hok;open ax9 in exact aic):P:=h
theorem ayu(h:P:=by
 have uy:=Hq fU;clear fU;refine aG 12 rfl Aab Aad ?_;go_simp;refine aG 13 rfl Aab Aad ?_;go_simp;refine wpAny_done Aab ?_;go_simp;go_wp2_with fail;refine aP (λW' hW'=>?_);subst hW';have fU:=ah uy;open awq in exact ahE):P:=h
theorem apl.Ac1(h:P:=by
 exact aGn (v:= .tuple #[(gP n A1),.slice (some ⟨y.heap.size,0,none⟩) 1 1,.int .i64 0]) Aaz rfl ⟨A1,some ⟨y.heap.size,0,none⟩,1,rfl,HAT,Ol,pO⟩):P:=h
theorem apm.Ac1(h:P:=by
 exact aGn (v:= .tuple #[(gP n A1),.slice (some ⟨x.heap.size,0,none⟩) 1 1,.int .i64 0]) Aaz rfl ⟨A1,some ⟨x.heap.size,0,none⟩,1,rfl,HAT,Ol,pO⟩):P:=h
theorem vU(h:P:=by
 obtain⟨id,par,kids,next,pu,out,seen,old,reqs⟩:=n;obtain⟨ak,ap,ao,as',ar,ck,cp,co,cs,cr⟩:=A;exact AaP):P:=h
theorem apn.AaP(h:P:=by
 dsimp only at hl HA HD ES su Ow EJ ⊢;cases h1:uU id
 case' false=>
  have HP:=Hq (HD (by rw [h1];rfl));clear HD ES su Ow EJ;go_in
  go_wp2_with (first|(go_at_call 100;refine(nV _ false _ h1).mono ?_;rintro e w1 ⟨rfl,rfl⟩))
  exact xQ
 cases h2:decide (-1<=par/\par<=29)
 case' false=>
  have HP:=Hq (HD (by rw [h2];simp));clear HD ES su Ow EJ;go_in
  go_wp2_with (first|(go_at_call 100;refine(nV _ true _ h1).mono ?_;rintro e w1 ⟨rfl,rfl⟩)|(go_at_call 18;refine(yQ _ _ _ false _ h2).mono ?_;rintro e w1 ⟨rfl,rfl⟩))
  exact xQ
 by_cases h3:par=id
 case' pos=>
  have hb3:(par == id)=true:=by simp[h3]
  have HP:=Hq (HD (by simp[h3]));clear h3 HD ES su Ow EJ;exact aio
 have hb3:(par == id)=false:=by simp[h3]
 by_cases h4:kids.length<=30
 case' neg=>
  have hb4:decide ((30:Int) < kids.length)=true:=aGk Aaa;have HP:=Hq (HD (by simp[h4]));clear HD ES su Ow EJ;exact aio
 have hb4:decide ((30:Int) < kids.length)=false:=aGi Aaa;have oN:=Hq (ES h1 (aGw h2) h3 h4);clear HD ES;open awR in exact ahM):P:=h
theorem apo.AaP(h:P:=by
 dsimp only at hl hl2 HA HS rU HD su Ow EJ Sl kJ ⊢;go_in
 go_upto_if 12 with fail;open arz in exact akO):P:=h
theorem apq.AaP(h:P:=by
 dsimp only at Om HPU Oq Sl HOT OL HD kJ ⊢;have hlo:=hz.o;have hlr:=hz.r;dsimp only at hlo hlr;clear ha hz;go_in
 go_upto_region 1 with fail;open arx in exact akO):P:=h
theorem apr.AaP(h:P:=by
 obtain⟨si,st,sx,sn⟩:=s;dsimp only at hl HA HLY zw El HP HR HO HB ⊢;obtain⟨c0,c1,c2,c3,c4,c5,c6,c7,c8⟩:=nine HP;obtain⟨d0,d1,d2,d3⟩:=iO HR;go_in
 go_wp2_with fail;go_loopw [5,13] (λlv i wr=>∃k:Nat,k<=out.length/\i= .int .i64 k/\lv= .int .i64 si/\(out.take k).find? (λo=>decide (o.t=st))=none/\Below (((w.alloc (.cells (dG ⟨id,par,kids,next,pu,out,seen,old,reqs⟩ ⟨ak,ap,ao,as',ar,ck,cp,co,cs,cr⟩) 40)).alloc (.cells (gV si st sx sn) 91)).alloc (.cells zm7 98)).heap.size (((w.alloc (.cells (dG ⟨id,par,kids,next,pu,out,seen,old,reqs⟩ ⟨ak,ap,ao,as',ar,ck,cp,co,cs,cr⟩) 40)).alloc (.cells (gV si st sx sn) 91)).alloc (.cells zm7 98)) wr) (λ_ i _=>out.length - (intOf i).toNat)
 case atStart=>exact⟨0,aGB _,rfl,rfl,rfl,aGs _ _⟩
 case round=>
  obtain⟨k,hk,rfl,rfl,hno,hbx⟩:=hrel;have HN:=Hq hno;have yg:=Hq (au HP hbx);have HR1:=Hq (au HR hbx);have HO1:=Hq (au HO hbx);have HB1:=Hq (HB.trans (hbx.mono HB.size));have kJ:=Hq hbx;clear hno hbx c0 c1 c2 c3 c4 c5 c6 c7 c8 d0 d1 d2 d3;obtain⟨c0,c1,c2,c3,c4,c5,c6,c7,c8⟩:=nine yg;obtain⟨d0,d1,d2,d3⟩:=iO HR1;have hrz:=aA HO1;have aFJ:w.heap.size+1 < wr.heap.size:=Aaa
  have aFI:w.heap.size < wr.heap.size:=Aaa
  by_cases hlt:k < out.length
  .obtain⟨g,off,e0,hgw,q0,q1,q2,q3⟩:=SentAt.four (GR.At.below HA HB1) k hlt;(try dsimp only at e0 q0 q1 q2 q3)
   subst e0;by_cases ht:(out[k]).t=st
   .have HY:=Hq (HLY k hlt HN ht);have hb:((out[k]).t == st)=true:=by simp[ht]
    clear ht HLY zw El;generalize out[k]=sk at *;obtain⟨ui,ut,ux,un⟩:=sk;dsimp only at q0 q1 q2 q3 hb HY;have hyy:=ah HY;subst hyy;go_upto_region 8 with fail;refine wp_at (λW3 hW3=>?_);have hbw:aI wr W3:=by rw [hW3];exact ay wr _
    open aqf in exact ayx
   .have HS:=Hq (zw k hlt HN ht);have hb:((out[k]).t == st)=false:=by simp[ht]
    clear ht HLY zw El;generalize out[k]=sk at *;obtain⟨ui,ut,ux,un⟩:=sk;dsimp only at q0 q1 q2 q3 hb;go_wp2_with fail;go_roundw
    case rel=>exact⟨k+1,Aaa,Aaf,rfl,HS,kJ.alloc kJ.size _⟩
    case measure=>simp[intOf];omega
  .open asi in exact abe):P:=h
theorem aps.AaP(h:P:=by
 dsimp only at hl HA HLY zw El c0 c1 c2 c3 c4 c5 c6 c7 c8 ⊢;go_in
 go_wp2_with fail;go_loop [7] (λi=>∃k:Nat,k<=out.length/\i= .int .i64 k/\(out.take k).find? (λo=>decide (o.t=t))=none) (λi=>out.length - (intOf i).toNat)
 case atStart=>exact⟨0,aGB _,rfl,rfl⟩
 case round=>
  obtain⟨k,hk,rfl,hno⟩:=hrel;have HN:=Hq hno;clear hno;by_cases hlt:k < out.length
  .obtain⟨g,off,e0,hgw,q0,q1,q2,q3⟩:=SentAt.four HA k hlt;subst e0;by_cases ht:(out[k]).t=t
   .have HY:=Hq (HLY k hlt HN ht);have hb:((out[k]).t == t)=true:=by simp[ht]
    clear ht HLY zw El;generalize out[k]=sk at *;obtain⟨si,st,sx,sn⟩:=sk;dsimp only at q0 q1 q2 q3 hb HY;go_wp2_with fail;go_ret;exact⟨mQ HY.symm,ay w _⟩
   .have HS:=Hq (zw k hlt HN ht);have hb:((out[k]).t == t)=false:=by simp[ht]
    clear ht HLY zw El;generalize out[k]=sk at *;obtain⟨si,st,sx,sn⟩:=sk;dsimp only at q0 q1 q2 q3 hb;go_wp2_with fail;go_round
    case rel=>exact⟨k+1,Aaa,Aaf,HS⟩
    case measure=>simp[intOf];omega
  .open ash in exact abe):P:=h
theorem apt.AaP(h:P:=by
 obtain⟨bk,bp,bo,bs',br,dk,dp,dO,ds,dr⟩:=A';dsimp only at HK HP HO HS HR HA0 HB0 qg ⊢;go_in
 obtain⟨c0,c1,c2,c3,c4,c5,c6,c7,c8⟩:=nine HA0;obtain⟨d0,d1,d2,d3,d4,d5,d6,d7,d8⟩:=nine HB0;go_wp2_with fail;refine(HK _ qg).mono ?_;rintro e w1 ⟨rfl,hb1⟩;have HA1:=Hq (au HA0 hb1);open ayd in exact aa6):P:=h
theorem apu.AaP(h:P:=by
 dsimp only at OV HTP Oq HTS HTR ⊢;go_in
 go_upto_region 4 with fail;refine wp_at (λW0 hW0=>?_);obtain⟨hP,hR,hO,hB⟩:=zO w (.cells (dG ⟨id,par,kids,next,pu,out,seen,old,reqs⟩ ⟨ak,ap,ao,as',ar,ck,cp,co,cs,cr⟩) 28) (.cells (iT 0 0 none 0 0 0 none 0 0 none 0 0 none 0 0 0 none 0 0) 40) (.cells (iT id par none 0 0 0 none 0 0 none 0 0 none 0 0 0 none 0 0) 40);rw [<-hW0] at hP hR hO hB;have TQ:=Hq (TN.mk hP hR hO (rows:=[]) (λx hx=>by cases hx) hB);clear hP hR hO hB hW0;obtain⟨c0,c1,c2,c3,c4,c5,c6,c7,c8⟩:=nine TQ.par;go_wp2_with fail;refine(OV _ TQ.bel).mono ?_;rintro e w1 ⟨rfl,hblk,hb⟩;have hg:w.heap.size+1+1 < W0.heap.size:=aA (ah TQ).out;have UU:=Hq ((TQ.step hb).add [(W0.heap.size,_)] (λx hx=>by rw [aGA] at hx;subst hx;exact⟨hg,hblk⟩));have o0:=aA hblk;clear hblk hb hg TQ;clear c0 c1 c2 c3 c4 c5 c6 c7 c8;obtain⟨c0,c1,c2,c3,c4,c5,c6,c7,c8⟩:=nine UU.par;obtain⟨d0,d1,d2,d3,d4,d5,d6,d7,d8⟩:=nine (ah UU).out;have f0:=aj (ah UU).out 0;have f1:=aj (ah UU).out 1;have f2:=aj (ah UU).out 2;have f3:=aj (ah UU).out 3;have f4:=aj (ah UU).out 4;have f5:=aj (ah UU).out 5;have f6:=aj (ah UU).out 6;have f7:=aj (ah UU).out 7;have f8:=aj (ah UU).out 8;go_upto_region 6 with fail;refine wp_at (λW1 hW=>?_);have TQ:=(UU.put 2 (.slice (some ⟨W0.heap.size,0,none⟩) kids.length kids.length)).put 3 (.int .i64 next);rw [<-hW] at TQ;replace TQ:=Hq TQ
 have hzz:W1.heap.size=w1.heap.size:=Ace
 rw [<-hzz] at o0;clear c0 c1 c2 c3 c4 c5 c6 c7 c8 d0 d1 d2 d3 d4 d5 d6 d7 d8 f0 f1 f2 f3 f4 f5 f6 f7 f8;clear hW hzz UU;obtain⟨c0,c1,c2,c3,c4,c5,c6,c7,c8⟩:=nine TQ.par;go_wp2_with fail;refine(HTP _ TQ.bel).mono ?_;rintro e w2 ⟨rfl,hblk,hb⟩;have hg:w.heap.size+1+1 < W1.heap.size:=aA (ah TQ).out;have UU:=Hq ((TQ.step hb).add [(W1.heap.size,_)] (λx hx=>by rw [aGA] at hx;subst hx;exact⟨hg,hblk⟩));have o1:=aA hblk;clear hblk hb hg TQ;clear c0 c1 c2 c3 c4 c5 c6 c7 c8;obtain⟨c0,c1,c2,c3,c4,c5,c6,c7,c8⟩:=nine UU.par;obtain⟨d0,d1,d2,d3,d4,d5,d6,d7,d8⟩:=nine (ah UU).out;have f0:=aj (ah UU).out 0;have f1:=aj (ah UU).out 1;have f2:=aj (ah UU).out 2;have f3:=aj (ah UU).out 3;have f4:=aj (ah UU).out 4;have f5:=aj (ah UU).out 5;have f6:=aj (ah UU).out 6;have f7:=aj (ah UU).out 7;have f8:=aj (ah UU).out 8;go_upto_region 7 with fail;refine wp_at (λW2 hW=>?_);have TQ:=UU.put 4 (.slice (some ⟨W1.heap.size,0,none⟩) pu.length pu.length);rw [<-hW] at TQ;replace TQ:=Hq TQ
 have hzz:W2.heap.size=w2.heap.size:=Ace
 rw [<-hzz] at o1;clear c0 c1 c2 c3 c4 c5 c6 c7 c8 d0 d1 d2 d3 d4 d5 d6 d7 d8 f0 f1 f2 f3 f4 f5 f6 f7 f8;clear hW hzz UU;obtain⟨c0,c1,c2,c3,c4,c5,c6,c7,c8⟩:=nine TQ.par;go_wp2_with fail;refine(Oq _ TQ.bel).mono ?_;rintro e w3 ⟨rfl,hblk,hb⟩;have hg:w.heap.size+1+1 < W2.heap.size:=aA (ah TQ).out;have UU:=Hq ((TQ.step hb).add [(W2.heap.size,_)] (λx hx=>by rw [aGA] at hx;subst hx;exact⟨hg,hblk⟩));have o2:=aA hblk;clear hblk hb hg TQ;clear c0 c1 c2 c3 c4 c5 c6 c7 c8;obtain⟨c0,c1,c2,c3,c4,c5,c6,c7,c8⟩:=nine UU.par;obtain⟨d0,d1,d2,d3,d4,d5,d6,d7,d8⟩:=nine (ah UU).out;have f0:=aj (ah UU).out 0;have f1:=aj (ah UU).out 1;have f2:=aj (ah UU).out 2;have f3:=aj (ah UU).out 3;have f4:=aj (ah UU).out 4;have f5:=aj (ah UU).out 5;have f6:=aj (ah UU).out 6;have f7:=aj (ah UU).out 7;have f8:=aj (ah UU).out 8;go_upto_region 8 with fail;refine wp_at (λW3 hW=>?_);have TQ:=UU.put 5 (.slice (some ⟨W2.heap.size,0,none⟩) out.length out.length);rw [<-hW] at TQ;replace TQ:=Hq TQ
 have hzz:W3.heap.size=w3.heap.size:=Ace
 rw [<-hzz] at o2;clear c0 c1 c2 c3 c4 c5 c6 c7 c8 d0 d1 d2 d3 d4 d5 d6 d7 d8 f0 f1 f2 f3 f4 f5 f6 f7 f8;clear hW hzz UU;obtain⟨c0,c1,c2,c3,c4,c5,c6,c7,c8⟩:=nine TQ.par;go_wp2_with fail;refine(HTS _ TQ.bel).mono ?_;rintro e w4 ⟨rfl,⟨TT,II,hblk,hTl,hII,hIm⟩,hb⟩;have hg:w.heap.size+1+1 < W3.heap.size:=aA (ah TQ).out;have ES:=Hq hTl;have HII:=Hq (λi hi=>(hII i hi).2.2.1);have HIM:=Hq hIm
 have UU:=Hq ((TQ.step hb).add ((W3.heap.size,.cells (GR.flat fq TT).toArray 110 (0,0))::(List.range seen.length).map λi=>(II i,.cells (GR.flat aS (seen.getD i default).ids).toArray 3 (0,0))) (λx hx=>by
  rcases aGF.1 hx with rfl|hx
  .exact⟨hg,hblk⟩
  .obtain⟨i,hi,rfl⟩:=aHQ.1 hx;have h:=hII i (aG7.1 hi)
   exact⟨Nat.lt_trans hg h.1,h.2.2.2⟩))
 have o3:W3.heap.size < w4.heap.size/\∀i,i < seen.length->W3.heap.size < II i/\II i < w4.heap.size:=⟨aA hblk,λi hi=>⟨(hII i hi).1,(hII i hi).2.1⟩⟩;clear hblk hb hg hTl hII hIm TQ;clear c0 c1 c2 c3 c4 c5 c6 c7 c8;obtain⟨c0,c1,c2,c3,c4,c5,c6,c7,c8⟩:=nine UU.par;obtain⟨d0,d1,d2,d3,d4,d5,d6,d7,d8⟩:=nine (ah UU).out;have f0:=aj (ah UU).out 0;have f1:=aj (ah UU).out 1;have f2:=aj (ah UU).out 2;have f3:=aj (ah UU).out 3;have f4:=aj (ah UU).out 4;have f5:=aj (ah UU).out 5;have f6:=aj (ah UU).out 6;have f7:=aj (ah UU).out 7;have f8:=aj (ah UU).out 8;go_upto_region 10 with fail;refine wp_at (λW4 hW=>?_);have TQ:=(UU.put 6 (.slice (some ⟨W3.heap.size,0,none⟩) seen.length seen.length)).put 7 (.int .i64 old);rw [<-hW] at TQ;replace TQ:=Hq TQ
 have hzz:W4.heap.size=w4.heap.size:=Ace
 rw [<-hzz] at o3;clear c0 c1 c2 c3 c4 c5 c6 c7 c8 d0 d1 d2 d3 d4 d5 d6 d7 d8 f0 f1 f2 f3 f4 f5 f6 f7 f8;clear hW hzz UU;obtain⟨c0,c1,c2,c3,c4,c5,c6,c7,c8⟩:=nine TQ.par;go_wp2_with fail;refine(HTR _ TQ.bel).mono ?_;rintro e w5 ⟨rfl,hblk,hb⟩;have hg:w.heap.size+1+1 < W4.heap.size:=aA (ah TQ).out;have UU:=Hq ((TQ.step hb).add [(W4.heap.size,_)] (λx hx=>by rw [aGA] at hx;subst hx;exact⟨hg,hblk⟩));have o4:=aA hblk;clear hblk hb hg TQ;clear c0 c1 c2 c3 c4 c5 c6 c7 c8;obtain⟨c0,c1,c2,c3,c4,c5,c6,c7,c8⟩:=nine UU.par;obtain⟨d0,d1,d2,d3,d4,d5,d6,d7,d8⟩:=nine (ah UU).out;have f0:=aj (ah UU).out 0;have f1:=aj (ah UU).out 1;have f2:=aj (ah UU).out 2;have f3:=aj (ah UU).out 3;have f4:=aj (ah UU).out 4;have f5:=aj (ah UU).out 5;have f6:=aj (ah UU).out 6;have f7:=aj (ah UU).out 7;have f8:=aj (ah UU).out 8;go_upto_region 11 with fail;refine wp_at (λW5 hW=>?_);have TQ:=UU.put 8 (.slice (some ⟨W4.heap.size,0,none⟩) reqs.length reqs.length);rw [<-hW] at TQ;replace TQ:=Hq TQ
 have hzz:W5.heap.size=w5.heap.size:=Ace
 rw [<-hzz] at o4;clear c0 c1 c2 c3 c4 c5 c6 c7 c8 d0 d1 d2 d3 d4 d5 d6 d7 d8 f0 f1 f2 f3 f4 f5 f6 f7 f8;clear hW hzz UU;obtain⟨d0,d1,d2,d3,d4,d5,d6,d7,d8⟩:=nine (show W5.heap[w.heap.size+1+1]?=some (.cells (dG ⟨id,par,kids,next,pu,out,seen,old,reqs⟩ ⟨some ⟨W0.heap.size,0,none⟩,some ⟨W1.heap.size,0,none⟩,some ⟨W2.heap.size,0,none⟩,some ⟨W3.heap.size,0,none⟩,some ⟨W4.heap.size,0,none⟩,kids.length,pu.length,out.length,seen.length,reqs.length⟩) 40 (0,0)) from(ah TQ).out);obtain⟨r0,r1,r2,r3,r4,r5,r6,r7,r8⟩:=nine TQ.res;have f0:=aj TQ.res 0;have f1:=aj TQ.res 1;have f2:=aj TQ.res 2;have f3:=aj TQ.res 3;have f4:=aj TQ.res 4;have f5:=aj TQ.res 5;have f6:=aj TQ.res 6;have f7:=aj TQ.res 7;have f8:=aj TQ.res 8;have hlt:=aA TQ.res;go_wp2_with fail;refine aP (λW' hW'=>?_);have hR:=adt (b0:= .int .i64 id) (b1:= .int .i64 par) (b2:= .slice (some ⟨W0.heap.size,0,none⟩) kids.length kids.length) (b3:= .int .i64 next) (b4:= .slice (some ⟨W1.heap.size,0,none⟩) pu.length pu.length) (b5:= .slice (some ⟨W2.heap.size,0,none⟩) out.length out.length) (b6:= .slice (some ⟨W3.heap.size,0,none⟩) seen.length seen.length) (b7:= .int .i64 old) (b8:= .slice (some ⟨W4.heap.size,0,none⟩) reqs.length reqs.length) TQ.res;have hK:=UR (w:=W5) (g:=w.heap.size+1) (b0:= .int .i64 id) (b1:= .int .i64 par) (b2:= .slice (some ⟨W0.heap.size,0,none⟩) kids.length kids.length) (b3:= .int .i64 next) (b4:= .slice (some ⟨W1.heap.size,0,none⟩) pu.length pu.length) (b5:= .slice (some ⟨W2.heap.size,0,none⟩) out.length out.length) (b6:= .slice (some ⟨W3.heap.size,0,none⟩) seen.length seen.length) (b7:= .int .i64 old) (b8:= .slice (some ⟨W4.heap.size,0,none⟩) reqs.length reqs.length);rw [<-hW'] at hR hK;clear d0 d1 d2 d3 d4 d5 d6 d7 d8 r0 r1 r2 r3 r4 r5 r6 r7 r8 f0 f1 f2 f3 f4 f5 f6 f7 f8 hW';obtain⟨x0,x1,x2,x3,x4,x5,x6,x7,x8⟩:=nine hR;have hrow:=TQ.rows;have fI:=TQ.bel.trans (hK.below (B:=w.heap.size) (λx hx=>Aaj) TQ.bel.size);have q0:=hrow _ (aG5 _ (aG5 _ (aG5 _ (aG5 _ (aHC _ (aGA.2 rfl))))));have q1:=hrow _ (aG5 _ (aG5 _ (aG5 _ (aHC _ (aGA.2 rfl)))));have q2:=hrow _ (aG5 _ (aG5 _ (aHC _ (aGA.2 rfl))));have q3:=hrow _ (aG5 _ (aHC _ (List.mem_cons_self ..)));have q4:=hrow _ (aHC _ (aGA.2 rfl));have q5:=λi (hi:i < seen.length)=>hrow (II i,_) (aG5 _ (aHC _ (aHY _ (aHQ.2 ⟨i,aG7.2 hi,rfl⟩))))
 dsimp only at q0 q1 q2 q3 q4 q5;obtain⟨o3,o3i⟩:=o3;refine aGn (v:=gP ⟨id,par,kids,next,pu,out,seen,old,reqs⟩ ⟨some ⟨W0.heap.size,0,none⟩,some ⟨W1.heap.size,0,none⟩,some ⟨W2.heap.size,0,none⟩,some ⟨W3.heap.size,0,none⟩,some ⟨W4.heap.size,0,none⟩,kids.length,pu.length,out.length,seen.length,reqs.length⟩) (by simp[results,results22,go_sem,x0,x1,x2,x3,x4,x5,x6,x7,x8]) rfl ⟨_,rfl,⟨W0.heap.size,W1.heap.size,W2.heap.size,W3.heap.size,W4.heap.size,II⟩,?_,?_,fI⟩
 .refine jd.keeps (w:=W5) (F:=[w.heap.size+1]) ⟨GR.W.of_blk aO q0.2,GR.W.of_blk aU q1.2,GR.W.of_blk aZ q2.2,eF.of q3.2 ES (λi hi=>⟨HII i hi,(q5 i hi).2⟩),GR.W.of_blk aN q4.2⟩ hK (λx hx=>?_)
  have hx':w.heap.size+1+1 < x:=by
   rcases aR.mem_all.1 hx with h|h|h|h|h|h
   .rw [(dQ h).1];exact q0.1
   .rw [(dQ h).1];exact q1.1
   .rw [(dQ h).1];exact q2.1
   .rw [(dQ h).1];exact q3.1
   .obtain⟨i,hi,rfl,_⟩:=qM h;exact(q5 i hi).1
   .rw [(dQ h).1];exact q4.1
  simp;omega
 .have hs5:=hK.size;have o4':=o4
  have hI:∀x∈nA II seen,W3.heap.size < x/\x < W4.heap.size:=λx hx=>by
   obtain⟨i,hi,rfl,_⟩:=qM hx
   exact o3i i hi
  refine⟨?_,λx hx=>?_⟩
  .unfold aR.all;dsimp only;rw [aHp,aHp,aHp,aHp,aHp];refine⟨jN _ _,⟨jN _ _,⟨jN _ _,⟨jN _ _,⟨afl HIM,jN _ _,?_⟩,?_⟩,?_⟩,?_⟩,?_⟩
   all_goals
    intro a ha b hb
    (try simp only[aGE] at hb)
   .have:=hI a ha;rw [(dQ hb).1];omega
   .rw [(dQ ha).1];rcases hb with hb|hb
    .have:=hI b hb;omega
    .rw [(dQ hb).1];omega
   .rw [(dQ ha).1];rcases hb with hb|hb|hb
    .rw [(dQ hb).1];omega
    .have:=hI b hb;omega
    .rw [(dQ hb).1];omega
   .rw [(dQ ha).1];rcases hb with hb|hb|hb|hb
    .rw [(dQ hb).1];omega
    .rw [(dQ hb).1];omega
    .have:=hI b hb;omega
    .rw [(dQ hb).1];omega
   .rw [(dQ ha).1];rcases hb with hb|hb|hb|hb|hb
    .rw [(dQ hb).1];omega
    .rw [(dQ hb).1];omega
    .rw [(dQ hb).1];omega
    .have:=hI b hb;omega
    .rw [(dQ hb).1];omega
  .have hq:=q0.1;rcases aR.mem_all.1 hx with h|h|h|h|h|h
   .rw [(dQ h).1];dsimp only;omega
   .rw [(dQ h).1];dsimp only;omega
   .rw [(dQ h).1];dsimp only;omega
   .rw [(dQ h).1];dsimp only;omega
   .have:=hI x h;omega
   .rw [(dQ h).1];dsimp only;omega):P:=h
theorem apv.AaP(h:P:=by
 obtain⟨si,st,sx,sn⟩:=s;dsimp only at hl HLW hP hR hO hB ⊢;have HP:=Hq hP;have HR:=Hq hR;have HO:=Hq hO;have HB:=Hq hB;clear ha hP hR hO hB HPM;go_in
 go_upto_region 1 with fail;refine wp_at (λW hW=>?_);rw [<-hW] at HP HR HO HB;have aBK:=Hq (HLW W HB);have hz2:w.heap.size+1+1 < W.heap.size:=aA HO;have hz1:w.heap.size+1 < W.heap.size:=Aaa
 have hz0:w.heap.size < W.heap.size:=Aaa
 have hne0:w.heap.size+1+1≠w.heap.size:=Aaa
 have hne1:w.heap.size+1+1≠w.heap.size+1:=Aaa
 clear hW HLW;obtain⟨c0,c1,c2,c3,c4,c5,c6,c7,c8⟩:=nine HP;obtain⟨d0,d1,d2,d3⟩:=iO HR
 go_region_held (λw'=>(w'.cell? ⟨w.heap.size,0,none⟩=some (.int .i64 id)/\w'.cell? ⟨w.heap.size,1,none⟩=some (.int .i64 par)/\w'.cell? ⟨w.heap.size,2,none⟩=some (.slice ak kids.length ck)/\w'.cell? ⟨w.heap.size,3,none⟩=some (.int .i64 next)/\w'.cell? ⟨w.heap.size,4,none⟩=some (.slice ap pu.length cp)/\w'.cell? ⟨w.heap.size,5,none⟩=some (.slice ao out.length co)/\w'.cell? ⟨w.heap.size,6,none⟩=some (.slice as' seen.length cs)/\w'.cell? ⟨w.heap.size,7,none⟩=some (.int .i64 old)/\w'.cell? ⟨w.heap.size,8,none⟩=some (.slice ar reqs.length cr))/\w'.cell? ⟨w.heap.size+1,0,none⟩=some (.int .i64 si)/\w'.cell? ⟨w.heap.size+1,1,none⟩=some (.int .i64 st)/\w'.cell? ⟨w.heap.size+1,2,none⟩=some (.string sx)/\w'.cell? ⟨w.heap.size+1,3,none⟩=some (.int .i64 sn)) (first|go_keep|(refine⟨⟨?_,?_,?_,?_,?_,?_,?_,?_,?_⟩,?_,?_,?_,?_⟩<;>first|exact aDF hne0 (by assumption)|exact aDF hne1 (by assumption)))
  (first
   |(go_at_call 183;refine(aBK W.drew rfl).mono ?_;rintro e w5 ⟨rfl,hb5⟩;have hb6:aI W w5:=⟨hb5.os,hb5.tape,hb5.output,hb5.size,hb5.block⟩;clear hb5;have JO:=Hq (au HP hb6);have XI:=Hq (au HR hb6);have JJ:=Hq (au HO hb6);have iy:=Hq (HB.trans (hb6.mono HB.size));clear hb6;obtain⟨y0,y1,y2,y3,y4,y5,y6,y7,y8⟩:=nine JO;obtain⟨z0,z1,z2,z3⟩:=iO XI;obtain⟨r0,r1,r2,r3,r4,r5,r6⟩:=jV JJ;have f0:=aj JJ 0;have f1:=aj JJ 1;have f2:=aj JJ 2;have f3:=aj JJ 3;have f4:=aj JJ 4;have f5:=aj JJ 5;have f6:=aj JJ 6))
 all_goals
  go_wp2_with fail
  refine aP (λW' hW'=>?_)
  have hR:=zk (b0:= .int .i64 1) (b1:= .int .i64 id) (b2:= .int .i64 st) (b3:= .int .i64 si) (b4:= .int .i64 LO) (b5:= .string sx) (b6:= .int .i64 sn) JJ
  have hK:=vF (w:=w5) (g:=w.heap.size+1+1) (b0:= .int .i64 1) (b1:= .int .i64 id) (b2:= .int .i64 st) (b3:= .int .i64 si) (b4:= .int .i64 LO) (b5:= .string sx) (b6:= .int .i64 sn)
  rw [<-hW'] at hR hK
  obtain⟨x0,x1,x2,x3,x4,x5,x6⟩:=jV hR
  refine aGn (v:= .agg (bX 1 id st si LO sx sn)) (by simp[results,results149,go_sem,x0,x1,x2,x3,x4,x5,x6]) rfl ⟨rfl,iy.trans (hK.below (λx hx=>by have:x=w.heap.size+1+1:=Aah;omega) iy.size)⟩):P:=h
theorem apw.AaP(h:P:=by
 dsimp only at hlo HAO Lv oN Il Om ⊢;go_in
 go_upto_region 1 with fail;refine wp_at (λW0 hW0=>?_);rw [<-hW0] at Lv;have HB0:Hid (aI w W0):=by rw [hW0];exact ay w _
 have afv:w.heap.size < W0.heap.size:=aA Lv;have aFE:w.heap.size≠W0.heap.size:=Aaa
 clear hW0;have amX:Hid ((W0.alloc (.cells #[] 98)).ownsRow W0.heap.size 98 7 (.slice (some ⟨W0.heap.size,0,none⟩) 0 0) 0 []):=aGY (base:=W0.heap.size) (e:=98) (size:=7) W0 #[] 0 (aGh _) Aae rfl;go_wp2_with fail;go_loopw [3,4] (λov i wr=>∃(k:Nat) (va:Option Addr) (vc:Nat),k<=out.length/\i= .int .i64 k/\ov= .slice va k vc/\wr.ownsRow W0.heap.size 98 7 (.slice va k vc) k (GR.flat mE ((out.take k).map PM))/\aI W0 wr/\(0 < k->OK=true)) (λ_ i _=>out.length - (intOf i).toNat)
 case atStart=>exact⟨0,some ⟨W0.heap.size,0,none⟩,0,aGB _,rfl,rfl,amX,ay W0 _,λh=>Aaa⟩
 case round=>
  obtain⟨k,va,vc,hk,rfl,rfl,hown,hbel,hpos⟩:=hrel;have HO:=Hq hown;have dS:=Hq hbel;have HW:=Hq (HB0.trans (hbel.mono HB0.size));have yg:=Hq (au Lv hbel);clear hown hbel amX;obtain⟨c0,c1,c2,c3,c4,c5,c6,c7,c8⟩:=nine yg;by_cases hlt:k < out.length
  .obtain⟨g,off,e0,hg,q0,q1,q2,q3⟩:=SentAt.four (GR.At.below HAO HB0) k hlt;subst e0;have am4:=Hq (oN wr HW);go_wp2_with fail;refine am4.mono ?_;rintro e w4 ⟨rfl,hb4⟩;have SL:=Hq (GR.own_below HO hb4);have EA:=Hq (dS.trans (hb4.mono dS.size));clear hb4 am4 c0 c1 c2 c3 c4 c5 c6 c7 c8 yg dS HW HO;have Sq:=Hq (au Lv EA);have HW4:=Hq (HB0.trans (EA.mono HB0.size));cases hOK:OK
   .have hk0:k=0:=by
     rcases Nat.eq_zero_or_pos k with h|h
     .exact h
     .exact absurd (hpos h) (by rw [hOK];simp)
    subst hk0;have HE:Hid (L=[]):=by rw [ah Om,hOK];rfl
    clear hpos hOK Om;go_wp2_with fail;go_ret;rw [ah HE];exact BD.of_own rfl SL Aaa HW4
   .clear hpos;have akp:=Hq (Il out[k] w4 HW4);have HT:=Hq (show(out.take (k+1)).map PM=(out.take k).map PM++[PM out[k]] by rw [aGt hlt,List.map_append];rfl);generalize out[k]=sk at *;generalize PM sk=mk at *;obtain⟨si,st,sx,sn⟩:=sk;obtain⟨mK,mF,mT,mI,mL,mk,mN⟩:=mk;dsimp only at q0 q1 q2 q3;have HQ0:=Hq q0;have HQ1:=Hq q1;have HQ2:=Hq q2;have HQ3:=Hq q3;have x0:=(EA.cell (p:=⟨g,off+k*4,none⟩) hg).trans q0;have x1:=(EA.cell (p:=⟨g,off+k*4+1,none⟩) hg).trans q1;have x2:=(EA.cell (p:=⟨g,off+k*4+2,none⟩) hg).trans q2;have x3:=(EA.cell (p:=⟨g,off+k*4+3,none⟩) hg).trans q3;clear q0 q1 q2 q3;obtain⟨c0,c1,c2,c3,c4,c5,c6,c7,c8⟩:=nine Sq;go_wp2_with fail
    go_region_held_law (λw'=>(w'.cell? ⟨w.heap.size,0,none⟩=some (.int .i64 id)/\w'.cell? ⟨w.heap.size,1,none⟩=some (.int .i64 par)/\w'.cell? ⟨w.heap.size,2,none⟩=some (.slice ak kids.length ck)/\w'.cell? ⟨w.heap.size,3,none⟩=some (.int .i64 next)/\w'.cell? ⟨w.heap.size,4,none⟩=some (.slice ap pu.length cp)/\w'.cell? ⟨w.heap.size,5,none⟩=some (.slice (some ⟨g,off,none⟩) out.length co)/\w'.cell? ⟨w.heap.size,6,none⟩=some (.slice as' seen.length cs)/\w'.cell? ⟨w.heap.size,7,none⟩=some (.int .i64 old)/\w'.cell? ⟨w.heap.size,8,none⟩=some (.slice ar reqs.length cr))/\w'.cell? ⟨g,off+k*4,none⟩=some (.int .i64 si)/\w'.cell? ⟨g,off+k*4+1,none⟩=some (.int .i64 st)/\w'.cell? ⟨g,off+k*4+2,none⟩=some (.string sx)/\w'.cell? ⟨g,off+k*4+3,none⟩=some (.int .i64 sn)) (go_keep)
     (first
      |((go_at_call 149);(refine(akp w4.drew rfl).mono ?_);(rintro e w5 ⟨rfl,hb5⟩);(have hb6:aI w4 w5:=⟨hb5.os,hb5.tape,hb5.output,hb5.size,hb5.block⟩);(clear hb5);(have JJ:=Hq (GR.own_below SL hb6));(have fZ:=Hq (EA.trans (hb6.mono EA.size)));(clear hb6);(have JO:=Hq (au Lv fZ));(obtain⟨y0,y1,y2,y3,y4,y5,y6,y7,y8⟩:=nine JO);(have u0:=(fZ.cell (p:=⟨g,off+k*4,none⟩) hg).trans HQ0);(have u1:=(fZ.cell (p:=⟨g,off+k*4+1,none⟩) hg).trans HQ1);(have u2:=(fZ.cell (p:=⟨g,off+k*4+2,none⟩) hg).trans HQ2);(have u3:=(fZ.cell (p:=⟨g,off+k*4+3,none⟩) hg).trans HQ3))
      |((refine CS _ rfl (.tmp 17) (.tmp 25) 41 rfl W0.heap.size 98 i0 (.agg (bX 0 0 0 0 0 ByteArray.empty 0)) 7 64 underlying41 hi hz0 hz1 hz2 rfl Aae (.slice va k vc) k (GR.flat mE ((out.take k).map PM)) Aak (JJ.alloc _) ⟨w5.heap.size,0,none⟩ 1 1 (mE ⟨mK,mF,mT,mI,mL,mk,mN⟩) Aak rfl (aG3 (aGg w5 _)) (Px _) Aai Aaa (aGm fZ.size Aac) ?_);(intro v6 w6 hown6 rA PZ);(have Kg:w6.ownsRow W0.heap.size 98 7 v6 (k+1) (GR.flat mE ((out.take (k+1)).map PM)):=by rw [ah HT,jB];exact hown6);(obtain⟨va6,vc6,hv6,_⟩:=GR.own_at (enc:=mE) (sz:=7) (l:=(out.take (k+1)).map PM) rH (by rw [aHi,aGG,aHb Aaa];exact Kg));(rw [aHi,aGG,aHb Aaa] at hv6);(subst hv6);(have HO6:=Hq Kg);(have Ov:=Hq (show aI W0 w6 from(fZ.alloc fZ.size _).trans (Mi rA (λk e=>(JJ.lt k e).1) (aGm fZ.size Aac))));(clear hown6 rA PZ Kg);(have HP6:=Hq (au Lv Ov));(obtain⟨z0,z1,z2,z3,z4,z5,z6,z7,z8⟩:=nine HP6);(have t0:=(Ov.cell (p:=⟨g,off+k*4,none⟩) hg).trans HQ0);(have t1:=(Ov.cell (p:=⟨g,off+k*4+1,none⟩) hg).trans HQ1);(have t2:=(Ov.cell (p:=⟨g,off+k*4+2,none⟩) hg).trans HQ2);(have t3:=(Ov.cell (p:=⟨g,off+k*4+3,none⟩) hg).trans HQ3))
      |fail)
    all_goals
     go_wp2_with fail
     go_roundw
     case rel=>exact⟨k+1,va6,vc6,Aaa,Aaf,rfl,HO6,Ov,λ_=>hOK⟩
     case measure=>simp[intOf];omega
  .open asg in exact abe):P:=h
theorem apx.AaP(h:P:=by
 dsimp only at hl HD HA su jR zw VO kJ ⊢;clear ha;go_in
 go_upto_region 1 with fail;refine wp_at (λW0 hW0=>?_);have hblk:W0.heap[w.heap.size]?=some (.cells (dG ⟨id,par,kids,next,pu,out,seen,old,reqs⟩ ⟨ak,ap,ao,as',ar,ck,cp,co,cs,cr⟩) 40 (0,0)):=by rw [hW0];exact kJ
 have qg:Hid (aI w W0):=by rw [hW0];exact ay w _
 obtain⟨c0,c1,c2,c3,c4,c5,c6,c7,c8⟩:=nine hblk;clear hW0 kJ hblk;obtain⟨bb,hbb⟩:∃bb,(!(uU id&&(decide (par= -1)||(uU par&&decide (par≠id)))))=bb:=⟨_,rfl⟩;have fI:=Hq hbb;clear hbb;go_cut [27] (λr wx=>r= .bool bb/\wx=W0)
 case first=>
  cases h1:uU id
  case' false=>
   have HV:=Hq (show bb=true by rw [<-ah fI];simp[h1])
   have H1:=Hq (λw1=>isNode id false w1 h1)
   clear fI h1
   go_wp2_with (go_at_call 201;refine(H1 _).mono ?_;rintro e w1 ⟨rfl,rfl⟩)
   go_meet
   case rel=>exact⟨Aam,rfl⟩
  have H1:=Hq (λw1=>isNode id true w1 h1);by_cases h2:par= -1
  case' pos=>
   have HV:=Hq (show bb=false by rw [<-ah fI];simp[h1,h2])
   have hb2:(par != -1)=false:=by simp[h2]
   clear fI h1 h2
   go_wp2_with (go_at_call 201;refine(H1 _).mono ?_;rintro e w1 ⟨rfl,rfl⟩)
   go_meet
   case rel=>exact⟨Aam,rfl⟩
  have hb2:(par != -1)=true:=by simp[h2]
  cases h3:uU par
  case' false=>
   have HV:=Hq (show bb=true by rw [<-ah fI];simp[h2,h3])
   have H3:=Hq (λw1=>isNode par false w1 h3)
   clear fI h1 h2 h3
   go_wp2_with (first|(go_at_call_of 201 id;refine(H1 _).mono ?_;rintro e w1 ⟨rfl,rfl⟩)|(go_at_call_of 201 par;refine(H3 _).mono ?_;rintro e w1 ⟨rfl,rfl⟩))
   go_meet
   case rel=>exact⟨Aam,rfl⟩
  have H3:=Hq (λw1=>isNode par true w1 h3);by_cases h4:par=id
  case' pos=>
   have HV:=Hq (show bb=true by rw [<-ah fI,aGi h2,aGi (show¬(par≠id) from λh=>h h4)];simp)
   have hb4:(par == id)=true:=by simp[h4]
   subst h4
   clear fI h1 h2 h3
   go_wp2_with (go_at_call 201;refine(H1 _).mono ?_;rintro e w1 ⟨rfl,rfl⟩)
   go_meet
   case rel=>exact⟨Aam,rfl⟩
  have HV:=Hq (show bb=false by rw [<-ah fI];simp[h1,h3,h4]);have hb4:(par == id)=false:=by simp[h4]
  clear fI h1 h2 h3;go_wp2_with (first|(go_at_call_of 201 id;refine(H1 _).mono ?_;rintro e w1 ⟨rfl,rfl⟩)|(go_at_call_of 201 par;refine(H3 _).mono ?_;rintro e w1 ⟨rfl,rfl⟩))
  go_meet
  case rel=>exact⟨Aam,rfl⟩
 case rest=>
  obtain⟨rfl,rfl⟩:=hcut;cases hbv:bb
  case' true=>
   have HP:Hid (TT=false):=by
    have h:=ah fI;rw [hbv] at h;rw [ah HD];generalize (uU id&&(decide (par= -1)||(uU par&&decide (par≠id))))=X at *;cases X
    .rfl
    .cases h
   clear fI HD;subst hbv;go_wp2_with fail;go_ret;exact⟨aF HP.symm,qg⟩
  have oN:Hid (TT=iA KB iX kids):=by
   have h:=ah fI;rw [hbv] at h;rw [ah HD];generalize (uU id&&(decide (par= -1)||(uU par&&decide (par≠id))))=X at *;cases X
   .cases h
   .rfl
  clear fI HD;subst hbv;go_wp2_with fail;go_loop [3,31] (λlv i=>∃(k:Nat) (y:Int),k<=kids.length/\i= .int .i64 k/\lv= .int .i64 y/\y=yu (λx=>x) (-1) (kids.take k)/\iA KB iX (kids.take k)=true) (λ_ i=>kids.length - (intOf i).toNat)
  case atStart=>exact⟨0,-1,aGB _,rfl,rfl,rfl,rfl⟩
  case round=>
   obtain⟨k,y,hk,rfl,rfl,hy,hall⟩:=hrel;have jG:=Hq hall;have HY:=Hq hy;clear hall hy;by_cases hlt:k < kids.length
   case' neg=>
    have hke:k=kids.length:=Aaa
    subst hke;have hnlt:decide ((kids.length:Int) < (kids.length:Int))=false:=Aac
    have HF:Hid (TT=true):=by
     exact WE
    go_wp2_with fail;go_ret;exact⟨aF HF.symm,qg⟩
   obtain⟨g,off,rfl,hgw,q0⟩:=dH.one (GR.At.below HA qg) k hlt;have HBAD:Hid (iA KB iX (kids.take (k+1))=false->TT=false):=λh=>oN.trans (su _ h)
   have iQ:Hid (iA KB iX (kids.take (k+1))=(KB kids[k]&&decide (y < kids[k]))):=by
    exact aiU
   have El:=Hq (zw k hlt);have DJ:=Hq (VO kids[k]);clear jR zw su VO;generalize kids[k]=x at *;cases h1:uU x
   case' false=>
    have H1:=Hq (λw1=>isNode x false w1 h1);have HV:=Hq (HBAD (by rw [ah iQ,ah DJ];simp[h1]));clear HBAD iQ DJ h1;exact ae0
   have H1:=Hq (λw1=>isNode x true w1 h1);by_cases h2:y < x
   case' neg=>
    have hb2:decide (x<=y)=true:=aGk Aaa;have HV:=Hq (HBAD (by rw [ah iQ,ah DJ];simp[h2]));clear HBAD iQ DJ h1;exact ae0
   have hb2:decide (x<=y)=false:=aGi Aaa;by_cases h3:x=id
   case' pos=>
    have hb3:(x == id)=true:=by simp[h3]
    have HV:=Hq (HBAD (by rw [ah iQ,ah DJ];simp[h3]));clear HBAD iQ DJ h1 h3;exact ae0
   have hb3:(x == id)=false:=by simp[h3]
   by_cases h4:x=par
   case' pos=>
    have hb4:(x == par)=true:=by simp[h4]
    have HV:=Hq (HBAD (by rw [ah iQ,ah DJ];simp[h4]));clear HBAD iQ DJ h1 h4;exact ae0
   have hb4:(x == par)=false:=by simp[h4]
   have HV:=Hq (show iA KB iX (kids.take (k+1))=true by rw [ah iQ,ah DJ];simp[h1,h2,h3,h4]);clear HBAD iQ DJ h1;go_wp2_with (go_at_call 201;refine(H1 _).mono ?_;rintro e w1 ⟨rfl,rfl⟩)
   exact ajm):P:=h
theorem apy.AaP(h:P:=by
 dsimp only at hlo HD su jR zw HLB VO kJ ⊢;generalize (λs t:Rq=>iX s.no t.no)=RR at *;cases h1:rz old
 case' false=>
  have HP:=Hq (show TT=false by rw [ah HD,h1];rfl);have H1:=Hq (λw1=>kV old false w1 h1);exact ai4
 have H1:=Hq (λw1=>kV old true w1 h1);have hold:0<=old/\old<=1000000000:=aGw h1;obtain⟨ho1,ho2⟩:=hold;by_cases h0:reqs.length<=30
 case' neg=>
  have HP:=Hq (show TT=false by rw [ah HD,aGi h0];simp);have hb0:decide ((30:Int) < reqs.length)=true:=aGk Aaa;exact ai4
 have hb0:decide ((30:Int) < reqs.length)=false:=aGi Aaa;have oN:Hid (TT=iA KB RR reqs):=by rw [ah HD,h1,aGk h0];rfl
 clear HD h1;go_in
 go_wp2_with (go_at_call 207;refine(H1 _).mono ?_;rintro e w9 ⟨rfl,rfl⟩)
 go_loopw [3,21] (λlv i wr=>∃(k:Nat) (y:Int),k<=reqs.length/\i= .int .i64 k/\lv= .int .i64 y/\y=yu (λs=>s.no) old (reqs.take k)/\iA KB RR (reqs.take k)=true/\wr.heap[w.heap.size]?=some (.cells (dG ⟨id,par,kids,next,pu,out,seen,old,reqs⟩ ⟨ak,ap,ao,as',ar,ck,cp,co,cs,cr⟩) 40 (0,0))/\aI w wr) (λ_ i _=>reqs.length - (intOf i).toNat)
 case atStart=>exact⟨0,old,aGB _,rfl,rfl,rfl,rfl,kJ,ay w _⟩
 case round=>
  open awx in exact ahH):P:=h
theorem apz.AaP(h:P:=by
 dsimp only at hlo HD su jR zw HLB VO Sl kJ ⊢;generalize (λs t:jM=>iX s.i t.i)=RR at *;by_cases h0:out.length<=40
 case' neg=>
  have HP:=Hq (show TT=false by rw [ah HD,aGi h0];rfl);have hb0:decide ((40:Int) < out.length)=true:=aGk Aaa;go_in
  go_wp2_with fail;exact xQ
 have hb0:decide ((40:Int) < out.length)=false:=aGi Aaa;have oN:Hid (TT=iA KB RR out):=by rw [ah HD,aGk h0];rfl
 clear HD;go_in
 go_wp2_with fail;go_loopw [3,13] (λlv i wr=>∃(k:Nat) (y:Int),k<=out.length/\i= .int .i64 k/\lv= .int .i64 y/\y=yu (λs=>s.i) 0 (out.take k)/\iA KB RR (out.take k)=true/\wr.heap[w.heap.size]?=some (.cells (dG ⟨id,par,kids,next,pu,out,seen,old,reqs⟩ ⟨ak,ap,ao,as',ar,ck,cp,co,cs,cr⟩) 40 (0,0))/\aI w wr) (λ_ i _=>out.length - (intOf i).toNat)
 case atStart=>exact⟨0,0,aGB _,rfl,rfl,rfl,rfl,kJ,ay w _⟩
 case round=>
  open aww in exact ahH):P:=h
theorem apA.AaP(h:P:=by
 dsimp only at hl HC kJ HNB ⊢;clear ha;go_in
 go_wp2_with fail;refine HC.mono ?_;rintro e w1 ⟨v,rfl,hown,hb1⟩;have HB1:=Hq ((ay w _).trans (hb1.mono Aac));have HO1:=Hq (GR.own_lower (b':=w.heap.size) hown Aac);obtain⟨c0,c1,_⟩:=nine (au kJ hb1);clear hown hb1 HC;go_upto_if 9 with fail;go_cut [3] (λr wx=>wx.ownsRow w.heap.size 3 1 r NB.length (GR.flat aS NB)/\aI w wx)
 case first=>
  by_cases hp:par= -1
  .have hb:(par != -1)=false:=by simp[hp]
   have HE:=Hq (HNB.1 hp);clear hp;go_wp2_with fail;go_meet
   case rel=>exact⟨by rw [ah HE];exact HO1,HB1⟩
  .have hb:(par != -1)=true:=by simp[hp]
   have HE:=Hq (HNB.2 hp);clear hp;have ho:=ah HO1;go_wp2_with (at_builtin;refine aHg _ rfl _ _ 22 rfl w.heap.size 3 i0 (.int .i64 0) 1 8 underlying22 hi hz0 hz1 hz2 rfl Aae _ _ _ rfl (ho.alloc _) ⟨w1.heap.size,0,none⟩ 1 1 [.int .i64 par] rfl rfl ?c1 ?c2 ?c3 ?c4 ?c5 ?_)
   case c1=>exact cell_one_new _ _ _
   case c2=>intro u hu;simp at hu;subst hu;rfl
   case c3=>unfold maxLen;omega
   case c4=>omega
   case c5=>have:=HB1.size;simp;omega
   intro v' w6 hown' hgrow _;have zu:=Hq (GR.below_append HB1 HB1.size ho hgrow)
   have HO6:Hid (w6.ownsRow w.heap.size 3 1 v' NB.length (GR.flat aS NB)):=by
    rw [ah HE,GR.flat_append,aGp];exact hown'
   clear hgrow ho hown';go_wp2_with fail;go_meet
   case rel=>exact⟨HO6,zu⟩
 case rest=>
  obtain⟨ho,hb⟩:=hcut;have HS:=Hq (af3 w.heap.size _ NB wc hln hb.size ho);have HB2:=Hq hb;clear ho hb c0 c1;go_wp2_with fail;refine HS.mono ?_;rintro e w3 ⟨rfl,ho3,hb3⟩;have EO:=Hq ho3;have HB3:=Hq (HB2.trans hb3);clear ho3 hb3;go_wp2_with fail;go_ret;exact⟨_,rfl,EO,HB3⟩):P:=h
theorem apB.AaP(h:P:=by
 dsimp only at Om HPU HOT HSE HRE HD kJ ⊢;go_in
 go_upto_region 1 with fail;open arw in exact akO):P:=h
theorem apC.AaP(h:P:=by
 dsimp only at hls HA HD HSK HNB kJ ⊢;go_in
 go_wp2_with fail;refine HNB.mono ?_;rintro e w1 ⟨v,rfl,hown,hb1⟩;have HB1:=Hq ((ay w _).trans (hb1.mono Aac));have BF:=Hq (au kJ hb1);have hFL:=ah zw;subst hFL;obtain⟨fa,fc,rfl,hF⟩:=GR.own_at (enc:=aS) (sz:=1) aO hown;have HF:=Hq hF;obtain⟨c0,c1,c2,c3,c4,c5,c6,c7,c8⟩:=nine BF;clear hown hb1 HNB kJ zw hF;by_cases hlen:seen.length=F.length
 case' neg=>
  have hbn:((seen.length:Int) != (F.length:Int))=true:=Aag
  have HP:=Hq (show TT=false by
   rw [ah HD,aGi (show¬seen.map (·.f)=F from λh=>hlen (by rw [<-h,aHi]))]
   rfl)
  clear HD;go_wp2_with fail;go_ret;exact⟨aF HP.symm,HB1⟩
 have hbn:((seen.length:Int) != (F.length:Int))=false:=Aag
 have El:=Hq hlen;clear hlen;go_wp2_with fail;go_loopw [17] (λi wr=>∃k:Nat,k<=seen.length/\i= .int .i64 k/\(seen.take k).map (·.f)=F.take k/\(seen.take k).all wu=true/\aI w1 wr) (λi _=>seen.length - (intOf i).toNat)
 case atStart=>exact⟨0,aGB _,rfl,rfl,rfl,aGs _ _⟩
 case round=>
  obtain⟨k,hk,rfl,hm,hall,hbx⟩:=hrel;have HM:=Hq hm;have jG:=Hq hall;have kJ:=Hq hbx;have Hu:=Hq (au BF hbx);have dS:=Hq (HB1.trans (hbx.mono HB1.size));clear hm hall hbx;by_cases hlt:k < seen.length
  case' neg=>
   have hke:k=seen.length:=Aaa
   subst hke;have hnlt:decide ((seen.length:Int) < (seen.length:Int))=false:=Aac
   have HP:=Hq (show TT=true by
    have h1:=ah HM
    have h2:=ah jG
    rw [aGL] at h1 h2
    rw [ah El,aGL] at h1
    rw [ah HD,aGk h1,h2]
    rfl)
   go_wp2_with fail;go_ret;exact⟨aF HP.symm,dS⟩
  have aD3:k < F.length:=by rw [<-ah El];exact hlt
  obtain⟨g,off,b,c,e0,hgw,q0,q1,q2,hI⟩:=iW.below (dD.s HA) dS k hlt;obtain⟨g2,off2,e2,alB,p0⟩:=dH.one (GR.At.below HF kJ) k aD3;(try dsimp only at e0 q0 q1 q2 hI)
  subst e0 e2;have xU:=ah HSK _ (aGz hlt);have HI:=Hq hI;have HST:=Hq (λh3 h4=>Zt hlt El.symm HM jG h3 h4);have zx:=Hq (λh3=>Zq (F:=F) hlt El.symm h3);have DV:=Hq (λh4=>Zr hlt h4);clear hI;generalize seen[k]=sk at *;generalize F[k]=y at *;obtain⟨fr,lo,ids⟩:=sk;dsimp only at q0 q1 q2 HI xU HST zx DV;go_upto_region 7 with fail;open aw7 in exact ahS):P:=h
theorem apD.AaP(h:P:=by
 dsimp only at HK HP HO HS HR HQ kJ hkl ⊢;go_in
 go_wp2_with fail;refine(HK _ _ Aaa Aaa).mono ?_;rintro e w0 ⟨rfl,rfl⟩;have qg:=Hq (ay w (.cells (dG ⟨id,par,kids,next,pu,out,seen,old,reqs⟩ ⟨ak,ap,ao,as',ar,ck,cp,co,cs,cr⟩) 28));have HB0:=Hq kJ;obtain⟨z0,hz0⟩:∃zz:Int,(if (kids.length:Int)<=z then z - (kids.length:Int) else -1)=zz:=⟨_,rfl⟩;rw [hz0];by_cases hk:(kids.length:Int)<=z
 case' neg=>
  rw [aGr hk] at hz0;subst hz0;go_wp2_with fail;go_ret;exact⟨-1,rfl,qg,.inl rfl⟩
 rw [aGC hk] at hz0;have q0:0<=z0:=Aaa
 have q1:z0<=1048576:=Aaa
 have q2:decide (z0 < 0)=false:=aGi Aaa;clear hz0 kJ;obtain⟨c0,c1,c2,c3,c4,c5,c6,c7,c8⟩:=nine HB0;go_wp2_with fail;refine(HP _ _ qg Aaa Aaa).mono ?_;rintro e w1 ⟨z1,rfl,hb1,hcase⟩;open auO in exact aaL):P:=h
theorem apE.AaP(h:P:=by
 dsimp only at HS HB0 qg HKK HPP HOO HSS HRR hzk hzp hzo hzs hzr ⊢;obtain⟨q1,q2,q3,q4,q5⟩:=ah HS;have HQ4:=Hq q4;clear q4 HS;obtain⟨c0,c1,c2,c3,c4,c5,c6,c7,c8⟩:=nine HB0;go_in
 go_wp2_with fail;refine(HKK _ _ qg Aaa).mono ?_;rintro e w1 ⟨rfl,hb1⟩;open auN in exact aaL):P:=h
theorem apF.AaP(h:P:=by
 dsimp only at HS HMN Hy HP0 HO0 akw XH HB0 HL amW jG HD2 HD3 HD4 HD5 HD6 am0 ⊢;obtain⟨q1,q2,q3,q4,q5⟩:=ah HS;have HQ4:=Hq q4;clear q4 HS;have hzk:=HZ.k;have hzp:=HZ.p;have hzo:=HZ.o;have hzs:=HZ.s;have hzr:=HZ.r;dsimp only at hzk hzp hzo hzs hzr;obtain⟨c0,c1,c2,c3,c4,c5,c6,c7,c8⟩:=nine HB0;go_in
 go_wp2_with fail;refine(QB ak G.k ck s0 _ kids _ Aaa Aaa Aaa hzk Hy).mono ?_;rintro e w1 ⟨rfl,hw,hk⟩;have BG:=Hq hw;have yg:=Hq (GR.W.keeps HP0 hk (λx hx=>λhx2=>(Ne.symm (HD2 _ hx2 _ (.inl hx))) rfl));have HO1:=Hq (GR.W.keeps HO0 hk (λx hx=>λhx2=>(Ne.symm (HD2 _ hx2 _ (.inr (.inl hx)))) rfl));have ane:=Hq (eF.keeps akw hk (λx hx=>λhx2=>(Ne.symm (HD2 _ hx2 _ (.inr (.inr (.inl hx))))) rfl) (λx hx=>λhx2=>(Ne.symm (HD2 _ hx2 _ (.inr (.inr (.inr (.inl hx)))))) rfl));have HR1:=Hq (GR.W.keeps XH hk (λx hx=>λhx2=>(Ne.symm (HD2 _ hx2 _ (.inr (.inr (.inr (.inr hx)))))) rfl));have HB1:=Hq (hk.obj HB0 (λhx=>by have:=HL.1 _ hx;omega));have aBE:=Hq (amW.trans (hk.mono (λx hx=>jG _ (.inl hx))));clear hw hk c0 c1 c2 c3 c4 c5 c6 c7 c8 Hy HP0 HO0 akw XH;obtain⟨c0,c1,c2,c3,c4,c5,c6,c7,c8⟩:=nine HB1;go_wp2_with fail;refine(UK ap G.p cp s1 _ pu _ Aaa b1 Aaa hzp yg).mono ?_;rintro e w2 ⟨rfl,hw,hk⟩;have yG:=Hq hw;have uw:=Hq (GR.W.keeps BG hk (λx hx=>λhx2=>(HD2 _ (lG hx) _ (.inl hx2)) rfl));have HO2:=Hq (GR.W.keeps HO1 hk (λx hx=>λhx2=>(Ne.symm (HD3 _ hx2 _ (.inl hx))) rfl));have anf:=Hq (eF.keeps ane hk (λx hx=>λhx2=>(Ne.symm (HD3 _ hx2 _ (.inr (.inl hx)))) rfl) (λx hx=>λhx2=>(Ne.symm (HD3 _ hx2 _ (.inr (.inr (.inl hx))))) rfl));have HR2:=Hq (GR.W.keeps HR1 hk (λx hx=>λhx2=>(Ne.symm (HD3 _ hx2 _ (.inr (.inr (.inr hx))))) rfl));have HB2:=Hq (hk.obj HB1 (λhx=>by have:=HL.2.1 _ hx;omega));have aBF:=Hq (aBE.trans (hk.mono (λx hx=>jG _ (.inr (.inl hx)))));clear hw hk c0 c1 c2 c3 c4 c5 c6 c7 c8 BG yg HO1 ane HR1;obtain⟨c0,c1,c2,c3,c4,c5,c6,c7,c8⟩:=nine HB2;go_wp2_with fail;refine(YN ao G.o co s2 _ out _ Aaa b3 Aaa hzo HO2).mono ?_;rintro e w3 ⟨rfl,hw,hk⟩;have EO:=Hq hw;have JE:=Hq (GR.W.keeps uw hk (λx hx=>λhx2=>(HD2 _ (lG hx) _ (.inr (.inl hx2))) rfl));have SN:=Hq (GR.W.keeps yG hk (λx hx=>λhx2=>(HD3 _ (lG hx) _ (.inl hx2)) rfl));have ang:=Hq (eF.keeps anf hk (λx hx=>λhx2=>(Ne.symm (HD4 _ hx2 _ (.inl hx))) rfl) (λx hx=>λhx2=>(Ne.symm (HD4 _ hx2 _ (.inr (.inl hx)))) rfl));have HR3:=Hq (GR.W.keeps HR2 hk (λx hx=>λhx2=>(Ne.symm (HD4 _ hx2 _ (.inr (.inr hx)))) rfl));have HB3:=Hq (hk.obj HB2 (λhx=>by have:=HL.2.2.1 _ hx;omega));have aBG:=Hq (aBF.trans (hk.mono (λx hx=>jG _ (.inr (.inr (.inl hx))))));clear hw hk c0 c1 c2 c3 c4 c5 c6 c7 c8 uw yG HO2 anf HR2;obtain⟨c0,c1,c2,c3,c4,c5,c6,c7,c8⟩:=nine HB3;go_wp2_with fail;refine(YK as' G.s cs s3 _ G.i seen _ Aaa b5 b6 hzs HZ.sk am0 ang).mono ?_;rintro e w4 ⟨rfl,hw,hk⟩;have anh:=Hq hw;have XA:=Hq (GR.W.keeps JE hk (λx hx=>λhx2=>by rcases aGE.1 hx2 with hx3|hx3;exact(HD2 _ (lG hx) _ (.inr (.inr (.inl hx3)))) rfl;exact(HD2 _ (lG hx) _ (.inr (.inr (.inr (.inl hx3))))) rfl));have Sq:=Hq (GR.W.keeps SN hk (λx hx=>λhx2=>by rcases aGE.1 hx2 with hx3|hx3;exact(HD3 _ (lG hx) _ (.inr (.inl hx3))) rfl;exact(HD3 _ (lG hx) _ (.inr (.inr (.inl hx3)))) rfl));have SL:=Hq (GR.W.keeps EO hk (λx hx=>λhx2=>by rcases aGE.1 hx2 with hx3|hx3;exact(HD4 _ (lG hx) _ (.inl hx3)) rfl;exact(HD4 _ (lG hx) _ (.inr (.inl hx3))) rfl));have HR4:=Hq (GR.W.keeps HR3 hk (λx hx=>λhx2=>by rcases aGE.1 hx2 with hx3|hx3;exact(Ne.symm (HD5 _ hx3 _ (.inr hx))) rfl;exact(Ne.symm (HD6 _ hx3 _ hx)) rfl));have nG:=Hq (hk.obj HB3 (λhx=>by have:=HL.2.2.2.1 _ hx;omega));have aBH:=Hq (aBG.trans (hk.mono (λx hx=>by rcases aGE.1 hx with hx|hx;exact jG _ (.inr (.inr (.inr (.inl hx))));exact jG _ (.inr (.inr (.inr (.inr (.inl hx))))))));clear hw hk c0 c1 c2 c3 c4 c5 c6 c7 c8 JE SN EO ang HR3;obtain⟨c0,c1,c2,c3,c4,c5,c6,c7,c8⟩:=nine nG;rw [<-ah HQ4];go_wp2_with fail;refine(adi ar G.r cr s4 _ reqs _ Aaa b7 Aaa hzr HR4).mono ?_;rintro e w5 ⟨rfl,hw,hk⟩;have XI:=Hq hw;have HK5:=Hq (GR.W.keeps XA hk (λx hx=>λhx2=>(HD2 _ (lG hx) _ (.inr (.inr (.inr (.inr hx2))))) rfl));have JO:=Hq (GR.W.keeps Sq hk (λx hx=>λhx2=>(HD3 _ (lG hx) _ (.inr (.inr (.inr hx2)))) rfl));have JJ:=Hq (GR.W.keeps SL hk (λx hx=>λhx2=>(HD4 _ (lG hx) _ (.inr (.inr hx2))) rfl));have aBY:=Hq (eF.keeps anh hk (λx hx=>λhx2=>(HD5 _ (ajU hx) _ (.inr hx2)) rfl) (λx hx=>λhx2=>(HD6 _ (abZ hx) _ hx2) rfl));have iy:=Hq (hk.obj nG (λhx=>by have:=HL.2.2.2.2 _ hx;omega));have aBI:=Hq (aBH.trans (hk.mono (λx hx=>jG _ (.inr (.inr (.inr (.inr (.inr hx))))))));clear hw hk c0 c1 c2 c3 c4 c5 c6 c7 c8 XA Sq SL anh HR4;obtain⟨c0,c1,c2,c3,c4,c5,c6,c7,c8⟩:=nine iy;go_wp2_with fail;go_ret;refine⟨mQ Aaa,?_,aBI⟩;rw [ah HMN];exact⟨HK5,JO,JJ,aBY,XI⟩):P:=h
theorem DW(h:P:=by
 unfold kE;have oN:=Hq (λW (h:aI w W)=>zl n A W (hz.mono Aaa) (ha.below h));rw [hok] at oN;exact AaQ):P:=h
theorem apG.AaQ(h:P:=by
 have Hz:=Hq (λW=>jO ⟨K,no,k,nn,⟨mK,mF,mT,mI,mL,mk,mN⟩⟩ W Aal Aal);open aDr in exact EY):P:=h
theorem apH.AaQ(h:P:=by
 have Oj:=Hq (λW (h:aI w W)=>qb n A W hz (ha.below h));clear hz ha hok;go_in
 go_upto_region 2 with fail;refine wp_at (λW1 hW=>?_);open asy in exact agF):P:=h
theorem apI.AaQ(h:P:=by
 have jR:=Hq (λW A1 G1 c (hB:0<=W.heap.size) (h9:∀x,6 < c x->c x=9) (hp:((∃g,A1.p=some ⟨g,0,none⟩)/\n.pu.length<=A1.cp)/\(∃g,A1.r=some ⟨g,0,none⟩)/\n.reqs.length<=A1.cr) (hN:NQ W 0 n A1 G1 c)=>RH n A1 G1 c no W 0 hB h9 hz hp.1.1 hp.1.2 (bZ hok).2.2.2.2.2 hN);unfold jo at jR;generalize bq n no=GV at *;obtain⟨N1,CX⟩:=GV;dsimp only at jR ⊢;have Hz:=Hq (λW=>jO ⟨2,no,k,nn,⟨mK,mF,mT,mI,mL,mk,mN⟩⟩ W Aal Aal);open aDs in exact EY):P:=h
theorem apJ.AaQ(h:P:=by
 have jR:=Hq (λW A1 G1 c (hB:0<=W.heap.size) (h9:∀x,6 < c x->c x=9) (hp:((∃g,A1.p=some ⟨g,0,none⟩)/\n.pu.length<=A1.cp)/\(∃g,A1.r=some ⟨g,0,none⟩)/\n.reqs.length<=A1.cr) (hN:NQ W 0 n A1 G1 c)=>Zy n A1 G1 c 1 no k nn mK mF mT mI mL mk mN W 0 hB h9 hz hk hp.1.1 hp.1.2 hp.2.1 hp.2.2 (bZ hok).2.2.2.2.2 hN);unfold jo at jR;generalize fQ n no k nn=GV at *;obtain⟨N1,CX⟩:=GV;dsimp only at jR ⊢;have Hz:=Hq (λW=>jO ⟨1,no,k,nn,⟨mK,mF,mT,mI,mL,mk,mN⟩⟩ W Aal Aal);open aDt in exact EY):P:=h
theorem apK.AaQ(h:P:=by
 have hpz:(decide (n.par < 0))=false:=by
  exact ai9
 have jR:=Hq (λW A1 G1 c (hB:0<=W.heap.size) (h9:∀x,6 < c x->c x=9) (hp:((∃g,A1.p=some ⟨g,0,none⟩)/\n.pu.length<=A1.cp)/\(∃g,A1.r=some ⟨g,0,none⟩)/\n.reqs.length<=A1.cr) (hN:NQ W 0 n A1 G1 c)=>Rt n A1 G1 c n.par k nn W 0 hB h9 hz hk hp.1.1 hp.1.2 (by have h:=(bZ hok).2.2.2.1;unfold fO at h;simp at h;omega) hN);unfold gJ at jR;generalize fC n n.par k nn=GV at *;obtain⟨N1,L1,b1⟩:=GV;dsimp only at jR ⊢;generalize (if b1=true then(0:Int) else 1)=CX at *;have Hz:=Hq (λW=>jO ⟨4,no,k,nn,⟨mK,mF,mT,mI,mL,mk,mN⟩⟩ W Aal Aal);open aDu in exact EY):P:=h
theorem apL.AaQ(h:P:=by
 have hmo:cZ ⟨mK,mF,mT,mI,mL,mk,mN⟩=true:=by
  have h:=hop;unfold cK at h;dsimp only at h;rw [aGr Aaa,aGr Aaa,aGr Aaa,aGr Aaa,aGC rfl,aGl] at h;exact h.2
 have jR:=Hq (λW A1 G1 c (hB:0<=W.heap.size) (h9:∀x,6 < c x->c x=9) (hp:((∃g,A1.p=some ⟨g,0,none⟩)/\n.pu.length<=A1.cp)/\(∃g,A1.r=some ⟨g,0,none⟩)/\n.reqs.length<=A1.cr) (hN:NQ W 0 n A1 G1 c)=>adQ n A1 G1 c mK mF mT mI mL mk mN W 0 hB h9 hz hmk hok hmo hp.1.1 hp.1.2 hN);clear hmo;unfold gJ at jR;generalize CZ n ⟨mK,mF,mT,mI,mL,mk,mN⟩=GV at *;obtain⟨N1,L1,CX⟩:=GV;dsimp only at jR ⊢;have Hz:=Hq (λW=>jO ⟨6,no,k,nn,⟨mK,mF,mT,mI,mL,mk,mN⟩⟩ W Aal Aal);open anw in exact EY):P:=h
theorem apM.AaQ(h:P:=by
 have hpz:(decide (n.par < 0))=true:=by rw [hpar];rfl
 clear hpar;have Hz:=Hq (λW=>jO ⟨4,no,k,nn,⟨mK,mF,mT,mI,mL,mk,mN⟩⟩ W Aal Aal);open anx in exact EY):P:=h
theorem apN.AaQ(h:P:=by
 have hpz:(decide (n.par < 0))=true:=by rw [hpar];rfl
 clear hpar;have Hz:=Hq (λW=>jO ⟨3,no,k,nn,⟨mK,mF,mT,mI,mL,mk,mN⟩⟩ W Aal Aal);open anz in exact EY):P:=h
theorem apO.AaQ(h:P:=by
 have hpg:(decide (n.par≥0))=false:=by rw [hpar];rfl
 have aAH:(decide (0<=n.par))=false:=hpg;clear hpar
 have jR:=Hq (λW (A1:bV) (hp:(∃g,A1.p=some ⟨g,0,none⟩)/\n.pu.length<=A1.cp) (hN:aH W A1.p n.pu)=>(by
  obtain⟨⟨g,hg⟩,hc⟩:=hp
  rw [hg] at hN ⊢
  have:=GH g 0 A1.cp n.pu k nn W (aGm hz.p Aaa) hc hz.pk hk hN
  rw [hu] at this
  exact this:Calls prog 106 #[.slice A1.p n.pu.length A1.cp,.string k,.int .i64 nn] W (jm W (RL,true))))
 clear hu;unfold jm at jR;have Hz:=Hq (λW=>jO ⟨0,no,k,nn,⟨mK,mF,mT,mI,mL,mk,mN⟩⟩ W Aal Aal);open anA in exact EY):P:=h
theorem apP.AaQ(h:P:=by
 have hpg:(decide (n.par≥0))=false:=by rw [hpar];rfl
 have aAH:(decide (0<=n.par))=false:=hpg;clear hpar
 have jR:=Hq (λW (A1:bV) (hp:(∃g,A1.p=some ⟨g,0,none⟩)/\n.pu.length<=A1.cp) (hN:aH W A1.p n.pu)=>(by
  obtain⟨⟨g,hg⟩,hc⟩:=hp
  rw [hg] at hN ⊢
  have:=GH g 0 A1.cp n.pu k nn W (aGm hz.p Aaa) hc hz.pk hk hN
  rw [hu] at this
  exact this:Calls prog 106 #[.slice A1.p n.pu.length A1.cp,.string k,.int .i64 nn] W (jm W (RL,false))))
 exact Zk7):P:=h
theorem apQ.AaQ(h:P:=by
 have hpg:(decide (n.par≥0))=true:=by
  have h:=(bZ hok).1;unfold eO at h;simp only[aGl,aGy] at h;exact aGk Aaa
 have aAH:(decide (0<=n.par))=true:=hpg
 have jR:=Hq (λW (A1:bV) (hp:(∃g,A1.p=some ⟨g,0,none⟩)/\n.pu.length<=A1.cp) (hN:aH W A1.p n.pu)=>(by
  obtain⟨⟨g,hg⟩,hc⟩:=hp
  rw [hg] at hN ⊢
  have:=GH g 0 A1.cp n.pu k nn W (aGm hz.p Aaa) hc hz.pk hk hN
  rw [hu] at this
  exact this:Calls prog 106 #[.slice A1.p n.pu.length A1.cp,.string k,.int .i64 nn] W (jm W (RL,ok))))
 exact Zk7):P:=h
theorem apR.AaQ(h:P:=by
 have jR:=Hq (λW A1 (hN:dD W A1 n)=>adS n A1 W (hz.mono Aaa) hN);rw [show adB n=n.out.map (qO n) from aGC hok] at jR;unfold BD at jR;dsimp only at jR ⊢;generalize n.out.map (qO n)=L1 at *;have Hz:=Hq (λW=>jO ⟨5,no,k,nn,⟨mK,mF,mT,mI,mL,mk,mN⟩⟩ W Aal Aal);open anB in exact EY):P:=h
theorem ayv(h:P:=by
 open avS in exact aaS):P:=h
theorem apS.Aen(h:P:=by
 open avX in exact ahx):P:=h
theorem apT.Aen(h:P:=by
 open atZ in exact ag4):P:=h
theorem XR(h:P:=by
 have wY:=Hq (show aI w V by rw [hV];exact((aGs _ _).alloc (aGh _) _).alloc Aac _);have hgV:=dA hblk;obtain⟨p0,p1,p2,p3,p4,p5,p6⟩:=uG hblk;clear hV hblk;exact AaX):P:=h
theorem apU.AaX(h:P:=by
 have cO:∀d os,Calls prog 344 #[.agg #[.int .i64 F,.int .i64 T,.int .i64 I]] (Sort.grow (redrawn V d) os) λe w''=>e= .returned (.bool false)/\∃p:Regrown,w''=Sort.grow (redrawn V p.d) p.os:=λd os=>aG6 (HO _)
 open aoV in exact O4):P:=h
theorem apV.AaX(h:P:=by
 have cO:∀d os,Calls prog 343 #[.agg #[.int .i64 F,.int .i64 T,.int .i64 I,.int .i64 L,.string k,.int .i64 N]] (Sort.grow (redrawn V d) os) λe w''=>e= .returned (.bool true)/\∃p:Regrown,w''=Sort.grow (redrawn V p.d) p.os:=λd os=>aG6 (HO _)
 have cM:∀d os,Calls prog 259 #[.iface 284 (.agg #[.int .i64 F,.int .i64 T,.int .i64 I,.int .i64 L,.string k,.int .i64 N])] (Sort.grow (redrawn V d) os) λe w''=>e= .returned (oz ⟨1,F,T,I,L,k,N⟩)/\∃p:Regrown,w''=Sort.grow (redrawn V p.d) p.os:=λd os=>aG6 (HM _)
 open aoW in exact O4):P:=h
theorem apW.AaX(h:P:=by
 have cO:∀d os,Calls prog 343 #[.agg #[.int .i64 F,.int .i64 T,.int .i64 I,.int .i64 L,.string k,.int .i64 N]] (Sort.grow (redrawn V d) os) λe w''=>e= .returned (.bool false)/\∃p:Regrown,w''=Sort.grow (redrawn V p.d) p.os:=λd os=>aG6 (HO _)
 open aoX in exact O4):P:=h
theorem apX.AaX(h:P:=by
 have cO:∀d os,Calls prog 342 #[.agg #[.int .i64 F,.int .i64 T,.string k,.int .i64 N]] (Sort.grow (redrawn V d) os) λe w''=>e= .returned (.bool false)/\∃p:Regrown,w''=Sort.grow (redrawn V p.d) p.os:=λd os=>aG6 (HO _)
 open aoY in exact O4):P:=h
theorem apY.AaX(h:P:=by
 have cO:∀d os,Calls prog 342 #[.agg #[.int .i64 F,.int .i64 T,.string k,.int .i64 N]] (Sort.grow (redrawn V d) os) λe w''=>e= .returned (.bool true)/\∃p:Regrown,w''=Sort.grow (redrawn V p.d) p.os:=λd os=>aG6 (HO _)
 have cM:∀d os,Calls prog 259 #[.iface 282 (.agg #[.int .i64 F,.int .i64 T,.string k,.int .i64 N])] (Sort.grow (redrawn V d) os) λe w''=>e= .returned (oz ⟨0,F,T,0,0,k,N⟩)/\∃p:Regrown,w''=Sort.grow (redrawn V p.d) p.os:=λd os=>aG6 (HM _)
 open ao1 in exact O4):P:=h
theorem apZ.AaX(h:P:=by
 have cO:∀d os,Calls prog 344 #[.agg #[.int .i64 F,.int .i64 T,.int .i64 I]] (Sort.grow (redrawn V d) os) λe w''=>e= .returned (.bool true)/\∃p:Regrown,w''=Sort.grow (redrawn V p.d) p.os:=λd os=>aG6 (HO _)
 have cM:∀d os,Calls prog 259 #[.iface 286 (.agg #[.int .i64 F,.int .i64 T,.int .i64 I])] (Sort.grow (redrawn V d) os) λe w''=>e= .returned (oz ⟨2,F,T,I,0,ByteArray.empty,0⟩)/\∃p:Regrown,w''=Sort.grow (redrawn V p.d) p.os:=λd os=>aG6 (HM _)
 open ao2 in exact O4):P:=h
theorem XT(h:P:=by
 have HW1:=Hq (h.step (ay w (.cells (cu K no k nn mK mF mT mI mL mk mN) 100)));have yg:=Hq (aGg w (.cells (cu K no k nn mK mF mT mI mL mk mN) 100));exact Aa1):P:=h
theorem ap0.Aa1(h:P:=by
 clear h he hR hz hk hpar;open ave in exact Wq):P:=h
theorem ap1.Aa1(h:P:=by
 clear h hR hpar;obtain⟨c0,c1,c2,c3,c4,c5,c6,c7,c8,c9⟩:=jW HW1.blk;have hwl:=aA HW.blk;have hne:wb≠w.heap.size:=Aaa
 go_in
 go_upto_region 1 with fail;have y1:=aGj c1;clear c0 c1 c2 c3 c4 c5 c6 c7 c8 c9;open atY in exact ag4):P:=h
theorem ap2.Aa1(h:P:=by
 have hq2:(n.par == -1)=false:=Abh
 clear h hR hpar;open avd in exact Wq):P:=h
theorem ap3.Aa1(h:P:=by
 have hq2:(n.par == -1)=false:=Abh
 clear h hR hpar;generalize fC n n.par k nn=gv at *;obtain⟨gn,gl,gb⟩:=gv;dsimp only at Il ⊢;open avc in exact Wq):P:=h
theorem ap4.Aa1(h:P:=by
 clear h ho;obtain⟨⟨p0,p1,p2,p3,p4,p5,p6,p7,p8,p9,oU⟩,_⟩:=aL yg;have hpl:=aA yg;go_in
 go_wp2_with fail;refine(HIO _).mono ?_;rintro e w2 ⟨rfl,hb2⟩;have HW2:=Hq (HW1.step hb2);have yG:=Hq (au yg hb2);clear hb2 HW1 yg p0 p1 p2 p3 p4 p5 p6 p7 p8 p9 oU HIO;exact AaF):P:=h
theorem ap5.Aa1(h:P:=by
 open avb in exact Wq):P:=h
theorem akH(h:P:=by
 clear iQ HBM;go_wp2_with fail;refine wp_region_quiet_lit Aab Aab ?_;repeat (first|go_big_quiet_step ((first|(go_at_call 18;exact qIn _ _ _ _ h1 _ _)))|quiet_step ((first|(go_at_call 18;exact qIn _ _ _ _ h1 _ _))))
 refine aHo ?_;intro _ hw';obtain⟨nq,hw''⟩:=hw';subst hw'';go_wp2_with fail;exact AcR):P:=h
theorem ap6.AcR(h:P:=by
 go_roundw
 case rel=>exact⟨j+1+1,Aaa,Aaf,HV,kJ.trans ⟨rfl,rfl,rfl,aGh _,λ_ _=>rfl⟩⟩
 case measure=>simp[intOf];omega):P:=h
theorem ap7.AcR(h:P:=by
 go_roundw
 case rel=>exact⟨0+1,Aaa,Aaf,HV,kJ.trans ⟨rfl,rfl,rfl,aGh _,λ_ _=>rfl⟩⟩
 case measure=>simp[intOf];omega):P:=h
theorem ap8.AcR(h:P:=by
 go_ret;exact⟨aF HV.symm,HL9.trans ⟨rfl,rfl,rfl,aGh _,λ_ _=>rfl⟩⟩):P:=h
theorem ayw(h:P:=by
 go_in
 go_upto_region 1 with fail;refine Fo.wp_at (λV hV=>?_);have hbV:aI w V:=by rw [hV];exact dY w _
 have hblk:V.heap[w.heap.size]?=some (.cells #[.int .i64 dm,.int .i64 df,.int .i64 ds] 258 (0,0)):=by rw [hV];exact aGg w _
 have hlt:=Fo.lt_of_blk hblk;have c0:V.cell? ⟨w.heap.size,0,none⟩=some (.int .i64 dm):=by rw [aGu V _ _ _ _ (0,0) hblk];rfl
 have c1:V.cell? ⟨w.heap.size,1,none⟩=some (.int .i64 df):=by rw [aGu V _ _ _ _ (0,0) hblk];rfl
 have c2:V.cell? ⟨w.heap.size,2,none⟩=some (.int .i64 ds):=by rw [aGu V _ _ _ _ (0,0) hblk];rfl
 have wY:=Hq hbV;clear hblk hV hbV;exact Adz):P:=h
theorem ap9.Adz(h:P:=by
 go_cut [9,10] (λp9 oU wx=>∃pb:Nat,p9= .pointer (some ⟨pb,0,none⟩)/\oU= .nilIface/\aI w wx/\wx.heap[pb]?=some (.cells (jh pk qm qf qs) 108 (0,0))/\w.heap.size<=pb)
 case first=>
  have hnV:w.heap.size≠V.heap.size:=Aaa
  have hmV:V.heap.size≠w.heap.size:=Aaa
  go_region_held (λw'=>w'.cell? ⟨w.heap.size,0,none⟩=some (.int .i64 dm)/\w'.cell? ⟨w.heap.size,1,none⟩=some (.int .i64 df)/\w'.cell? ⟨w.heap.size,2,none⟩=some (.int .i64 ds)) (go_keep)
   (first
    |((go_at_call 302);(refine(OC _ (by exact wY.trans (by exact⟨rfl,rfl,rfl,Aac,λk hk=>by first|rfl|exact aGv _ _ _ Aaa⟩))).mono ?_);(rintro e w4 ⟨rfl,hb4⟩);(have hs4:=hb4.size);(simp at hs4);(have nG:=Hq (wY.trans (Below.trans (b:=_) (by exact⟨rfl,rfl,rfl,Aac,λk hk=>by first|rfl|exact aGv _ _ _ Aaa⟩) (hb4.mono (by first|omega|(simp<;>omega))))));(obtain⟨hc4,hf4⟩:=sG hb4);(have d0:w4.cell? ⟨w.heap.size,0,none⟩=some (.int .i64 dm):=by rw [hc4 _ _ (by first|omega|(simp<;>omega))];first|exact c0|exact(aGD _ _ _ hlt).trans c0);(have d1:w4.cell? ⟨w.heap.size,1,none⟩=some (.int .i64 df):=by rw [hc4 _ _ (by first|omega|(simp<;>omega))];first|exact c1|exact(aGD _ _ _ hlt).trans c1);(have d2:w4.cell? ⟨w.heap.size,2,none⟩=some (.int .i64 ds):=by rw [hc4 _ _ (by first|omega|(simp<;>omega))];first|exact c2|exact(aGD _ _ _ hlt).trans c2);(first|(guard_hyp hs4:V.heap.size+1<=w4.heap.size;obtain⟨⟨z0,z1,z2,z3⟩,x0,x1,x2,x3⟩:=gu (Fo.one_block (show Below (V.alloc (.cells (jh ⟨#[]⟩ 0 0 0) 108)).heap.size (V.alloc (.cells (jh ⟨#[]⟩ 0 0 0) 108)) w4 from⟨hb4.os,hb4.tape,hb4.output,hb4.size,hb4.block⟩)).1;have Bw:V.heap.size < w4.heap.size:=aHs _ _ z0;have HZ:=Hq (Fo.one_block (show Below (V.alloc (.cells (jh ⟨#[]⟩ 0 0 0) 108)).heap.size (V.alloc (.cells (jh ⟨#[]⟩ 0 0 0) 108)) w4 from⟨hb4.os,hb4.tape,hb4.output,hb4.size,hb4.block⟩)).1)|skip);(have Uj:w.heap.size < w4.heap.size:=by omega);(have hn4:w.heap.size≠w4.heap.size:=by omega);(have hm4:w4.heap.size≠w.heap.size:=by omega);(clear hb4 hc4 hf4))
    |((go_at_call 303);(refine(HSH _ (by exact nG.trans (by exact⟨rfl,rfl,rfl,Aac,λk hk=>by first|rfl|exact aGv _ _ _ Aaa⟩))).mono ?_);(rintro e w5 ⟨rfl,hb5⟩);(have hs5:=hb5.size);(try simp at hs5);(have iy:=Hq (nG.trans (Below.trans (b:=_) (by exact⟨rfl,rfl,rfl,Aac,λk hk=>by first|rfl|exact aGv _ _ _ Aaa⟩) (hb5.mono (by first|omega|(simp<;>omega))))));(obtain⟨FD,Yt⟩:=sG hb5);(have e0:w5.cell? ⟨w.heap.size,0,none⟩=some (.int .i64 dm):=by rw [FD _ _ (by first|omega|(simp<;>omega))];first|exact d0|exact(aGD _ _ _ Uj).trans d0);(have e1:w5.cell? ⟨w.heap.size,1,none⟩=some (.int .i64 df):=by rw [FD _ _ (by first|omega|(simp<;>omega))];first|exact d1|exact(aGD _ _ _ Uj).trans d1);(have e2:w5.cell? ⟨w.heap.size,2,none⟩=some (.int .i64 ds):=by rw [FD _ _ (by first|omega|(simp<;>omega))];first|exact d2|exact(aGD _ _ _ Uj).trans d2);(first|(guard_hyp Bw:V.heap.size < w4.heap.size;have HY:=Hq ((hb5.block _ Bw).trans HZ);have y0:=(FD _ 0 Bw).trans z0;have y1:=(FD _ 1 Bw).trans z1;have y2:=(FD _ 2 Bw).trans z2;have y3:=(FD _ 3 Bw).trans z3;have v0:=(Yt _ 0 Bw).trans x0;have v1:=(Yt _ 1 Bw).trans x1;have v2:=(Yt _ 2 Bw).trans x2;have v3:=(Yt _ 3 Bw).trans x3)|(guard_hyp hs5:w4.heap.size+1<=w5.heap.size;have HY:=Hq (Fo.one_block hb5).1;obtain⟨⟨y0,y1,y2,y3⟩,v0,v1,v2,v3⟩:=gu (Fo.one_block hb5).1)|skip);(have aD2:w.heap.size < w5.heap.size:=by omega);(have hn5:w.heap.size≠w5.heap.size:=by omega);(have hm5:w5.heap.size≠w.heap.size:=by omega);(clear hb5 FD Yt)))
  all_goals
   go_wp2_with fail
   go_meet
   case rel=>
    first
     |exact⟨_,rfl,rfl,Fo.four_below iy Aaa,Fo.four_set HY,Aaa⟩
     |exact⟨_,rfl,rfl,iy.alloc iy.size _,aGg w5 _,Aaa⟩
 case rest=>
  obtain⟨pb,rfl,rfl,hbx,hpb,hge⟩:=hcut;obtain⟨⟨p0,p1,p2,p3⟩,_⟩:=gu hpb;have amy:=Hq (aek _ hbx);have kJ:=Hq hbx;have Lv:=Hq hpb;have aD4:=Fo.lt_of_blk hpb
  have HNE:=Hq (show pb≠mp/\v.ownBlock≠some pb from⟨λe=>by
   have:=(HPM _ hbx).blk
   rw [<-e,hpb] at this
   injection this with this
   injection this with h1 h2 h3
   exact absurd h2 Aae,own_ne (HPM _ hbx).row hpb Aae⟩)
  clear hbx hpb aek OC HSH wY c0 c1 c2 hlt;go_wp2_with fail;refine amy.mono ?_;rintro e w6 ⟨hb6,aAx,hcase⟩;have zu:=Hq (Below.trans (kJ.mono hB) hb6);have alJ:=(aAx pb aD4 HNE.1 HNE.2).trans Lv;clear aAx hb6 p0 p1 p2 p3 amy;rcases hcase with⟨hf,rfl,H7⟩|⟨hf,h20,rfl⟩|⟨hf,h20,rfl,v',H7⟩
  .rw [ah uy hf] at H7;open arD in exact ayR
  .have HF:=Hq hf;have H20:=Hq h20;clear hf h20 alJ;go_wp2_with fail;go_ret;exact⟨zu,.inl ⟨HF,H20,rfl⟩⟩
  .rw [ah HKN hf] at H7;open arC in exact ayR):P:=h
theorem aqa.Adz(h:P:=by
 have hnV:w.heap.size≠V.heap.size:=Aaa
 have hmV:V.heap.size≠w.heap.size:=Aaa
 go_region_held (λw'=>w'.cell? ⟨w.heap.size,0,none⟩=some (.int .i64 dm)/\w'.cell? ⟨w.heap.size,1,none⟩=some (.int .i64 df)/\w'.cell? ⟨w.heap.size,2,none⟩=some (.int .i64 ds)) (go_keep)
  (first
   |((go_at_call 302);(refine(OC _ (by exact wY.trans (by exact⟨rfl,rfl,rfl,Aac,λk hk=>by first|rfl|exact aGv _ _ _ Aaa⟩))).mono ?_);(rintro e w4 ⟨rfl,hb4⟩);(have hs4:=hb4.size);(simp at hs4);(have nG:=Hq (wY.trans (Below.trans (b:=_) (by exact⟨rfl,rfl,rfl,Aac,λk hk=>by first|rfl|exact aGv _ _ _ Aaa⟩) (hb4.mono (by first|omega|(simp<;>omega))))));(obtain⟨hc4,hf4⟩:=sG hb4);(have d0:w4.cell? ⟨w.heap.size,0,none⟩=some (.int .i64 dm):=by rw [hc4 _ _ (by first|omega|(simp<;>omega))];first|exact c0|exact(aGD _ _ _ hlt).trans c0);(have d1:w4.cell? ⟨w.heap.size,1,none⟩=some (.int .i64 df):=by rw [hc4 _ _ (by first|omega|(simp<;>omega))];first|exact c1|exact(aGD _ _ _ hlt).trans c1);(have d2:w4.cell? ⟨w.heap.size,2,none⟩=some (.int .i64 ds):=by rw [hc4 _ _ (by first|omega|(simp<;>omega))];first|exact c2|exact(aGD _ _ _ hlt).trans c2);(first|(guard_hyp hs4:V.heap.size+1<=w4.heap.size;obtain⟨⟨z0,z1,z2,z3⟩,x0,x1,x2,x3⟩:=gu (Fo.one_block (show Below (V.alloc (.cells (jh ⟨#[]⟩ 0 0 0) 108)).heap.size (V.alloc (.cells (jh ⟨#[]⟩ 0 0 0) 108)) w4 from⟨hb4.os,hb4.tape,hb4.output,hb4.size,hb4.block⟩)).1;have Bw:V.heap.size < w4.heap.size:=aHs _ _ z0)|skip);(have Uj:w.heap.size < w4.heap.size:=by omega);(have hn4:w.heap.size≠w4.heap.size:=by omega);(have hm4:w4.heap.size≠w.heap.size:=by omega);(clear hb4 hc4 hf4))
   |((go_at_call 303);(refine(HSH _ (by exact nG.trans (by exact⟨rfl,rfl,rfl,Aac,λk hk=>by first|rfl|exact aGv _ _ _ Aaa⟩))).mono ?_);(rintro e w5 ⟨ix,hix,rfl,hb5⟩);(have hs5:=hb5.size);(try simp at hs5);(have iy:=Hq (nG.trans (Below.trans (b:=_) (by exact⟨rfl,rfl,rfl,Aac,λk hk=>by first|rfl|exact aGv _ _ _ Aaa⟩) (hb5.mono (by first|omega|(simp<;>omega))))));(obtain⟨FD,Yt⟩:=sG hb5);(have e0:w5.cell? ⟨w.heap.size,0,none⟩=some (.int .i64 dm):=by rw [FD _ _ (by first|omega|(simp<;>omega))];first|exact d0|exact(aGD _ _ _ Uj).trans d0);(have e1:w5.cell? ⟨w.heap.size,1,none⟩=some (.int .i64 df):=by rw [FD _ _ (by first|omega|(simp<;>omega))];first|exact d1|exact(aGD _ _ _ Uj).trans d1);(have e2:w5.cell? ⟨w.heap.size,2,none⟩=some (.int .i64 ds):=by rw [FD _ _ (by first|omega|(simp<;>omega))];first|exact d2|exact(aGD _ _ _ Uj).trans d2);(first|(guard_hyp Bw:V.heap.size < w4.heap.size;have y0:=(FD _ 0 Bw).trans z0;have y1:=(FD _ 1 Bw).trans z1;have y2:=(FD _ 2 Bw).trans z2;have y3:=(FD _ 3 Bw).trans z3;have v0:=(Yt _ 0 Bw).trans x0;have v1:=(Yt _ 1 Bw).trans x1;have v2:=(Yt _ 2 Bw).trans x2;have v3:=(Yt _ 3 Bw).trans x3)|(guard_hyp hs5:w4.heap.size+1<=w5.heap.size;obtain⟨⟨y0,y1,y2,y3⟩,v0,v1,v2,v3⟩:=gu (Fo.one_block hb5).1)|skip);(have aD2:w.heap.size < w5.heap.size:=by omega);(have hn5:w.heap.size≠w5.heap.size:=by omega);(have hm5:w5.heap.size≠w.heap.size:=by omega);(clear hb5 FD Yt)))
 all_goals
  go_wp2_with fail
  go_ret
  refine⟨ix,hix,rfl,?_⟩
  first|exact iy.alloc iy.size _|exact Fo.four_below iy Aaa):P:=h
theorem akI(h:P:=by
 refine aGH Aab Aab ?_;repeat (first|go_big_quiet_step (first|exact cO _ _|exact cM _ _)|quiet_step (first|exact cO _ _|exact cM _ _))
 refine aHo ?_;intro _ hw';obtain⟨⟨dq,osq⟩,hw''⟩:=hw';subst hw'';have fZ:=Hq (wY.trans ((aHr _ dq osq).mono wY.size));clear cO cM y0 y1 y2 y3 y4 y5 y6;exact AbV):P:=h
theorem aqb.AbV(h:P:=by
 exact Kk5):P:=h
theorem aqc.AbV(h:P:=by
 exact Kk9):P:=h
theorem aqd.AbV(h:P:=by
 go_wp2_with fail;exact aGn (v:= .tuple #[xA ⟨1,F,T,I,L,k,N⟩,.bool true]) Aay rfl ⟨Aaw,fZ⟩):P:=h
theorem ayx(h:P:=by
 have SN:=Hq (au yg hbw);have HR3:=Hq (au HR1 hbw);have EO:=Hq (au HO1 hbw);have HB3:=Hq (HB1.trans (hbw.mono HB1.size));clear hW3 hbw c0 c1 c2 c3 c4 c5 c6 c7 c8 d0 d1 d2 d3;obtain⟨c0,c1,c2,c3,c4,c5,c6,c7,c8⟩:=nine SN;obtain⟨d0,d1,d2,d3⟩:=iO HR3;obtain⟨r0,r1,r2,r3,r4,r5,r6⟩:=jV EO;have f0:=aj EO 0;have f1:=aj EO 1;have f2:=aj EO 2;have f3:=aj EO 3;have f4:=aj EO 4;have f5:=aj EO 5;have f6:=aj EO 6;go_wp2_with fail;refine aP (λW' hW'=>?_);exact Ac5):P:=h
theorem aqe.Ac5(h:P:=by
 have hR:=zk (b0:= .int .i64 1) (b1:= .int .i64 id) (b2:= .int .i64 st) (b3:= .int .i64 LO) (b4:= .int .i64 LO) (b5:= .string sx) (b6:= .int .i64 sn) EO;have hK:=vF (w:=W3) (g:=w.heap.size+1+1) (b0:= .int .i64 1) (b1:= .int .i64 id) (b2:= .int .i64 st) (b3:= .int .i64 LO) (b4:= .int .i64 LO) (b5:= .string sx) (b6:= .int .i64 sn);rw [<-hW'] at hR hK;obtain⟨x0,x1,x2,x3,x4,x5,x6⟩:=jV hR;refine aGn (v:= .agg (bX 1 id st LO LO sx sn)) Adl rfl ⟨rfl,HB3.trans (hK.below (λx hx=>by have:x=w.heap.size+1+1:=Aah;omega) HB3.size)⟩):P:=h
theorem aqf.Ac5(h:P:=by
 have hR:=zk (b0:= .int .i64 1) (b1:= .int .i64 id) (b2:= .int .i64 st) (b3:= .int .i64 si) (b4:= .int .i64 LO) (b5:= .string sx) (b6:= .int .i64 sn) EO;have hK:=vF (w:=W3) (g:=w.heap.size+1+1) (b0:= .int .i64 1) (b1:= .int .i64 id) (b2:= .int .i64 st) (b3:= .int .i64 si) (b4:= .int .i64 LO) (b5:= .string sx) (b6:= .int .i64 sn);rw [<-hW'] at hR hK;obtain⟨x0,x1,x2,x3,x4,x5,x6⟩:=jV hR;refine aGn (v:= .agg (bX 1 id st si LO sx sn)) Adl rfl ⟨rfl,HB3.trans (hK.below (λx hx=>by have:x=w.heap.size+1+1:=Aah;omega) HB3.size)⟩):P:=h
theorem ayy(h:P:=by
 rw [<-hW] at e1 e2 e3 e4;have HN:=Hq e1;have HM:=Hq e2;have HR:=Hq e3;have HB0:=Hq e4;have Ig:=Hq (mZ.kc (k:=9) (KC.of_below e4) Aaa);clear hW e1 e2 e3 e4 mZ;obtain⟨m0,m1,m2,m3,m4,m5,m6⟩:=jV HM;have hml:=aA HM;have hnl:=aA HN;go_wp2_with fail;refine(HMO W0).mono ?_;rintro e W1 ⟨rfl,hb1⟩;have lF:=Hq (au HN hb1);have OG:=Hq (au HM hb1);have qy:=Hq (au HR hb1);have HB1:=Hq (HB0.trans (hb1.mono HB0.size));have vZ:=Hq (Ig.kc (k:=9) (KC.of_below hb1) Aaa);clear hb1 HM HR HN HB0 Ig;clear m0 m1 m2 m3 m4 m5 m6 hml hnl HMO;obtain⟨m0,m1,m2,m3,m4,m5,m6⟩:=jV OG;exact Ae7):P:=h
theorem aqg.Ae7(h:P:=by
 have hml:=aA OG;have vS:=Hq (au qy (ay W1 (.cells #[] 98)));have HNA:=Hq (vZ.kc (k:=9) (KC.of_below (ay W1 (.cells #[] 98))) Aaa);have vY:=Hq (HB1.trans ((ay W1 (.cells #[] 98)).mono HB1.size));obtain⟨c0,c1,c2,c3,c4,c5,c6,c7,c8⟩:=nine lF;open aos in exact XP):P:=h
theorem aqh.Ae7(h:P:=by
 obtain⟨c0,c1,c2,c3,c4,c5,c6,c7,c8⟩:=nine lF;have hml:=aA OG;have hnl:=aA lF;go_wp2_with fail;refine(Sl W1 vZ.at.k).mono ?_;rintro e W2 ⟨rfl,hb2⟩;have kK:=Hq (au lF hb2);have zD:=Hq (au OG hb2);have jS:=Hq (au qy hb2);have HB2:=Hq (HB1.trans (hb2.mono HB1.size));have Bq:=Hq (vZ.kc (k:=9) (KC.of_below hb2) Aaa);clear hb2 OG qy lF HB1 vZ;clear m0 m1 m2 m3 m4 m5 m6 c0 c1 c2 c3 c4 c5 c6 c7 c8 hml hnl Sl;obtain⟨m0,m1,m2,m3,m4,m5,m6⟩:=jV zD;exact Kk3):P:=h
theorem ayz(h:P:=by
 cases h1:NN fr
 case' false=>
  have cN:=ah Sl fr false W1 HKI h1
  have HV:=Hq (show bb=true by rw [<-ah fI];simp[h1])
  clear fI
  refine aGH Aab Aab ?_
  repeat (first|go_big_quiet_step ((first|(go_at_call 51;exact cN _ _)|(go_at_call 49;exact cS _ _)))|quiet_step ((first|(go_at_call 51;exact cN _ _)|(go_at_call 49;exact cS _ _))))
  refine aHo ?_
  intro _ hw'
  obtain⟨⟨dq,osq⟩,hw''⟩:=hw'
  subst hw''
  go_wp2_with fail
  go_meet
  case rel=>exact yJ
 have cN:=ah Sl fr true W1 HKI h1;exact Aec):P:=h
theorem aqi.Aec(h:P:=by
 by_cases h2:y < fr
 case' neg=>
  have hy:decide (fr<=y)=true:=aGk Aaa
  have HV:=Hq (show bb=true by rw [<-ah fI];simp[h2])
  clear fI
  refine aGH Aab Aab ?_
  repeat (first|go_big_quiet_step ((first|(go_at_call 51;exact cN _ _)|(go_at_call 49;exact cS _ _)))|quiet_step ((first|(go_at_call 51;exact cN _ _)|(go_at_call 49;exact cS _ _))))
  refine aHo ?_
  intro _ hw'
  obtain⟨⟨dq,osq⟩,hw''⟩:=hw'
  subst hw''
  go_wp2_with fail
  go_meet
  case rel=>exact yJ
 have hy:decide (fr<=y)=false:=aGi Aaa;open anN in exact ayl):P:=h
theorem aqj.Aec(h:P:=by
 open anO in exact ayl):P:=h
theorem ayA(h:P:=by
 rw [<-hW] at e1 e2 e3 e4;have aeA:=Hq e1;have aes:=Hq e2;have anb:=Hq e3;have HB0:=Hq e4;have aex:=Hq (mZ.kc (k:=9) (KC.of_below e4) Aaa);clear hW e1 e2 e3 e4;obtain⟨bi,ci,eA,hgs0,⟨t0,t1,t2⟩,_,hWi⟩:=eF.three aex.s i hi;rw [hs0] at t0 t1 t2 hWi;rw [hfi] at t0;have aFq:G.s < w.heap.size:=adw HGS Aaa;have HWI:=Hq hWi;have HT:=Hq (And.intro t0 (And.intro t1 t2));clear hWi t0 t1 t2;dsimp only at eA;subst eA;obtain⟨c0,c1,c2,c3,c4,c5,c6,c7,c8⟩:=nine aeA;obtain⟨m0,m1,m2,m3,m4,m5,m6⟩:=jV aes;have hnl:=aA aeA;have hml:=aA aes;go_upto_block 0 with fail;exact Aer):P:=h
theorem aqk.Aer(h:P:=by
 go_cut [7] from 15 (λj wx=>j= .int .i64 (i:Nat)/\Ge W0 wx)
 case first=>
  exact akU
 case rest=>
  open aDq in exact akC):P:=h
theorem aql.Aer(h:P:=by
 exact Ad5):P:=h
theorem ayB(h:P:=by
 open atE in exact agZ):P:=h
theorem aqm.AcX(h:P:=by
 refine(Nv _ _ Aaa Aaa).mono ?_;rintro e w3 ⟨t2,rfl,hb⟩;have JE:=Hq (oh.below (oh.set (oh.set HK HS _ _) HS _ _) hb);have hg3:g < w3.heap.size:=aGq hg (by have:=hb.size;simpa using this);clear hb q0 f0 q1 f1 q2 f2 q3 f3 q4 f4 q5 f5 q6 f6 q7 f7 q8 f8 q9 f9 Xk f10 q11 f11 HK;obtain⟨gg,eg,_,_,hcw⟩:=(HW.scr JE) k hlt;cases eg
 open an0 in exact ayp):P:=h
theorem aqn.AcX(h:P:=by
 go_roundw
 case rel=>exact⟨k+1,_,Aaa,Aaf,rfl,by have:=ah HM;omega,oh.set (oh.set (oh.set amT HS _ _) HS _ _) HS _ _⟩
 case measure=>simp[intOf];omega):P:=h
theorem akJ(h:P:=by
 have hr:(convert 162 9 (.slice (some ⟨g,a+4,none⟩) (s.size - (a+4)) (s.size - (a+4)))).run prog w= .ok (.string (iZ (tl s a))) w:=by
  exact aDx
 have h1:(s.size:Int)<=(a:Int)+1006:=Aaa
 have h2:¬((s.size:Int) - (a:Int) < 4):=Aaa
 have h3:(a:Int)+4 < (s.size:Int):=Aaa
 have hcap2:(s.size:Int)<=(cap:Int):=Aaa
 exact AcI):P:=h
theorem aqo.AcI(h:P:=by
 rw [CV s a 0 4 Aaa] at hq;have hmn:min (s.size:Int) ((a:Int)+1006)=(s.size:Int):=Int.min_eq_left Aaa;exact azn):P:=h
theorem aqp.AcI(h:P:=by
 rw [CV s a 0 4 Aaa] at hq;have hmn:min (s.size:Int) ((a:Int)+1006)=(s.size:Int):=Int.min_eq_left Aaa;exact azl):P:=h
theorem aqr.AcI(h:P:=by
 have hmn:min (s.size:Int) ((a:Int)+1006)=(s.size:Int):=Int.min_eq_left Aaa;exact azG):P:=h
theorem aeR(h:P:=by
 open atA in exact Wl):P:=h
theorem aqs.AbE(h:P:=by
 refine aHV rfl 85 (.tmp 4) rfl w.heap.size 0 rfl (opl x.o) _ (LD.rng 0 _ rfl) underlying85 rfl Aab ?_;go_wp2_with fail;refine(HT _).mono ?_;rintro e x1 ⟨rfl,hb⟩;have BK:=Hq (LD.step hb (λ_=>True) (λ_ _=>trivial));clear hb LD HT;open awZ in exact aaZ):P:=h
theorem aqt.AbE(h:P:=by
 refine aHV rfl 40 (.tmp 11) rfl w.heap.size 9 rfl (dG n A2).toList _ hr1 underlying40 rfl Aab ?_;go_wp2_with fail;refine(OE W1 HB1).mono ?_;rintro e W2 ⟨rfl,hk⟩;have uw:=Hq (au BG hk);have HB2:=Hq (HB1.trans (hk.mono HB1.size));clear hk hr1 BG HB1 OE;have c20:W2.cell? ⟨w.heap.size,20,none⟩=some (.slice none 0 0):=aGu W2 w.heap.size 20 _ 44 (0,0) uw;have c21:W2.cell? ⟨w.heap.size,21,none⟩=some (.slice none 0 0):=aGu W2 w.heap.size 21 _ 44 (0,0) uw;go_wp2_with (first|(go_at_call 37;refine(aci _ _).mono ?_;rintro e w5 ⟨rfl,rfl⟩)|(go_at_call 38;refine(acg _ _).mono ?_;rintro e w5 ⟨rfl,rfl⟩))
 go_ret;exact⟨by rw [ah HEK];rfl,HB2⟩):P:=h
theorem aqu.AbE(h:P:=by
 refine aHV rfl 40 (.tmp 9) rfl w.heap.size 9 rfl (dG k.node A.n).toList _ hr1 underlying40 rfl Aab ?_;go_wp2_with fail;refine(OE W1 vZ).mono ?_;rintro e W2 ⟨rfl,hm,hk⟩;have Bq:=Hq hm;have HB2:=Hq (jd.keeps HB1 hk (λx hx hx2=>HD.1 x (all_mk hx) hx2));have HW2:=Hq (HW1.keepsL hk (λx hx=>(HD.2 x hx).2));have HA2:=Hq (HA1.keepsL hk (λx hx=>(HD.2 x hx).2));have uw:=Hq (hk.obj BG (λhx=>HNE _ Aan rfl));have HL2:=Hq (yF.trans (hk.mono (λx hx=>Aan)));clear hm hk hr1 HB1 vZ HW1 HA1 BG yF OE;have c20:W2.cell? ⟨w.heap.size,20,none⟩=some (.slice A.wa k.wait.length A.wc):=aGu W2 w.heap.size 20 _ 44 (0,0) uw;go_wp2_with fail;refine(HM3 _ W2 Aaa Aaa HW2).mono ?_;rintro e W3 ⟨rfl,hs⟩;have hk:=hs.keepsL;have HN3:=Hq (jd.keeps Bq hk (λx hx hx2=>(HD.2 x hx2).2 (all_mk hx)));have HB3:=Hq (jd.keeps HB2 hk (λx hx hx2=>(HD.2 x hx2).1 (all_mk hx)));have HA3:=Hq (HA2.scr hs);have JE:=Hq (hk.obj uw (λhx=>HNE _ Aan rfl));have rU:=Hq (HL2.trans (hk.mono (λx hx=>Aan)));clear hs hk c20 HB2 Bq HW2 HA2 uw HL2 HM3;have c21:W3.cell? ⟨w.heap.size,21,none⟩=some (.slice A.aa k.asked.length A.ac):=aGu W3 w.heap.size 21 _ 44 (0,0) JE;go_wp2_with fail;refine(HM4 _ W3 Aaa Aaa HA3).mono ?_;rintro e W4 ⟨rfl,hs⟩;have hk:=hs.keepsL;have HN4:=Hq (jd.keeps HN3 hk (λx hx hx2=>(HD.2 x hx2).2 (all_mk hx)));have nG:=Hq (jd.keeps HB3 hk (λx hx hx2=>(HD.2 x hx2).1 (all_mk hx)));have Ie:=Hq (rU.trans (hk.mono (λx hx=>Aan)));clear hs hk c21 HB3 HN3 HA3 JE rU HM4;go_wp2_with fail;go_ret;exact⟨mQ (by rw [ah HEK];omega),⟨nG,HN4⟩,Ie⟩):P:=h
theorem aqv.AbE(h:P:=by
 refine aHV rfl 28 (.tmp 8) rfl w.heap.size 9 rfl (dG k.node A.n).toList _ (BK.rng 9 _ rfl) underlying28 rfl Aab ?_;go_wp2_with fail;refine(H2 _ BK.b).mono ?_;rintro e x ⟨A2,rfl,G2,hN,hS,hb⟩;have hs0:=BK.s;have hs1:=(BK.m _ (aC.refl _ _)).2.2;have LC:=Hq (BK.step hb (λW'=>jd W' A2 G2 k.node/\x.heap.size<=W'.heap.size) (λW' hk=>⟨hN.keeps hk (λy hy hm=>by have:=hS.rng y hy;simp at hm;omega),hk.size⟩));have HR2:=Hq (show(∀y∈G2.all k.node,s1<=y/\y < x.heap.size)/\w.heap.size<=s1/\s1<=x.heap.size from⟨λy hy=>by have:=hS.rng y hy;omega,HR1.2,by have:=hb.size;omega⟩);have HD2:=Hq hS.nodup;clear hN hS hb hs0 hs1 BK H2;generalize hs2:x.heap.size=s2 at *;clear hs2;open awY in exact aaZ):P:=h
theorem akK(h:P:=by
 go_wp2_with fail;refine wp_region_quiet_lit Aab Aab ?_;repeat (first|go_big_quiet_step ((first|(go_at_call 100;exact aj2 _ _ hx1 _ _)))|quiet_step ((first|(go_at_call 100;exact aj2 _ _ hx1 _ _))))
 refine aHo ?_;intro _ hw';obtain⟨nq,hw''⟩:=hw';subst hw'';go_wp2_with fail;exact AcB):P:=h
theorem aqw.AcB(h:P:=by
 go_roundw
 case rel=>exact⟨j+1+1,Aaa,Aaf,HG,Hu,dS.trans ⟨rfl,rfl,rfl,aGh _,λ_ _=>rfl⟩⟩
 case measure=>simp[intOf];omega):P:=h
theorem aqx.AcB(h:P:=by
 go_roundw
 case rel=>exact⟨0+1,Aaa,Aaf,HG,Hu,dS.trans ⟨rfl,rfl,rfl,aGh _,λ_ _=>rfl⟩⟩
 case measure=>simp[intOf];omega):P:=h
theorem aqy.AcB(h:P:=by
 go_ret;exact⟨aF HP.symm,dS.trans ⟨rfl,rfl,rfl,aGh _,λ_ _=>rfl⟩⟩):P:=h
theorem akL(h:P:=by
 have hr:(convert 162 9 (.slice (some ⟨g,a+4,none⟩) 1002 1002)).run prog w= .ok (.string (iZ (tl s a))) w:=by
  exact aza
 have h1:¬((s.size:Int)<=(a:Int)+1006):=Aaa
 have h3:(a:Int)+1006 < (s.size:Int):=Aaa
 have h31:¬((a:Int)+1006 - (a:Int) < 4):=Aaa
 have hcap2:(s.size:Int)<=(cap:Int):=Aaa
 exact AcA):P:=h
theorem aqz.AcA(h:P:=by
 rw [CV s a 0 4 Aaa] at hq;have hmn:min (s.size:Int) ((a:Int)+1006)=(a:Int)+1006:=Int.min_eq_right Aaa;exact azn):P:=h
theorem aqA.AcA(h:P:=by
 rw [CV s a 0 4 Aaa] at hq;have hmn:min (s.size:Int) ((a:Int)+1006)=(a:Int)+1006:=Int.min_eq_right Aaa;exact azl):P:=h
theorem aqB.AcA(h:P:=by
 have hmn:min (s.size:Int) ((a:Int)+1006)=(a:Int)+1006:=Int.min_eq_right Aaa;exact azG):P:=h
theorem XU(h:P:=by
 have hkk:=hks l[k] (aGz hlt);have HT:=Hq (aGt hlt);generalize l[k]=pu at *;exact Aa0):P:=h
theorem aqC.Aa0(h:P:=by
 have wB:=Hq (λw1=>af8 pu z w1 hz0 hz1 hkk);obtain⟨pk,pm,pf,ps⟩:=pu;exact akT):P:=h
theorem aqD.Aa0(h:P:=by
 have wB:=Hq (λw1=>amc pu z w1 hz0 hz1 hkk);obtain⟨pi,pt,pk,pn⟩:=pu;exact akT):P:=h
theorem aqE.Aa0(h:P:=by
 have wB:=Hq (λw1=>aBr pu z w1 hz0 hz1 hkk);obtain⟨pno,pk,pn,ps⟩:=pu;exact akT):P:=h
theorem aqF.Aa0(h:P:=by
 have wB:=Hq (λw1=>amb pu b c z w1 hz0 hz1 hkk);obtain⟨fr,lo,ids⟩:=pu;dsimp only at q0 q1 q2 hkk;unfold maxLen at hkk;go_wp2_with fail;refine(wB _).mono ?_;rintro e w5 ⟨rfl,hb5⟩;have fZ:=Hq (dS.trans (hb5.mono dS.size));clear hb5 q0 q1 q2;dsimp only;by_cases hc:(ids.length:Int)<=z
 .rw [aGC hc];have hn2:decide (z - (ids.length:Int) < 0)=false:=aGi Aaa;go_wp2_with fail;go_roundw
  case rel=>
   refine⟨k+1,z - ids.length,Aaa,Aaf,rfl,Aaa,Aaa,?_,fZ⟩;intro p hp;rw [ah HT] at hp;rcases aGE.1 hp with h|h
   .exact jG p h
   .rw [aGA] at h;subst h;show ids.length<=1048576
    omega
  case measure=>simp[intOf];omega
 .rw [aGr hc];go_wp2_with fail;go_ret;exact⟨-1,rfl,fZ,.inl rfl⟩):P:=h
theorem aqG.Aa0(h:P:=by
 have wB:=Hq (fun(w1:World)=>ZH pu z w1 hz0 Aaa hkk);obtain⟨⟨oK,QF,ok,on,⟨mK,mF,mT,mI,mL,mk,mN⟩⟩,ac⟩:=pu;dsimp only at q0 q1 q2 q3 q4 q5 q6 q7 q8 q9 Xk q11 wB;clear hkk;go_wp2_with fail;refine(wB wr).mono ?_;rintro e w5 ⟨r,rfl,hcase,hb5⟩;have fZ:=Hq (dS.trans (hb5.mono dS.size));clear hb5 q0 q1 q2 q3 q4 q5 q6 q7 q8 q9 Xk q11;exact azE):P:=h
theorem aqH.Aa0(h:P:=by
 have wB:=Hq (fun(w1:World)=>al9 pu z w1 hz0 Aaa hkk);obtain⟨mK,mF,mT,mI,mL,mk,mN⟩:=pu;dsimp only at q0 q1 q2 q3 q4 q5 q6 wB;clear hkk;go_wp2_with fail;refine(wB wr).mono ?_;rintro e w5 ⟨r,rfl,hcase,hb5⟩;have fZ:=Hq (dS.trans (hb5.mono dS.size));clear hb5 q0 q1 q2 q3 q4 q5 q6;exact azE):P:=h
theorem ayC(h:P:=by
 have HAT:=Hq (λW'' (ho:Out c w W' W'')=>(HNA.kc (k:=9) ((KC.keeps fU (λx hx=>by have:x=w.heap.size+2:=Aah;rw [this];exact bQ Aaa)).trans (KC.out H9 ho)) Aaa).rm);have pO:Hid (Below B w W'):=(vY.mono hB).trans (fU.below (λx hx=>by have:x=w.heap.size+2:=Aah;omega) (aGm hB (vY.mono hB).size));have uy:=Hq (Apart.keeps (c:=c) (Apart.of_below vY) (vY.mono hB).size fU (λx hx=>by have:x=w.heap.size+2:=Aah;omega));obtain⟨x0,x1,x2,x3,x4,x5,x6,x7,x8⟩:=nine e4;clear hW' e4 fU;exact Ad2):P:=h
theorem aqI.Ad2(h:P:=by
 exact Ac0):P:=h
theorem aqJ.Ad2(h:P:=by
 exact aGn (v:= .tuple #[(gP n A),.slice (some ⟨W1.heap.size,0,none⟩) 0 0,.int .i64 3]) Abr rfl ⟨A,some ⟨W1.heap.size,0,none⟩,0,rfl,HAT,λW'' _ i hi=>Aas,pO,uy⟩):P:=h
theorem ayD(h:P:=by
 go_wp2_with fail;refine(jR X A1 HPR.1 BH.at.p).mono ?_;rintro e W5 ⟨v,rfl,_,hown,hb5⟩;obtain⟨pa,pc,rfl,_⟩:=GR.own_at (enc:=fD) aU hown;have nZ:=Hq (au iQ hb5);have mh:=Hq (au rD hb5);have zu:=Hq (kJ.trans (hb5.mono kJ.size));have SK:=Hq (BH.kc (k:=9) (KC.of_below hb5) Aaa);have JQ:=Hq hown;have hxr:=aA rD;clear hown hb5 c0 c1 c2 c3 c4 c5 c6 c7 c8 p0 p1 p2 p3 p4 p5 p6 p7 p8 p9 oU hnl hol jR iQ HOX rD BH HPR kJ;obtain⟨c0,c1,c2,c3,c4,c5,c6,c7,c8⟩:=nine nZ;have hnl:=aA nZ;exact AdG):P:=h
theorem aqK.AdG(h:P:=by
 have f4:=aj nZ 4;go_upto_region 11 with fail;refine wp_at (λY hY=>?_)
 have hky:aC [w.heap.size] W5 Y:=by
  rw [hY];exact aC.set _
 have rV:Hid (Y.heap[w.heap.size]?=some (.cells (iT n.id n.par A1.k n.kids.length A1.ck n.next pa RL.length pc A1.o n.out.length A1.co A1.s n.seen.length A1.cs n.old A1.r n.reqs.length A1.cr) 40 (0,0))):=by
  rw [hY];exact aT nZ 4 (.slice pa RL.length pc)
 have oV:=Hq (hky.obj mh Aac);have Ht:=Hq (zu.trans (hky.below (B:=w.heap.size) (λx hx=>by have:x=w.heap.size:=Aah;omega) zu.size));have aBQ:=Hq (SK.kc (k:=9) (KC.keeps hky (λx hx=>by have:x=w.heap.size:=Aah;rw [this];exact Oi)) Aaa);have aBU:=Hq (dU JQ hky (λx hx=>by have:x=w.heap.size:=Aah;omega));clear hY hky f4 c0 c1 c2 c3 c4 c5 c6 c7 c8 hnl nZ mh zu SK JQ;obtain⟨c0,c1,c2,c3,c4,c5,c6,c7,c8⟩:=nine rV;have hnl:=aA rV;open auG in exact ahe):P:=h
theorem aqL.AdG(h:P:=by
 go_upto_region 9 with fail;open ath in exact agR):P:=h
theorem ayE(h:P:=by
 have HAT:=Hq (λW'' (ho:Out c w W' W'')=>(vZ.kc (k:=9) ((KC.keeps fU (λx hx=>by have:x=w.heap.size+1:=Aah;rw [this];exact bQ Aaa)).trans (KC.out H9 ho)) Aaa).rm);have pO:Hid (Below B w W'):=(HB1.mono hB).trans (fU.below (λx hx=>by have:x=w.heap.size+1:=Aah;omega) (aGm hB (HB1.mono hB).size));have uy:=Hq (Apart.keeps (c:=c) (Apart.of_below (HB1)) (HB1.mono hB).size fU (λx hx=>by have:x=w.heap.size+1:=Aah;omega));obtain⟨x0,x1,x2,x3,x4,x5,x6,x7,x8⟩:=nine e4;exact AdB):P:=h
theorem aqM.AdB(h:P:=by
 clear hW' e4 fU;exact aGn (v:= .tuple #[(gP n A),.int .i64 1]) Abq rfl ⟨A,rfl,HAT,pO,uy⟩):P:=h
theorem aqN.AdB(h:P:=by
 exact Kk8):P:=h
theorem ayF(h:P:=by
 go_in
 go_wp2_with fail;refine HOF.mono ?_;rintro e w1 ⟨mp,mb,v,rfl,H7,hb1⟩;obtain⟨hblk,hlt1,hbw⟩:=Fo.one_block hb1;have HB1:=Hq hbw;have c0:w1.cell? ⟨w.heap.size,0,none⟩=some (.int .i64 dm):=by rw [aGu w1 _ _ _ _ (0,0) hblk];rfl
 have c1:w1.cell? ⟨w.heap.size,1,none⟩=some (.int .i64 df):=by rw [aGu w1 _ _ _ _ (0,0) hblk];rfl
 have c2:w1.cell? ⟨w.heap.size,2,none⟩=some (.int .i64 ds):=by rw [aGu w1 _ _ _ _ (0,0) hblk];rfl
 exact Ac7):P:=h
theorem aqO.Ac7(h:P:=by
 have HMX:=Hq (HMV _ mp mb _ v w1 hb1.size Aai H7 (HE.below hbw));clear hb1 H7 HOF hblk hbw HMV;go_wp2_with (first|(go_at_call 204;refine(HK _).mono ?_;rintro e w2 ⟨rfl,rfl⟩)|(go_at_call 169;refine(Hr _).mono ?_;rintro e w2 ⟨rfl,rfl⟩))
 refine HMX.mono ?_;rintro e w3 ⟨hb3,hcase⟩;have HB3:=Hq (HB1.trans (Below.mono hb3 Aac));clear hb3 HMX;rcases hcase with⟨hf,h20,rfl⟩|⟨hf,rfl,v',aAr⟩
 .have HAD:=Hq (aah hf h20);clear hf h20 aah aaq;go_wp2_with fail;go_ret2
  exact⟨HB3,.inl ⟨HAD,_,Aaa,rfl⟩⟩
 .obtain⟨hadd,hlen⟩:=ah aaq hf;have aek:=Hq hadd;have zw:=Hq (acN _ mp mb _ v' PL G2 w3 hlen Ik Sr aAr);clear hf aah aaq hadd aAr;go_wp2_with fail;refine zw.mono ?_;rintro e w4 ⟨rfl,ajW,hb4⟩;have nG:=Hq (HB3.trans (hb4.mono HB3.size));have XA:=Hq ajW;clear hb4 ajW;go_wp2_with fail;go_ret2
  rw [ah aek];exact⟨nG,.inr ⟨rfl,_,HB3.size,rfl,XA⟩⟩):P:=h
theorem aqP.Ac7(h:P:=by
 have HMX:=Hq (HMV _ mp mb _ v w1 H7 (HE.below hbw));clear hb1 H7 HOF hblk hbw HMV;go_wp2_with (first|(go_at_call 204;refine(HK _).mono ?_;rintro e w2 ⟨rfl,rfl⟩)|(go_at_call 169;refine(Hr _).mono ?_;rintro e w2 ⟨rfl,rfl⟩)|(go_at_call 286;refine HMX.mono ?_;rintro e w3 ⟨i,hi,rfl,hb3⟩))
 go_ret2
 exact⟨HB1.trans (hb3.mono HB1.size),.inl ⟨HAD,i,hi,rfl⟩⟩):P:=h
theorem akM(h:P:=by
 have hno:∀(listed:Array Bool),pV md ops listed->i∈Region.ready md ops listed->E∉Region.ready md ops listed:=λlisted hcl hr hEr=>by
  have h3:=E9 hcl hEr n i hE
  have h4:=(mem_ready.1 hr).1
  rcases aHa i listed.size with h'|h'
  .exact aju
  .exact ajC
 intro fuel;exact AcN):P:=h
theorem aqQ.AcN(h:P:=by
 induction fuel with
 |zero=>
  intro listed a w hcl _ hr hy H;open axn in exact aa1
 |succ fuel ih=>
  intro listed a w hcl hfree hr hy H;open axa in exact aa0):P:=h
end Go.Proofs.YtohmklmkjmlpjaaGreatDoor
