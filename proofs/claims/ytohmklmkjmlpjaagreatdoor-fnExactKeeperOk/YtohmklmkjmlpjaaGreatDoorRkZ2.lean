/-
  Parts of proofs that stand more than once, each said once.
-/
import Derived.Test.YtohmklmkjmlpjaaGreatDoorRkZ1
namespace Go.Proofs.YtohmklmkjmlpjaaGreatDoor
open Go.Proofs.Tryz
set_option maxRecDepth 100000
variable{P:Prop}
theorem amD.Aej(h:P:=by
 obtain⟨c0,c1,c2,c3,c4,c5,c6,c7,c8⟩:=nine uN;have cf:=aj uN 4;have hnl:=aA uN;have aBL:decide ((40:Int)<=((aV s0 mL).length:Int))=false:=decide_eq_false Aaa;go_upto_region 22 with fail;refine wp_at (λW9 hW9=>?_);have hnb:w.heap.size≠gi:=Aaa
 have Vp:aC [w.heap.size] W8 W9:=by rw [hW9];exact aC.set _
 have CU:Hid (W9.heap[w.heap.size]?=some (.cells (iD n.id n.par a_k n.kids.length aY n.next av RL.length cv fH n.out.length bE (some ⟨G.s,0,none⟩) n.seen.length aZ n.old gM n.reqs.length bg) 40 (0,0))):=by rw [hW9];exact aN uN 4 _
 have adu:=Hq (Vp.obj alK (λhx=>Abr));have oZ:=Hq (Vp.obj Gs (λhx=>Abr));have Zt:=Hq (Vp.obj alW (λhx=>Aak));have alr:=Hq (Vp.obj alq (λhx=>Aak));have ai8:=Hq (alF.keeps Vp (λx hx hm=>by have h1:=(dY hx).1;simp at hm;omega));have adx:=Hq (ajc.kc (k:=9) (KC.keeps Vp (λx hx=>by have:x=w.heap.size:=Aaf;rw [this];exact DW _ (Nat.le_refl _) hnb)) Aaa);have adl:=Hq (ai3.trans (Vp.below (B:=B) (λx hx=>Aak) Aaa));have adp:=Hq (Apart.keeps (c:=c) aja Aaa Vp (λx hx=>by have:x=w.heap.size:=Aaf;omega));have HP9:=Hq (HRW.keeps Vp (λx hx=>Aak));have hz9:W8.heap.size<=W9.heap.size:=Vp.size;clear hW9 Vp HRW uN alK Gs alW alq alF ajc ai3 aja c0 c1 c2 c3 c4 c5 c6 c7 c8 cf hnl;obtain⟨m0,m1,m2,m3,m4,m5,m6⟩:=jD adu;have hml:=aA adu;obtain⟨pos,hpos⟩:∃pos,((aV s0 mL).takeWhile (λy=>decide (y < mI))).length=pos:=⟨_,rfl⟩;have HIN:=Hq (show lD (aV s0 mL) mI=(aV s0 mL).take pos++([mI]++(aV s0 mL).drop pos) by rw [<-hpos];exact abP _ _);have hpl:pos<=(aV s0 mL).length:=by rw [<-hpos];exact azq _ _
 have Jd:=Hq hpos;clear hpos;go_upto_block 4 with fail;go_cut [14] from 15 (λj wx=>j= .int .i64 (pos:Nat)/\Ge W9 wx)
 case first=>
  go_wp2_with fail;go_loopw [14] (λj wr=>∃x q:Nat,x<=(aV s0 mL).length/\j= .int .i64 x/\(∀y (hy:y < (aV s0 mL).length),y < x->(aV s0 mL)[y] < mI)/\wr=W9.drewN q) (λj _=>(aV s0 mL).length - (intOf j).toNat)
  case atStart=>exact⟨0,0,Nat.zero_le _,rfl,λy hy h=>Aaa,rfl⟩
  case round=>
   obtain⟨x,q,hx,rfl,hlo,rfl⟩:=hrel;have Zc:=Hq hlo;clear hlo;by_cases hlt:x < (aV s0 mL).length
   .obtain⟨_,hgb,hcell⟩:=(ah ai8) x hlt;open att in exact agk
   .have hje:x=(aV s0 mL).length:=Aaa
    subst hje;have HJ:=Hq (ac3 (l:=aV s0 mL) (x:=mI) (Nat.le_refl _) Zc (λh=>absurd h (Nat.lt_irrefl _)));have abg:decide (((aV s0 mL).length:Int) < ((aV s0 mL).length:Int))=false:=Aac
    exact aho
 case rest=>
  obtain⟨rfl,hge⟩:=hcut;clear m0 m1 m2 m3 m4 m5 m6 hml;go_upto_region 25 with fail;refine wp_at (λuH aBE=>?_);subst aBE;have afq:=Hq (au CU hge);have Zf:=Hq (au adu hge);have afu:=Hq (au oZ hge);have Zp:=Hq (au Zt hge);have afe:=Hq (au alr hge);have UE:=Hq (ai8.below hge);have afp:=Hq (adx.kc (k:=9) (KC.of_below hge) Aaa);have afg:=Hq (adl.trans (hge.mono Aaa));have afk:=Hq (adp.step Aaa hge);have adz:=Hq (HP9.below hge);have aDK:W9.heap.size<=uH.heap.size:=hge.size;clear hge CU adu oZ Zt alr ai8 adx adl adp HP9;have ayx:=aA Zp;have aDe:∀x∈fp gi (aV s0 mL),x < uH.heap.size:=av2 UE;go_cut [14] from 15 (λ_ wx=>∃g2 cq2,uH.heap.size<=g2/\wx.ownsRow uH.heap.size 3 1 (.slice (some ⟨g2,0,none⟩) ((aV s0 mL).length+1) cq2) ((aV s0 mL).length+1) (GR.flat aU (lD (aV s0 mL) mI))/\wx.heap[sb]?=some (.cells #[.int .i64 mF,.int .i64 (fE s0 mL),.slice (some ⟨g2,0,none⟩) ((aV s0 mL).length+1) cq2] 110 (0,0))/\aC [sb] uH wx)
  case first=>
   obtain⟨m0,m1,m2,m3,m4,m5,m6⟩:=jD Zf;have hml:=aA Zf;have hwb:uH.heap.size<=uH.heap.size:=Nat.le_refl _;have y3:=dA hml m3;clear m0 m1 m2 m3 m4 m5 m6;have hpc:pos<=OA:=Aaa
   have Eb:=Hq (show bX uH (some ⟨gi,0,none⟩) ((aV s0 mL).take pos) from GR.At.take UE.at pos)
   obtain⟨AD,hAD,hDR⟩:∃AD,(if OA=pos then some (⟨gi,0,none⟩:Addr) else some ⟨gi,pos,none⟩)=AD/\bX uH AD ((aV s0 mL).drop pos):=by
    by_cases hcz:OA=pos
    .refine⟨_,rfl,?_⟩;rw [show(aV s0 mL).drop pos=[] by apply List.drop_eq_nil_of_le;omega];exact GR.at_nil _ _
    .refine⟨_,rfl,?_⟩;rw [if_neg hcz];have h:=GR.At.drop UE.at pos;rw [Nat.mul_one] at h;exact h
   have HDR:=Hq hDR;clear hDR;refine lZ 14 uH.heap.size Aab ?_;show jf _ _ _ _ _ _ 15 (Array.replicate 15 false) _ _
   refine tk [1,2,3,5,6,9,10,11] ?_;iterate 8 (refine tkB hwb (λK hK=>?_);go_simp;first|refine hK _ ?_|(apply Exists.intro;refine⟨λ_=>?_,hK _ ?_⟩;rfl);clear hK K)
   refine jJ ?_;clear y3;have hlt1:((aV s0 mL).take pos).length=pos:=Abj
   have abk:((aV s0 mL).drop pos).length=(aV s0 mL).length - pos:=by rw [List.length_drop]
   have hL1:((aV s0 mL).take pos++[mI]).length=pos+1:=by rw [List.length_append,hlt1];rfl
   have hL2:((aV s0 mL).take pos++[mI]++(aV s0 mL).drop pos).length=pos+1+((aV s0 mL).length - pos):=by rw [List.length_append,hL1,abk]
   have HG0:=Hq (Below.refl uH.heap.size uH);refine mW 0 7 rfl rfl Aab Aad Aad Aae Aae (λx1 hx1=>?_) (λx1 hx1=>?_)
   .open apB in exact awy
   .open apA in exact awy
  case rest=>
   obtain⟨g2,cq2,hg2,hown2,ayt,KV⟩:=hcut;have Zq:=Hq ayt;have UG:=Hq (KV.obj afq (λhx=>Aak));have afv:=Hq (KV.obj afu (λhx=>Aak));have aff:=Hq (KV.obj afe (λhx=>Aak));have Zg:=Hq (afp.kc (k:=9) (KC.keeps KV (λx hx=>by have:x=sb:=Aaf;rw [this];exact DW _ Aaa Aaa)) Aaa);have afh:=Hq (afg.trans (KV.below (B:=B) (λx hx=>Aak) Aaa));have afl:=Hq (Apart.keeps (c:=c) afk Aaa KV (λx hx=>by have:x=sb:=Aaf;omega));have alQ:=Hq (adz.keeps KV (λx hx=>Aak));have aDL:uH.heap.size<=wc.heap.size:=KV.size;have abd:(lD (aV s0 mL) mI).length=(aV s0 mL).length+1:=by rw [ah HIN];simp;omega
   have abo:wc.ownsRow uH.heap.size 3 1 (.slice (some ⟨g2,0,none⟩) (lD (aV s0 mL) mI).length cq2) (lD (aV s0 mL) mI).length (GR.flat aU (lD (aV s0 mL) mI)):=by rw [abd];exact hown2
   have HW2:=Hq (WO.of_own (afy (l:=lD (aV s0 mL) mI) aQ abo) abo (λe=>by rw [e] at abd;simp at abd))
   have Nw:Hid (∀g,av.map (λy=>y.block)=some g->0 < RL.length->W7.heap.size<=g/\g < uH.heap.size):=λg hg hp=>by
    obtain⟨g',off,e,hgl,_⟩:=adz.1 0 hp
    have h2:=adz.2 g' off e
    rw [e] at hg
    cases hg
    exact⟨h2,hgl⟩
   have aDd:g2 < wc.heap.size:=(hown2.lt g2 rfl).2;have akr:g2≠gi:=Aaa
   have ayj:i < (n.seen.set i ⟨mF,fE s0 mL,aV s0 mL⟩).length:=by rw [List.length_set];exact hi
   have HNP:=Hq (Zg.seenPut i ayj ⟨mF,fE s0 mL,lD (aV s0 mL) mI⟩ (some ⟨g2,0,none⟩) cq2 g2 HW2 (λx hx=>by rw [(dY hx).1];exact DW _ Aaa akr));obtain⟨T,hT,hlT,hrT⟩:=Zg.s;obtain⟨_,_,hcT⟩:=hT i (by rw [hlT];exact ayj);open apG in exact awD):P:=h
theorem ajv(h:P:=by
 have HN:=Hq (λw1=>aP n true w1 hn);have HP:=Hq (show R=(decide (no=0)&&true&&true&&lF ⟨mK,mF,mT,mI,mL,mk,mN⟩) by rw [<-ah HR];simp[cu,hk,hn]);open auJ in exact agE):P:=h
theorem amE.Ab7(h:P:=by
 have hX:W.heap[w.heap.size+1]?=some (.cells (bZ 4 0 k n 0 0 0 0 0 ⟨#[]⟩ 0) 100 (0,0)):=Abs
 have hY:W.heap[w.heap.size]?=some (.cells (bZ 4 no k n mK mF mT mI mL mk mN) 100 (0,0)):=Abt
 exact ajS):P:=h
theorem amF.Ab7(h:P:=by
 have hX:W.heap[w.heap.size+1]?=some (.cells (bZ 3 0 k n 0 0 0 0 0 ⟨#[]⟩ 0) 100 (0,0)):=Abs
 have hY:W.heap[w.heap.size]?=some (.cells (bZ 3 no k n mK mF mT mI mL mk mN) 100 (0,0)):=Abt
 exact ajS):P:=h
theorem amG.Ab7(h:P:=by
 have hX:W.heap[w.heap.size+1]?=some (.cells (bZ 0 0 k n 0 0 0 0 0 ⟨#[]⟩ 0) 100 (0,0)):=Abs
 have hY:W.heap[w.heap.size]?=some (.cells (bZ 0 no k n mK mF mT mI mL mk mN) 100 (0,0)):=Abt
 exact ajS):P:=h
theorem adM(h:P:=by
 have hrs:(iO (tl s a)).size<=maxLen:=by have:=rX (tl s a);rw [wH] at this;unfold maxLen;omega
 have HG:=Hq (Lj (iO (tl s a)) 0 hrs w hH);have hub:=TV (iO (tl s a)) 0;have hsz:=rX (tl s a);have hz1:Ah (tl s a)<=1002:=by unfold Ah;omega
 have e1:jU (iO (tl s a)) 0=Dl (tl s a):=rfl;have e2:je (iO (tl s a)) 0=Ah (tl s a):=rfl;rw [e1,e2] at HG;exact AbK):P:=h
theorem amH.AbK(h:P:=by
 generalize Ah (tl s a)=z at *;clear e1 e2 hrs hub hsz hH hcap hs;generalize Dl (tl s a)=tx at *;generalize iO (tl s a)=rs at *;have HC:=Hq hc;clear hc;rw [h4];clear h4;exact axd):P:=h
theorem amI.AbK(h:P:=by
 generalize Ah (tl s a)=z at *;clear e1 e2 hrs hub hsz hH hcap;generalize Dl (tl s a)=tx at *;generalize iO (tl s a)=rs at *;have HC:=Hq hc;clear hc;exact axd):P:=h
theorem amJ.AbK(h:P:=by
 open asz in exact af0):P:=h
theorem amK.AbK(h:P:=by
 open asy in exact af0):P:=h
theorem ajw(h:P:=by
 open aug in exact agu):P:=h
theorem amL.AbP(h:P:=by
 obtain⟨c0,c1,c2,c3,c4,c5,c6,c7,c8⟩:=nine kD;open anu in exact aah):P:=h
theorem amM.AbP(h:P:=by
 obtain⟨g,e0,hBg,hgb⟩:∃g,gM=some ⟨g,0,none⟩/\B<=g/\(∀x,(Value.slice gM n.reqs.length bg).ownBlock=some x↔x=g):=by
  exact awZ
 obtain⟨g',off,e0',hg,q0,q1,q2,q3⟩:=fU.four yM.at.r i hi;rw [e0] at e0';simp only[Option.some.injEq,Addr.mk.injEq,and_true] at e0';obtain⟨rfl,rfl⟩:=e0';rw [Nat.zero_add] at q0 q1 q2 q3;rw [ah HST] at q3;obtain⟨c0,c1,c2,c3,c4,c5,c6,c7,c8⟩:=nine kD;open ant in exact aah):P:=h
theorem amN.AbP(h:P:=by
 obtain⟨g,off,e0,hg,q0,q1,q2,q3⟩:=fU.four yM.at.r i hi;rw [ah HST] at q3;obtain⟨c0,c1,c2,c3,c4,c5,c6,c7,c8⟩:=nine kD;open anr in exact aah):P:=h
theorem ajx(h:P:=by
 obtain⟨rfl,hs3,hk3⟩:=hcut;clear m0 m1 m2 m3 m4 m5 m6 s00 s01 s02 sf hml hsl2;go_upto_region 7 with fail;refine wp_at (λW3 hW3=>?_);subst hW3;have adF:=Hq hs3;have lH:=Hq (hk3.obj jO (λhx=>Aak));have VW:=Hq (hk3.obj yL (λhx=>Aak));have lu:=Hq (hk3.obj jA (λhx=>Aak));have HB3:=Hq (HB2.trans (hk3.below (B:=w.heap.size) (λx hx=>Aak) HB2.size));have alM:=Hq (alL.kc (k:=9) (KC.keeps hk3 (λx hx=>by have:x=sb:=Aaf;rw [this];exact bJ Aaa)) Aaa);have al4:=Hq (al3.keeps hk3 (λx hx hm=>by have h1:=hilt x hx;simp at hm;omega));clear hs3 hk3 jO yL jA HB2 alL al3 Wm;have aDC:=aA adF;obtain⟨i0,hi0,hz0,hz1',hz2⟩:=info_parts wm;go_upto_block 2 with fail;exact AcG):P:=h
theorem amO.AcG(h:P:=by
 go_cut [9] from 15 (λv wx=>∃g cp,v= .slice (some ⟨g,0,none⟩) (aV s0 mL).length cp/\wx.ownsRow W3.heap.size 3 1 v (aV s0 mL).length (GR.flat aU (aV s0 mL))/\(aV s0 mL=[]->cp=0)/\aI W3 wx)
 case first=>
  exact Zk5
 case rest=>
  open aAA in exact ajs):P:=h
theorem amP.AcG(h:P:=by
 go_cut [9] from 15 (λv wx=>∃g cp,v= .slice (some ⟨g,0,none⟩) (aV s0 mL).length cp/\wx.ownsRow W3.heap.size 3 1 v (aV s0 mL).length (GR.flat aU (aV s0 mL))/\(aV s0 mL=[]->cp=0)/\aI W3 wx)
 case first=>
  exact Zk5
 case rest=>
  open aAz in exact ajs):P:=h
theorem amQ.AcG(h:P:=by
 go_cut [9] from 15 (λv wx=>∃g cp,v= .slice (some ⟨g,0,none⟩) (aV s0 mL).length cp/\wx.ownsRow W3.heap.size 3 1 v (aV s0 mL).length (GR.flat aU (aV s0 mL))/\(aV s0 mL=[]->cp=0)/\aI W3 wx)
 case first=>
  exact Zk5
 case rest=>
  open aAy in exact ajs):P:=h
theorem awg(h:P:=by
 obtain⟨gp,hgp⟩:=hP;subst hgp;have Rf:=Hq (λW (ha:aG W (some ⟨gp,0,none⟩) n.pu)=>acM gp 0 dH n.pu mk mN W (Nat.le_trans hz.p Aaa) wP hz.pk hmk ha);unfold iY at Rf;rw [hu] at Rf;clear hu hz wP;open atV in exact ags):P:=h
theorem amR.Adr(h:P:=by
 go_cut [7] from 15 (λj wx=>j= .int .i64 (i:Nat)/\Ge W0 wx)
 case first=>
  exact ajM
 case rest=>
  open aBj in exact aju):P:=h
theorem amS.Adr(h:P:=by
 go_cut [7] from 15 (λj wx=>j= .int .i64 (i:Nat)/\Ge W0 wx)
 case first=>
  exact ajM
 case rest=>
  open aBk in exact aju):P:=h
theorem Wo(h:P:=by
 obtain⟨d0,d1,d2,d3,d4,d5,d6,d7,d8⟩:=nine uO;have f0:=aj uO 0;have f1:=aj uO 1;have f2:=aj uO 2;have f3:=aj uO 3;have f4:=aj uO 4;have f5:=aj uO 5;have f6:=aj uO 6;have f7:=aj uO 7;have f8:=aj uO 8;exact AaW):P:=h
theorem amT.AaW(h:P:=by
 have hnl:=aA kD;have hrl:=aA uO;go_wp2_with fail;refine aO (λW' hW'=>?_)
 have e4:W'.heap[w.heap.size+2]?=some (.cells (dG n A) 40 (0,0)):=by
  exact aat
 have fP:aC [w.heap.size+2] (W1.alloc (.cells #[] 98)) W':=by
  rw [hW'];exact aT (dG n A).toList (W1.alloc (.cells #[] 98)) 0
 open apj in exact awr):P:=h
theorem amU.AaW(h:P:=by
 have hnl:=aA jO;have hrl:=aA uO;go_wp2_with fail;refine aO (λW' hW'=>?_)
 have e4:W'.heap[w.heap.size+2]?=some (.cells (dG n A) 40 (0,0)):=by
  exact aat
 have fP:aC [w.heap.size+2] (W2.alloc (.cells #[] 98)) W':=by
  rw [hW'];exact aT (dG n A).toList (W2.alloc (.cells #[] 98)) 0
 open aph in exact awr):P:=h
theorem amV.AaW(h:P:=by
 have hrl:=aA uO;go_wp2_with fail;refine aO (λW' hW'=>?_)
 have e4:W'.heap[w.heap.size+2]?=some (.cells (dG N1 A2) 40 (0,0)):=by
  rw [hW'];exact GR.setW_blk (dG N1 A2).toList (o:=0) (xs:=iF.toList) uO
 have fP:aC [w.heap.size+2] (W5.alloc (.cells (dG N1 A2) 40)) W':=by
  rw [hW'];exact aT (dG N1 A2).toList (W5.alloc (.cells (dG N1 A2) 40)) 0
 have HAT:=Hq (λW'' (ho:Dp w W' W'')=>YT W'' (ho.out (c:=c) ((aC.of_below (ay W5 (.cells (dG N1 A2) 40))).trans fP) hrx YZ));have oh:Hid (aI w W'):=uS.trans (fP.below (λx hx=>by have:x=w.heap.size+2:=Aaf;omega) uS.size);obtain⟨x0,x1,x2,x3,x4,x5,x6,x7,x8⟩:=nine e4;clear hW' e4 fP;exact bodyPost_ret (v:= .tuple #[(gB N1 A2),.slice (some ⟨W0.heap.size,0,none⟩) 0 0,.int .i64 BZ]) Aay rfl ⟨A2,some ⟨W0.heap.size,0,none⟩,0,rfl,HAT,λW'' _ i hi=>Aas,oh⟩):P:=h
theorem amW.AaW(h:P:=by
 have hnl:=aA CS;have hrl:=aA uO;go_wp2_with fail;refine aO (λW' hW'=>?_)
 have e4:W'.heap[w.heap.size+2]?=some (.cells (iD n.id n.par A.k n.kids.length A.ck n.next A.p n.pu.length A.cp a (FL n.out.length).length cp A.s n.seen.length A.cs n.old A.r n.reqs.length A.cr) 40 (0,0)):=by
  rw [hW'];exact GR.setW_blk (iD n.id n.par A.k n.kids.length A.ck n.next A.p n.pu.length A.cp a (FL n.out.length).length cp A.s n.seen.length A.cs n.old A.r n.reqs.length A.cr).toList (o:=0) (xs:=iF.toList) uO
 have fP:aC [w.heap.size+2] (Z.alloc (.cells #[] 98)) W':=by
  rw [hW'];exact aT (iD n.id n.par A.k n.kids.length A.ck n.next A.p n.pu.length A.cp a (FL n.out.length).length cp A.s n.seen.length A.cs n.old A.r n.reqs.length A.cr).toList (Z.alloc (.cells #[] 98)) 0
 have HAT:=Hq (λW'' (ho:Out c w W' W'')=>(show RM W'' ⟨A.k,A.p,a,A.s,A.r,A.ck,A.cp,cp,A.cs,A.cr⟩ (setOut n (FL n.out.length)) from by
  have kF:KC (newC w.heap.size 9 c) 9 (Z.alloc (.cells #[] 98)) W'':=(KC.keeps fP (λy hy=>by have:y=w.heap.size+2:=Aar;rw [this];exact bJ Aaa)).trans (KC.out H9 ho)
  have hoF:W''.ownsRow W2.heap.size 91 4 (.slice a (FL n.out.length).length cp) (FL n.out.length).length (GR.flat aS (FL n.out.length)):=by
   obtain⟨F,hk,hF⟩:=ho;exact(dQ (dQ HOA fP (λy hy=>by have:y=w.heap.size+2:=Aar;omega)) hk (λy hy=>by have:=(hF y hy).1;omega))
  have h5:=M8.kc (k:=9) kF Aaa
  exact NQ.put h5 h5 (setOut n (FL n.out.length)) ⟨A.k,A.p,a,A.s,A.r,A.ck,A.cp,cp,A.cs,A.cr⟩ rfl rfl rfl rfl h5.p.at (λg' hg' hp'=> .inl (h5.cpB h5 g' hg' hp')) hoF (λy hy=> .inr (by have h1:=um hoF hy;rw [bJ Aaa];omega)) h5.r (λy hy=> .inl (h5.cr y hy))
   (λg' hg' hp' h6=>by have:=h5.cpB h5 g' hg' hp';omega) (λy hy h6 e=>by have:=h5.cr y e;omega)))
 open ar4 in exact afS):P:=h
theorem amX.AaW(h:P:=by
 have hnl:=aA M8;have hrl:=aA uO;go_wp2_with fail;refine aO (λW' hW'=>?_)
 have e4:W'.heap[w.heap.size+2]?=some (.cells (dG N1 A1) 40 (0,0)):=by
  rw [hW'];exact GR.setW_blk (dG N1 A1).toList (o:=0) (xs:=iF.toList) uO
 have fP:aC [w.heap.size+2] (W3.alloc (.cells (dG N1 A1) 40)) W':=by
  rw [hW'];exact aT (dG N1 A1).toList (W3.alloc (.cells (dG N1 A1) 40)) 0
 have HAT:=Hq (λW'' (ho:Out c w W' W'')=>(show RM W'' A1 N1 from(by
  obtain⟨F,hk,hF⟩:=ho
  exact YT _ ⟨(w.heap.size+2)::F,aC.trans (b:=W') ((aC.of_below (ay W3 (.cells (dG N1 A1) 40))).trans (fP.mono (λx hx=>Aaz))) (hk.mono (λx hx=>Aaj)),λy hy=>by
   rcases List.mem_cons.1 hy with h1|h1
   .exact Vh
   .exact⟨Nat.lt_of_lt_of_le (hF y h1).1 h02,by rw [fq (hF y h1).1];exact(hF y h1).2⟩⟩)))
 have HMT:=Hq (λW'' (ho:Out c w W' W'')=>(show GR.At lK 7 W'' ma L1 from(by
  obtain⟨F,hk,hF⟩:=ho
  exact adq _ ⟨(w.heap.size+2)::F,aC.trans (b:=W') ((aC.of_below (ay W3 (.cells (dG N1 A1) 40))).trans (fP.mono (λx hx=>Aaz))) (hk.mono (λx hx=>Aaj)),λy hy=>by
   rcases List.mem_cons.1 hy with h1|h1
   .exact Vh
   .exact⟨Nat.lt_of_lt_of_le (hF y h1).1 h02,by rw [fq (hF y h1).1];exact(hF y h1).2⟩⟩)))
 open ar3 in exact afS):P:=h
theorem amY.AaW(h:P:=by
 have hnl:=aA kD;have hrl:=aA uO;open apT in exact awG):P:=h
theorem adN(h:P:=by
 have h1:tY F=true:=by unfold mh at hr;simp only[Bool.and_eq_true] at hr;exact hr.1.1
 have h2:tY T=true:=by unfold mh at hr;simp only[Bool.and_eq_true] at hr;exact hr.1.2
 have hft:¬F=T:=by unfold mh at hr;simp only[Bool.and_eq_true,decide_eq_true_iff] at hr;exact hr.2
 have H1:=Hq (λw1=>mZ F true w1 h1);have H2:=Hq (λw1=>mZ T true w1 h2);clear h1 h2;exact AbI):P:=h
theorem amZ.AbI(h:P:=by
 have HP:=Hq (show cZ ⟨K,F,T,I,L,k,N⟩=false by simp[cZ,hr,k0,k1,k2]);clear hr;exact ahp):P:=h
theorem am0.AbI(h:P:=by
 cases hc2:fF I
 case' false=>
  have HP:=Hq (show cZ ⟨2,F,T,I,L,k,N⟩=false by simp[cZ,hr,hc2]);have Gj:=Hq (λw1=>eH I false w1 hc2);exact ajT
 have Gj:=Hq (λw1=>eH I true w1 hc2);by_cases hz:k.size=0
 case' neg=>
  have hne:k.toList.isEmpty=false:=jY k Aaa;have HP:=Hq (show cZ ⟨2,F,T,I,L,k,N⟩=false by simp[cZ,hr,hc2,hz]);exact ajT
 obtain rfl:=eq_empty k hz;by_cases hzN:N=0
 case' neg=>
  have HP:=Hq (show cZ ⟨2,F,T,I,L,ByteArray.empty,N⟩=false by simp[cZ,hr,hc2,hz,hzN]);have he:(N == 0)=false:=by simp[hzN]
  exact axF
 subst hzN;by_cases hzL:L=0
 case' neg=>
  have HP:=Hq (show cZ ⟨2,F,T,I,L,ByteArray.empty,0⟩=false by simp[cZ,hr,hc2,hz,hzL]);have he:(L == 0)=false:=by simp[hzL]
  exact axF
 subst hzL;have HP:=Hq (show cZ ⟨2,F,T,I,0,ByteArray.empty,0⟩=true by simp[cZ,hr,hc2,hz]);exact ajT):P:=h
theorem am1.AbI(h:P:=by
 cases hc2:keyOk k.data.toList
 case' false=>
  have HP:=Hq (show cZ ⟨1,F,T,I,L,k,N⟩=false by simp[cZ,hr,hc2]);exact axH
 have Gj:=Hq (λw1=>nP k true w1 hs hc2);cases hc3:fF N
 case' false=>
  have HP:=Hq (show cZ ⟨1,F,T,I,L,k,N⟩=false by simp[cZ,hr,hc2,hc3]);have HC3:=Hq (λw1=>eH N false w1 hc3);exact ajR
 have HC3:=Hq (λw1=>eH N true w1 hc3);cases hc4:fF I
 case' false=>
  have HP:=Hq (show cZ ⟨1,F,T,I,L,k,N⟩=false by simp[cZ,hr,hc2,hc3,hc4]);have HC4:=Hq (λw1=>eH I false w1 hc4);clear hr hc2 hc3 hc4;go_in
  go_wp2_with (first|(go_at_call_of 100 F;refine(H1 _).mono ?_;rintro e w1 ⟨rfl,rfl⟩)|(go_at_call_of 100 T;refine(H2 _).mono ?_;rintro e w1 ⟨rfl,rfl⟩)|(go_at_call_of 52 k;refine(Gj _).mono ?_;rintro e w1 ⟨rfl,rfl⟩)|(go_at_call_of 49 N;refine(HC3 _).mono ?_;rintro e w1 ⟨rfl,rfl⟩)|(go_at_call_of 49 I;refine(HC4 _).mono ?_;rintro e w1 ⟨rfl,rfl⟩))
  exact wM
 have HC4:=Hq (λw1=>eH I true w1 hc4);cases Ew:decide (1<=L/\L<=I)
 case' false=>
  have HP:=Hq (show cZ ⟨1,F,T,I,L,k,N⟩=false by simp[cZ,hr,hc2,hc3,hc4,Ew]);have HC5:=Hq (λw1=>xY L 1 I false w1 Ew);exact axx
 have HC5:=Hq (λw1=>xY L 1 I true w1 Ew);have HP:=Hq (show cZ ⟨1,F,T,I,L,k,N⟩=true by simp[cZ,hr,hc2,hc3,hc4,Ew]);exact axx):P:=h
theorem am2.AbI(h:P:=by
 cases hc2:keyOk k.data.toList
 case' false=>
  have HP:=Hq (show cZ ⟨0,F,T,I,L,k,N⟩=false by simp[cZ,hr,hc2]);exact axH
 have Gj:=Hq (λw1=>nP k true w1 hs hc2);cases hc3:fF N
 case' false=>
  have HP:=Hq (show cZ ⟨0,F,T,I,L,k,N⟩=false by simp[cZ,hr,hc2,hc3]);have HC3:=Hq (λw1=>eH N false w1 hc3);exact ajR
 have HC3:=Hq (λw1=>eH N true w1 hc3);by_cases hzI:I=0
 case' neg=>
  have HP:=Hq (show cZ ⟨0,F,T,I,L,k,N⟩=false by simp[cZ,hr,hc2,hc3,hzI]);have he:(I == 0)=false:=by simp[hzI]
  exact axz
 subst hzI;by_cases hzL:L=0
 case' neg=>
  have HP:=Hq (show cZ ⟨0,F,T,0,L,k,N⟩=false by simp[cZ,hr,hc2,hc3,hzL]);have he:(L == 0)=false:=by simp[hzL]
  exact axz
 subst hzL;have HP:=Hq (show cZ ⟨0,F,T,0,0,k,N⟩=true by simp[cZ,hr,hc2,hc3]);exact ajR):P:=h
theorem Wp(h:P:=by
 have y0:=cell_regrown c0;have y1:=cell_regrown c1;have y2:=cell_regrown c2;have y3:=cell_regrown c3;have y4:=cell_regrown c4;have y5:=cell_regrown c5;have y6:=cell_regrown c6;have y7:=cell_regrown c7;have y8:=cell_regrown c8;exact AaU):P:=h
theorem am3.AaU(h:P:=by
 have x0:=cell_regrown d0;have x1:=cell_regrown d1;have x2:=cell_regrown d2;have x3:=cell_regrown d3;clear c0 c1 c2 c3 c4 c5 c6 c7 c8 c9 d0 d1 d2 d3 HR3;refine dB 7 Aab ?_;show eY _ _ _ _ _ 8 (Array.replicate 8 false) _ _
 refine tk [0,1,2,3,4,5] ?_;iterate 6 (refine uR (λK hK=>?_);go_simp;refine hK _ ?_;clear hK K)
 refine jJ ?_;refine vR 6 20 rfl Aab Aab Aab Aab Aab (λ_ _ _ _ h=>h) (λK hK=>?_);go_simp
 first
  |(refine hK _ ?_;clear hK K)
  |(apply Exists.intro
    refine⟨λ_=>?_,hK _ ?_⟩
    (exact azN _)
    clear hK K)
 clear y0 y1 y2 y3 y4 y5 y6 y7 y8 x0 x1 x2 x3;refine bC Aab (λx hx=>?_);have Jf:=Hq (HSY x cc vv k hk ⟨qK,qF,qT,qI,qL,qk,qN⟩ HKk (Ea.step hx));clear hx Ea;refine aH 7 rfl Aab Aad ?_;go_simp;refine Jf.mono ?_;rintro e y ⟨rfl,c',v',hY⟩;have HY:=Hq hY;clear hY Jf;refine wpAny_done Aab ?_;go_simp;go_wp2_with fail;go_roundw
 case rel=>exact⟨k+1,c',v',Aaa,Aah,by rw [ah HT];exact HY⟩
 case measure=>simp[intOf];omega):P:=h
theorem am4.AaU(h:P:=by
 have z1:=cell_regrown p1;have z2:=cell_regrown p2;clear c0 c1 c2 c3 c4 c5 c6 c7 c8 c9 p0 p1 p2 p3 p4 p5 p6 yO HW1;by_cases hT:mT=n.id
 .have hq:(mT == n.id)=true:=by simpa using hT
  have HD:=Hq (show(decide (mT=n.id)&&nb)=nb by rw [decide_eq_true hT];rfl);exact axi
 .have hq:(mT == n.id)=false:=by simpa using hT
  have HD:=Hq (show(decide (mT=n.id)&&nb)=false by rw [decide_eq_false hT];rfl);exact axi):P:=h
theorem am5.AaU(h:P:=by
 have y9:=cell_regrown c9;have y10:=cell_regrown c10;clear e0 e1 c0 c1 c2 c3 c4 c5 c6 c7 c8 c9 c10;generalize cu ⟨s[0].toNat,N1,TX,N2,⟨mK,mF,mT,mI,mL,mk,mN⟩⟩=bo at *;refine dx Aab ?_;show gL _ _ _ _ 15 (Array.replicate 15 false) _ _
 refine tk [0,1,2,3,4,5,6,7,8,9,10,11] ?_;iterate 12 (refine Ar (λK hK=>?_);go_simp;refine hK _ ?_;clear hK K)
 refine jJ ?_;refine aJ 12 rfl Aab Aab Aab (λ_ _ _ _ h=>h) (λK hK=>?_);go_simp
 first
  |(refine hK _ ?_;clear hK K)
  |(apply Exists.intro
    refine⟨λ_=>?_,hK _ ?_⟩
    (exact nS _)
    clear hK K)
 refine tk [13,14] ?_;open auP in exact Z5):P:=h
theorem am6.AaU(h:P:=by
 have x0:=cell_regrown s0;have x1:=cell_regrown s1;have x2:=cell_regrown s2;have x3:=cell_regrown s3;have hnz:=aA Nv;have hsz:=aA ajo;clear c0 c1 c2 c3 c4 c5 c6 c7 c8 s0 s1 s2 s3;refine F9 5 Aab ?_;show jV _ _ _ _ _ 8 (Array.replicate 8 false) _ _
 refine tk [0,1,2] ?_;iterate 3 (refine tkF (λK hK=>?_);go_simp;refine hK _ ?_;clear hK K)
 refine jJ ?_;clear y0 y1 y2 y3 y4 y5 y6 y7 y8 x0 x1 x2 x3 hnz hsz Nv ajo;refine Uu 3 rfl Aab Aad Aae (λx hx=>?_);go_simp;refine(Gq x hx).mono ?_;rintro e y ⟨rfl,hby⟩;refine⟨hby,?_⟩;have HY:=Hq (Ge.trans hx hby);clear hx hby Gq;refine Uv 4 rfl rfl Aab Aad Aad Aae (λz hz=>?_) (λz hz=>?_)
 .have HZ:=Hq (Ge.trans HY hz);clear hz HY;go_simp;refine⟨ay z _,?_⟩;refine MX Aab (λz2 hz2=>?_);have HZ2:=Hq (Ge.trans HZ (Ge.trans (ay z _) hz2));have HM2:=Hq (au (heap_alloc_new z (.cells (bV qK qF qT qI qL qk qN) 98)) hz2);have xI:=Hq (au ajn HZ2);have hmz:w.heap.size+1 < z.heap.size:=Nat.lt_of_lt_of_le (aA ajn) HZ.size;clear hz2;open arD in exact afI
 .have HZ:=Hq (Ge.trans HY hz);have xI:=Hq (au ajn HZ);clear hz HY;open arC in exact afI):P:=h
theorem am7.AaU(h:P:=by
 clear c0 c1 c2 c3 c4 c5 c6 c7 c8;refine dB 3 Aab ?_;show eY _ _ _ _ _ 6 (Array.replicate 6 false) _ _
 refine tk [0,1] ?_;iterate 2 (refine uR (λK hK=>?_);go_simp;refine hK _ ?_;clear hK K)
 refine jJ ?_;clear y0 y1 y2 y3 y4 y5 y6 y7 y8;refine dU 2 rfl Aab Aad (λx hx=>?_);go_simp;refine(jy x A1 (AA.at.below hx)).mono ?_;rintro e y ⟨ma,mc,rfl,g,hmw,hml,hby⟩;refine⟨hby,?_⟩;have HY:=Hq (Ge.trans hx hby);have hxs:=hx.size;clear hx hby jy iH HOX p0 p1 p2 p3 p4 p5 p6 p7 p8 p9 nT hnl hol;refine bC Aab (λz hz=>?_);have HZ:=Hq (Ge.trans HY hz);have Je:=Hq (au qA HZ);have sV:=Hq (jN.trans (HZ.mono jN.size));have Gl:=Hq (AA.kc (k:=9) (KC.of_below HZ) Aaa);have KP:∀x'∈fp g L1,(λq=>if q<=w.heap.size+2 then 9 else 0) x'=0:=λx' hx'=>if_neg (by have:=(hml x' hx').1;have:=aA qA;omega)
 have HMW:=Hq ((KC.of_below (c:=λq=>if q<=w.heap.size+2 then 9 else 0) (k:=9) hz).w hmw KP Aaa);have alB:=Hq KP;clear hz KP hmw hml HY HZ AA jN qA;obtain⟨d0,d1,d2,d3,d4,d5,d6,d7,d8⟩:=nine Je;have f0:=aj Je 0;have f1:=aj Je 1;have f2:=aj Je 2;have f3:=aj Je 3;have f4:=aj Je 4;have f5:=aj Je 5;have f6:=aj Je 6;have f7:=aj Je 7;have f8:=aj Je 8;have hrl:=aA Je;refine aH 3 rfl Aab Aad ?_;go_simp;refine aH 4 rfl Aab Aad ?_;go_simp;refine aH 5 rfl Aab Aad ?_;go_simp;refine wpAny_done Aab ?_;go_simp;clear d0 d1 d2 d3 d4 d5 d6 d7 d8 f0 f1 f2 f3 f4 f5 f6 f7 f8 hrl;go_wp2_with fail;refine aO (λW' hW'=>?_)
 have e4:W'.heap[w.heap.size+2]?=some (.cells (dG n A1) 40 (0,0)):=by
  rw [hW'];exact GR.setW_blk (dG n A1).toList (o:=0) (xs:=iF.toList) Je
 have fP:aC [w.heap.size+2] z W':=by
  rw [hW'];exact aT (dG n A1).toList z 0
 have HMT:=Hq ((KC.keeps (c:=λq=>if q<=w.heap.size+2 then 9 else 0) (k:=9) fP (λx hx=>if_pos (by have:x=w.heap.size+2:=(by simpa using hx);omega))).w HMW alB Aaa);have HAT:=Hq (λW'' (ho:Dp w W' W'')=>((Gl.kc (k:=9) (KC.keeps fP (λx hx=>by have:x=w.heap.size+2:=Aaf;rw [this];exact Gj)) Aaa).kc (k:=9) (ho.kc (λx hx=>YZ x Aaa)) Aaa).rm);have oh:Hid (aI w W'):=sV.trans (fP.below (λx hx=>by have:x=w.heap.size+2:=Aaf;omega) sV.size);obtain⟨x0,x1,x2,x3,x4,x5,x6,x7,x8⟩:=nine e4;clear hW' e4 fP;exact bodyPost_ret (v:= .tuple #[(gB n A1),.slice ma L1.length mc,.int .i64 0]) Aay rfl ⟨A1,ma,⟨mc,rfl⟩,HAT,λW'' ho=>((ho.kc (c:=λq=>if q<=w.heap.size+2 then 9 else 0) (k:=9) (λx hx=>if_pos Aaa)).w HMT alB Aaa).at,oh⟩):P:=h
theorem am8.AaU(h:P:=by
 have z1:=cell_regrown p1;clear c0 c1 c2 c3 c4 c5 c6 c7 c8 c9 p0 p1 p2 p3 p4 p5 p6;refine dx Aab ?_;show gL _ _ _ _ 8 (Array.replicate 8 false) _ _
 refine tk [0,1,2,3,4,5] ?_;iterate 6 (refine Ar (λK hK=>?_);go_simp;refine hK _ ?_;clear hK K)
 refine jJ ?_;refine aJ 6 rfl Aab Aab Aab (λ_ _ _ _ h=>h) (λK hK=>?_);go_simp
 first
  |(refine hK _ ?_;clear hK K)
  |(apply Exists.intro
    refine⟨λ_=>?_,hK _ ?_⟩
    (exact HKD _ (Rz _))
    clear hK K)
 refine tk [7] ?_;(refine Ar (λK hK=>?_);go_simp;refine hK _ ?_;clear hK K)
 refine jJ ?_;refine eX Aab (λz hz=>?_);have HZ:=Hq (HW1.step hz);exact AaL):P:=h
theorem adO(h:P:=by
 have hbw:aI wr W1:=by rw [hW1];exact ay wr _
 have Av:=Hq (au Gc hbw);have wJ:=Hq (cK.trans (hbw.mono cK.size));exact AbH):P:=h
theorem am9.AbH(h:P:=by
 have HI1:=Hq (GR.At.below HI hbw);have hgw1:=hbw.size;have HKI:=Hq (GR.At.below HA wJ)
 have CV:Hid ((k=0/\pv=true)\/∃(j:Nat) (y:Int),k=j+1/\pv=decide (y < fr)/\W1.cell? ⟨g,off+j*3,none⟩=some (.int .i64 y)):=by
  rcases Rc with h|⟨j,y,h1,h2,h3⟩
  .exact .inl h
  .exact .inr ⟨j,y,h1,h2,(hbw.cell (p:=⟨g,off+j*3,none⟩) hgw).trans h3⟩
 clear hW1 hbw q0 q1 q2 c0 c1 c2 c3 c4 c5 c6 Rc HI Gc;obtain⟨d0,d1,d2⟩:=three HW1;open arR in exact afP):P:=h
theorem ana.AbH(h:P:=by
 have hgw1:=hbw.size
 have CV:Hid ((k=0/\pv=true)\/∃(j:Nat) (y:Int),k=j+1/\pv=decide (y < si)/\W1.cell? ⟨g,off+j*4,none⟩=some (.int .i64 y)):=by
  exact ahO
 clear hW1 hbw q0 q1 q2 q3 c0 c1 c2 c3 c4 c5 c6 c7 c8 Rc Gc;obtain⟨d0,d1,d2,d3⟩:=iE HW1;open arQ in exact afP):P:=h
theorem anb.AbH(h:P:=by
 clear hW1 hbw q0 q1 q2 q3 Gc;obtain⟨d0,d1,d2,d3⟩:=iE HW1;go_cut [56] (λr wx=>r= .bool bb/\wx=W1)
 case first=>
  by_cases g1:y < si
  case' neg=>
   have hb1:decide (si<=y)=true:=decide_eq_true Aaa
   have HV:=Hq (show bb=true by rw [<-ah eT];simp[g1])
   clear eT Ap
   go_wp2_with (fail)
   go_meet
   case rel=>exact⟨Aan,rfl⟩
  have hb1:decide (si<=y)=false:=decide_eq_false Aaa;cases g2:qw si
  case' false=>
   have Hg2:=Hq (λw1=>jW si false w1 g2)
   have HV:=Hq (show bb=true by rw [<-ah eT];simp[g2])
   clear eT Ap
   go_wp2_with (first|(go_at_call 207;refine(Hg2 _).mono ?_;rintro e w9 ⟨rfl,rfl⟩))
   go_meet
   case rel=>exact⟨Aan,rfl⟩
  have Hg2:=Hq (λw1=>jW si true w1 g2);cases g3:keyOk sx.data.toList
  case' false=>
   have Hg3:=Hq (λw1=>iw sx false w1 g3)
   have HV:=Hq (show bb=true by rw [<-ah eT];simp[g3])
   clear eT Ap
   go_wp2_with (first|(go_at_call 207;refine(Hg2 _).mono ?_;rintro e w9 ⟨rfl,rfl⟩)|(go_at_call 204;refine(Hg3 _).mono ?_;rintro e w9 ⟨rfl,rfl⟩))
   go_meet
   case rel=>exact⟨Aan,rfl⟩
  have Hg3:=Hq (λw1=>iw sx true w1 g3);cases g4:fF sn
  case' false=>
   have Hg4:=Hq (λw1=>aP sn false w1 g4)
   have HV:=Hq (show bb=true by rw [<-ah eT];simp[g4])
   clear eT Ap
   go_wp2_with (first|(go_at_call 207;refine(Hg2 _).mono ?_;rintro e w9 ⟨rfl,rfl⟩)|(go_at_call 204;refine(Hg3 _).mono ?_;rintro e w9 ⟨rfl,rfl⟩)|(go_at_call 169;refine(Hg4 _).mono ?_;rintro e w9 ⟨rfl,rfl⟩))
   go_meet
   case rel=>exact⟨Aan,rfl⟩
  have Hg4:=Hq (λw1=>aP sn true w1 g4);by_cases g5:0<=st
  case' neg=>
   have hb5:decide (st < 0)=true:=decide_eq_true Aaa
   have HV:=Hq (show bb=true by rw [<-ah eT];simp[g5])
   clear eT Ap
   go_wp2_with (first|(go_at_call 207;refine(Hg2 _).mono ?_;rintro e w9 ⟨rfl,rfl⟩)|(go_at_call 204;refine(Hg3 _).mono ?_;rintro e w9 ⟨rfl,rfl⟩)|(go_at_call 169;refine(Hg4 _).mono ?_;rintro e w9 ⟨rfl,rfl⟩))
   go_meet
   case rel=>exact⟨Aan,rfl⟩
  have hb5:decide (st < 0)=false:=decide_eq_false Aaa;by_cases g6:st<=2
  case' neg=>
   have hb6:decide (2 < st)=true:=decide_eq_true Aaa
   have HV:=Hq (show bb=true by rw [<-ah eT];simp[g6])
   clear eT Ap
   go_wp2_with (first|(go_at_call 207;refine(Hg2 _).mono ?_;rintro e w9 ⟨rfl,rfl⟩)|(go_at_call 204;refine(Hg3 _).mono ?_;rintro e w9 ⟨rfl,rfl⟩)|(go_at_call 169;refine(Hg4 _).mono ?_;rintro e w9 ⟨rfl,rfl⟩))
   go_meet
   case rel=>exact⟨Aan,rfl⟩
  have hb6:decide (2 < st)=false:=decide_eq_false Aaa;have HV:=Hq (show bb=false by rw [<-ah eT];simp[g1,g2,g3,g4,g5,g6]);clear eT Ap;go_wp2_with (first|(go_at_call 207;refine(Hg2 _).mono ?_;rintro e w9 ⟨rfl,rfl⟩)|(go_at_call 204;refine(Hg3 _).mono ?_;rintro e w9 ⟨rfl,rfl⟩)|(go_at_call 169;refine(Hg4 _).mono ?_;rintro e w9 ⟨rfl,rfl⟩))
  go_meet
  case rel=>exact⟨Aan,rfl⟩
 case rest=>
  obtain⟨rfl,rfl⟩:=hcut;clear eT;cases hbv:bb
  .have HG:=Hq (show gU KB RR (reqs.take (k+1))=true by rw [ah Ap,hbv];rfl);subst hbv;clear HBAD Ap;go_wp2_with fail;go_roundw
   case rel=>exact⟨k+1,si,Aaa,Aah,rfl,Dq.symm,HG,Av,wJ⟩
   case measure=>simp[intOf];omega
  .have HP:=Hq (HBAD (by rw [ah Ap,hbv];rfl));subst hbv;clear HBAD Ap;go_wp2_with fail;go_ret;exact⟨aF HP.symm,wJ⟩):P:=h
theorem ane.AbH(h:P:=by
 clear hW1 hbw q0 q1 q2 q3 Gc;obtain⟨d0,d1,d2,d3⟩:=iE HW1;obtain⟨c0,c1,c2,c3,c4,c5,c6,c7,c8⟩:=nine Av;go_cut [46] (λr wx=>r= .bool bb/\aI W1 wx)
 case first=>
  by_cases h1:y < si
  case' neg=>
   have HV:=Hq (show bb=true by rw [<-ah eT];simp[h1])
   have hb1:decide (si<=y)=true:=decide_eq_true Aaa
   clear eT Ap
   go_wp2_with fail
   go_meet
   case rel=>exact⟨Aan,Below.refl _ _⟩
  have hb1:decide (si<=y)=false:=decide_eq_false Aaa;by_cases h2:si < next
  case' neg=>
   have HV:=Hq (show bb=true by rw [<-ah eT];simp[h2])
   have hb2:decide (next<=si)=true:=decide_eq_true Aaa
   clear eT Ap
   go_wp2_with fail
   go_meet
   case rel=>exact⟨Aan,Below.refl _ _⟩
  have hb2:decide (next<=si)=false:=decide_eq_false Aaa;go_wp2_with fail;refine(Ra _ _ wJ).mono ?_;rintro e w2 ⟨rfl,hb3⟩;have HB3:=Hq hb3;have HW2:=Hq (au HW1 hb3);clear hb3 d0 d1 d2 d3 c0 c1 c2 c3 c4 c5 c6 c7 c8;obtain⟨d0,d1,d2,d3⟩:=iE HW2;cases h3:NN st
  case' false=>
   have HV:=Hq (show bb=true by rw [<-ah eT];simp[h3])
   clear eT Ap h3
   go_wp2_with fail
   go_meet
   case rel=>exact⟨Aan,HB3⟩
  cases h4:keyOk sx.data.toList
  case' false=>
   have HV:=Hq (show bb=true by rw [<-ah eT];simp[h4])
   have H4:=Hq (λw1=>iw sx false w1 h4)
   clear eT Ap h3 h4
   go_wp2_with (go_at_call 204;refine(H4 _).mono ?_;rintro e w9 ⟨rfl,rfl⟩)
   go_meet
   case rel=>exact⟨Aan,HB3⟩
  have H4:=Hq (λw1=>iw sx true w1 h4);have HV:=Hq (show bb= !fF sn by rw [<-ah eT];simp[h1,h2,h3,h4]);have H5:=Hq (λw1=>aP sn _ w1 rfl);clear eT Ap h3 h4;go_wp2_with (first|(go_at_call 204;refine(H4 _).mono ?_;rintro e w9 ⟨rfl,rfl⟩)|(go_at_call 169;refine(H5 _).mono ?_;rintro e w9 ⟨rfl,rfl⟩))
  go_meet
  case rel=>exact⟨Aan,HB3⟩
 case rest=>
  obtain⟨rfl,hbx⟩:=hcut;open asK in exact UY):P:=h
theorem awh(h:P:=by
 clear hz hok hm hL he HR hw hF hks hb HID;generalize (takeN n o.m).1=n' at *;open arj in exact ZL):P:=h
theorem anf.Ad5(h:P:=by
 obtain⟨c0,c1,c2,c3,c4,c5,c6,c7,c8,c9⟩:=jE HY.blk;obtain⟨⟨p0,p1,p2,p3,p4,p5,p6⟩,_⟩:=eF Gq;have akA:=aA HY.blk;have aC7:=aA Gq;go_upto_region 10 with fail;have y0:=cell_regrown c0;have z1:=cell_regrown p1;have z3:=cell_regrown p3;clear c0 c1 c2 c3 c4 c5 c6 c7 c8 c9 p0 p1 p2 p3 p4 p5 p6;refine dB 11 Aab ?_;show eY _ _ _ _ _ 12 (Array.replicate 12 false) _ _
 refine tk [0,1,2,3,4,5,6,7,8,9,10] ?_;iterate 11 (refine uR (λK hK=>?_);go_simp;refine hK _ ?_;clear hK K)
 refine jJ ?_;clear y0 z1 z3;refine bC Aab (λx hx=>?_);have Jf:=Hq (HSY x A' G' c' n' (HY.step hx));clear hx;refine aH 11 rfl Aab Aad ?_;go_simp;refine Jf.mono ?_;rintro e z ⟨rfl,c2,v2,hZ⟩;have HZ:=Hq hZ;clear hZ Jf;refine wpAny_done Aab ?_;go_simp;go_wp2_with fail;go_ret;exact⟨rfl,A',G',c2,v2,HZ⟩):P:=h
theorem ang.Ad5(h:P:=by
 go_wp2_with fail;go_ret;exact⟨rfl,A',G',c',v,by rw [List.append_nil];exact HY⟩):P:=h
theorem N9(h:P:=by
 open at7 in exact NY):P:=h
theorem anh.AaR(h:P:=by
 clear HO p0 p1 p2 p3 p4 p5 p6;have f1:=ab8;open aA5 in exact RY):P:=h
theorem ani.AaR(h:P:=by
 clear HO HM p0 p1 p2 p3 p4 p5 p6;have f1:=ab9;open aoO in exact ajA):P:=h
theorem anj.AaR(h:P:=by
 clear HO p0 p1 p2 p3 p4 p5 p6;have f1:=ab9;open aA6 in exact RY):P:=h
theorem ank.AaR(h:P:=by
 clear HO p0 p1 p2 p3 p4 p5 p6;have f1:=Vw;open aA7 in exact RY):P:=h
theorem anl.AaR(h:P:=by
 clear p0 p1 p2 p3 p4 p5 p6;refine dx Aab ?_;show gL _ _ _ _ 30 (Array.replicate 30 false) _ _
 open amx in exact awd):P:=h
theorem anm.AaR(h:P:=by
 have y7:=cell_regrown p7;have y8:=cell_regrown p8;have y9:=cell_regrown p9;have y10:=cell_regrown nT;clear p0 p1 p2 p3 p4 p5 p6 p7 p8 p9 nT;refine dx Aab ?_;show gL _ _ _ _ 23 (Array.replicate 23 false) _ _
 open amy in exact awd):P:=h
theorem ano.AaR(h:P:=by
 clear HO HM p0 p1 p2 p3 p4 p5 p6;have f1:=Vw;open aoN in exact ajA):P:=h
theorem anp.AaR(h:P:=by
 clear HO HM p0 p1 p2 p3 p4 p5 p6;have f1:=ab8;open aoM in exact ajA):P:=h
theorem aah(h:P:=by
 obtain⟨d0,d1,d2,d3,d4,d5,d6,d7,d8⟩:=nine qA;have f0:=aj qA 0;have f1:=aj qA 1;have f2:=aj qA 2;have f3:=aj qA 3;have f4:=aj qA 4;have f5:=aj qA 5;have f6:=aj qA 6;have f7:=aj qA 7;have f8:=aj qA 8;exact Aa4):P:=h
theorem anq.Aa4(h:P:=by
 open auy in exact agB):P:=h
theorem anr.Aa4(h:P:=by
 have hnl:=aA kD;have hrl:=aA qA;clear q0 q1 q2 HST;dsimp only at e0;subst e0;go_wp2_with fail;refine aO (λW' hW'=>?_)
 have e4:W'.heap[w.heap.size+1]?=some (.cells (iD n.id n.par a_k n.kids.length aY n.next jH n.pu.length dH fH n.out.length bE gG n.seen.length aZ n.old (some ⟨g,off,none⟩) n.reqs.length bg) 40 (0,0)):=by
  exact awV
 have fP:aC [w.heap.size+1] W1 W':=by
  exact awW
 open apn in exact awt):P:=h
theorem ant.Aa4(h:P:=by
 have hnl:=aA kD;have hrl:=aA qA;first|dsimp only at e0|skip
 subst e0;have HQ3:=Hq q3;have HQS:=Hq (And.intro q0 (And.intro q1 (And.intro q2 q3)));generalize n.reqs[i].k=qk at *;exact AaG):P:=h
theorem anu.Aa4(h:P:=by
 have hnl:=aA kD;open auw in exact agB):P:=h
theorem anw.Aa4(h:P:=by
 have hrl:=aA qA;go_wp2_with fail;refine aO (λW' hW'=>?_)
 have e4:W'.heap[w.heap.size+2]?=some (.cells (dG n A1) 40 (0,0)):=by
  rw [hW'];exact GR.setW_blk (dG n A1).toList (o:=0) (xs:=iF.toList) qA
 have fP:aC [w.heap.size+2] X W':=by
  rw [hW'];exact aT (dG n A1).toList X 0
 open aut in exact agz):P:=h
theorem xL(h:P:=by
 have hke:k=l.length:=Aaa
 subst hke;have hnlt:decide ((l.length:Int) < (l.length:Int))=false:=Aac
 exact AaN):P:=h
theorem anx.AaN(h:P:=by
 have HX:=Hq (show aD l key=⟨key,0,0,0⟩ by
  have h:=ah HN
  rw [List.take_length] at h
  unfold aD
  rw [h]
  rfl)
 go_wp2_with fail;refine bodyPost_ret (v:= .agg (iW key 0 0 0)) (by simp[results,results151,go_sem]) rfl ⟨by rw [ah HX],?_⟩;exact(Below.refl _ _).alloc (Nat.le_refl _) _):P:=h
theorem anz.AaN(h:P:=by
 have h:=ah HN;rw [List.take_length] at h;have HF:=Hq h;clear h;go_wp2_with fail;go_ret;exact⟨aF HF.symm,rfl⟩):P:=h
theorem anA.AaN(h:P:=by
 go_wp2_with fail;go_ret;exact⟨rfl,⟨T,I,HB,hTl,HI,HIM⟩,cK⟩):P:=h
theorem anB.AaN(h:P:=by
 have HX:=Hq (show aD l key=⟨key,0,0,0⟩ by
  have h:=ah HN
  rw [List.take_length] at h
  unfold aD
  rw [h]
  rfl)
 go_wp2_with fail;refine(jy _).mono ?_;rintro e w1 ⟨rfl,hb1⟩;have hB:w1.heap[w.heap.size]?=some (.cells (iW ⟨#[]⟩ 0 0 0) 108 (0,0)):=by rw [hb1.block _ aev];exact Gc
 have HB:=Hq hB;have HB2:=Hq (cK.trans (hb1.mono cK.size));obtain⟨⟨r0,r1,r2,r3⟩,s0,s1,s2,s3⟩:=fT hB;clear hB hb1;go_wp2_with fail;clear r0 r1 r2 r3;refine Fo.bodyPost_at (λW' hW'=>?_);obtain⟨⟨r0,r1,r2,r3⟩,_⟩:=fT (show W'.heap[w.heap.size]?=some (.cells (iW key 0 0 0) 108 (0,0)) by rw [hW'];exact Fo.four_set HB);have hbb:aI w W':=by rw [hW'];exact Fo.four_below HB2 (Nat.le_refl _)
 refine bodyPost_ret (v:= .agg (iW key 0 0 0)) (by simp[results,results240,go_sem,r0,r1,r2,r3]) rfl ⟨by rw [ah HX],hbb⟩):P:=h
theorem anC.AaN(h:P:=by
 go_wp2_with fail;go_ret;exact⟨a',c',g,hg,rfl,HB,cK⟩):P:=h
theorem anD.AaN(h:P:=by
 have h:=ah HN;rw [List.take_length] at h;have HF:=Hq h;clear h;go_wp2_with fail;go_ret;exact⟨⟨-1,rfl,by rw [ah HF];rfl⟩,rfl⟩):P:=h
theorem anE.AaN(h:P:=by
 go_wp2_with fail;go_ret2
 have h:=ah HP;rw [List.take_length] at h;exact⟨_,_,_,rfl,h,cK⟩):P:=h
theorem anF.AaN(h:P:=by
 have Rc:=Hq (place_at l pk l.length (Nat.le_refl _) kS (λh=>absurd h (Nat.lt_irrefl _))).1;exact ahP):P:=h
theorem anG.AaN(h:P:=by
 go_wp2_with fail;go_ret;exact⟨_,rfl,GR.own_below HO cK,HB1.trans (cK.mono HB1.size)⟩):P:=h
theorem anH.AaN(h:P:=by
 have HF:=Hq (XD kS);go_wp2_with fail;go_ret;exact⟨aF (by rw [ah HF];simp<;>omega),cK⟩):P:=h
theorem anI.AaN(h:P:=by
 go_wp2_with fail;go_ret;have h:=ah kS;rw [List.take_length] at h;exact⟨z,rfl,.inr ⟨hz0,hz1,Aaa,h⟩,cK⟩):P:=h
theorem anJ.AaN(h:P:=by
 go_wp2_with fail;go_ret;have h:=ah kS;rw [List.take_length] at h;exact⟨z,rfl,cK,.inr ⟨hz0,hz1,Aaa,h⟩⟩):P:=h
theorem anK.AaN(h:P:=by
 have HP:=Hq (take_same HN HT);go_wp2_with fail;go_ret;exact .yes HP cK):P:=h
theorem anL.AaN(h:P:=by
 go_wp2_with fail;go_ret;exact⟨rfl,cK⟩):P:=h
theorem anM.AaN(h:P:=by
 go_wp2_with fail;go_ret;have h:=ah HB;rw [List.take_length,Nat.sub_self,List.replicate_zero,List.append_nil] at h;exact⟨rfl,h,cK⟩):P:=h
theorem aai(h:P:=by
 rw [hmo] at Zd;unfold nK at Zd;have Ra:=Hq (λW (ha:bX W A.k n.kids)=>FN n A mF W hkl ha);rw [h2] at Ra;clear hmo h2;have l7:=Hq (h.nine hB);clear h;go_in
 go_upto_region 1 with fail;refine wp_at (λW0 hW=>?_);exact Aa6):P:=h
theorem anN.Aa6(h:P:=by
 obtain⟨e1,e2,e3,e4⟩:=fV w (.cells (dG n A) 40) (.cells (bV 0 mF mT mI mL mk mN) 98) (.cells iF 40);open az3 in exact Yk3):P:=h
theorem anO.Aa6(h:P:=by
 obtain⟨e1,e2,e3,e4⟩:=fV w (.cells (dG n A) 40) (.cells (bV 0 mF mT mI mL mk mN) 98) (.cells iF 40);open az4 in exact Yk3):P:=h
theorem anP.Aa6(h:P:=by
 obtain⟨e1,e2,e3,e4⟩:=fV w (.cells (dG n A) 40) (.cells (bV mK mF mT mI mL mk mN) 98) (.cells iF 40);open az5 in exact Yk3):P:=h
theorem anQ.Aa6(h:P:=by
 obtain⟨e1,e2,e3,e4⟩:=fV w (.cells (dG n A) 40) (.cells (bV 2 mF mT mI mL mk mN) 98) (.cells iF 40);open az6 in exact Yk3):P:=h
theorem anR.Aa6(h:P:=by
 obtain⟨e1,e2,e3,e4⟩:=fV w (.cells (dG n A) 40) (.cells (bV 1 mF mT mI mL mk mN) 98) (.cells iF 40);open az7 in exact Yk3):P:=h
theorem awi(h:P:=by
 go_upto_region 1 with fail;have y0:=cell_regrown c0;have y1:=cell_regrown c1;clear c0 c1;refine dx Aab ?_;show gL _ _ _ _ 14 (Array.replicate 14 false) _ _
 refine tk [0,1,2,3,4,5,6,7] ?_;iterate 8 (refine Ar (λK hK=>?_);go_simp;refine hK _ ?_;clear hK K)
 refine jJ ?_;refine aJ 8 rfl Aab Aab Aab (λ_ _ _ _ h=>h) (λK hK=>?_);go_simp
 first
  |(refine hK _ ?_;clear hK K)
  |(apply Exists.intro
    refine⟨λ_=>?_,hK _ ?_⟩
    (exact HC _ (Rz _))
    clear hK K)
 refine tk [9,10,11,12,13] ?_;iterate 5 (refine Ar (λK hK=>?_);go_simp;refine hK _ ?_;clear hK K)
 refine jJ ?_;refine eX Aab (λz hz=>?_);have HZ:=Hq hz;have Je:=Hq (aK H hz);clear hz y0 y1 Rz HC H;go_simp;go_wp2_with fail;refine(HG _ Je).mono ?_;rintro e w1 ⟨rfl,rfl⟩;go_wp2_with fail;exact Ac7):P:=h
theorem anS.Ac7(h:P:=by
 exact⟨rfl,rfl,HZ⟩):P:=h
theorem anT.Ac7(h:P:=by
 go_ret;exact⟨rfl,jB.set Je _,(dR.of_below HZ).trans (dR.set _)⟩):P:=h
theorem awj(h:P:=by
 open arE in exact afJ):P:=h
theorem anU.Adn(h:P:=by
 rintro e W3 ⟨A1,G1,cc,rfl,YK,hb3,_,_⟩;have lu:=Hq (au D8 hb3);have HB3:=Hq (gY.trans (hb3.mono gY.size));have l7:=Hq YK;have hrs:=aA D8;clear hb3 YK c0 c1 c2 c3 c4 c5 c6 c7 c8 hnl M4 Gn ajf D8;exact axf):P:=h
theorem anV.Adn(h:P:=by
 rintro e W3 ⟨A1,G1,cc,rfl,YK,hb3,hP1,hP2,hR1,hR2⟩;have lu:=Hq (au D8 hb3);have lH:=Hq (au Gn hb3);have Ki:=Hq (au ajf hb3);have HB3:=Hq (gY.trans (hb3.mono gY.size));have HPR:=Hq (And.intro (And.intro hP1 hP2) (And.intro hR1 hR2));have l7:=Hq (YK.flat (b:=0) (Nat.zero_le _));have YZ:=Hq (λx (hx:x < w.heap.size+3)=>WJ (b:=0) (Nat.zero_le _) (YK.lo x (by have:=aA D8;omega)));have hrs:=aA D8;have H9:=Hq (aa1 0 cc);generalize xq 0 cc=c at *;have Gj:=Hq (YZ (w.heap.size+2) Aaa);have M0:=Hq (YZ w.heap.size Aaa);clear hb3 YK hP1 hP2 hR1 hR2 c0 c1 c2 c3 c4 c5 c6 c7 c8 hnl M4 Gn ajf D8;obtain⟨d0,d1,d2,d3,d4,d5,d6,d7,d8⟩:=nine lH;have f0:=aj lH 0;have f1:=aj lH 1;have f2:=aj lH 2;have f3:=aj lH 3;have f4:=aj lH 4;have f5:=aj lH 5;have f6:=aj lH 6;have f7:=aj lH 7;have f8:=aj lH 8;obtain⟨⟨p0,p1,p2,p3,p4,p5,p6,p7,p8,p9,nT⟩,_⟩:=aM Ki;have hnl:=aA lH;have hol:=aA Ki;go_upto_region 5 with fail;refine wp_at (λX hX=>?_)
 have e5:X.heap[w.heap.size]?=some (.cells (dG n A1) 40 (0,0)):=by
  exact aw1
 have hkx:aC [w.heap.size] W3 X:=by
  exact aw8
 have iH:=Hq e5;have HOX:=Hq ((hkx.block _ (aA Ki) Aac).trans Ki);have qA:=Hq ((hkx.block _ (aA lu) Aac).trans lu);have jN:=Hq (HB3.trans (hkx.below (B:=w.heap.size) (λx hx=>by have:x=w.heap.size:=Aaf;omega) HB3.size));have AA:=Hq (l7.kc (k:=9) (KC.keeps hkx (λx hx=>by have:x=w.heap.size:=Aaf;rw [this];exact M0)) Aaa);exact Kk0):P:=h
theorem ajy(h:P:=by
 obtain⟨pk,pm,pf,ps⟩:=p;unfold iy at hp;simp only[Bool.and_eq_true] at hp;obtain⟨⟨⟨⟨_,a1⟩,a2⟩,a3⟩,a4⟩:=hp;have b1:0<=pm/\pm<=1000000000:=of_decide_eq_true a1;have b2:0<=pf/\pf<=1000000000:=of_decide_eq_true a2;have b3:0<=ps/\ps<=1000000000:=of_decide_eq_true a3;obtain⟨Nj,a11⟩:=b1;obtain⟨a20,a21⟩:=b2;obtain⟨a30,a31⟩:=b3;obtain⟨h10,h11⟩:=h1;obtain⟨h20,h21⟩:=h2;obtain⟨h30,h31⟩:=h3;clear a1 a2 a3 a4;exact AbZ):P:=h
theorem anW.AbZ(h:P:=by
 dsimp only at hf;clear he;rcases hf with hf|⟨hf,hs⟩
 all_goals
  go_in
  go_upto_region 5 with fail
  refine Fo.wp_at (λV hV=>?_)
  obtain⟨_,hC,hbel⟩:=Ae (w:=w) (w1:=V) (by rw [hV];exact Below.refl _ _)
  have HC:=Hq hC
  have cK:=Hq hbel
  have vv:=(HE.below hbel).var 4 Aaa
  have hsz:=(show w.heap.size+1+1 < V.heap.size from Fo.lt_of_blk hC)
  obtain⟨⟨r0,r1,r2,r3⟩,s0,s1,s2,s3⟩:=fT hC
  clear hC hbel hV
  go_region
  all_goals
   go_wp2_with fail
   refine Fo.bodyPost_at (λW' hW'=>?_)
   obtain⟨⟨t0,t1,t2,t3⟩,_⟩:=fT (show W'.heap[w.heap.size+1+1]?=some (.cells (iW ⟨#[]⟩ 0 0 0) 108 (0,0)) by rw [hW'];exact Fo.four_set (w:=V.drew) HC)
   have hbb:aI w W':=by rw [hW'];exact Fo.four_below (w:=V.drew) (cK.trans ⟨rfl,rfl,rfl,Nat.le_refl _,λ_ _=>rfl⟩) Aaa
   exact bodyPost_ret (v:= .tuple #[.agg (iW ⟨#[]⟩ 0 0 0),tJ (E 4)]) (by simp[results,results303,go_sem,t0,t1,t2,t3]) rfl ⟨rfl,hbb⟩):P:=h
theorem anX.AbZ(h:P:=by
 dsimp only at hf hs;clear hok he;open av1 in exact ag4):P:=h
theorem anY.AbZ(h:P:=by
 dsimp only at hf hs;clear hok;open av0 in exact ag4):P:=h
theorem awk(h:P:=by
 have sZ:=Hq fP;clear fP;refine aH 12 rfl Aab Aad ?_;go_simp;refine aH 13 rfl Aab Aad ?_;go_simp;refine wpAny_done Aab ?_;go_simp;go_wp2_with fail;refine aO (λW' hW'=>?_);subst hW';have fP:=ah sZ;open aus in exact agz):P:=h
theorem anZ.AcX(h:P:=by
 exact bodyPost_ret (v:= .tuple #[(gB n A1),.slice (some ⟨y.heap.size,0,none⟩) 1 1,.int .i64 0]) Aay rfl ⟨A1,some ⟨y.heap.size,0,none⟩,1,rfl,HAT,HMT,oh⟩):P:=h
theorem an0.AcX(h:P:=by
 exact bodyPost_ret (v:= .tuple #[(gB n A1),.slice (some ⟨x.heap.size,0,none⟩) 1 1,.int .i64 0]) Aay rfl ⟨A1,some ⟨x.heap.size,0,none⟩,1,rfl,HAT,HMT,oh⟩):P:=h
theorem CW(h:P:=by
 unfold jL;have nS:=Hq (λW (h:aI w W)=>qg n A W (hz.mono Aaa) (ha.below h));rw [hok] at nS;exact AaO):P:=h
theorem an1.AaO(h:P:=by
 have D7:=Hq (λW=>jr ⟨K,no,k,nn,⟨mK,mF,mT,mI,mL,mk,mN⟩⟩ W Aam Aam);open aBm in exact Ee):P:=h
theorem an2.AaO(h:P:=by
 have M4:=Hq (λW (h:aI w W)=>uz n A W hz (ha.below h));clear hz ha hok;go_in
 go_upto_region 2 with fail;refine wp_at (λW1 hW=>?_);open aqJ in exact awP):P:=h
theorem an3.AaO(h:P:=by
 have jy:=Hq (λW A1 G1 c (hB:0<=W.heap.size) (h9:∀x,6 < c x->c x=9) (hp:((∃g,A1.p=some ⟨g,0,none⟩)/\n.pu.length<=A1.cp)/\(∃g,A1.r=some ⟨g,0,none⟩)/\n.reqs.length<=A1.cr) (hN:NQ W 0 n A1 G1 c)=>QK n A1 G1 c no W 0 hB h9 hz hp.1.1 hp.1.2 (bY hok).2.2.2.2.2 hN);unfold iZ at jy;generalize bf n no=GV at *;obtain⟨N1,BZ⟩:=GV;dsimp only at jy ⊢;have D7:=Hq (λW=>jr ⟨2,no,k,nn,⟨mK,mF,mT,mI,mL,mk,mN⟩⟩ W Aam Aam);open aBn in exact Ee):P:=h
theorem an4.AaO(h:P:=by
 have jy:=Hq (λW A1 G1 c (hB:0<=W.heap.size) (h9:∀x,6 < c x->c x=9) (hp:((∃g,A1.p=some ⟨g,0,none⟩)/\n.pu.length<=A1.cp)/\(∃g,A1.r=some ⟨g,0,none⟩)/\n.reqs.length<=A1.cr) (hN:NQ W 0 n A1 G1 c)=>Yd n A1 G1 c 1 no k nn mK mF mT mI mL mk mN W 0 hB h9 hz hk hp.1.1 hp.1.2 hp.2.1 hp.2.2 (bY hok).2.2.2.2.2 hN);unfold iZ at jy;generalize fJ n no k nn=GV at *;obtain⟨N1,BZ⟩:=GV;dsimp only at jy ⊢;have D7:=Hq (λW=>jr ⟨1,no,k,nn,⟨mK,mF,mT,mI,mL,mk,mN⟩⟩ W Aam Aam);open aBo in exact Ee):P:=h
theorem an5.AaO(h:P:=by
 have hpz:(decide (n.par < 0))=false:=by
  exact ahW
 have jy:=Hq (λW A1 G1 c (hB:0<=W.heap.size) (h9:∀x,6 < c x->c x=9) (hp:((∃g,A1.p=some ⟨g,0,none⟩)/\n.pu.length<=A1.cp)/\(∃g,A1.r=some ⟨g,0,none⟩)/\n.reqs.length<=A1.cr) (hN:NQ W 0 n A1 G1 c)=>QC n A1 G1 c n.par k nn W 0 hB h9 hz hk hp.1.1 hp.1.2 (by have h:=(bY hok).2.2.2.1;unfold fF at h;simp at h;omega) hN);unfold gD at jy;generalize eZ n n.par k nn=GV at *;obtain⟨N1,L1,b1⟩:=GV;dsimp only at jy ⊢;generalize (if b1=true then(0:Int) else 1)=BZ at *;have D7:=Hq (λW=>jr ⟨4,no,k,nn,⟨mK,mF,mT,mI,mL,mk,mN⟩⟩ W Aam Aam);open aBp in exact Ee):P:=h
theorem an6.AaO(h:P:=by
 have hmo:cZ ⟨mK,mF,mT,mI,mL,mk,mN⟩=true:=by
  have h:=hop;unfold cu at h;dsimp only at h;rw [if_neg Aaa,if_neg Aaa,if_neg Aaa,if_neg Aaa,if_pos rfl,Bool.and_eq_true] at h;exact h.2
 have jy:=Hq (λW A1 G1 c (hB:0<=W.heap.size) (h9:∀x,6 < c x->c x=9) (hp:((∃g,A1.p=some ⟨g,0,none⟩)/\n.pu.length<=A1.cp)/\(∃g,A1.r=some ⟨g,0,none⟩)/\n.reqs.length<=A1.cr) (hN:NQ W 0 n A1 G1 c)=>acN n A1 G1 c mK mF mT mI mL mk mN W 0 hB h9 hz hmk hok hmo hp.1.1 hp.1.2 hN);clear hmo;unfold gD at jy;generalize Cc n ⟨mK,mF,mT,mI,mL,mk,mN⟩=GV at *;obtain⟨N1,L1,BZ⟩:=GV;dsimp only at jy ⊢;have D7:=Hq (λW=>jr ⟨6,no,k,nn,⟨mK,mF,mT,mI,mL,mk,mN⟩⟩ W Aam Aam);open al8 in exact Ee):P:=h
theorem an7.AaO(h:P:=by
 have hpz:(decide (n.par < 0))=true:=by rw [hpar];rfl
 clear hpar;have D7:=Hq (λW=>jr ⟨4,no,k,nn,⟨mK,mF,mT,mI,mL,mk,mN⟩⟩ W Aam Aam);open al9 in exact Ee):P:=h
theorem an8.AaO(h:P:=by
 have hpz:(decide (n.par < 0))=true:=by rw [hpar];rfl
 clear hpar;have D7:=Hq (λW=>jr ⟨3,no,k,nn,⟨mK,mF,mT,mI,mL,mk,mN⟩⟩ W Aam Aam);open ama in exact Ee):P:=h
theorem an9.AaO(h:P:=by
 have hpg:(decide (n.par≥0))=false:=by rw [hpar];rfl
 have ayp:(decide (0<=n.par))=false:=hpg;clear hpar
 have jy:=Hq (λW (A1:bQ) (hp:(∃g,A1.p=some ⟨g,0,none⟩)/\n.pu.length<=A1.cp) (hN:aG W A1.p n.pu)=>(by
  obtain⟨⟨g,hg⟩,hc⟩:=hp
  rw [hg] at hN ⊢
  have:=FI g 0 A1.cp n.pu k nn W (Nat.le_trans hz.p Aaa) hc hz.pk hk hN
  rw [hu] at this
  exact this:Calls prog 106 #[.slice A1.p n.pu.length A1.cp,.string k,.int .i64 nn] W (iY W (RL,true))))
 clear hu;unfold iY at jy;have D7:=Hq (λW=>jr ⟨0,no,k,nn,⟨mK,mF,mT,mI,mL,mk,mN⟩⟩ W Aam Aam);open amb in exact Ee):P:=h
theorem aoa.AaO(h:P:=by
 have hpg:(decide (n.par≥0))=false:=by rw [hpar];rfl
 have ayp:(decide (0<=n.par))=false:=hpg;clear hpar
 have jy:=Hq (λW (A1:bQ) (hp:(∃g,A1.p=some ⟨g,0,none⟩)/\n.pu.length<=A1.cp) (hN:aG W A1.p n.pu)=>(by
  obtain⟨⟨g,hg⟩,hc⟩:=hp
  rw [hg] at hN ⊢
  have:=FI g 0 A1.cp n.pu k nn W (Nat.le_trans hz.p Aaa) hc hz.pk hk hN
  rw [hu] at this
  exact this:Calls prog 106 #[.slice A1.p n.pu.length A1.cp,.string k,.int .i64 nn] W (iY W (RL,false))))
 exact Zk7):P:=h
theorem aob.AaO(h:P:=by
 have hpg:(decide (n.par≥0))=true:=by
  have h:=(bY hok).1;unfold eD at h;simp only[Bool.and_eq_true,decide_eq_true_eq] at h;exact decide_eq_true Aaa
 have ayp:(decide (0<=n.par))=true:=hpg
 have jy:=Hq (λW (A1:bQ) (hp:(∃g,A1.p=some ⟨g,0,none⟩)/\n.pu.length<=A1.cp) (hN:aG W A1.p n.pu)=>(by
  obtain⟨⟨g,hg⟩,hc⟩:=hp
  rw [hg] at hN ⊢
  have:=FI g 0 A1.cp n.pu k nn W (Nat.le_trans hz.p Aaa) hc hz.pk hk hN
  rw [hu] at this
  exact this:Calls prog 106 #[.slice A1.p n.pu.length A1.cp,.string k,.int .i64 nn] W (iY W (RL,ok))))
 exact Zk7):P:=h
theorem aoc.AaO(h:P:=by
 have jy:=Hq (λW A1 (hN:dw W A1 n)=>acP n A1 W (hz.mono Aaa) hN);rw [show acv n=n.out.map (pX n) from if_pos hok] at jy;unfold Au at jy;dsimp only at jy ⊢;generalize n.out.map (pX n)=L1 at *;have D7:=Hq (λW=>jr ⟨5,no,k,nn,⟨mK,mF,mT,mI,mL,mk,mN⟩⟩ W Aam Aam);open amc in exact Ee):P:=h
theorem awl(h:P:=by
 open atO in exact ZW):P:=h
theorem aod.Aev(h:P:=by
 open atT in exact agr):P:=h
theorem aoe.Aev(h:P:=by
 open ar8 in exact afU):P:=h
theorem Wq(h:P:=by
 have vU:=Hq (show aI w V by rw [hV];exact((Below.refl _ _).alloc (Nat.le_refl _) _).alloc Aac _);have hgV:=dD hblk;obtain⟨p0,p1,p2,p3,p4,p5,p6⟩:=tC hblk;clear hV hblk;exact AaY):P:=h
theorem aof.AaY(h:P:=by
 have cO:∀d os,Calls prog 344 #[.agg #[.int .i64 F,.int .i64 T,.int .i64 I]] (Sort.grow (redrawn V d) os) λe w''=>e= .returned (.bool false)/\∃p:Regrown,w''=Sort.grow (redrawn V p.d) p.os:=λd os=>Calls.regrown_of (HO _)
 open anh in exact N9):P:=h
theorem aog.AaY(h:P:=by
 have cO:∀d os,Calls prog 343 #[.agg #[.int .i64 F,.int .i64 T,.int .i64 I,.int .i64 L,.string k,.int .i64 N]] (Sort.grow (redrawn V d) os) λe w''=>e= .returned (.bool true)/\∃p:Regrown,w''=Sort.grow (redrawn V p.d) p.os:=λd os=>Calls.regrown_of (HO _)
 have cM:∀d os,Calls prog 259 #[.iface 284 (.agg #[.int .i64 F,.int .i64 T,.int .i64 I,.int .i64 L,.string k,.int .i64 N])] (Sort.grow (redrawn V d) os) λe w''=>e= .returned (nK ⟨1,F,T,I,L,k,N⟩)/\∃p:Regrown,w''=Sort.grow (redrawn V p.d) p.os:=λd os=>Calls.regrown_of (HM _)
 open ani in exact N9):P:=h
theorem aoh.AaY(h:P:=by
 have cO:∀d os,Calls prog 343 #[.agg #[.int .i64 F,.int .i64 T,.int .i64 I,.int .i64 L,.string k,.int .i64 N]] (Sort.grow (redrawn V d) os) λe w''=>e= .returned (.bool false)/\∃p:Regrown,w''=Sort.grow (redrawn V p.d) p.os:=λd os=>Calls.regrown_of (HO _)
 open anj in exact N9):P:=h
theorem aoi.AaY(h:P:=by
 have cO:∀d os,Calls prog 342 #[.agg #[.int .i64 F,.int .i64 T,.string k,.int .i64 N]] (Sort.grow (redrawn V d) os) λe w''=>e= .returned (.bool false)/\∃p:Regrown,w''=Sort.grow (redrawn V p.d) p.os:=λd os=>Calls.regrown_of (HO _)
 open ank in exact N9):P:=h
theorem aoj.AaY(h:P:=by
 have cO:∀d os,Calls prog 342 #[.agg #[.int .i64 F,.int .i64 T,.string k,.int .i64 N]] (Sort.grow (redrawn V d) os) λe w''=>e= .returned (.bool true)/\∃p:Regrown,w''=Sort.grow (redrawn V p.d) p.os:=λd os=>Calls.regrown_of (HO _)
 have cM:∀d os,Calls prog 259 #[.iface 282 (.agg #[.int .i64 F,.int .i64 T,.string k,.int .i64 N])] (Sort.grow (redrawn V d) os) λe w''=>e= .returned (nK ⟨0,F,T,0,0,k,N⟩)/\∃p:Regrown,w''=Sort.grow (redrawn V p.d) p.os:=λd os=>Calls.regrown_of (HM _)
 open ano in exact N9):P:=h
theorem aok.AaY(h:P:=by
 have cO:∀d os,Calls prog 344 #[.agg #[.int .i64 F,.int .i64 T,.int .i64 I]] (Sort.grow (redrawn V d) os) λe w''=>e= .returned (.bool true)/\∃p:Regrown,w''=Sort.grow (redrawn V p.d) p.os:=λd os=>Calls.regrown_of (HO _)
 have cM:∀d os,Calls prog 259 #[.iface 286 (.agg #[.int .i64 F,.int .i64 T,.int .i64 I])] (Sort.grow (redrawn V d) os) λe w''=>e= .returned (nK ⟨2,F,T,I,0,ByteArray.empty,0⟩)/\∃p:Regrown,w''=Sort.grow (redrawn V p.d) p.os:=λd os=>Calls.regrown_of (HM _)
 open anp in exact N9):P:=h
theorem Ws(h:P:=by
 have HW1:=Hq (h.step (ay w (.cells (bZ K no k nn mK mF mT mI mL mk mN) 100)));have yO:=Hq (heap_alloc_new w (.cells (bZ K no k nn mK mF mT mI mL mk mN) 100));exact AaV):P:=h
theorem aol.AaV(h:P:=by
 clear h he hR hz hk hpar;open ate in exact UZ):P:=h
theorem aom.AaV(h:P:=by
 clear h hR hpar;obtain⟨c0,c1,c2,c3,c4,c5,c6,c7,c8,c9⟩:=jE HW1.blk;have hwl:=aA HW.blk;have hne:wb≠w.heap.size:=Aaa
 go_in
 go_upto_region 1 with fail;have y1:=cell_regrown c1;clear c0 c1 c2 c3 c4 c5 c6 c7 c8 c9;open ar7 in exact afU):P:=h
theorem aon.AaV(h:P:=by
 have hq2:(n.par == -1)=false:=Abg
 clear h hR hpar;open atd in exact UZ):P:=h
theorem aoo.AaV(h:P:=by
 have hq2:(n.par == -1)=false:=Abg
 clear h hR hpar;generalize eZ n n.par k nn=gv at *;obtain⟨gn,gl,gb⟩:=gv;dsimp only at Gq ⊢;open atc in exact UZ):P:=h
theorem aop.AaV(h:P:=by
 clear h ho;obtain⟨⟨p0,p1,p2,p3,p4,p5,p6,p7,p8,p9,nT⟩,_⟩:=aM yO;have hpl:=aA yO;go_in
 go_wp2_with fail;refine(HIO _).mono ?_;rintro e w2 ⟨rfl,hb2⟩;have HW2:=Hq (HW1.step hb2);have qW:=Hq (au yO hb2);clear hb2 HW1 yO p0 p1 p2 p3 p4 p5 p6 p7 p8 p9 nT HIO;exact AaE):P:=h
theorem aoq.AaV(h:P:=by
 open atb in exact UZ):P:=h
theorem wL(h:P:=by
 obtain⟨id,par,kids,next,pu,out,seen,old,reqs⟩:=n;obtain⟨ak,ap,ao,as',ar,ck,cp,co,cs,cr⟩:=A;exact AaM):P:=h
theorem aor.AaM(h:P:=by
 dsimp only at hl HA HD Eb wT Nn DW ⊢;cases h1:tY id
 case' false=>
  have HP:=Hq (HD (by rw [h1];rfl));clear HD Eb wT Nn DW;go_in
  go_wp2_with (first|(go_at_call 100;refine(mZ _ false _ h1).mono ?_;rintro e w1 ⟨rfl,rfl⟩))
  exact wM
 cases h2:decide (-1<=par/\par<=29)
 case' false=>
  have HP:=Hq (HD (by rw [h2];simp));clear HD Eb wT Nn DW;go_in
  go_wp2_with (first|(go_at_call 100;refine(mZ _ true _ h1).mono ?_;rintro e w1 ⟨rfl,rfl⟩)|(go_at_call 18;refine(xY _ _ _ false _ h2).mono ?_;rintro e w1 ⟨rfl,rfl⟩))
  exact wM
 by_cases h3:par=id
 case' pos=>
  have hb3:(par == id)=true:=by simp[h3]
  have HP:=Hq (HD (by simp[h3]));clear h3 HD Eb wT Nn DW;exact ahf
 have hb3:(par == id)=false:=by simp[h3]
 by_cases h4:kids.length<=30
 case' neg=>
  have hb4:decide ((30:Int) < kids.length)=true:=decide_eq_true Aaa;have HP:=Hq (HD (by simp[h4]));clear HD Eb wT Nn DW;exact ahf
 have hb4:decide ((30:Int) < kids.length)=false:=decide_eq_false Aaa;have nS:=Hq (Eb h1 (of_decide_eq_true h2) h3 h4);clear HD Eb;open auS in exact agH):P:=h
theorem aos.AaM(h:P:=by
 dsimp only at hl hl2 HA HS qz HD wT Nn DW Ra jN ⊢;go_in
 go_upto_if 12 with fail;open apP in exact ajG):P:=h
theorem aot.AaM(h:P:=by
 dsimp only at Nw HPU Ni Ra HOT Nz HD jN ⊢;have hlo:=hz.o;have hlr:=hz.r;dsimp only at hlo hlr;clear ha hz;go_in
 go_upto_region 1 with fail;open apO in exact ajG):P:=h
theorem aou.AaM(h:P:=by
 obtain⟨si,st,sx,sn⟩:=s;dsimp only at hl HA HLY yI Dq HP HR HO HB ⊢;obtain⟨c0,c1,c2,c3,c4,c5,c6,c7,c8⟩:=nine HP;obtain⟨d0,d1,d2,d3⟩:=iE HR;go_in
 go_wp2_with fail;go_loopw [5,13] (λlv i wr=>∃k:Nat,k<=out.length/\i= .int .i64 k/\lv= .int .i64 si/\(out.take k).find? (λo=>decide (o.t=st))=none/\Below (((w.alloc (.cells (dG ⟨id,par,kids,next,pu,out,seen,old,reqs⟩ ⟨ak,ap,ao,as',ar,ck,cp,co,cs,cr⟩) 40)).alloc (.cells (gJ si st sx sn) 91)).alloc (.cells zm7 98)).heap.size (((w.alloc (.cells (dG ⟨id,par,kids,next,pu,out,seen,old,reqs⟩ ⟨ak,ap,ao,as',ar,ck,cp,co,cs,cr⟩) 40)).alloc (.cells (gJ si st sx sn) 91)).alloc (.cells zm7 98)) wr) (λ_ i _=>out.length - (intOf i).toNat)
 case atStart=>exact⟨0,Nat.zero_le _,rfl,rfl,rfl,Below.refl _ _⟩
 case round=>
  obtain⟨k,hk,rfl,rfl,hno,hbx⟩:=hrel;have HN:=Hq hno;have yO:=Hq (au HP hbx);have HR1:=Hq (au HR hbx);have Kh:=Hq (au HO hbx);have HB1:=Hq (HB.trans (hbx.mono HB.size));have jN:=Hq hbx;clear hno hbx c0 c1 c2 c3 c4 c5 c6 c7 c8 d0 d1 d2 d3;obtain⟨c0,c1,c2,c3,c4,c5,c6,c7,c8⟩:=nine yO;obtain⟨d0,d1,d2,d3⟩:=iE HR1;have hrz:=aA Kh;have aDB:w.heap.size+1 < wr.heap.size:=Aaa
  have aDA:w.heap.size < wr.heap.size:=Aaa
  by_cases hlt:k < out.length
  .obtain⟨g,off,e0,hgw,q0,q1,q2,q3⟩:=SentAt.four (GR.At.below HA HB1) k hlt;(try dsimp only at e0 q0 q1 q2 q3)
   subst e0;by_cases ht:(out[k]).t=st
   .have HY:=Hq (HLY k hlt HN ht);have hb:((out[k]).t == st)=true:=by simp[ht]
    clear ht HLY yI Dq;generalize out[k]=sk at *;obtain⟨ui,ut,ux,un⟩:=sk;dsimp only at q0 q1 q2 q3 hb HY;have hyy:=ah HY;subst hyy;go_upto_region 8 with fail;refine wp_at (λW3 hW3=>?_);have hbw:aI wr W3:=by rw [hW3];exact ay wr _
    open aoS in exact awo
   .have HS:=Hq (yI k hlt HN ht);have hb:((out[k]).t == st)=false:=by simp[ht]
    clear ht HLY yI Dq;generalize out[k]=sk at *;obtain⟨ui,ut,ux,un⟩:=sk;dsimp only at q0 q1 q2 q3 hb;go_wp2_with fail;go_roundw
    case rel=>exact⟨k+1,Aaa,Aah,rfl,HS,jN.alloc jN.size _⟩
    case measure=>simp[intOf];omega
  .open apY in exact aak):P:=h
theorem aov.AaM(h:P:=by
 dsimp only at hl HA HLY yI Dq c0 c1 c2 c3 c4 c5 c6 c7 c8 ⊢;go_in
 go_wp2_with fail;go_loop [7] (λi=>∃k:Nat,k<=out.length/\i= .int .i64 k/\(out.take k).find? (λo=>decide (o.t=t))=none) (λi=>out.length - (intOf i).toNat)
 case atStart=>exact⟨0,Nat.zero_le _,rfl,rfl⟩
 case round=>
  obtain⟨k,hk,rfl,hno⟩:=hrel;have HN:=Hq hno;clear hno;by_cases hlt:k < out.length
  .obtain⟨g,off,e0,hgw,q0,q1,q2,q3⟩:=SentAt.four HA k hlt;subst e0;by_cases ht:(out[k]).t=t
   .have HY:=Hq (HLY k hlt HN ht);have hb:((out[k]).t == t)=true:=by simp[ht]
    clear ht HLY yI Dq;generalize out[k]=sk at *;obtain⟨si,st,sx,sn⟩:=sk;dsimp only at q0 q1 q2 q3 hb HY;go_wp2_with fail;go_ret;exact⟨Mf HY.symm,ay w _⟩
   .have HS:=Hq (yI k hlt HN ht);have hb:((out[k]).t == t)=false:=by simp[ht]
    clear ht HLY yI Dq;generalize out[k]=sk at *;obtain⟨si,st,sx,sn⟩:=sk;dsimp only at q0 q1 q2 q3 hb;go_wp2_with fail;go_round
    case rel=>exact⟨k+1,Aaa,Aah,HS⟩
    case measure=>simp[intOf];omega
  .open apX in exact aak):P:=h
theorem aow.AaM(h:P:=by
 obtain⟨bk,bp,bo,bs',br,dk,dp,dO,ds,dr⟩:=A';dsimp only at HK HP HO HS HR HA0 HB0 nC ⊢;go_in
 obtain⟨c0,c1,c2,c3,c4,c5,c6,c7,c8⟩:=nine HA0;obtain⟨d0,d1,d2,d3,d4,d5,d6,d7,d8⟩:=nine HB0;go_wp2_with fail;refine(HK _ nC).mono ?_;rintro e w1 ⟨rfl,hb1⟩;have HA1:=Hq (au HA0 hb1);have HB1:=Hq (au HB0 hb1);have qU:=Hq (nC.trans (hb1.mono nC.size));clear hb1 c0 c1 c2 c3 c4 c5 c6 c7 c8 d0 d1 d2 d3 d4 d5 d6 d7 d8;obtain⟨c0,c1,c2,c3,c4,c5,c6,c7,c8⟩:=nine HA1;obtain⟨d0,d1,d2,d3,d4,d5,d6,d7,d8⟩:=nine HB1;go_wp2_with fail;refine(HP _ qU).mono ?_;rintro e w2 ⟨rfl,hb1⟩;have HA2:=Hq (au HA1 hb1);have HB2:=Hq (au HB1 hb1);have HL2:=Hq (qU.trans (hb1.mono qU.size));clear hb1 c0 c1 c2 c3 c4 c5 c6 c7 c8 d0 d1 d2 d3 d4 d5 d6 d7 d8;obtain⟨c0,c1,c2,c3,c4,c5,c6,c7,c8⟩:=nine HA2;obtain⟨d0,d1,d2,d3,d4,d5,d6,d7,d8⟩:=nine HB2;go_wp2_with fail;refine(HO _ HL2).mono ?_;rintro e w3 ⟨rfl,hb1⟩;have HA3:=Hq (au HA2 hb1);have HB3:=Hq (au HB2 hb1);have qz:=Hq (HL2.trans (hb1.mono HL2.size));clear hb1 c0 c1 c2 c3 c4 c5 c6 c7 c8 d0 d1 d2 d3 d4 d5 d6 d7 d8;obtain⟨c0,c1,c2,c3,c4,c5,c6,c7,c8⟩:=nine HA3;obtain⟨d0,d1,d2,d3,d4,d5,d6,d7,d8⟩:=nine HB3;go_wp2_with fail;refine(HS _ qz).mono ?_;rintro e w4 ⟨rfl,hb1⟩;have HA4:=Hq (au HA3 hb1);have nR:=Hq (au HB3 hb1);have Gf:=Hq (qz.trans (hb1.mono qz.size));clear hb1 c0 c1 c2 c3 c4 c5 c6 c7 c8 d0 d1 d2 d3 d4 d5 d6 d7 d8;obtain⟨c0,c1,c2,c3,c4,c5,c6,c7,c8⟩:=nine HA4;obtain⟨d0,d1,d2,d3,d4,d5,d6,d7,d8⟩:=nine nR;go_wp2_with fail;refine(HR _ Gf).mono ?_;rintro e w5 ⟨rfl,hb1⟩;have HA5:=Hq (au HA4 hb1);have gY:=Hq (au nR hb1);have HL5:=Hq (Gf.trans (hb1.mono Gf.size));clear hb1 c0 c1 c2 c3 c4 c5 c6 c7 c8 d0 d1 d2 d3 d4 d5 d6 d7 d8;obtain⟨c0,c1,c2,c3,c4,c5,c6,c7,c8⟩:=nine HA5;obtain⟨d0,d1,d2,d3,d4,d5,d6,d7,d8⟩:=nine gY;go_wp2_with fail;go_ret;exact⟨rfl,HL5⟩):P:=h
theorem aox.AaM(h:P:=by
 dsimp only at NJ HTP Ni HTS HTR ⊢;go_in
 go_upto_region 4 with fail;refine wp_at (λW0 hW0=>?_);obtain⟨hP,hR,hO,hB⟩:=yZ w (.cells (dG ⟨id,par,kids,next,pu,out,seen,old,reqs⟩ ⟨ak,ap,ao,as',ar,ck,cp,co,cs,cr⟩) 28) (.cells (iD 0 0 none 0 0 0 none 0 0 none 0 0 none 0 0 0 none 0 0) 40) (.cells (iD id par none 0 0 0 none 0 0 none 0 0 none 0 0 0 none 0 0) 40);rw [<-hW0] at hP hR hO hB;have T0:=Hq (TN.mk hP hR hO (rows:=[]) (λx hx=>by cases hx) hB);clear hP hR hO hB hW0;obtain⟨c0,c1,c2,c3,c4,c5,c6,c7,c8⟩:=nine T0.par;go_wp2_with fail;refine(NJ _ T0.bel).mono ?_;rintro e w1 ⟨rfl,hblk,hb⟩;have hg:w.heap.size+1+1 < W0.heap.size:=aA (ah T0).out;have U0:=Hq ((T0.step hb).add [(W0.heap.size,_)] (λx hx=>by rw [List.mem_singleton] at hx;subst hx;exact⟨hg,hblk⟩));have o0:=aA hblk;clear hblk hb hg T0;clear c0 c1 c2 c3 c4 c5 c6 c7 c8;obtain⟨c0,c1,c2,c3,c4,c5,c6,c7,c8⟩:=nine U0.par;obtain⟨d0,d1,d2,d3,d4,d5,d6,d7,d8⟩:=nine (ah U0).out;have f0:=aj (ah U0).out 0;have f1:=aj (ah U0).out 1;have f2:=aj (ah U0).out 2;have f3:=aj (ah U0).out 3;have f4:=aj (ah U0).out 4;have f5:=aj (ah U0).out 5;have f6:=aj (ah U0).out 6;have f7:=aj (ah U0).out 7;have f8:=aj (ah U0).out 8;go_upto_region 6 with fail;refine wp_at (λW1 hW=>?_);have T1:=(U0.put 2 (.slice (some ⟨W0.heap.size,0,none⟩) kids.length kids.length)).put 3 (.int .i64 next);rw [<-hW] at T1;replace T1:=Hq T1
 have hz1:W1.heap.size=w1.heap.size:=Acd
 rw [<-hz1] at o0;clear d0 d1 d2 d3 d4 d5 d6 d7 d8 f0 f1 f2 f3 f4 f5 f6 f7 f8;clear c0 c1 c2 c3 c4 c5 c6 c7 c8;clear hW hz1 U0;obtain⟨c0,c1,c2,c3,c4,c5,c6,c7,c8⟩:=nine T1.par;go_wp2_with fail;refine(HTP _ T1.bel).mono ?_;rintro e w2 ⟨rfl,hblk,hb⟩;have hg:w.heap.size+1+1 < W1.heap.size:=aA (ah T1).out;have U1:=Hq ((T1.step hb).add [(W1.heap.size,_)] (λx hx=>by rw [List.mem_singleton] at hx;subst hx;exact⟨hg,hblk⟩));have o1:=aA hblk;clear hblk hb hg T1;clear c0 c1 c2 c3 c4 c5 c6 c7 c8;obtain⟨c0,c1,c2,c3,c4,c5,c6,c7,c8⟩:=nine U1.par;obtain⟨d0,d1,d2,d3,d4,d5,d6,d7,d8⟩:=nine (ah U1).out;have f0:=aj (ah U1).out 0;have f1:=aj (ah U1).out 1;have f2:=aj (ah U1).out 2;have f3:=aj (ah U1).out 3;have f4:=aj (ah U1).out 4;have f5:=aj (ah U1).out 5;have f6:=aj (ah U1).out 6;have f7:=aj (ah U1).out 7;have f8:=aj (ah U1).out 8;go_upto_region 7 with fail;refine wp_at (λW2 hW=>?_);have T2:=U1.put 4 (.slice (some ⟨W1.heap.size,0,none⟩) pu.length pu.length);rw [<-hW] at T2;replace T2:=Hq T2
 have hz2:W2.heap.size=w2.heap.size:=Acd
 rw [<-hz2] at o1;clear d0 d1 d2 d3 d4 d5 d6 d7 d8 f0 f1 f2 f3 f4 f5 f6 f7 f8;clear c0 c1 c2 c3 c4 c5 c6 c7 c8;clear hW hz2 U1;obtain⟨c0,c1,c2,c3,c4,c5,c6,c7,c8⟩:=nine T2.par;go_wp2_with fail;refine(Ni _ T2.bel).mono ?_;rintro e w3 ⟨rfl,hblk,hb⟩;have hg:w.heap.size+1+1 < W2.heap.size:=aA (ah T2).out;have U2:=Hq ((T2.step hb).add [(W2.heap.size,_)] (λx hx=>by rw [List.mem_singleton] at hx;subst hx;exact⟨hg,hblk⟩));have o2:=aA hblk;clear hblk hb hg T2;clear c0 c1 c2 c3 c4 c5 c6 c7 c8;obtain⟨c0,c1,c2,c3,c4,c5,c6,c7,c8⟩:=nine U2.par;obtain⟨d0,d1,d2,d3,d4,d5,d6,d7,d8⟩:=nine (ah U2).out;have f0:=aj (ah U2).out 0;have f1:=aj (ah U2).out 1;have f2:=aj (ah U2).out 2;have f3:=aj (ah U2).out 3;have f4:=aj (ah U2).out 4;have f5:=aj (ah U2).out 5;have f6:=aj (ah U2).out 6;have f7:=aj (ah U2).out 7;have f8:=aj (ah U2).out 8;go_upto_region 8 with fail;refine wp_at (λW3 hW=>?_);have T3:=U2.put 5 (.slice (some ⟨W2.heap.size,0,none⟩) out.length out.length);rw [<-hW] at T3;replace T3:=Hq T3
 have hz3:W3.heap.size=w3.heap.size:=Acd
 rw [<-hz3] at o2;clear d0 d1 d2 d3 d4 d5 d6 d7 d8 f0 f1 f2 f3 f4 f5 f6 f7 f8;clear c0 c1 c2 c3 c4 c5 c6 c7 c8;clear hW hz3 U2;obtain⟨c0,c1,c2,c3,c4,c5,c6,c7,c8⟩:=nine T3.par;go_wp2_with fail;refine(HTS _ T3.bel).mono ?_;rintro e w4 ⟨rfl,⟨TT,II,hblk,hTl,hII,hIm⟩,hb⟩;have hg:w.heap.size+1+1 < W3.heap.size:=aA (ah T3).out;have Eb:=Hq hTl;have HII:=Hq (λi hi=>(hII i hi).2.2.1);have HIM:=Hq hIm
 have U3:=Hq ((T3.step hb).add ((W3.heap.size,.cells (GR.flat fK TT).toArray 110 (0,0))::(List.range seen.length).map λi=>(II i,.cells (GR.flat aU (seen.getD i default).ids).toArray 3 (0,0))) (λx hx=>by
  rcases List.mem_cons.1 hx with rfl|hx
  .exact⟨hg,hblk⟩
  .obtain⟨i,hi,rfl⟩:=List.mem_map.1 hx;have h:=hII i (List.mem_range.1 hi)
   exact⟨Nat.lt_trans hg h.1,h.2.2.2⟩))
 have o3:W3.heap.size < w4.heap.size/\∀i,i < seen.length->W3.heap.size < II i/\II i < w4.heap.size:=⟨aA hblk,λi hi=>⟨(hII i hi).1,(hII i hi).2.1⟩⟩;clear hblk hb hg hTl hII hIm T3;clear c0 c1 c2 c3 c4 c5 c6 c7 c8;obtain⟨c0,c1,c2,c3,c4,c5,c6,c7,c8⟩:=nine U3.par;obtain⟨d0,d1,d2,d3,d4,d5,d6,d7,d8⟩:=nine (ah U3).out;have f0:=aj (ah U3).out 0;have f1:=aj (ah U3).out 1;have f2:=aj (ah U3).out 2;have f3:=aj (ah U3).out 3;have f4:=aj (ah U3).out 4;have f5:=aj (ah U3).out 5;have f6:=aj (ah U3).out 6;have f7:=aj (ah U3).out 7;have f8:=aj (ah U3).out 8;go_upto_region 10 with fail;refine wp_at (λW4 hW=>?_);have T4:=(U3.put 6 (.slice (some ⟨W3.heap.size,0,none⟩) seen.length seen.length)).put 7 (.int .i64 old);rw [<-hW] at T4;replace T4:=Hq T4
 have xU:W4.heap.size=w4.heap.size:=Acd
 rw [<-xU] at o3;clear d0 d1 d2 d3 d4 d5 d6 d7 d8 f0 f1 f2 f3 f4 f5 f6 f7 f8;clear c0 c1 c2 c3 c4 c5 c6 c7 c8;clear hW xU U3;obtain⟨c0,c1,c2,c3,c4,c5,c6,c7,c8⟩:=nine T4.par;go_wp2_with fail;refine(HTR _ T4.bel).mono ?_;rintro e w5 ⟨rfl,hblk,hb⟩;have hg:w.heap.size+1+1 < W4.heap.size:=aA (ah T4).out;have U4:=Hq ((T4.step hb).add [(W4.heap.size,_)] (λx hx=>by rw [List.mem_singleton] at hx;subst hx;exact⟨hg,hblk⟩));have o4:=aA hblk;clear hblk hb hg T4;clear c0 c1 c2 c3 c4 c5 c6 c7 c8;obtain⟨c0,c1,c2,c3,c4,c5,c6,c7,c8⟩:=nine U4.par;obtain⟨d0,d1,d2,d3,d4,d5,d6,d7,d8⟩:=nine (ah U4).out;have f0:=aj (ah U4).out 0;have f1:=aj (ah U4).out 1;have f2:=aj (ah U4).out 2;have f3:=aj (ah U4).out 3;have f4:=aj (ah U4).out 4;have f5:=aj (ah U4).out 5;have f6:=aj (ah U4).out 6;have f7:=aj (ah U4).out 7;have f8:=aj (ah U4).out 8;go_upto_region 11 with fail;refine wp_at (λW5 hW=>?_);have T5:=U4.put 8 (.slice (some ⟨W4.heap.size,0,none⟩) reqs.length reqs.length);rw [<-hW] at T5;replace T5:=Hq T5
 have hz5:W5.heap.size=w5.heap.size:=Acd
 rw [<-hz5] at o4;clear d0 d1 d2 d3 d4 d5 d6 d7 d8 f0 f1 f2 f3 f4 f5 f6 f7 f8;clear c0 c1 c2 c3 c4 c5 c6 c7 c8;clear hW hz5 U4;obtain⟨d0,d1,d2,d3,d4,d5,d6,d7,d8⟩:=nine (show W5.heap[w.heap.size+1+1]?=some (.cells (dG ⟨id,par,kids,next,pu,out,seen,old,reqs⟩ ⟨some ⟨W0.heap.size,0,none⟩,some ⟨W1.heap.size,0,none⟩,some ⟨W2.heap.size,0,none⟩,some ⟨W3.heap.size,0,none⟩,some ⟨W4.heap.size,0,none⟩,kids.length,pu.length,out.length,seen.length,reqs.length⟩) 40 (0,0)) from(ah T5).out);obtain⟨r0,r1,r2,r3,r4,r5,r6,r7,r8⟩:=nine T5.res;have f0:=aj T5.res 0;have f1:=aj T5.res 1;have f2:=aj T5.res 2;have f3:=aj T5.res 3;have f4:=aj T5.res 4;have f5:=aj T5.res 5;have f6:=aj T5.res 6;have f7:=aj T5.res 7;have f8:=aj T5.res 8;have hlt:=aA T5.res;go_wp2_with fail;refine aO (λW' hW'=>?_);have hR:=aci (b0:= .int .i64 id) (b1:= .int .i64 par) (b2:= .slice (some ⟨W0.heap.size,0,none⟩) kids.length kids.length) (b3:= .int .i64 next) (b4:= .slice (some ⟨W1.heap.size,0,none⟩) pu.length pu.length) (b5:= .slice (some ⟨W2.heap.size,0,none⟩) out.length out.length) (b6:= .slice (some ⟨W3.heap.size,0,none⟩) seen.length seen.length) (b7:= .int .i64 old) (b8:= .slice (some ⟨W4.heap.size,0,none⟩) reqs.length reqs.length) T5.res;have hK:=TJ (w:=W5) (g:=w.heap.size+1) (b0:= .int .i64 id) (b1:= .int .i64 par) (b2:= .slice (some ⟨W0.heap.size,0,none⟩) kids.length kids.length) (b3:= .int .i64 next) (b4:= .slice (some ⟨W1.heap.size,0,none⟩) pu.length pu.length) (b5:= .slice (some ⟨W2.heap.size,0,none⟩) out.length out.length) (b6:= .slice (some ⟨W3.heap.size,0,none⟩) seen.length seen.length) (b7:= .int .i64 old) (b8:= .slice (some ⟨W4.heap.size,0,none⟩) reqs.length reqs.length);rw [<-hW'] at hR hK;clear d0 d1 d2 d3 d4 d5 d6 d7 d8 r0 r1 r2 r3 r4 r5 r6 r7 r8 f0 f1 f2 f3 f4 f5 f6 f7 f8 hW';obtain⟨x0,x1,x2,x3,x4,x5,x6,x7,x8⟩:=nine hR;have hrow:=T5.rows;have eT:=T5.bel.trans (hK.below (B:=w.heap.size) (λx hx=>Aak) T5.bel.size);have q0:=hrow _ (List.mem_append_left _ (List.mem_append_left _ (List.mem_append_left _ (List.mem_append_left _ (List.mem_append_right _ (List.mem_singleton.2 rfl))))));have q1:=hrow _ (List.mem_append_left _ (List.mem_append_left _ (List.mem_append_left _ (List.mem_append_right _ (List.mem_singleton.2 rfl)))));have q2:=hrow _ (List.mem_append_left _ (List.mem_append_left _ (List.mem_append_right _ (List.mem_singleton.2 rfl))));have q3:=hrow _ (List.mem_append_left _ (List.mem_append_right _ (List.mem_cons_self ..)));have q4:=hrow _ (List.mem_append_right _ (List.mem_singleton.2 rfl));have q5:=λi (hi:i < seen.length)=>hrow (II i,_) (List.mem_append_left _ (List.mem_append_right _ (List.mem_cons_of_mem _ (List.mem_map.2 ⟨i,List.mem_range.2 hi,rfl⟩))))
 dsimp only at q0 q1 q2 q3 q4 q5;obtain⟨o3,o3i⟩:=o3;refine bodyPost_ret (v:=gB ⟨id,par,kids,next,pu,out,seen,old,reqs⟩ ⟨some ⟨W0.heap.size,0,none⟩,some ⟨W1.heap.size,0,none⟩,some ⟨W2.heap.size,0,none⟩,some ⟨W3.heap.size,0,none⟩,some ⟨W4.heap.size,0,none⟩,kids.length,pu.length,out.length,seen.length,reqs.length⟩) (by simp[results,results22,go_sem,x0,x1,x2,x3,x4,x5,x6,x7,x8]) rfl ⟨_,rfl,⟨W0.heap.size,W1.heap.size,W2.heap.size,W3.heap.size,W4.heap.size,II⟩,?_,?_,eT⟩
 .refine rz.keeps (w:=W5) (F:=[w.heap.size+1]) ⟨GR.W.of_blk aQ q0.2,GR.W.of_blk aW q1.2,GR.W.of_blk bH q2.2,iL.of q3.2 Eb (λi hi=>⟨HII i hi,(q5 i hi).2⟩),GR.W.of_blk aR q4.2⟩ hK (λx hx=>?_)
  have hx':w.heap.size+1+1 < x:=by
   rcases aX.mem_all.1 hx with h|h|h|h|h|h
   .rw [(dY h).1];exact q0.1
   .rw [(dY h).1];exact q1.1
   .rw [(dY h).1];exact q2.1
   .rw [(dY h).1];exact q3.1
   .obtain⟨i,hi,rfl,_⟩:=uh h;exact(q5 i hi).1
   .rw [(dY h).1];exact q4.1
  simp;omega
 .have hs5:=hK.size;have o4':=o4
  have hI:∀x∈wO II seen,W3.heap.size < x/\x < W4.heap.size:=λx hx=>by
   obtain⟨i,hi,rfl,_⟩:=uh hx
   exact o3i i hi
  refine⟨?_,λx hx=>?_⟩
  .unfold aX.all;dsimp only;rw [List.nodup_append,List.nodup_append,List.nodup_append,List.nodup_append,List.nodup_append];refine⟨jq _ _,⟨jq _ _,⟨jq _ _,⟨jq _ _,⟨aek HIM,jq _ _,?_⟩,?_⟩,?_⟩,?_⟩,?_⟩
   all_goals
    intro a ha b hb
    (try simp only[List.mem_append] at hb)
   .have:=hI a ha;rw [(dY hb).1];omega
   .rw [(dY ha).1];rcases hb with hb|hb
    .have:=hI b hb;omega
    .rw [(dY hb).1];omega
   .rw [(dY ha).1];rcases hb with hb|hb|hb
    .rw [(dY hb).1];omega
    .have:=hI b hb;omega
    .rw [(dY hb).1];omega
   .rw [(dY ha).1];rcases hb with hb|hb|hb|hb
    .rw [(dY hb).1];omega
    .rw [(dY hb).1];omega
    .have:=hI b hb;omega
    .rw [(dY hb).1];omega
   .rw [(dY ha).1];rcases hb with hb|hb|hb|hb|hb
    .rw [(dY hb).1];omega
    .rw [(dY hb).1];omega
    .rw [(dY hb).1];omega
    .have:=hI b hb;omega
    .rw [(dY hb).1];omega
  .have hq:=q0.1;rcases aX.mem_all.1 hx with h|h|h|h|h|h
   .rw [(dY h).1];dsimp only;omega
   .rw [(dY h).1];dsimp only;omega
   .rw [(dY h).1];dsimp only;omega
   .rw [(dY h).1];dsimp only;omega
   .have:=hI x h;omega
   .rw [(dY h).1];dsimp only;omega):P:=h
theorem aoy.AaM(h:P:=by
 obtain⟨si,st,sx,sn⟩:=s;dsimp only at hl HLW hP hR hO hB ⊢;have HP:=Hq hP;have HR:=Hq hR;have HO:=Hq hO;have HB:=Hq hB;clear ha hP hR hO hB HPM;go_in
 go_upto_region 1 with fail;refine wp_at (λW hW=>?_);rw [<-hW] at HP HR HO HB;have azC:=Hq (HLW W HB);have hz2:w.heap.size+1+1 < W.heap.size:=aA HO;have hz1:w.heap.size+1 < W.heap.size:=Aaa
 have hz0:w.heap.size < W.heap.size:=Aaa
 have hne0:w.heap.size+1+1≠w.heap.size:=Aaa
 have hne1:w.heap.size+1+1≠w.heap.size+1:=Aaa
 clear hW HLW;obtain⟨c0,c1,c2,c3,c4,c5,c6,c7,c8⟩:=nine HP;obtain⟨d0,d1,d2,d3⟩:=iE HR
 go_region_held (λw'=>(w'.cell? ⟨w.heap.size,0,none⟩=some (.int .i64 id)/\w'.cell? ⟨w.heap.size,1,none⟩=some (.int .i64 par)/\w'.cell? ⟨w.heap.size,2,none⟩=some (.slice ak kids.length ck)/\w'.cell? ⟨w.heap.size,3,none⟩=some (.int .i64 next)/\w'.cell? ⟨w.heap.size,4,none⟩=some (.slice ap pu.length cp)/\w'.cell? ⟨w.heap.size,5,none⟩=some (.slice ao out.length co)/\w'.cell? ⟨w.heap.size,6,none⟩=some (.slice as' seen.length cs)/\w'.cell? ⟨w.heap.size,7,none⟩=some (.int .i64 old)/\w'.cell? ⟨w.heap.size,8,none⟩=some (.slice ar reqs.length cr))/\w'.cell? ⟨w.heap.size+1,0,none⟩=some (.int .i64 si)/\w'.cell? ⟨w.heap.size+1,1,none⟩=some (.int .i64 st)/\w'.cell? ⟨w.heap.size+1,2,none⟩=some (.string sx)/\w'.cell? ⟨w.heap.size+1,3,none⟩=some (.int .i64 sn)) (first|go_keep|(refine⟨⟨?_,?_,?_,?_,?_,?_,?_,?_,?_⟩,?_,?_,?_,?_⟩<;>first|exact aBA hne0 (by assumption)|exact aBA hne1 (by assumption)))
  (first
   |(go_at_call 183;refine(azC W.drew rfl).mono ?_;rintro e w5 ⟨rfl,hb5⟩;have hb6:aI W w5:=⟨hb5.os,hb5.tape,hb5.output,hb5.size,hb5.block⟩;clear hb5;have Nf:=Hq (au HP hb6);have Rw:=Hq (au HR hb6);have M9:=Hq (au HO hb6);have gY:=Hq (HB.trans (hb6.mono HB.size));clear hb6;obtain⟨y0,y1,y2,y3,y4,y5,y6,y7,y8⟩:=nine Nf;obtain⟨z0,z1,z2,z3⟩:=iE Rw;obtain⟨r0,r1,r2,r3,r4,r5,r6⟩:=jD M9;have f0:=aj M9 0;have f1:=aj M9 1;have f2:=aj M9 2;have f3:=aj M9 3;have f4:=aj M9 4;have f5:=aj M9 5;have f6:=aj M9 6))
 all_goals
  go_wp2_with fail
  refine aO (λW' hW'=>?_)
  have hR:=yF (b0:= .int .i64 1) (b1:= .int .i64 id) (b2:= .int .i64 st) (b3:= .int .i64 si) (b4:= .int .i64 LO) (b5:= .string sx) (b6:= .int .i64 sn) M9
  have hK:=uy (w:=w5) (g:=w.heap.size+1+1) (b0:= .int .i64 1) (b1:= .int .i64 id) (b2:= .int .i64 st) (b3:= .int .i64 si) (b4:= .int .i64 LO) (b5:= .string sx) (b6:= .int .i64 sn)
  rw [<-hW'] at hR hK
  obtain⟨x0,x1,x2,x3,x4,x5,x6⟩:=jD hR
  refine bodyPost_ret (v:= .agg (bV 1 id st si LO sx sn)) (by simp[results,results149,go_sem,x0,x1,x2,x3,x4,x5,x6]) rfl ⟨rfl,gY.trans (hK.below (λx hx=>by have:x=w.heap.size+1+1:=Aaf;omega) gY.size)⟩):P:=h
theorem aoz.AaM(h:P:=by
 dsimp only at hlo HAO Kj nS Gq Nw ⊢;go_in
 go_upto_region 1 with fail;refine wp_at (λW0 hW0=>?_);rw [<-hW0] at Kj;have HB0:Hid (aI w W0):=by rw [hW0];exact ay w _
 have aev:w.heap.size < W0.heap.size:=aA Kj;have aDw:w.heap.size≠W0.heap.size:=Aaa
 clear hW0;have alI:Hid ((W0.alloc (.cells #[] 98)).ownsRow W0.heap.size 98 7 (.slice (some ⟨W0.heap.size,0,none⟩) 0 0) 0 []):=World.ownsRow_lit (base:=W0.heap.size) (e:=98) (size:=7) W0 #[] 0 (Nat.le_refl _) Aae rfl;go_wp2_with fail;go_loopw [3,4] (λov i wr=>∃(k:Nat) (va:Option Addr) (vc:Nat),k<=out.length/\i= .int .i64 k/\ov= .slice va k vc/\wr.ownsRow W0.heap.size 98 7 (.slice va k vc) k (GR.flat lK ((out.take k).map PM))/\aI W0 wr/\(0 < k->OK=true)) (λ_ i _=>out.length - (intOf i).toNat)
 case atStart=>exact⟨0,some ⟨W0.heap.size,0,none⟩,0,Nat.zero_le _,rfl,rfl,alI,ay W0 _,λh=>Aaa⟩
 case round=>
  obtain⟨k,va,vc,hk,rfl,rfl,hown,hbel,hpos⟩:=hrel;have HO:=Hq hown;have cK:=Hq hbel;have HW:=Hq (HB0.trans (hbel.mono HB0.size));have yO:=Hq (au Kj hbel);clear hown hbel alI;obtain⟨c0,c1,c2,c3,c4,c5,c6,c7,c8⟩:=nine yO;by_cases hlt:k < out.length
  .obtain⟨g,off,e0,hg,q0,q1,q2,q3⟩:=SentAt.four (GR.At.below HAO HB0) k hlt;subst e0;have alO:=Hq (nS wr HW);go_wp2_with fail;refine alO.mono ?_;rintro e w4 ⟨rfl,hb4⟩;have HO4:=Hq (GR.own_below HO hb4);have DJ:=Hq (cK.trans (hb4.mono cK.size));clear hb4 alO c0 c1 c2 c3 c4 c5 c6 c7 c8 yO cK HW HO;have Wi:=Hq (au Kj DJ);have HW4:=Hq (HB0.trans (DJ.mono HB0.size));cases hOK:OK
   .have hk0:k=0:=by
     rcases Nat.eq_zero_or_pos k with h|h
     .exact h
     .exact absurd (hpos h) (by rw [hOK];simp)
    subst hk0;have HE:Hid (L=[]):=by rw [ah Nw,hOK];rfl
    clear hpos hOK Nw;go_wp2_with fail;go_ret;rw [ah HE];exact Au.of_own rfl HO4 Aaa HW4
   .clear hpos;have ajh:=Hq (Gq out[k] w4 HW4);have HT:=Hq (show(out.take (k+1)).map PM=(out.take k).map PM++[PM out[k]] by rw [List.take_succ_eq_append_getElem hlt,List.map_append];rfl);generalize out[k]=sk at *;generalize PM sk=mk at *;obtain⟨si,st,sx,sn⟩:=sk;obtain⟨mK,mF,mT,mI,mL,mk,mN⟩:=mk;dsimp only at q0 q1 q2 q3;have HQ0:=Hq q0;have HQ1:=Hq q1;have HQ2:=Hq q2;have HQ3:=Hq q3;have x0:=(DJ.cell (p:=⟨g,off+k*4,none⟩) hg).trans q0;have x1:=(DJ.cell (p:=⟨g,off+k*4+1,none⟩) hg).trans q1;have x2:=(DJ.cell (p:=⟨g,off+k*4+2,none⟩) hg).trans q2;have x3:=(DJ.cell (p:=⟨g,off+k*4+3,none⟩) hg).trans q3;clear q0 q1 q2 q3;obtain⟨c0,c1,c2,c3,c4,c5,c6,c7,c8⟩:=nine Wi;go_wp2_with fail
    go_region_held_law (λw'=>(w'.cell? ⟨w.heap.size,0,none⟩=some (.int .i64 id)/\w'.cell? ⟨w.heap.size,1,none⟩=some (.int .i64 par)/\w'.cell? ⟨w.heap.size,2,none⟩=some (.slice ak kids.length ck)/\w'.cell? ⟨w.heap.size,3,none⟩=some (.int .i64 next)/\w'.cell? ⟨w.heap.size,4,none⟩=some (.slice ap pu.length cp)/\w'.cell? ⟨w.heap.size,5,none⟩=some (.slice (some ⟨g,off,none⟩) out.length co)/\w'.cell? ⟨w.heap.size,6,none⟩=some (.slice as' seen.length cs)/\w'.cell? ⟨w.heap.size,7,none⟩=some (.int .i64 old)/\w'.cell? ⟨w.heap.size,8,none⟩=some (.slice ar reqs.length cr))/\w'.cell? ⟨g,off+k*4,none⟩=some (.int .i64 si)/\w'.cell? ⟨g,off+k*4+1,none⟩=some (.int .i64 st)/\w'.cell? ⟨g,off+k*4+2,none⟩=some (.string sx)/\w'.cell? ⟨g,off+k*4+3,none⟩=some (.int .i64 sn)) (go_keep)
     (first
      |((go_at_call 149);(refine(ajh w4.drew rfl).mono ?_);(rintro e w5 ⟨rfl,hb5⟩);(have hb6:aI w4 w5:=⟨hb5.os,hb5.tape,hb5.output,hb5.size,hb5.block⟩);(clear hb5);(have M9:=Hq (GR.own_below HO4 hb6));(have fG:=Hq (DJ.trans (hb6.mono DJ.size)));(clear hb6);(have Nf:=Hq (au Kj fG));(obtain⟨y0,y1,y2,y3,y4,y5,y6,y7,y8⟩:=nine Nf);(have u0:=(fG.cell (p:=⟨g,off+k*4,none⟩) hg).trans HQ0);(have u1:=(fG.cell (p:=⟨g,off+k*4+1,none⟩) hg).trans HQ1);(have u2:=(fG.cell (p:=⟨g,off+k*4+2,none⟩) hg).trans HQ2);(have u3:=(fG.cell (p:=⟨g,off+k*4+3,none⟩) hg).trans HQ3))
      |((refine BN _ rfl (.tmp 17) (.tmp 25) 41 rfl W0.heap.size 98 i0 (.agg (bV 0 0 0 0 0 ByteArray.empty 0)) 7 64 underlying41 hi hz0 hz1 hz2 rfl Aae (.slice va k vc) k (GR.flat lK ((out.take k).map PM)) Aal (M9.alloc _) ⟨w5.heap.size,0,none⟩ 1 1 (lK ⟨mK,mF,mT,mI,mL,mk,mN⟩) Aal rfl (World.news_of_block (heap_alloc_new w5 _)) (OI _) Aai Aaa (Nat.le_trans fG.size Aac) ?_);(intro v6 w6 hown6 qx OW);(have Ju:w6.ownsRow W0.heap.size 98 7 v6 (k+1) (GR.flat lK ((out.take (k+1)).map PM)):=by rw [ah HT,jh];exact hown6);(obtain⟨va6,vc6,hv6,_⟩:=GR.own_at (enc:=lK) (sz:=7) (l:=(out.take (k+1)).map PM) qE (by rw [List.length_map,List.length_take,Nat.min_eq_left Aaa];exact Ju));(rw [List.length_map,List.length_take,Nat.min_eq_left Aaa] at hv6);(subst hv6);(have HO6:=Hq Ju);(have Nl:=Hq (show aI W0 w6 from(fG.alloc fG.size _).trans (KN qx (λk e=>(M9.lt k e).1) (Nat.le_trans fG.size Aac))));(clear hown6 qx OW Ju);(have Zi:=Hq (au Kj Nl));(obtain⟨z0,z1,z2,z3,z4,z5,z6,z7,z8⟩:=nine Zi);(have t0:=(Nl.cell (p:=⟨g,off+k*4,none⟩) hg).trans HQ0);(have t1:=(Nl.cell (p:=⟨g,off+k*4+1,none⟩) hg).trans HQ1);(have t2:=(Nl.cell (p:=⟨g,off+k*4+2,none⟩) hg).trans HQ2);(have t3:=(Nl.cell (p:=⟨g,off+k*4+3,none⟩) hg).trans HQ3))
      |fail)
    all_goals
     go_wp2_with fail
     go_roundw
     case rel=>exact⟨k+1,va6,vc6,Aaa,Aah,rfl,HO6,Nl,λ_=>hOK⟩
     case measure=>simp[intOf];omega
  .open apW in exact aak):P:=h
theorem aoA.AaM(h:P:=by
 dsimp only at hl HD HA wT jy yI UF jN ⊢;clear ha;go_in
 go_upto_region 1 with fail;refine wp_at (λW0 hW0=>?_);have hblk:W0.heap[w.heap.size]?=some (.cells (dG ⟨id,par,kids,next,pu,out,seen,old,reqs⟩ ⟨ak,ap,ao,as',ar,ck,cp,co,cs,cr⟩) 40 (0,0)):=by rw [hW0];exact jN
 have nC:Hid (aI w W0):=by rw [hW0];exact ay w _
 obtain⟨c0,c1,c2,c3,c4,c5,c6,c7,c8⟩:=nine hblk;clear hW0 jN hblk;obtain⟨bb,hbb⟩:∃bb,(!(tY id&&(decide (par= -1)||(tY par&&decide (par≠id)))))=bb:=⟨_,rfl⟩;have eT:=Hq hbb;clear hbb;go_cut [27] (λr wx=>r= .bool bb/\wx=W0)
 case first=>
  cases h1:tY id
  case' false=>
   have HV:=Hq (show bb=true by rw [<-ah eT];simp[h1])
   have H1:=Hq (λw1=>isNode id false w1 h1)
   clear eT h1
   go_wp2_with (go_at_call 201;refine(H1 _).mono ?_;rintro e w1 ⟨rfl,rfl⟩)
   go_meet
   case rel=>exact⟨Aan,rfl⟩
  have H1:=Hq (λw1=>isNode id true w1 h1);by_cases h2:par= -1
  case' pos=>
   have HV:=Hq (show bb=false by rw [<-ah eT];simp[h1,h2])
   have hb2:(par != -1)=false:=by simp[h2]
   clear eT h1 h2
   go_wp2_with (go_at_call 201;refine(H1 _).mono ?_;rintro e w1 ⟨rfl,rfl⟩)
   go_meet
   case rel=>exact⟨Aan,rfl⟩
  have hb2:(par != -1)=true:=by simp[h2]
  cases h3:tY par
  case' false=>
   have HV:=Hq (show bb=true by rw [<-ah eT];simp[h2,h3])
   have H3:=Hq (λw1=>isNode par false w1 h3)
   clear eT h1 h2 h3
   go_wp2_with (first|(go_at_call_of 201 id;refine(H1 _).mono ?_;rintro e w1 ⟨rfl,rfl⟩)|(go_at_call_of 201 par;refine(H3 _).mono ?_;rintro e w1 ⟨rfl,rfl⟩))
   go_meet
   case rel=>exact⟨Aan,rfl⟩
  have H3:=Hq (λw1=>isNode par true w1 h3);by_cases h4:par=id
  case' pos=>
   have HV:=Hq (show bb=true by rw [<-ah eT,decide_eq_false h2,decide_eq_false (show¬(par≠id) from λh=>h h4)];simp)
   have hb4:(par == id)=true:=by simp[h4]
   subst h4
   clear eT h1 h2 h3
   go_wp2_with (go_at_call 201;refine(H1 _).mono ?_;rintro e w1 ⟨rfl,rfl⟩)
   go_meet
   case rel=>exact⟨Aan,rfl⟩
  have HV:=Hq (show bb=false by rw [<-ah eT];simp[h1,h3,h4]);have hb4:(par == id)=false:=by simp[h4]
  clear eT h1 h2 h3;go_wp2_with (first|(go_at_call_of 201 id;refine(H1 _).mono ?_;rintro e w1 ⟨rfl,rfl⟩)|(go_at_call_of 201 par;refine(H3 _).mono ?_;rintro e w1 ⟨rfl,rfl⟩))
  go_meet
  case rel=>exact⟨Aan,rfl⟩
 case rest=>
  obtain⟨rfl,rfl⟩:=hcut;cases hbv:bb
  case' true=>
   have HP:Hid (TT=false):=by
    have h:=ah eT;rw [hbv] at h;rw [ah HD];generalize (tY id&&(decide (par= -1)||(tY par&&decide (par≠id))))=X at *;cases X
    .rfl
    .cases h
   clear eT HD;subst hbv;go_wp2_with fail;go_ret;exact⟨aF HP.symm,nC⟩
  have nS:Hid (TT=gU KB iM kids):=by
   have h:=ah eT;rw [hbv] at h;rw [ah HD];generalize (tY id&&(decide (par= -1)||(tY par&&decide (par≠id))))=X at *;cases X
   .cases h
   .rfl
  clear eT HD;subst hbv;go_wp2_with fail;go_loop [3,31] (λlv i=>∃(k:Nat) (y:Int),k<=kids.length/\i= .int .i64 k/\lv= .int .i64 y/\y=xu (λx=>x) (-1) (kids.take k)/\gU KB iM (kids.take k)=true) (λ_ i=>kids.length - (intOf i).toNat)
  case atStart=>exact⟨0,-1,Nat.zero_le _,rfl,rfl,rfl,rfl⟩
  case round=>
   obtain⟨k,y,hk,rfl,rfl,hy,hall⟩:=hrel;have kS:=Hq hall;have HY:=Hq hy;clear hall hy;by_cases hlt:k < kids.length
   case' neg=>
    have hke:k=kids.length:=Aaa
    subst hke;have hnlt:decide ((kids.length:Int) < (kids.length:Int))=false:=Aac
    have HF:Hid (TT=true):=by
     exact Vi
    go_wp2_with fail;go_ret;exact⟨aF HF.symm,nC⟩
   obtain⟨g,off,rfl,hgw,q0⟩:=bX.one (GR.At.below HA nC) k hlt;have HBAD:Hid (gU KB iM (kids.take (k+1))=false->TT=false):=λh=>nS.trans (wT _ h)
   have iH:Hid (gU KB iM (kids.take (k+1))=(KB kids[k]&&decide (y < kids[k]))):=by
    exact ahJ
   have Dq:=Hq (yI k hlt);have CR:=Hq (UF kids[k]);clear jy yI wT UF;generalize kids[k]=x at *;cases h1:tY x
   case' false=>
    have H1:=Hq (λw1=>isNode x false w1 h1);have HV:=Hq (HBAD (by rw [ah iH,ah CR];simp[h1]));clear HBAD iH CR h1;exact adX
   have H1:=Hq (λw1=>isNode x true w1 h1);by_cases h2:y < x
   case' neg=>
    have hb2:decide (x<=y)=true:=decide_eq_true Aaa;have HV:=Hq (HBAD (by rw [ah iH,ah CR];simp[h2]));clear HBAD iH CR h1;exact adX
   have hb2:decide (x<=y)=false:=decide_eq_false Aaa;by_cases h3:x=id
   case' pos=>
    have hb3:(x == id)=true:=by simp[h3]
    have HV:=Hq (HBAD (by rw [ah iH,ah CR];simp[h3]));clear HBAD iH CR h1 h3;exact adX
   have hb3:(x == id)=false:=by simp[h3]
   by_cases h4:x=par
   case' pos=>
    have hb4:(x == par)=true:=by simp[h4]
    have HV:=Hq (HBAD (by rw [ah iH,ah CR];simp[h4]));clear HBAD iH CR h1 h4;exact adX
   have hb4:(x == par)=false:=by simp[h4]
   have HV:=Hq (show gU KB iM (kids.take (k+1))=true by rw [ah iH,ah CR];simp[h1,h2,h3,h4]);clear HBAD iH CR h1;go_wp2_with (go_at_call 201;refine(H1 _).mono ?_;rintro e w1 ⟨rfl,rfl⟩)
   exact aia):P:=h
theorem aoB.AaM(h:P:=by
 dsimp only at hlo HD wT jy yI HLB UF jN ⊢;generalize (λs t:Rq=>iM s.no t.no)=RR at *;cases h1:qw old
 case' false=>
  have HP:=Hq (show TT=false by rw [ah HD,h1];rfl);have H1:=Hq (λw1=>jW old false w1 h1);exact ahR
 have H1:=Hq (λw1=>jW old true w1 h1);have hold:0<=old/\old<=1000000000:=of_decide_eq_true h1;obtain⟨ho1,ho2⟩:=hold;by_cases h0:reqs.length<=30
 case' neg=>
  have HP:=Hq (show TT=false by rw [ah HD,decide_eq_false h0];simp);have hb0:decide ((30:Int) < reqs.length)=true:=decide_eq_true Aaa;exact ahR
 have hb0:decide ((30:Int) < reqs.length)=false:=decide_eq_false Aaa;have nS:Hid (TT=gU KB RR reqs):=by rw [ah HD,h1,decide_eq_true h0];rfl
 clear HD h1;go_in
 go_wp2_with (go_at_call 207;refine(H1 _).mono ?_;rintro e w9 ⟨rfl,rfl⟩)
 go_loopw [3,21] (λlv i wr=>∃(k:Nat) (y:Int),k<=reqs.length/\i= .int .i64 k/\lv= .int .i64 y/\y=xu (λs=>s.no) old (reqs.take k)/\gU KB RR (reqs.take k)=true/\wr.heap[w.heap.size]?=some (.cells (dG ⟨id,par,kids,next,pu,out,seen,old,reqs⟩ ⟨ak,ap,ao,as',ar,ck,cp,co,cs,cr⟩) 40 (0,0))/\aI w wr) (λ_ i _=>reqs.length - (intOf i).toNat)
 case atStart=>exact⟨0,old,Nat.zero_le _,rfl,rfl,rfl,rfl,jN,ay w _⟩
 case round=>
  open auA in exact agC):P:=h
theorem aoC.AaM(h:P:=by
 dsimp only at hlo HD wT jy yI HLB UF Ra jN ⊢;generalize (λs t:jK=>iM s.i t.i)=RR at *;by_cases h0:out.length<=40
 case' neg=>
  have HP:=Hq (show TT=false by rw [ah HD,decide_eq_false h0];rfl);have hb0:decide ((40:Int) < out.length)=true:=decide_eq_true Aaa;go_in
  go_wp2_with fail;exact wM
 have hb0:decide ((40:Int) < out.length)=false:=decide_eq_false Aaa;have nS:Hid (TT=gU KB RR out):=by rw [ah HD,decide_eq_true h0];rfl
 clear HD;go_in
 go_wp2_with fail;go_loopw [3,13] (λlv i wr=>∃(k:Nat) (y:Int),k<=out.length/\i= .int .i64 k/\lv= .int .i64 y/\y=xu (λs=>s.i) 0 (out.take k)/\gU KB RR (out.take k)=true/\wr.heap[w.heap.size]?=some (.cells (dG ⟨id,par,kids,next,pu,out,seen,old,reqs⟩ ⟨ak,ap,ao,as',ar,ck,cp,co,cs,cr⟩) 40 (0,0))/\aI w wr) (λ_ i _=>out.length - (intOf i).toNat)
 case atStart=>exact⟨0,0,Nat.zero_le _,rfl,rfl,rfl,rfl,jN,ay w _⟩
 case round=>
  open auz in exact agC):P:=h
theorem aoD.AaM(h:P:=by
 dsimp only at hl HC jN Rp ⊢;clear ha;go_in
 go_wp2_with fail;refine HC.mono ?_;rintro e w1 ⟨v,rfl,hown,hb1⟩;have HB1:=Hq ((ay w _).trans (hb1.mono Aac));have Kh:=Hq (GR.own_lower (b':=w.heap.size) hown Aac);obtain⟨c0,c1,_⟩:=nine (au jN hb1);clear hown hb1 HC;go_upto_if 9 with fail;go_cut [3] (λr wx=>wx.ownsRow w.heap.size 3 1 r NB.length (GR.flat aU NB)/\aI w wx)
 case first=>
  by_cases hp:par= -1
  .have hb:(par != -1)=false:=by simp[hp]
   have HE:=Hq (Rp.1 hp);clear hp;go_wp2_with fail;go_meet
   case rel=>exact⟨by rw [ah HE];exact Kh,HB1⟩
  .have hb:(par != -1)=true:=by simp[hp]
   have HE:=Hq (Rp.2 hp);clear hp;have ho:=ah Kh;go_wp2_with (at_builtin;refine wpList_append_own _ rfl _ _ 22 rfl w.heap.size 3 i0 (.int .i64 0) 1 8 underlying22 hi hz0 hz1 hz2 rfl Aae _ _ _ rfl (ho.alloc _) ⟨w1.heap.size,0,none⟩ 1 1 [.int .i64 par] rfl rfl ?c1 ?c2 ?c3 ?c4 ?c5 ?_)
   case c1=>exact cell_one_new _ _ _
   case c2=>intro u hu;simp at hu;subst hu;rfl
   case c3=>unfold maxLen;omega
   case c4=>omega
   case c5=>have:=HB1.size;simp;omega
   intro v' w6 hown' hgrow _;have yH:=Hq (GR.below_append HB1 HB1.size ho hgrow)
   have HO6:Hid (w6.ownsRow w.heap.size 3 1 v' NB.length (GR.flat aU NB)):=by
    rw [ah HE,GR.flat_append,List.length_append];exact hown'
   clear hgrow ho hown';go_wp2_with fail;go_meet
   case rel=>exact⟨HO6,yH⟩
 case rest=>
  obtain⟨ho,hb⟩:=hcut;have HS:=Hq (ae1 w.heap.size _ NB wc hln hb.size ho);have HB2:=Hq hb;clear ho hb c0 c1;go_wp2_with fail;refine HS.mono ?_;rintro e w3 ⟨rfl,ho3,hb3⟩;have I8:=Hq ho3;have HB3:=Hq (HB2.trans hb3);clear ho3 hb3;go_wp2_with fail;go_ret;exact⟨_,rfl,I8,HB3⟩):P:=h
theorem aoE.AaM(h:P:=by
 dsimp only at Nw HPU HOT HSE HRE HD jN ⊢;go_in
 go_upto_region 1 with fail;open apN in exact ajG):P:=h
theorem aoF.AaM(h:P:=by
 dsimp only at hls HA HD HSK Rp jN ⊢;go_in
 go_wp2_with fail;refine Rp.mono ?_;rintro e w1 ⟨v,rfl,hown,hb1⟩;have HB1:=Hq ((ay w _).trans (hb1.mono Aac));have Av:=Hq (au jN hb1);have hFL:=ah yI;subst hFL;obtain⟨fa,fc,rfl,hF⟩:=GR.own_at (enc:=aU) (sz:=1) aQ hown;have HF:=Hq hF;obtain⟨c0,c1,c2,c3,c4,c5,c6,c7,c8⟩:=nine Av;clear hown hb1 Rp jN yI hF;by_cases hlen:seen.length=F.length
 case' neg=>
  have hbn:((seen.length:Int) != (F.length:Int))=true:=Aag
  have HP:=Hq (show TT=false by
   rw [ah HD,decide_eq_false (show¬seen.map (·.f)=F from λh=>hlen (by rw [<-h,List.length_map]))]
   rfl)
  clear HD;go_wp2_with fail;go_ret;exact⟨aF HP.symm,HB1⟩
 have hbn:((seen.length:Int) != (F.length:Int))=false:=Aag
 have Dq:=Hq hlen;clear hlen;go_wp2_with fail;go_loopw [17] (λi wr=>∃k:Nat,k<=seen.length/\i= .int .i64 k/\(seen.take k).map (·.f)=F.take k/\(seen.take k).all uU=true/\aI w1 wr) (λi _=>seen.length - (intOf i).toNat)
 case atStart=>exact⟨0,Nat.zero_le _,rfl,rfl,rfl,Below.refl _ _⟩
 case round=>
  obtain⟨k,hk,rfl,hm,hall,hbx⟩:=hrel;have HM:=Hq hm;have kS:=Hq hall;have jN:=Hq hbx;have Gc:=Hq (au Av hbx);have cK:=Hq (HB1.trans (hbx.mono HB1.size));clear hm hall hbx;by_cases hlt:k < seen.length
  case' neg=>
   have hke:k=seen.length:=Aaa
   subst hke;have hnlt:decide ((seen.length:Int) < (seen.length:Int))=false:=Aac
   have HP:=Hq (show TT=true by
    have h1:=ah HM
    have h2:=ah kS
    rw [List.take_length] at h1 h2
    rw [ah Dq,List.take_length] at h1
    rw [ah HD,decide_eq_true h1,h2]
    rfl)
   go_wp2_with fail;go_ret;exact⟨aF HP.symm,cK⟩
  have aBX:k < F.length:=by rw [<-ah Dq];exact hlt
  obtain⟨g,off,b,c,e0,hgw,q0,q1,q2,hI⟩:=gZ.below (dw.s HA) cK k hlt;obtain⟨g2,off2,e2,akq,p0⟩:=bX.one (GR.At.below HF jN) k aBX;(try dsimp only at e0 q0 q1 q2 hI)
  subst e0 e2;have GK:=ah HSK _ (List.getElem_mem hlt);have HI:=Hq hI;have HST:=Hq (λh3 h4=>XZ hlt Dq.symm HM kS h3 h4);have AP:=Hq (λh3=>XW (F:=F) hlt Dq.symm h3);have YF:=Hq (λh4=>XY hlt h4);clear hI;generalize seen[k]=sk at *;generalize F[k]=y at *;obtain⟨fr,lo,ids⟩:=sk;dsimp only at q0 q1 q2 HI GK HST AP YF;go_upto_region 7 with fail;open au5 in exact agN):P:=h
theorem aoG.AaM(h:P:=by
 dsimp only at HK HP HO HS HR HQ jN hkl ⊢;go_in
 go_wp2_with fail;refine(HK _ _ Aaa Aaa).mono ?_;rintro e w0 ⟨rfl,rfl⟩;have nC:=Hq (ay w (.cells (dG ⟨id,par,kids,next,pu,out,seen,old,reqs⟩ ⟨ak,ap,ao,as',ar,ck,cp,co,cs,cr⟩) 28));have HB0:=Hq jN;obtain⟨z0,hz0⟩:∃zz:Int,(if (kids.length:Int)<=z then z - (kids.length:Int) else -1)=zz:=⟨_,rfl⟩;rw [hz0];by_cases hk:(kids.length:Int)<=z
 case' neg=>
  rw [if_neg hk] at hz0;subst hz0;go_wp2_with fail;go_ret;exact⟨-1,rfl,nC,.inl rfl⟩
 rw [if_pos hk] at hz0;have q0:0<=z0:=Aaa
 have q1:z0<=1048576:=Aaa
 have q2:decide (z0 < 0)=false:=decide_eq_false Aaa;clear hz0 jN;obtain⟨c0,c1,c2,c3,c4,c5,c6,c7,c8⟩:=nine HB0;go_wp2_with fail;refine(HP _ _ nC Aaa Aaa).mono ?_;rintro e w1 ⟨z1,rfl,hb1,hcase⟩;have HB1:=Hq (au HB0 hb1);have qU:=Hq (nC.trans (hb1.mono nC.size));clear hb1 c0 c1 c2 c3 c4 c5 c6 c7 c8;obtain⟨c0,c1,c2,c3,c4,c5,c6,c7,c8⟩:=nine HB1;rcases hcase with rfl|⟨p0,p1,p2,p3⟩
 case' inl=>
  go_wp2_with fail;go_ret;exact⟨-1,rfl,qU,.inl rfl⟩
 have K1:=Hq (And.intro p2 p3);have q3:decide (z1 < 0)=false:=decide_eq_false Aaa;clear p2 p3;go_wp2_with fail;refine(HO _ _ qU Aaa Aaa).mono ?_;rintro e w2 ⟨z2,rfl,hb1,hcase⟩;have HB2:=Hq (au HB1 hb1);have HL2:=Hq (qU.trans (hb1.mono qU.size));clear hb1 c0 c1 c2 c3 c4 c5 c6 c7 c8;obtain⟨c0,c1,c2,c3,c4,c5,c6,c7,c8⟩:=nine HB2;rcases hcase with rfl|⟨p0,p1,p2,p3⟩
 case' inl=>
  go_wp2_with fail;go_ret;exact⟨-1,rfl,HL2,.inl rfl⟩
 have K2:=Hq (And.intro p2 p3);have q4:decide (z2 < 0)=false:=decide_eq_false Aaa;clear p2 p3;go_wp2_with fail;refine(HS _ _ HL2 Aaa Aaa).mono ?_;rintro e w3 ⟨z3,rfl,hb1,hcase⟩;have HB3:=Hq (au HB2 hb1);have qz:=Hq (HL2.trans (hb1.mono HL2.size));clear hb1 c0 c1 c2 c3 c4 c5 c6 c7 c8;obtain⟨c0,c1,c2,c3,c4,c5,c6,c7,c8⟩:=nine HB3;rcases hcase with rfl|⟨p0,p1,p2,p3⟩
 case' inl=>
  go_wp2_with fail;go_ret;exact⟨-1,rfl,qz,.inl rfl⟩
 have K3:=Hq (And.intro p2 p3);have q5:decide (z3 < 0)=false:=decide_eq_false Aaa;clear p2 p3;go_wp2_with fail;refine(HR _ _ qz Aaa Aaa).mono ?_;rintro e w4 ⟨z4,rfl,hb1,hcase⟩;have nR:=Hq (au HB3 hb1);have Gf:=Hq (qz.trans (hb1.mono qz.size));clear hb1 c0 c1 c2 c3 c4 c5 c6 c7 c8;obtain⟨c0,c1,c2,c3,c4,c5,c6,c7,c8⟩:=nine nR;rcases hcase with rfl|⟨p0,p1,p2,p3⟩
 case' inl=>
  go_wp2_with fail;go_ret;exact⟨-1,rfl,Gf,.inl rfl⟩
 have K4:=Hq (And.intro p2 p3);have q6:decide (z4 < 0)=false:=decide_eq_false Aaa;clear p2 p3;go_wp2_with fail;go_ret;exact⟨z4,rfl,Gf,.inr ⟨p0,p1,HQ Aaa K1 K2 K3 K4⟩⟩):P:=h
theorem ajz(h:P:=by
 clear iH HBM;go_wp2_with fail;refine wp_region_quiet_lit Aab Aab ?_;repeat (first|go_big_quiet_step ((first|(go_at_call 18;exact qIn _ _ _ _ h1 _ _)))|quiet_step ((first|(go_at_call 18;exact qIn _ _ _ _ h1 _ _))))
 refine wpQuiet_nil ?_;intro _ hw';obtain⟨nq,hw''⟩:=hw';subst hw'';go_wp2_with fail;exact AcD):P:=h
theorem aoH.AcD(h:P:=by
 go_roundw
 case rel=>exact⟨j+1+1,Aaa,Aah,HV,jN.trans ⟨rfl,rfl,rfl,Nat.le_refl _,λ_ _=>rfl⟩⟩
 case measure=>simp[intOf];omega):P:=h
theorem aoI.AcD(h:P:=by
 go_roundw
 case rel=>exact⟨0+1,Aaa,Aah,HV,jN.trans ⟨rfl,rfl,rfl,Nat.le_refl _,λ_ _=>rfl⟩⟩
 case measure=>simp[intOf];omega):P:=h
theorem aoJ.AcD(h:P:=by
 go_ret;exact⟨aF HV.symm,HL9.trans ⟨rfl,rfl,rfl,Nat.le_refl _,λ_ _=>rfl⟩⟩):P:=h
theorem awm(h:P:=by
 go_in
 go_upto_region 1 with fail;refine Fo.wp_at (λV hV=>?_);have hbV:aI w V:=by rw [hV];exact dS w _
 have hblk:V.heap[w.heap.size]?=some (.cells #[.int .i64 dm,.int .i64 df,.int .i64 ds] 258 (0,0)):=by rw [hV];exact heap_alloc_new w _
 have hlt:=Fo.lt_of_blk hblk;have c0:V.cell? ⟨w.heap.size,0,none⟩=some (.int .i64 dm):=by rw [cell_of_row V _ _ _ _ (0,0) hblk];rfl
 have c1:V.cell? ⟨w.heap.size,1,none⟩=some (.int .i64 df):=by rw [cell_of_row V _ _ _ _ (0,0) hblk];rfl
 have c2:V.cell? ⟨w.heap.size,2,none⟩=some (.int .i64 ds):=by rw [cell_of_row V _ _ _ _ (0,0) hblk];rfl
 have vU:=Hq hbV;clear hblk hV hbV;exact AeR):P:=h
theorem aoK.AeR(h:P:=by
 go_cut [9,10] (λp9 nT wx=>∃pb:Nat,p9= .pointer (some ⟨pb,0,none⟩)/\nT= .nilIface/\aI w wx/\wx.heap[pb]?=some (.cells (iW pk qm qf qs) 108 (0,0))/\w.heap.size<=pb)
 case first=>
  have hnV:w.heap.size≠V.heap.size:=Aaa
  have hmV:V.heap.size≠w.heap.size:=Aaa
  go_region_held (λw'=>w'.cell? ⟨w.heap.size,0,none⟩=some (.int .i64 dm)/\w'.cell? ⟨w.heap.size,1,none⟩=some (.int .i64 df)/\w'.cell? ⟨w.heap.size,2,none⟩=some (.int .i64 ds)) (go_keep)
   (first
    |((go_at_call 302);(refine(Nq _ (by exact vU.trans (by exact⟨rfl,rfl,rfl,Aac,λk hk=>by first|rfl|exact Below.heap_alloc _ _ _ Aaa⟩))).mono ?_);(rintro e w4 ⟨rfl,hb4⟩);(have hs4:=hb4.size);(simp at hs4);(have nR:=Hq (vU.trans (Below.trans (b:=_) (by exact⟨rfl,rfl,rfl,Aac,λk hk=>by first|rfl|exact Below.heap_alloc _ _ _ Aaa⟩) (hb4.mono (by first|omega|(simp<;>omega))))));(obtain⟨hc4,hf4⟩:=BX hb4);(have d0:w4.cell? ⟨w.heap.size,0,none⟩=some (.int .i64 dm):=by rw [hc4 _ _ (by first|omega|(simp<;>omega))];first|exact c0|exact(World.cell?_alloc_lt _ _ _ hlt).trans c0);(have d1:w4.cell? ⟨w.heap.size,1,none⟩=some (.int .i64 df):=by rw [hc4 _ _ (by first|omega|(simp<;>omega))];first|exact c1|exact(World.cell?_alloc_lt _ _ _ hlt).trans c1);(have d2:w4.cell? ⟨w.heap.size,2,none⟩=some (.int .i64 ds):=by rw [hc4 _ _ (by first|omega|(simp<;>omega))];first|exact c2|exact(World.cell?_alloc_lt _ _ _ hlt).trans c2);(first|(guard_hyp hs4:V.heap.size+1<=w4.heap.size;obtain⟨⟨z0,z1,z2,z3⟩,x0,x1,x2,x3⟩:=fT (Fo.one_block (show Below (V.alloc (.cells (iW ⟨#[]⟩ 0 0 0) 108)).heap.size (V.alloc (.cells (iW ⟨#[]⟩ 0 0 0) 108)) w4 from⟨hb4.os,hb4.tape,hb4.output,hb4.size,hb4.block⟩)).1;have xU:V.heap.size < w4.heap.size:=World.block_lt_of_cell? _ _ z0;have HZ:=Hq (Fo.one_block (show Below (V.alloc (.cells (iW ⟨#[]⟩ 0 0 0) 108)).heap.size (V.alloc (.cells (iW ⟨#[]⟩ 0 0 0) 108)) w4 from⟨hb4.os,hb4.tape,hb4.output,hb4.size,hb4.block⟩)).1)|skip);(have SL:w.heap.size < w4.heap.size:=by omega);(have hn4:w.heap.size≠w4.heap.size:=by omega);(have hm4:w4.heap.size≠w.heap.size:=by omega);(clear hb4 hc4 hf4))
    |((go_at_call 303);(refine(HSH _ (by exact nR.trans (by exact⟨rfl,rfl,rfl,Aac,λk hk=>by first|rfl|exact Below.heap_alloc _ _ _ Aaa⟩))).mono ?_);(rintro e w5 ⟨rfl,hb5⟩);(have hs5:=hb5.size);(try simp at hs5);(have gY:=Hq (nR.trans (Below.trans (b:=_) (by exact⟨rfl,rfl,rfl,Aac,λk hk=>by first|rfl|exact Below.heap_alloc _ _ _ Aaa⟩) (hb5.mono (by first|omega|(simp<;>omega))))));(obtain⟨Ew,WY⟩:=BX hb5);(have e0:w5.cell? ⟨w.heap.size,0,none⟩=some (.int .i64 dm):=by rw [Ew _ _ (by first|omega|(simp<;>omega))];first|exact d0|exact(World.cell?_alloc_lt _ _ _ SL).trans d0);(have e1:w5.cell? ⟨w.heap.size,1,none⟩=some (.int .i64 df):=by rw [Ew _ _ (by first|omega|(simp<;>omega))];first|exact d1|exact(World.cell?_alloc_lt _ _ _ SL).trans d1);(have e2:w5.cell? ⟨w.heap.size,2,none⟩=some (.int .i64 ds):=by rw [Ew _ _ (by first|omega|(simp<;>omega))];first|exact d2|exact(World.cell?_alloc_lt _ _ _ SL).trans d2);(first|(guard_hyp xU:V.heap.size < w4.heap.size;have HY:=Hq ((hb5.block _ xU).trans HZ);have y0:=(Ew _ 0 xU).trans z0;have y1:=(Ew _ 1 xU).trans z1;have y2:=(Ew _ 2 xU).trans z2;have y3:=(Ew _ 3 xU).trans z3;have v0:=(WY _ 0 xU).trans x0;have v1:=(WY _ 1 xU).trans x1;have v2:=(WY _ 2 xU).trans x2;have v3:=(WY _ 3 xU).trans x3)|(guard_hyp hs5:w4.heap.size+1<=w5.heap.size;have HY:=Hq (Fo.one_block hb5).1;obtain⟨⟨y0,y1,y2,y3⟩,v0,v1,v2,v3⟩:=fT (Fo.one_block hb5).1)|skip);(have aBW:w.heap.size < w5.heap.size:=by omega);(have hn5:w.heap.size≠w5.heap.size:=by omega);(have hm5:w5.heap.size≠w.heap.size:=by omega);(clear hb5 Ew WY)))
  all_goals
   go_wp2_with fail
   go_meet
   case rel=>
    first
     |exact⟨_,rfl,rfl,Fo.four_below gY Aaa,Fo.four_set HY,Aaa⟩
     |exact⟨_,rfl,rfl,gY.alloc gY.size _,heap_alloc_new w5 _,Aaa⟩
 case rest=>
  obtain⟨pb,rfl,rfl,hbx,hpb,hge⟩:=hcut;obtain⟨⟨p0,p1,p2,p3⟩,_⟩:=fT hpb;have aln:=Hq (adj _ hbx);have jN:=Hq hbx;have Kj:=Hq hpb;have aBY:=Fo.lt_of_blk hpb
  have HNE:=Hq (show pb≠mp/\v.ownBlock≠some pb from⟨λe=>by
   have:=(HPM _ hbx).blk
   rw [<-e,hpb] at this
   injection this with this
   injection this with h1 h2 h3
   exact absurd h2 Aae,own_ne (HPM _ hbx).row hpb Aae⟩)
  clear hbx hpb adj Nq HSH vU c0 c1 c2 hlt;go_wp2_with fail;refine aln.mono ?_;rintro e w6 ⟨hb6,ayf,hcase⟩;have yH:=Hq (Below.trans (jN.mono hB) hb6);have akx:=(ayf pb aBY HNE.1 HNE.2).trans Kj;clear ayf hb6 p0 p1 p2 p3 aln;rcases hcase with⟨hf,rfl,Gi⟩|⟨hf,h20,rfl⟩|⟨hf,h20,rfl,v',Gi⟩
  .rw [ah sZ hf] at Gi;open ap0 in exact awH
  .have HF:=Hq hf;have H20:=Hq h20;clear hf h20 akx;go_wp2_with fail;go_ret;exact⟨yH,.inl ⟨HF,H20,rfl⟩⟩
  .rw [ah HKN hf] at Gi;open apZ in exact awH):P:=h
theorem aoL.AeR(h:P:=by
 have hnV:w.heap.size≠V.heap.size:=Aaa
 have hmV:V.heap.size≠w.heap.size:=Aaa
 go_region_held (λw'=>w'.cell? ⟨w.heap.size,0,none⟩=some (.int .i64 dm)/\w'.cell? ⟨w.heap.size,1,none⟩=some (.int .i64 df)/\w'.cell? ⟨w.heap.size,2,none⟩=some (.int .i64 ds)) (go_keep)
  (first
   |((go_at_call 302);(refine(Nq _ (by exact vU.trans (by exact⟨rfl,rfl,rfl,Aac,λk hk=>by first|rfl|exact Below.heap_alloc _ _ _ Aaa⟩))).mono ?_);(rintro e w4 ⟨rfl,hb4⟩);(have hs4:=hb4.size);(simp at hs4);(have nR:=Hq (vU.trans (Below.trans (b:=_) (by exact⟨rfl,rfl,rfl,Aac,λk hk=>by first|rfl|exact Below.heap_alloc _ _ _ Aaa⟩) (hb4.mono (by first|omega|(simp<;>omega))))));(obtain⟨hc4,hf4⟩:=BX hb4);(have d0:w4.cell? ⟨w.heap.size,0,none⟩=some (.int .i64 dm):=by rw [hc4 _ _ (by first|omega|(simp<;>omega))];first|exact c0|exact(World.cell?_alloc_lt _ _ _ hlt).trans c0);(have d1:w4.cell? ⟨w.heap.size,1,none⟩=some (.int .i64 df):=by rw [hc4 _ _ (by first|omega|(simp<;>omega))];first|exact c1|exact(World.cell?_alloc_lt _ _ _ hlt).trans c1);(have d2:w4.cell? ⟨w.heap.size,2,none⟩=some (.int .i64 ds):=by rw [hc4 _ _ (by first|omega|(simp<;>omega))];first|exact c2|exact(World.cell?_alloc_lt _ _ _ hlt).trans c2);(first|(guard_hyp hs4:V.heap.size+1<=w4.heap.size;obtain⟨⟨z0,z1,z2,z3⟩,x0,x1,x2,x3⟩:=fT (Fo.one_block (show Below (V.alloc (.cells (iW ⟨#[]⟩ 0 0 0) 108)).heap.size (V.alloc (.cells (iW ⟨#[]⟩ 0 0 0) 108)) w4 from⟨hb4.os,hb4.tape,hb4.output,hb4.size,hb4.block⟩)).1;have xU:V.heap.size < w4.heap.size:=World.block_lt_of_cell? _ _ z0)|skip);(have SL:w.heap.size < w4.heap.size:=by omega);(have hn4:w.heap.size≠w4.heap.size:=by omega);(have hm4:w4.heap.size≠w.heap.size:=by omega);(clear hb4 hc4 hf4))
   |((go_at_call 303);(refine(HSH _ (by exact nR.trans (by exact⟨rfl,rfl,rfl,Aac,λk hk=>by first|rfl|exact Below.heap_alloc _ _ _ Aaa⟩))).mono ?_);(rintro e w5 ⟨ix,hix,rfl,hb5⟩);(have hs5:=hb5.size);(try simp at hs5);(have gY:=Hq (nR.trans (Below.trans (b:=_) (by exact⟨rfl,rfl,rfl,Aac,λk hk=>by first|rfl|exact Below.heap_alloc _ _ _ Aaa⟩) (hb5.mono (by first|omega|(simp<;>omega))))));(obtain⟨Ew,WY⟩:=BX hb5);(have e0:w5.cell? ⟨w.heap.size,0,none⟩=some (.int .i64 dm):=by rw [Ew _ _ (by first|omega|(simp<;>omega))];first|exact d0|exact(World.cell?_alloc_lt _ _ _ SL).trans d0);(have e1:w5.cell? ⟨w.heap.size,1,none⟩=some (.int .i64 df):=by rw [Ew _ _ (by first|omega|(simp<;>omega))];first|exact d1|exact(World.cell?_alloc_lt _ _ _ SL).trans d1);(have e2:w5.cell? ⟨w.heap.size,2,none⟩=some (.int .i64 ds):=by rw [Ew _ _ (by first|omega|(simp<;>omega))];first|exact d2|exact(World.cell?_alloc_lt _ _ _ SL).trans d2);(first|(guard_hyp xU:V.heap.size < w4.heap.size;have y0:=(Ew _ 0 xU).trans z0;have y1:=(Ew _ 1 xU).trans z1;have y2:=(Ew _ 2 xU).trans z2;have y3:=(Ew _ 3 xU).trans z3;have v0:=(WY _ 0 xU).trans x0;have v1:=(WY _ 1 xU).trans x1;have v2:=(WY _ 2 xU).trans x2;have v3:=(WY _ 3 xU).trans x3)|(guard_hyp hs5:w4.heap.size+1<=w5.heap.size;obtain⟨⟨y0,y1,y2,y3⟩,v0,v1,v2,v3⟩:=fT (Fo.one_block hb5).1)|skip);(have aBW:w.heap.size < w5.heap.size:=by omega);(have hn5:w.heap.size≠w5.heap.size:=by omega);(have hm5:w5.heap.size≠w.heap.size:=by omega);(clear hb5 Ew WY)))
 all_goals
  go_wp2_with fail
  go_ret
  refine⟨ix,hix,rfl,?_⟩
  first|exact gY.alloc gY.size _|exact Fo.four_below gY Aaa):P:=h
theorem ajA(h:P:=by
 refine wp_region_quiet_below Aab Aab ?_;repeat (first|go_big_quiet_step (first|exact cO _ _|exact cM _ _)|quiet_step (first|exact cO _ _|exact cM _ _))
 refine wpQuiet_nil ?_;intro _ hw';obtain⟨⟨dq,osq⟩,hw''⟩:=hw';subst hw'';have fG:=Hq (vU.trans ((below_regrown _ dq osq).mono vU.size));clear cO cM y0 y1 y2 y3 y4 y5 y6;exact Ab2):P:=h
theorem aoM.Ab2(h:P:=by
 exact Kk5):P:=h
theorem aoN.Ab2(h:P:=by
 exact Kk9):P:=h
theorem aoO.Ab2(h:P:=by
 go_wp2_with fail;exact bodyPost_ret (v:= .tuple #[vZ ⟨1,F,T,I,L,k,N⟩,.bool true]) Aax rfl ⟨Aav,fG⟩):P:=h
theorem awn(h:P:=by
 rw [<-hW] at e1 e2 e3 e4;have HN:=Hq e1;have HM:=Hq e2;have HR:=Hq e3;have HB0:=Hq e4;have M7:=Hq (l7.kc (k:=9) (KC.of_below e4) Aaa);clear hW e1 e2 e3 e4 l7;obtain⟨m0,m1,m2,m3,m4,m5,m6⟩:=jD HM;have hml:=aA HM;have hnl:=aA HN;go_wp2_with fail;refine(Zd W0).mono ?_;rintro e W1 ⟨rfl,hb1⟩;have kD:=Hq (au HN hb1);have Ns:=Hq (au HM hb1);have oW:=Hq (au HR hb1);have HB1:=Hq (HB0.trans (hb1.mono HB0.size));have yM:=Hq (M7.kc (k:=9) (KC.of_below hb1) Aaa);clear hb1 HM HR HN HB0 M7;clear m0 m1 m2 m3 m4 m5 m6 hml hnl Zd;obtain⟨m0,m1,m2,m3,m4,m5,m6⟩:=jD Ns;exact AdS):P:=h
theorem aoP.AdS(h:P:=by
 have hml:=aA Ns;have uO:=Hq (au oW (ay W1 (.cells #[] 98)));have M8:=Hq (yM.kc (k:=9) (KC.of_below (ay W1 (.cells #[] 98))) Aaa);have uS:=Hq (HB1.trans ((ay W1 (.cells #[] 98)).mono HB1.size));obtain⟨c0,c1,c2,c3,c4,c5,c6,c7,c8⟩:=nine kD;open amT in exact Wo):P:=h
theorem aoQ.AdS(h:P:=by
 obtain⟨c0,c1,c2,c3,c4,c5,c6,c7,c8⟩:=nine kD;have hml:=aA Ns;have hnl:=aA kD;go_wp2_with fail;refine(Ra W1 yM.at.k).mono ?_;rintro e W2 ⟨rfl,hb2⟩;have jO:=Hq (au kD hb2);have yL:=Hq (au Ns hb2);have jA:=Hq (au oW hb2);have HB2:=Hq (HB1.trans (hb2.mono HB1.size));have Kg:=Hq (yM.kc (k:=9) (KC.of_below hb2) Aaa);clear hb2 Ns oW kD HB1 yM;clear m0 m1 m2 m3 m4 m5 m6 c0 c1 c2 c3 c4 c5 c6 c7 c8 hml hnl Ra;obtain⟨m0,m1,m2,m3,m4,m5,m6⟩:=jD yL;exact Kk3):P:=h
theorem awo(h:P:=by
 have YD:=Hq (au yO hbw);have HR3:=Hq (au HR1 hbw);have I8:=Hq (au Kh hbw);have HB3:=Hq (HB1.trans (hbw.mono HB1.size));clear hW3 hbw c0 c1 c2 c3 c4 c5 c6 c7 c8 d0 d1 d2 d3;obtain⟨c0,c1,c2,c3,c4,c5,c6,c7,c8⟩:=nine YD;obtain⟨d0,d1,d2,d3⟩:=iE HR3;obtain⟨r0,r1,r2,r3,r4,r5,r6⟩:=jD I8;have f0:=aj I8 0;have f1:=aj I8 1;have f2:=aj I8 2;have f3:=aj I8 3;have f4:=aj I8 4;have f5:=aj I8 5;have f6:=aj I8 6;go_wp2_with fail;refine aO (λW' hW'=>?_);exact AcV):P:=h
theorem aoR.AcV(h:P:=by
 have hR:=yF (b0:= .int .i64 1) (b1:= .int .i64 id) (b2:= .int .i64 st) (b3:= .int .i64 LO) (b4:= .int .i64 LO) (b5:= .string sx) (b6:= .int .i64 sn) I8;have hK:=uy (w:=W3) (g:=w.heap.size+1+1) (b0:= .int .i64 1) (b1:= .int .i64 id) (b2:= .int .i64 st) (b3:= .int .i64 LO) (b4:= .int .i64 LO) (b5:= .string sx) (b6:= .int .i64 sn);rw [<-hW'] at hR hK;obtain⟨x0,x1,x2,x3,x4,x5,x6⟩:=jD hR;refine bodyPost_ret (v:= .agg (bV 1 id st LO LO sx sn)) Adi rfl ⟨rfl,HB3.trans (hK.below (λx hx=>by have:x=w.heap.size+1+1:=Aaf;omega) HB3.size)⟩):P:=h
theorem aoS.AcV(h:P:=by
 have hR:=yF (b0:= .int .i64 1) (b1:= .int .i64 id) (b2:= .int .i64 st) (b3:= .int .i64 si) (b4:= .int .i64 LO) (b5:= .string sx) (b6:= .int .i64 sn) I8;have hK:=uy (w:=W3) (g:=w.heap.size+1+1) (b0:= .int .i64 1) (b1:= .int .i64 id) (b2:= .int .i64 st) (b3:= .int .i64 si) (b4:= .int .i64 LO) (b5:= .string sx) (b6:= .int .i64 sn);rw [<-hW'] at hR hK;obtain⟨x0,x1,x2,x3,x4,x5,x6⟩:=jD hR;refine bodyPost_ret (v:= .agg (bV 1 id st si LO sx sn)) Adi rfl ⟨rfl,HB3.trans (hK.below (λx hx=>by have:x=w.heap.size+1+1:=Aaf;omega) HB3.size)⟩):P:=h
theorem awp(h:P:=by
 cases h1:NN fr
 case' false=>
  have cN:=ah Ra fr false W1 HKI h1
  have HV:=Hq (show bb=true by rw [<-ah eT];simp[h1])
  clear eT
  refine wp_region_quiet_below Aab Aab ?_
  repeat (first|go_big_quiet_step ((first|(go_at_call 51;exact cN _ _)|(go_at_call 49;exact cS _ _)))|quiet_step ((first|(go_at_call 51;exact cN _ _)|(go_at_call 49;exact cS _ _))))
  refine wpQuiet_nil ?_
  intro _ hw'
  obtain⟨⟨dq,osq⟩,hw''⟩:=hw'
  subst hw''
  go_wp2_with fail
  go_meet
  case rel=>exact xM
 have cN:=ah Ra fr true W1 HKI h1;exact Aep):P:=h
theorem aoT.Aep(h:P:=by
 by_cases h2:y < fr
 case' neg=>
  have hy:decide (fr<=y)=true:=decide_eq_true Aaa
  have HV:=Hq (show bb=true by rw [<-ah eT];simp[h2])
  clear eT
  refine wp_region_quiet_below Aab Aab ?_
  repeat (first|go_big_quiet_step ((first|(go_at_call 51;exact cN _ _)|(go_at_call 49;exact cS _ _)))|quiet_step ((first|(go_at_call 51;exact cN _ _)|(go_at_call 49;exact cS _ _))))
  refine wpQuiet_nil ?_
  intro _ hw'
  obtain⟨⟨dq,osq⟩,hw''⟩:=hw'
  subst hw''
  go_wp2_with fail
  go_meet
  case rel=>exact xM
 have hy:decide (fr<=y)=false:=decide_eq_false Aaa;open amo in exact awc):P:=h
theorem aoU.Aep(h:P:=by
 open amq in exact awc):P:=h
theorem awq(h:P:=by
 rw [<-hW] at e1 e2 e3 e4;have ady:=Hq e1;have adr:=Hq e2;have alV:=Hq e3;have HB0:=Hq e4;have adv:=Hq (l7.kc (k:=9) (KC.of_below e4) Aaa);clear hW e1 e2 e3 e4;obtain⟨bi,ci,eA,hgs0,⟨t0,t1,t2⟩,_,hWi⟩:=iL.three adv.s i hi;rw [hs0] at t0 t1 t2 hWi;rw [hfi] at t0;have aDi:G.s < w.heap.size:=aco HGS Aaa;have HWI:=Hq hWi;have HT:=Hq (And.intro t0 (And.intro t1 t2));clear hWi t0 t1 t2;dsimp only at eA;subst eA;obtain⟨c0,c1,c2,c3,c4,c5,c6,c7,c8⟩:=nine ady;obtain⟨m0,m1,m2,m3,m4,m5,m6⟩:=jD adr;have hnl:=aA ady;have hml:=aA adr;go_upto_block 0 with fail;exact AdK):P:=h
theorem aoV.AdK(h:P:=by
 go_cut [7] from 15 (λj wx=>j= .int .i64 (i:Nat)/\Ge W0 wx)
 case first=>
  exact ajM
 case rest=>
  open aBl in exact aju):P:=h
theorem aoW.AdK(h:P:=by
 exact Adr):P:=h
theorem ajB(h:P:=by
 have hr:(convert 162 9 (.slice (some ⟨g,a+4,none⟩) (s.size - (a+4)) (s.size - (a+4)))).run prog w= .ok (.string (iO (tl s a))) w:=by
  exact aBs
 have h1:(s.size:Int)<=(a:Int)+1006:=Aaa
 have h2:¬((s.size:Int) - (a:Int) < 4):=Aaa
 have h3:(a:Int)+4 < (s.size:Int):=Aaa
 have hcap2:(s.size:Int)<=(cap:Int):=Aaa
 exact AbW):P:=h
theorem aoX.AbW(h:P:=by
 rw [BR s a 0 4 Aaa] at hq;have hmn:min (s.size:Int) ((a:Int)+1006)=(s.size:Int):=Int.min_eq_left Aaa;exact aw5):P:=h
theorem aoY.AbW(h:P:=by
 rw [BR s a 0 4 Aaa] at hq;have hmn:min (s.size:Int) ((a:Int)+1006)=(s.size:Int):=Int.min_eq_left Aaa;exact aw4):P:=h
theorem aoZ.AbW(h:P:=by
 have hmn:min (s.size:Int) ((a:Int)+1006)=(s.size:Int):=Int.min_eq_left Aaa;exact axq):P:=h
theorem ajC(h:P:=by
 go_wp2_with fail;refine wp_region_quiet_lit Aab Aab ?_;repeat (first|go_big_quiet_step ((first|(go_at_call 100;exact aiV _ _ hx1 _ _)))|quiet_step ((first|(go_at_call 100;exact aiV _ _ hx1 _ _))))
 refine wpQuiet_nil ?_;intro _ hw';obtain⟨nq,hw''⟩:=hw';subst hw'';go_wp2_with fail;exact AbT):P:=h
theorem ao0.AbT(h:P:=by
 go_roundw
 case rel=>exact⟨j+1+1,Aaa,Aah,HG,Gc,cK.trans ⟨rfl,rfl,rfl,Nat.le_refl _,λ_ _=>rfl⟩⟩
 case measure=>simp[intOf];omega):P:=h
theorem ao1.AbT(h:P:=by
 go_roundw
 case rel=>exact⟨0+1,Aaa,Aah,HG,Gc,cK.trans ⟨rfl,rfl,rfl,Nat.le_refl _,λ_ _=>rfl⟩⟩
 case measure=>simp[intOf];omega):P:=h
theorem ao2.AbT(h:P:=by
 go_ret;exact⟨aF HP.symm,cK.trans ⟨rfl,rfl,rfl,Nat.le_refl _,λ_ _=>rfl⟩⟩):P:=h
theorem ajD(h:P:=by
 have hr:(convert 162 9 (.slice (some ⟨g,a+4,none⟩) 1002 1002)).run prog w= .ok (.string (iO (tl s a))) w:=by
  exact awT
 have h1:¬((s.size:Int)<=(a:Int)+1006):=Aaa
 have h3:(a:Int)+1006 < (s.size:Int):=Aaa
 have h31:¬((a:Int)+1006 - (a:Int) < 4):=Aaa
 have hcap2:(s.size:Int)<=(cap:Int):=Aaa
 exact Ab3):P:=h
theorem ao3.Ab3(h:P:=by
 rw [BR s a 0 4 Aaa] at hq;have hmn:min (s.size:Int) ((a:Int)+1006)=(a:Int)+1006:=Int.min_eq_right Aaa;exact aw5):P:=h
theorem ao4.Ab3(h:P:=by
 rw [BR s a 0 4 Aaa] at hq;have hmn:min (s.size:Int) ((a:Int)+1006)=(a:Int)+1006:=Int.min_eq_right Aaa;exact aw4):P:=h
theorem ao5.Ab3(h:P:=by
 have hmn:min (s.size:Int) ((a:Int)+1006)=(a:Int)+1006:=Int.min_eq_right Aaa;exact axq):P:=h
theorem Wt(h:P:=by
 have hkk:=hks l[k] (List.getElem_mem hlt);have HT:=Hq (List.take_succ_eq_append_getElem hlt);generalize l[k]=pu at *;exact AaZ):P:=h
theorem ao6.AaZ(h:P:=by
 have uV:=Hq (λw1=>ae6 pu z w1 hz0 hz1 hkk);obtain⟨pk,pm,pf,ps⟩:=pu;exact ajL):P:=h
theorem ao7.AaZ(h:P:=by
 have uV:=Hq (λw1=>ak0 pu z w1 hz0 hz1 hkk);obtain⟨pi,pt,pk,pn⟩:=pu;exact ajL):P:=h
theorem ao8.AaZ(h:P:=by
 have uV:=Hq (λw1=>azo pu z w1 hz0 hz1 hkk);obtain⟨pno,pk,pn,ps⟩:=pu;exact ajL):P:=h
theorem ao9.AaZ(h:P:=by
 have uV:=Hq (λw1=>akZ pu b c z w1 hz0 hz1 hkk);obtain⟨fr,lo,ids⟩:=pu;dsimp only at q0 q1 q2 hkk;unfold maxLen at hkk;go_wp2_with fail;refine(uV _).mono ?_;rintro e w5 ⟨rfl,hb5⟩;have fG:=Hq (cK.trans (hb5.mono cK.size));clear hb5 q0 q1 q2;dsimp only;by_cases hc:(ids.length:Int)<=z
 .rw [if_pos hc];have hn2:decide (z - (ids.length:Int) < 0)=false:=decide_eq_false Aaa;go_wp2_with fail;go_roundw
  case rel=>
   refine⟨k+1,z - ids.length,Aaa,Aah,rfl,Aaa,Aaa,?_,fG⟩;intro p hp;rw [ah HT] at hp;rcases List.mem_append.1 hp with h|h
   .exact kS p h
   .rw [List.mem_singleton] at h;subst h;show ids.length<=1048576
    omega
  case measure=>simp[intOf];omega
 .rw [if_neg hc];go_wp2_with fail;go_ret;exact⟨-1,rfl,fG,.inl rfl⟩):P:=h
theorem apa.AaZ(h:P:=by
 have uV:=Hq (fun(w1:World)=>Yj pu z w1 hz0 Aaa hkk);obtain⟨⟨oK,PW,ok,on,⟨mK,mF,mT,mI,mL,mk,mN⟩⟩,ac⟩:=pu;dsimp only at q0 q1 q2 q3 q4 q5 q6 q7 q8 q9 q10 q11 uV;clear hkk;go_wp2_with fail;refine(uV wr).mono ?_;rintro e w5 ⟨r,rfl,hcase,hb5⟩;have fG:=Hq (cK.trans (hb5.mono cK.size));clear hb5 q0 q1 q2 q3 q4 q5 q6 q7 q8 q9 q10 q11;exact axo):P:=h
theorem apb.AaZ(h:P:=by
 have uV:=Hq (fun(w1:World)=>akX pu z w1 hz0 Aaa hkk);obtain⟨mK,mF,mT,mI,mL,mk,mN⟩:=pu;dsimp only at q0 q1 q2 q3 q4 q5 q6 uV;clear hkk;go_wp2_with fail;refine(uV wr).mono ?_;rintro e w5 ⟨r,rfl,hcase,hb5⟩;have fG:=Hq (cK.trans (hb5.mono cK.size));clear hb5 q0 q1 q2 q3 q4 q5 q6;exact axo):P:=h
theorem aaj(h:P:=by
 have hk2:k < m.length:=(ah HN)▸hlt;have HE:=Hq (λe=>mU HN hlt HT e);have HD:=Hq (λe=>JD hlt hk2 e);exact Aa8):P:=h
theorem apc.Aa8(h:P:=by
 obtain⟨g1,o1,rfl,hg1,s0,s1,s2,s3⟩:=fU.four (GR.At.below HA cK) k hlt;obtain⟨g2,o2,rfl,hg2,t0,t1,t2,t3⟩:=fU.four (GR.At.below HB cK) k hk2;open atA in exact agl):P:=h
theorem apd.Aa8(h:P:=by
 obtain⟨g1,o1,rfl,hg1,s0,s1,s2,s3⟩:=SentAt.four (GR.At.below HA cK) k hlt;obtain⟨g2,o2,rfl,hg2,t0,t1,t2,t3⟩:=SentAt.four (GR.At.below HB cK) k hk2;open atz in exact agl):P:=h
theorem ape.Aa8(h:P:=by
 obtain⟨g1,o1,rfl,hg1,s0,s1,s2,s3⟩:=aG.four (GR.At.below HA cK) k hlt;obtain⟨g2,o2,rfl,hg2,t0,t1,t2,t3⟩:=aG.four (GR.At.below HB cK) k hk2;generalize l[k]=x at *;generalize m[k]=y at *;obtain⟨x0,x1,x2,x3⟩:=x;obtain⟨y0,y1,y2,y3⟩:=y;dsimp only at s0 s1 s2 s3 t0 t1 t2 t3;clear hk2;by_cases hx:x0=y0
 case' neg=>
  have hq:(x0.toList == y0.toList)=false:=BP hx;have hr:¬x0.toList=y0.toList:=Abk
  exact ajY
 subst hx;by_cases hx:x1=y1
 case' neg=>
  have hq:(x1 == y1)=false:=Aaf
  exact aaG
 exact ah0):P:=h
theorem apf.Aa8(h:P:=by
 obtain⟨g1,o1,rfl,hg1,s0⟩:=bX.one (GR.At.below HA cK) k hlt;obtain⟨g2,o2,rfl,hg2,t0⟩:=bX.one (GR.At.below HB cK) k hk2;generalize l[k]=x at *;generalize m[k]=y at *;clear hk2;by_cases hxy:x=y
 case' neg=>
  have hq:(x != y)=true:=by simpa using hxy
  have HP:=Hq (HD hxy);clear HD HE hxy;go_upto_region 6 with fail;go_quiet (fail);go_wp2_with fail;go_ret;exact .no HP (fD _ cK)
 subst hxy;have HT2:=Hq (HE rfl);clear HE HD;go_upto_region 6 with fail;go_quiet (fail);go_wp2_with fail;go_roundw
 case rel=>exact⟨k+1,Aaa,Aah,fD _ cK,HT2⟩
 case measure=>simp[intOf];omega):P:=h
theorem apg.Aa8(h:P:=by
 obtain⟨g1,o1,b1,c1,rfl,hg1,s0,s1,s2,i1⟩:=HA.below cK k hlt;obtain⟨g2,o2,b2,c2,rfl,hg2,t0,t1,t2,i2⟩:=HB.below cK k hk2;have hil:=ah HI l[k] (List.getElem_mem hlt);generalize l[k]=x at *;generalize m[k]=y at *;have HC:=Hq (λW (h:aI wr W)=>acJ x y b1 b2 c1 c2 W hil (i1.below h) (i2.below h));clear i1 i2 hil hk2;have hbz:=Hq (yY wr (.cells #[.int .i64 x.f,.int .i64 x.l,.slice b1 x.ids.length c1] 110) (.cells #[.int .i64 y.f,.int .i64 y.l,.slice b2 y.ids.length c2] 110));go_wp2_with fail;refine(HC _ hbz).mono ?_;rintro e w1 ⟨⟨r,rfl,hr⟩,hb1⟩;have CP:=Hq (cK.trans ((Below.trans hbz (hb1.mono hbz.size)).mono cK.size));clear hb1 hbz HC cK;cases r
 .have HP:=Hq (HD (λe=>by have:=hr.2 e;cases this));clear hr HE HD;go_wp2_with fail;go_ret;exact .no HP CP
 .have HT2:=Hq (HE (hr.1 rfl));clear hr HE HD;go_wp2_with fail;go_roundw
  case rel=>exact⟨k+1,Aaa,Aah,CP,HT2⟩
  case measure=>simp[intOf];omega):P:=h
theorem awr(h:P:=by
 have HAT:=Hq (λW'' (ho:Out c w W' W'')=>(M8.kc (k:=9) ((KC.keeps fP (λx hx=>by have:x=w.heap.size+2:=Aaf;rw [this];exact bJ Aaa)).trans (KC.out H9 ho)) Aaa).rm);have oh:Hid (Below B w W'):=(uS.mono hB).trans (fP.below (λx hx=>by have:x=w.heap.size+2:=Aaf;omega) (Nat.le_trans hB (uS.mono hB).size));have sZ:=Hq (Apart.keeps (c:=c) (Apart.of_below uS) (uS.mono hB).size fP (λx hx=>by have:x=w.heap.size+2:=Aaf;omega));obtain⟨x0,x1,x2,x3,x4,x5,x6,x7,x8⟩:=nine e4;clear hW' e4 fP;exact Ad2):P:=h
theorem aph.Ad2(h:P:=by
 exact AdG):P:=h
theorem apj.Ad2(h:P:=by
 exact bodyPost_ret (v:= .tuple #[(gB n A),.slice (some ⟨W1.heap.size,0,none⟩) 0 0,.int .i64 3]) Abq rfl ⟨A,some ⟨W1.heap.size,0,none⟩,0,rfl,HAT,λW'' _ i hi=>Aas,oh,sZ⟩):P:=h
theorem aws(h:P:=by
 go_wp2_with fail;refine(jy X A1 HPR.1 AA.at.p).mono ?_;rintro e W5 ⟨v,rfl,_,hown,hb5⟩;obtain⟨pa,pc,rfl,_⟩:=GR.own_at (enc:=gu) aW hown;have nD:=Hq (au iH hb5);have lI:=Hq (au qA hb5);have yH:=Hq (jN.trans (hb5.mono jN.size));have Rs:=Hq (AA.kc (k:=9) (KC.of_below hb5) Aaa);have Jd:=Hq hown;have hxr:=aA qA;clear hown hb5 c0 c1 c2 c3 c4 c5 c6 c7 c8 p0 p1 p2 p3 p4 p5 p6 p7 p8 p9 nT hnl hol jy iH HOX qA AA HPR jN;obtain⟨c0,c1,c2,c3,c4,c5,c6,c7,c8⟩:=nine nD;have hnl:=aA nD;exact Adv):P:=h
theorem apk.Adv(h:P:=by
 have f4:=aj nD 4;go_upto_region 11 with fail;refine wp_at (λY hY=>?_)
 have hky:aC [w.heap.size] W5 Y:=by
  rw [hY];exact aC.set _
 have qV:Hid (Y.heap[w.heap.size]?=some (.cells (iD n.id n.par A1.k n.kids.length A1.ck n.next pa RL.length pc A1.o n.out.length A1.co A1.s n.seen.length A1.cs n.old A1.r n.reqs.length A1.cr) 40 (0,0))):=by
  rw [hY];exact aN nD 4 (.slice pa RL.length pc)
 have nU:=Hq (hky.obj lI Aac);have Gb:=Hq (yH.trans (hky.below (B:=w.heap.size) (λx hx=>by have:x=w.heap.size:=Aaf;omega) yH.size));have azI:=Hq (Rs.kc (k:=9) (KC.keeps hky (λx hx=>by have:x=w.heap.size:=Aaf;rw [this];exact M0)) Aaa);have azM:=Hq (dQ Jd hky (λx hx=>by have:x=w.heap.size:=Aaf;omega));clear hY hky f4 c0 c1 c2 c3 c4 c5 c6 c7 c8 hnl nD lI yH Rs Jd;obtain⟨c0,c1,c2,c3,c4,c5,c6,c7,c8⟩:=nine qV;have hnl:=aA qV;open asN in exact af5):P:=h
theorem apl.Adv(h:P:=by
 go_upto_region 9 with fail;open arI in exact afL):P:=h
theorem awt(h:P:=by
 have HAT:=Hq (λW'' (ho:Out c w W' W'')=>(yM.kc (k:=9) ((KC.keeps fP (λx hx=>by have:x=w.heap.size+1:=Aaf;rw [this];exact bJ Aaa)).trans (KC.out H9 ho)) Aaa).rm);have oh:Hid (Below B w W'):=(HB1.mono hB).trans (fP.below (λx hx=>by have:x=w.heap.size+1:=Aaf;omega) (Nat.le_trans hB (HB1.mono hB).size));have sZ:=Hq (Apart.keeps (c:=c) (Apart.of_below (HB1)) (HB1.mono hB).size fP (λx hx=>by have:x=w.heap.size+1:=Aaf;omega));obtain⟨x0,x1,x2,x3,x4,x5,x6,x7,x8⟩:=nine e4;exact AeP):P:=h
theorem apm.AeP(h:P:=by
 clear hW' e4 fP;exact bodyPost_ret (v:= .tuple #[(gB n A),.int .i64 1]) Abp rfl ⟨A,rfl,HAT,oh,sZ⟩):P:=h
theorem apn.AeP(h:P:=by
 exact Kk8):P:=h
theorem awu(h:P:=by
 go_in
 go_wp2_with fail;refine HOF.mono ?_;rintro e w1 ⟨mp,mb,v,rfl,Gi,hb1⟩;obtain⟨hblk,hlt1,hbw⟩:=Fo.one_block hb1;have HB1:=Hq hbw;have c0:w1.cell? ⟨w.heap.size,0,none⟩=some (.int .i64 dm):=by rw [cell_of_row w1 _ _ _ _ (0,0) hblk];rfl
 have c1:w1.cell? ⟨w.heap.size,1,none⟩=some (.int .i64 df):=by rw [cell_of_row w1 _ _ _ _ (0,0) hblk];rfl
 have c2:w1.cell? ⟨w.heap.size,2,none⟩=some (.int .i64 ds):=by rw [cell_of_row w1 _ _ _ _ (0,0) hblk];rfl
 exact AdI):P:=h
theorem apo.AdI(h:P:=by
 have HMX:=Hq (YC _ mp mb _ v w1 hb1.size Aai Gi (HE.below hbw));clear hb1 Gi HOF hblk hbw YC;go_wp2_with (first|(go_at_call 204;refine(HK _).mono ?_;rintro e w2 ⟨rfl,rfl⟩)|(go_at_call 169;refine(Ga _).mono ?_;rintro e w2 ⟨rfl,rfl⟩))
 refine HMX.mono ?_;rintro e w3 ⟨hb3,hcase⟩;have HB3:=Hq (HB1.trans (Below.mono hb3 Aac));clear hb3 HMX;rcases hcase with⟨hf,h20,rfl⟩|⟨hf,rfl,v',aya⟩
 .have HAD:=Hq (Y7 hf h20);clear hf h20 Y7 Zj;go_wp2_with fail;go_ret2
  exact⟨HB3,.inl ⟨HAD,_,Aaa,rfl⟩⟩
 .obtain⟨hadd,hlen⟩:=ah Zj hf;have adj:=Hq hadd;have yI:=Hq (abH _ mp mb _ v' PL G2 w3 hlen HPA Rc aya);clear hf Y7 Zj hadd aya;go_wp2_with fail;refine yI.mono ?_;rintro e w4 ⟨rfl,aiN,hb4⟩;have nR:=Hq (HB3.trans (hb4.mono HB3.size));have HK4:=Hq aiN;clear hb4 aiN;go_wp2_with fail;go_ret2
  rw [ah adj];exact⟨nR,.inr ⟨rfl,_,HB3.size,rfl,HK4⟩⟩):P:=h
theorem apq.AdI(h:P:=by
 have HMX:=Hq (YC _ mp mb _ v w1 Gi (HE.below hbw));clear hb1 Gi HOF hblk hbw YC;go_wp2_with (first|(go_at_call 204;refine(HK _).mono ?_;rintro e w2 ⟨rfl,rfl⟩)|(go_at_call 169;refine(Ga _).mono ?_;rintro e w2 ⟨rfl,rfl⟩)|(go_at_call 286;refine HMX.mono ?_;rintro e w3 ⟨i,hi,rfl,hb3⟩))
 go_ret2
 exact⟨HB1.trans (hb3.mono HB1.size),.inl ⟨HAD,i,hi,rfl⟩⟩):P:=h
theorem ajE(h:P:=by
 have hno:∀(listed:Array Bool),oz md ops listed->i∈Region.ready md ops listed->E∉Region.ready md ops listed:=λlisted hcl hr hEr=>by
  have h3:=Ei hcl hEr n i hE
  have h4:=(mem_ready.1 hr).1
  rcases Nat.lt_or_ge i listed.size with h'|h'
  .exact ail
  .exact aiv
 intro fuel;exact AcE):P:=h
theorem apr.AcE(h:P:=by
 induction fuel with
 |zero=>
  intro listed a w hcl _ hr hy H;open avl in exact aad
 |succ fuel ih=>
  intro listed a w hcl hfree hr hy H;open au8 in exact aac):P:=h
theorem aps.AcE(h:P:=by
 induction fuel with
 |zero=>
  intro listed a w hb hcl _ hr hy H;open avk in exact aad
 |succ fuel ih=>
  intro listed a w hb hcl hfree hr hy H;open au7 in exact aac):P:=h
theorem apt.AcE(h:P:=by
 induction fuel with
 |zero=>
  intro listed a w hcl _ hr hy H;open avj in exact aad
 |succ fuel ih=>
  intro listed a w hcl hfree hr hy H;open au6 in exact aac):P:=h
theorem awv(h:P:=by
 open atP in exact agq):P:=h
theorem apu.AdO(h:P:=by
 have r1:=cell_regrown q1;have r2:=cell_regrown q2;have r3:=cell_regrown q3;have e4:=cell_regrown d4;refine dB 23 Aab ?_;show eY _ _ _ _ _ 25 (Array.replicate 25 false) _ _
 refine tk [0,1,2,3,4,5,6,7,8,9,10,11,12,13,14,15,16,17,18,19] ?_;iterate 20 (refine uR (λK hK=>?_);go_simp;refine hK _ ?_;clear hK K)
 refine jJ ?_;clear r1 r2 r3 e4;refine dU 20 rfl Aab Aad (λx hx=>?_);go_simp;have HX:=Hq (HZ1.step hx);refine(HUN x HX).mono ?_;rintro e y ⟨a,cp,g5,hg5,rfl,hp,hby⟩;refine⟨hby,?_⟩;have HST:=Hq (λu (hu:Ge y u)=>ae0 (cp:=cp) HX (hby.trans (hu.mono hby.size)) hg5 (hp.below hu));clear hby hg5 hp HUN hx;refine tk [21,22] ?_;iterate 2 (refine uR (λK hK=>?_);go_simp;refine hK _ ?_;clear hK K)
 refine jJ ?_;refine bC Aab (λu hu=>?_);refine aH 23 rfl Aab Aad ?_;go_simp;refine(HST u hu).mono ?_;rintro e z2 ⟨rfl,A',G',c',hZ2,hA2⟩;have HZ2:=Hq hZ2;have HA2:=Hq (hA2.trans hAr);clear hZ2 HST hu hA2 d0 d1 d2 d3 d4 d5 d6 d7 d8 d9 q0 q1 q2 q3 qf;obtain⟨rl,rb⟩:=r;dsimp only at HZ2 ⊢;refine aH 24 rfl Aab Aad ?_;go_simp;refine wpAny_done Aab ?_;go_simp;cases rb
 .rw [if_neg Aac] at HZ2;obtain⟨g6,hA6,_,hg6,⟨s0,s1,s2,s3⟩,sf⟩:=HZ2.reqRow i hil;rw [ah HA2] at hA6;cases hA6
  rw [hs] at s3;go_wp2_with fail;go_ret;exact⟨rfl,A',G',c',HZ2⟩
 .rw [if_pos rfl] at HZ2;obtain⟨g6,hA6,_,hg6,⟨s0,s1,s2,s3⟩,sf⟩:=HZ2.reqRow i hil;rw [ah HA2] at hA6;cases hA6
  have DX:=Hq (HZ2.reqSet i hil g HA2);clear HZ2 HZ1 HX HW;go_wp2_with fail;go_ret;exact⟨rfl,A',G',c',DX⟩):P:=h
theorem apv.AdO(h:P:=by
 have r3:=cell_regrown q3;refine dx Aab ?_;show gL _ _ _ _ 25 (Array.replicate 25 false) _ _
 refine tk [0,1,2,3,4,5,6,7,8,9,10,11,12,13,14,15,16,17,18,19,20,21,22,23,24] ?_;iterate 25 (refine Ar (λK hK=>?_);go_simp;refine hK _ ?_;clear hK K)
 refine jJ ?_;refine eX Aab (λx hx=>?_);have HX:=Hq (HZ1.step hx);have x3:=(BX hx).1 g (i*4+3) hgl;clear hx r3;go_simp;go_wp2_with fail;go_ret;exact⟨rfl,A,G,c,HX⟩):P:=h
theorem aww(h:P:=by
 rw [<-hW] at e1 e2 e3;have HN:=Hq e1;have HR:=Hq e2;have HB0:=Hq e3;have M7:=Hq (l7.kc (k:=9) (KC.of_below e3) Aaa);clear hW e1 e2 e3 l7 hbw0;obtain⟨c0,c1,c2,c3,c4,c5,c6,c7,c8⟩:=nine HN;have hnl:=aA HN;go_wp2_with fail;refine(Jd W0 M7.at.p).mono ?_;open avn in exact agT):P:=h
theorem apw.AdJ(h:P:=by
 have HI:=Hq (And.intro hi (And.intro hz0 (And.intro hz1 hz2)));clear hi hz0 hz1 hz2;obtain⟨c0,c1,c2,c3,c4,c5,c6,c7,c8⟩:=nine kD;have hnl:=aA kD;have hrl:=aA qA;open apS in exact awG):P:=h
theorem apx.AdJ(h:P:=by
 have uO:=Hq (au qA (ay W1 (.cells #[] 98)));obtain⟨c0,c1,c2,c3,c4,c5,c6,c7,c8⟩:=nine kD;open amY in exact Wo):P:=h
theorem awx(h:P:=by
 have hat:nL l k=(iy l[k]&&(k == 0|| !sle l[k].k (l.getD (k - 1) default).k)):=by unfold nL;rw [getD_at l k hlt]
 exact Adm):P:=h
end Go.Proofs.YtohmklmkjmlpjaaGreatDoor
