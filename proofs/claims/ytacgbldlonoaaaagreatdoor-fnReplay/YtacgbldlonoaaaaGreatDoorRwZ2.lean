/-
  Parts of proofs that stand more than once, each said once.
-/
import Derived.Test.YtacgbldlonoaaaaGreatDoorRwZ1
namespace Go.Proofs.YtacgbldlonoaaaaGreatDoor
open Go.Proofs.Tryz
set_option maxRecDepth 100000
variable{P:Prop}
theorem al5.Aa0(h:P:=by
 have hrl:=aA rT;go_wp2_with fail;refine aO (λW' hW'=>?_)
 have e4:W'.heap[w.heap.size+2]?=some (.cells (dD N1 A2) 30 (0,0)):=by
  rw [hW'];exact GR.setW_blk (dD N1 A2).toList (o:=0) (xs:=fU.toList) rT
 have gL:aC [w.heap.size+2] (W5.alloc (.cells (dD N1 A2) 30)) W':=by
  rw [hW'];exact aK (dD N1 A2).toList (W5.alloc (.cells (dD N1 A2) 30)) 0
 have HAT:=Hq (λW'' (ho:Dr w W' W'')=>Za W'' (ho.out (c:=c) ((aC.of_below (au W5 (.cells (dD N1 A2) 30))).trans gL) hrx Zg));have nO:Hid (aY w W'):=vQ.trans (gL.below (λx hx=>by have:x=w.heap.size+2:=Aag;omega) vQ.size);obtain⟨x0,x1,x2,x3,x4,x5,x6,x7,x8⟩:=nine e4;clear hW' e4 gL;exact bodyPost_ret (v:= .tuple #[(fT N1 A2),.slice (some ⟨W0.heap.size,0,none⟩) 0 0,.int .i64 CU]) Abc rfl ⟨A2,some ⟨W0.heap.size,0,none⟩,0,rfl,HAT,λW'' _ i hi=>Aav,nO⟩):P:=h
theorem al6.Aa0(h:P:=by
 have hnl:=aA BD;have hrl:=aA rT;go_wp2_with fail;refine aO (λW' hW'=>?_)
 have e4:W'.heap[w.heap.size+2]?=some (.cells (gH n.id n.par A.k n.kids.length A.ck n.next A.p n.pu.length A.cp a (FL n.out.length).length cp A.s n.seen.length A.cs n.old A.r n.reqs.length A.cr) 30 (0,0)):=by
  rw [hW'];exact GR.setW_blk (gH n.id n.par A.k n.kids.length A.ck n.next A.p n.pu.length A.cp a (FL n.out.length).length cp A.s n.seen.length A.cs n.old A.r n.reqs.length A.cr).toList (o:=0) (xs:=fU.toList) rT
 have gL:aC [w.heap.size+2] (Z.alloc (.cells #[] 32)) W':=by
  rw [hW'];exact aK (gH n.id n.par A.k n.kids.length A.ck n.next A.p n.pu.length A.cp a (FL n.out.length).length cp A.s n.seen.length A.cs n.old A.r n.reqs.length A.cr).toList (Z.alloc (.cells #[] 32)) 0
 have HAT:=Hq (λW'' (ho:Out c w W' W'')=>(show RM W'' ⟨A.k,A.p,a,A.s,A.r,A.ck,A.cp,cp,A.cs,A.cr⟩ (setOut n (FL n.out.length)) from by
  have kF:KC (newC w.heap.size 9 c) 9 (Z.alloc (.cells #[] 32)) W'':=(KC.keeps gL (λy hy=>by have:y=w.heap.size+2:=Aat;rw [this];exact aZ Aaa)).trans (KC.out H9 ho)
  have hoF:W''.ownsRow W2.heap.size 95 4 (.slice a (FL n.out.length).length cp) (FL n.out.length).length (GR.flat aW (FL n.out.length)):=by
   obtain⟨F,hk,hF⟩:=ho;exact(dG (dG HOA gL (λy hy=>by have:y=w.heap.size+2:=Aat;omega)) hk (λy hy=>by have:=(hF y hy).1;omega))
  have h5:=KO.kc (k:=9) kF Aaa
  exact NQ.put h5 h5 (setOut n (FL n.out.length)) ⟨A.k,A.p,a,A.s,A.r,A.ck,A.cp,cp,A.cs,A.cr⟩ rfl rfl rfl rfl h5.p.at (λg' hg' hp'=> .inl (h5.cpB h5 g' hg' hp')) hoF (λy hy=> .inr (by have h1:=uQ hoF hy;rw [aZ Aaa];omega)) h5.r (λy hy=> .inl (h5.cr y hy))
   (λg' hg' hp' h6=>by have:=h5.cpB h5 g' hg' hp';omega) (λy hy h6 e=>by have:=h5.cr y e;omega)))
 open ar5 in exact afO):P:=h
theorem al7.Aa0(h:P:=by
 have hnl:=aA KO;have hrl:=aA rT;go_wp2_with fail;refine aO (λW' hW'=>?_)
 have e4:W'.heap[w.heap.size+2]?=some (.cells (dD N1 A1) 30 (0,0)):=by
  rw [hW'];exact GR.setW_blk (dD N1 A1).toList (o:=0) (xs:=fU.toList) rT
 have gL:aC [w.heap.size+2] (W3.alloc (.cells (dD N1 A1) 30)) W':=by
  rw [hW'];exact aK (dD N1 A1).toList (W3.alloc (.cells (dD N1 A1) 30)) 0
 have HAT:=Hq (λW'' (ho:Out c w W' W'')=>(show RM W'' A1 N1 from(by
  obtain⟨F,hk,hF⟩:=ho
  exact Za _ ⟨(w.heap.size+2)::F,aC.trans (b:=W') ((aC.of_below (au W3 (.cells (dD N1 A1) 30))).trans (gL.mono (λx hx=>Abe))) (hk.mono (λx hx=>Aax)),λy hy=>by
   rcases List.mem_cons.1 hy with h1|h1
   .exact Vn
   .exact⟨Nat.lt_of_lt_of_le (hF y h1).1 h02,by rw [eT (hF y h1).1];exact(hF y h1).2⟩⟩)))
 have HMT:=Hq (λW'' (ho:Out c w W' W'')=>(show GR.At lF 7 W'' ma L1 from(by
  obtain⟨F,hk,hF⟩:=ho
  exact adj _ ⟨(w.heap.size+2)::F,aC.trans (b:=W') ((aC.of_below (au W3 (.cells (dD N1 A1) 30))).trans (gL.mono (λx hx=>Abe))) (hk.mono (λx hx=>Aax)),λy hy=>by
   rcases List.mem_cons.1 hy with h1|h1
   .exact Vn
   .exact⟨Nat.lt_of_lt_of_le (hF y h1).1 h02,by rw [eT (hF y h1).1];exact(hF y h1).2⟩⟩)))
 open ar4 in exact afO):P:=h
theorem al8.Aa0(h:P:=by
 have hnl:=aA lC;have hrl:=aA rT;go_wp2_with fail;rw [BN];go_upto_region 5 with fail;go_wp2_with fail;have KO:=Hq (yZ.kc (k:=9) (KC.of_below (au W1 (.cells #[] 32))) Aaa);have vQ:=Hq (HB1.trans ((au W1 (.cells #[] 32)).mono HB1.size));refine aO (λW' hW'=>?_)
 have e4:W'.heap[w.heap.size+1]?=some (.cells (dD n A) 30 (0,0)):=by
  exact aaF
 have gL:aC [w.heap.size+1] (W1.alloc (.cells #[] 32)) W':=by
  rw [hW'];exact aK (dD n A).toList (W1.alloc (.cells #[] 32)) 0
 have HAT:=Hq (λW'' (ho:Out c w W' W'')=>(KO.kc (k:=9) ((KC.keeps gL (λx hx=>by have:x=w.heap.size+1:=Aag;rw [this];exact aZ Aaa)).trans (KC.out H9 ho)) Aaa).rm);have nO:Hid (Below B w W'):=(vQ.mono hB).trans (gL.below (λx hx=>by have:x=w.heap.size+1:=Aag;omega) (Nat.le_trans hB (vQ.mono hB).size));have tZ:=Hq (Apart.keeps (c:=c) (Apart.of_below vQ) (vQ.mono hB).size gL (λx hx=>by have:x=w.heap.size+1:=Aag;omega));obtain⟨x0,x1,x2,x3,x4,x5,x6,x7,x8⟩:=nine e4;clear hW' e4 gL;exact bodyPost_ret (v:= .tuple #[(fT n A),.slice (some ⟨W1.heap.size,0,none⟩) 0 0,.int .i64 1]) Adn rfl ⟨A,some ⟨W1.heap.size,0,none⟩,0,rfl,HAT,λW'' _ i hi=>Aav,nO,tZ⟩):P:=h
theorem awl(h:P:=by
 have hm1:¬mI < eZ s0 mL:=λh=>by unfold sQ at hhas;rw [decide_eq_true h] at hhas;simp at hhas
 have hd:decide (mI < eZ s0 mL)=false:=decide_eq_false hm1;have hb:hasB (bg s0 mL) mI=false:=Ady
 rw [hb] at Zl;obtain⟨c0,c1,c2,c3,c4,c5,c6,c7,c8⟩:=nine qB;have hnl:=aA qB;go_wp2_with (go_at_call 124;refine(Zl _ adh.at).mono ?_;rintro e wh ⟨rfl,rfl⟩)
 refine(Rv W7 adr.at.p).mono ?_;rintro e W8 ⟨v8,rfl,aBx,abB,Ep⟩;obtain⟨av,cv,rfl,_⟩:=GR.own_at (enc:=fH) (sz:=4) aX abB;have HRW:=Hq (zw.own aX abB);have aks:=Hq (ay Zb Ep);have rR:=Hq (ay qB Ep);have akL:=Hq (ay adn Ep);have zn:=Hq (ay nT Ep);have akW:=Hq (ay adC Ep);have akF:=Hq (adh.below Ep);have aiA:=Hq (adr.kc (k:=9) (KC.of_below Ep) Aaa);have air:=Hq (aiq.trans (Ep.mono Aaa));have aiy:=Hq (aix.step Aaa Ep);have hz8:W7.heap.size<=W8.heap.size:=Ep.size;clear Ep aBx abB Rv Zl c0 c1 c2 c3 c4 c5 c6 c7 c8 m0 m1 m2 m3 m4 m5 m6 s70 s71 s72 hnl hml aBK Zb qB adn nT adC adh adr aiq aix;exact Aes):P:=h
theorem al9.Aes(h:P:=by
 have Tn:=au W8 (.cells #[] 32);have xX:=Hq (ay rR Tn);have lY:=Hq (ay zn Tn);have ads:=Hq (aiA.kc (k:=9) (KC.of_below Tn) Aaa);have ade:=Hq (air.trans (Tn.mono Aaa));have adi:=Hq (aiy.step Aaa Tn);have hz9:(W8.alloc (.cells #[] 32)).heap.size=W8.heap.size+1:=Aac
 clear Tn;obtain⟨c0,c1,c2,c3,c4,c5,c6,c7,c8⟩:=nine rR;obtain⟨d0,d1,d2,d3,d4,d5,d6,d7,d8⟩:=nine lY;have f0:=aj lY 0;have f1:=aj lY 1;have f2:=aj lY 2;have f3:=aj lY 3;have f4:=aj lY 4;have f5:=aj lY 5;have f6:=aj lY 6;have f7:=aj lY 7;have f8:=aj lY 8;have hnl:=aA rR;have hrl:=aA lY;cases ok
 .exact awZ
 .have h40:40<=(bg s0 mL).length:=by
   rcases hgn with h|h
   .cases h
   .exact h
  have aA8:decide ((40:Int)<=((bg s0 mL).length:Int))=true:=decide_eq_true Aaa;exact awZ):P:=h
theorem ama.Aes(h:P:=by
 obtain⟨c0,c1,c2,c3,c4,c5,c6,c7,c8⟩:=nine rR;have cf:=aj rR 4;have hnl:=aA rR;have aA8:decide ((40:Int)<=((bg s0 mL).length:Int))=false:=decide_eq_false Aaa;go_upto_region 22 with fail;refine wp_at (λW9 Tk=>?_);have hnb:w.heap.size≠gi:=Aaa
 have Er:aC [w.heap.size] W8 W9:=by rw [Tk];exact aC.set _
 have xX:Hid (W9.heap[w.heap.size]?=some (.cells (gH n.id n.par a_k n.kids.length aL n.next av RL.length cv eD n.out.length aP (some ⟨G.s,0,none⟩) n.seen.length aM n.old gN n.reqs.length aV) 30 (0,0))):=by rw [Tk];exact aT rR 4 _
 have ado:=Hq (Er.obj akL (λhx=>by simp at hx));have lY:=Hq (Er.obj zn (λhx=>by simp at hx));have Sb:=Hq (Er.obj akW (λhx=>Aak));have akt:=Hq (Er.obj aks (λhx=>Aak));have aiw:=Hq (akF.keeps Er (λx hx hm=>by have h1:=(gV hx).1;simp at hm;omega));have ads:=Hq (aiA.kc (k:=9) (KC.keeps Er (λx hx=>by have:x=w.heap.size:=Aag;rw [this];exact Ee _ (Nat.le_refl _) hnb)) Aaa);have ade:=Hq (air.trans (Er.below (B:=B) (λx hx=>Aak) Aaa));have adi:=Hq (Apart.keeps (c:=c) aiy Aaa Er (λx hx=>by have:x=w.heap.size:=Aag;omega));have HP9:=Hq (HRW.keeps Er (λx hx=>Aak));have hz9:W8.heap.size<=W9.heap.size:=Er.size;clear Tk Er HRW rR akL zn akW aks akF aiA air aiy c0 c1 c2 c3 c4 c5 c6 c7 c8 cf hnl;obtain⟨m0,m1,m2,m3,m4,m5,m6⟩:=jY ado;have hml:=aA ado;obtain⟨pos,hpos⟩:∃pos,((bg s0 mL).takeWhile (λy=>decide (y < mI))).length=pos:=⟨_,rfl⟩;have Zm:=Hq (show mQ (bg s0 mL) mI=(bg s0 mL).take pos++([mI]++(bg s0 mL).drop pos) by rw [<-hpos];exact abR _ _);have hpl:pos<=(bg s0 mL).length:=by rw [<-hpos];exact ayA _ _
 have Ej:=Hq hpos;clear hpos;go_upto_block 4 with fail;go_cut [14] from 15 (λj wx=>j= .int .i64 (pos:Nat)/\Ge W9 wx)
 case first=>
  go_wp2_with fail;go_loopw [14] (λj wr=>∃x q:Nat,x<=(bg s0 mL).length/\j= .int .i64 x/\(∀y (hy:y < (bg s0 mL).length),y < x->(bg s0 mL)[y] < mI)/\wr=W9.drewN q) (λj _=>(bg s0 mL).length - (intOf j).toNat)
  case atStart=>exact⟨0,0,Nat.zero_le _,rfl,λy hy h=>Aaa,rfl⟩
  case round=>
   obtain⟨x,q,hx,rfl,hlo,rfl⟩:=hrel;have Zo:=Hq hlo;clear hlo;by_cases hlt:x < (bg s0 mL).length
   .obtain⟨_,hgb,hcell⟩:=(ah aiw) x hlt;open atv in exact agd
   .have hje:x=(bg s0 mL).length:=Aaa
    subst hje;have HJ:=Hq (acY (l:=bg s0 mL) (x:=mI) (Nat.le_refl _) Zo (λh=>absurd h (Nat.lt_irrefl _)));have abr:decide (((bg s0 mL).length:Int) < ((bg s0 mL).length:Int))=false:=Aac
    exact axQ
 case rest=>
  obtain⟨rfl,hge⟩:=hcut;clear m0 m1 m2 m3 m4 m5 m6 hml;go_upto_region 25 with fail;refine wp_at (λvw aA2=>?_);subst aA2;have ae1:=Hq (ay xX hge);have Zr:=Hq (ay ado hge);have ae4:=Hq (ay lY hge);have ZE:=Hq (ay Sb hge);have aeQ:=Hq (ay akt hge);have UH:=Hq (aiw.below hge);have ae0:=Hq (ads.kc (k:=9) (KC.of_below hge) Aaa);have aeS:=Hq (ade.trans (hge.mono Aaa));have aeV:=Hq (adi.step Aaa hge);have adv:=Hq (HP9.below hge);have aCU:W9.heap.size<=vw.heap.size:=hge.size;clear hge xX ado lY Sb akt aiw ads ade adi HP9;have ayn:=aA ZE;have aCm:∀x∈fp gi (bg s0 mL),x < vw.heap.size:=Si UH;go_cut [14] from 15 (λ_ wx=>∃g2 cq2,vw.heap.size<=g2/\wx.ownsRow vw.heap.size 3 1 (.slice (some ⟨g2,0,none⟩) ((bg s0 mL).length+1) cq2) ((bg s0 mL).length+1) (GR.flat aS (mQ (bg s0 mL) mI))/\wx.heap[sb]?=some (.cells #[.int .i64 mF,.int .i64 (eZ s0 mL),.slice (some ⟨g2,0,none⟩) ((bg s0 mL).length+1) cq2] 90 (0,0))/\aC [sb] vw wx)
  case first=>
   obtain⟨m0,m1,m2,m3,m4,m5,m6⟩:=jY Zr;have hml:=aA Zr;have hwb:vw.heap.size<=vw.heap.size:=Nat.le_refl _;have y3:=dB hml m3;clear m0 m1 m2 m3 m4 m5 m6;have hpc:pos<=OV:=Aaa
   have Hl:=Hq (show dX vw (some ⟨gi,0,none⟩) ((bg s0 mL).take pos) from GR.At.take UH.at pos)
   obtain⟨AD,hAD,hDR⟩:∃AD,(if OV=pos then some (⟨gi,0,none⟩:Addr) else some ⟨gi,pos,none⟩)=AD/\dX vw AD ((bg s0 mL).drop pos):=by
    by_cases hcz:OV=pos
    .refine⟨_,rfl,?_⟩;rw [show(bg s0 mL).drop pos=[] by apply List.drop_eq_nil_of_le;omega];exact GR.at_nil _ _
    .refine⟨_,rfl,?_⟩;rw [if_neg hcz];have h:=GR.At.drop UH.at pos;rw [Nat.mul_one] at h;exact h
   have HDR:=Hq hDR;clear hDR;refine kQ 14 vw.heap.size Aab ?_;show jD _ _ _ _ _ _ 15 (Array.replicate 15 false) _ _
   refine tk [1,2,3,5,6,9,10,11] ?_;iterate 8 (refine tkB hwb (λK hK=>?_);go_simp;first|refine hK _ ?_|(apply Exists.intro;refine⟨λ_=>?_,hK _ ?_⟩;rfl);clear hK K)
   refine jc ?_;clear y3;have hlt1:((bg s0 mL).take pos).length=pos:=Abk
   have Xn:((bg s0 mL).drop pos).length=(bg s0 mL).length - pos:=by rw [List.length_drop]
   have hL1:((bg s0 mL).take pos++[mI]).length=pos+1:=Adl
   have hL2:((bg s0 mL).take pos++[mI]++(bg s0 mL).drop pos).length=pos+1+((bg s0 mL).length - pos):=Adm
   have V7:=Hq (Below.refl vw.heap.size vw);refine iU 0 7 rfl rfl Aab Aad Aad Aae Aae (λx1 hx1=>?_) (λx1 hx1=>?_)
   .open aqJ in exact afq
   .open aqI in exact afq
  case rest=>
   obtain⟨g2,cq2,hg2,hown2,aym,Ls⟩:=hcut;have ZF:=Hq aym;have UN:=Hq (Ls.obj ae1 (λhx=>Aak));have ae5:=Hq (Ls.obj ae4 (λhx=>Aak));have aeR:=Hq (Ls.obj aeQ (λhx=>Aak));have Zt:=Hq (ae0.kc (k:=9) (KC.keeps Ls (λx hx=>by have:x=sb:=Aag;rw [this];exact Ee _ Aaa Aaa)) Aaa);have aeT:=Hq (aeS.trans (Ls.below (B:=B) (λx hx=>Aak) Aaa));have aeW:=Hq (Apart.keeps (c:=c) aeV Aaa Ls (λx hx=>by have:x=sb:=Aag;omega));have akS:=Hq (adv.keeps Ls (λx hx=>Aak));have aCV:vw.heap.size<=wc.heap.size:=Ls.size;have abm:(mQ (bg s0 mL) mI).length=(bg s0 mL).length+1:=by rw [ah Zm];simp;omega
   have aby:wc.ownsRow vw.heap.size 3 1 (.slice (some ⟨g2,0,none⟩) (mQ (bg s0 mL) mI).length cq2) (mQ (bg s0 mL) mI).length (GR.flat aS (mQ (bg s0 mL) mI)):=by rw [abm];exact hown2
   have HW2:=Hq (WO.of_own (ZV (l:=mQ (bg s0 mL) mI) aR aby) aby (λe=>by rw [e] at abm;simp at abm))
   have Ob:Hid (∀g,av.map (λy=>y.block)=some g->0 < RL.length->W7.heap.size<=g/\g < vw.heap.size):=λg hg hp=>by
    obtain⟨g',off,e,hgl,_⟩:=adv.1 0 hp
    have h2:=adv.2 g' off e
    rw [e] at hg
    cases hg
    exact⟨h2,hgl⟩
   have aBb:g2 < wc.heap.size:=(hown2.lt g2 rfl).2;have ajA:g2≠gi:=Aaa
   have ayc:i < (n.seen.set i ⟨mF,eZ s0 mL,bg s0 mL⟩).length:=by rw [List.length_set];exact hi
   have HNP:=Hq (Zt.seenPut i ayc ⟨mF,eZ s0 mL,mQ (bg s0 mL) mI⟩ (some ⟨g2,0,none⟩) cq2 g2 HW2 (λx hx=>by rw [(gV hx).1];exact Ee _ Aaa ajA));obtain⟨T,hT,hlT,hrT⟩:=Zt.s;obtain⟨_,_,hcT⟩:=hT i (by rw [hlT];exact ayc);open apq in exact awT):P:=h
theorem aiP(h:P:=by
 have HN:=Hq (λw1=>aU n true w1 hn);have HP:=Hq (show R=(decide (no=0)&&true&&true&&mh ⟨mK,mF,mT,mI,mL,mk,mN⟩) by rw [<-ah HR];simp[bq,hk,hn]);open au1 in exact agB):P:=h
theorem amb.AbR(h:P:=by
 have hX:W.heap[w.heap.size+1]?=some (.cells (cu 4 0 k n 0 0 0 0 0 ⟨#[]⟩ 0) 34 (0,0)):=Abz
 have hY:W.heap[w.heap.size]?=some (.cells (cu 4 no k n mK mF mT mI mL mk mN) 34 (0,0)):=Aca
 exact ai7):P:=h
theorem amc.AbR(h:P:=by
 have hX:W.heap[w.heap.size+1]?=some (.cells (cu 3 0 k n 0 0 0 0 0 ⟨#[]⟩ 0) 34 (0,0)):=Abz
 have hY:W.heap[w.heap.size]?=some (.cells (cu 3 no k n mK mF mT mI mL mk mN) 34 (0,0)):=Aca
 exact ai7):P:=h
theorem amd.AbR(h:P:=by
 have hX:W.heap[w.heap.size+1]?=some (.cells (cu 0 0 k n 0 0 0 0 0 ⟨#[]⟩ 0) 34 (0,0)):=Abz
 have hY:W.heap[w.heap.size]?=some (.cells (cu 0 no k n mK mF mT mI mL mk mN) 34 (0,0)):=Aca
 exact ai7):P:=h
theorem adI(h:P:=by
 have hrs:(iT (tl s a)).size<=maxLen:=by have:=tK (tl s a);rw [xu] at this;unfold maxLen;omega
 have HG:=Hq (LY (iT (tl s a)) 0 hrs w hH);have hub:=Uf (iT (tl s a)) 0;have hsz:=tK (tl s a);have hz1:AY (tl s a)<=1002:=by unfold AY;omega
 have e1:jJ (iT (tl s a)) 0=Dk (tl s a):=rfl;have e2:iW (iT (tl s a)) 0=AY (tl s a):=rfl;rw [e1,e2] at HG;exact AbC):P:=h
theorem ame.AbC(h:P:=by
 generalize AY (tl s a)=z at *;clear e1 e2 hrs hub hsz hH hcap hs;generalize Dk (tl s a)=tx at *;generalize iT (tl s a)=rs at *;have HC:=Hq hc;clear hc;rw [h4];clear h4;exact axd):P:=h
theorem amf.AbC(h:P:=by
 generalize AY (tl s a)=z at *;clear e1 e2 hrs hub hsz hH hcap;generalize Dk (tl s a)=tx at *;generalize iT (tl s a)=rs at *;have HC:=Hq hc;clear hc;exact axd):P:=h
theorem amg.AbC(h:P:=by
 open asC in exact afV):P:=h
theorem amh.AbC(h:P:=by
 open asB in exact afV):P:=h
theorem aiQ(h:P:=by
 obtain⟨hjun,oj,hoj,hall⟩:=mem_ready.1 hj
 have hnot:∀e∈oj.after,Region.binds md e=true->e.on≠i:=λe he hb heq=>by
  have h2:=hall e he hb
  have h0:=(mem_ready.1 hr).1
  rw [heq] at h2
  rcases Nat.lt_or_ge i listed.size with h'|h'
  .simp[h'] at h0 h2;rw [h0] at h2;cases h2
  .simp[Array.getElem?_eq_none h'] at h2
 have h2:=YK hoj (hfree j oj hoj hji hjun hnot) (λcs b=>hsel i oi cs b hi) (λcs b=>hsel j oj cs b hoj) hQ h1;refine wpOp_mono (λa' y hy2=>?_) h2;obtain⟨⟨hs1,hs2⟩,hg,hm⟩:=hy2;exact AcF):P:=h
theorem ami.AcF(h:P:=by
 refine⟨hg,ih (listed.setIfInBounds j true) a' y ?_ (ready_mono hr (Ne.symm hji)) ?_ ?_⟩
 .exact aaB
 .unfold rE at *;rw [hs1,hs2];exact hy.imp (fun⟨p,q⟩=>⟨p,λz hz=>q z (Ge.trans (Ge.trans hx hg) hz)⟩) id
 .rw [Array.setIfInBounds_comm _ _ hji];exact hm):P:=h
theorem amj.AcF(h:P:=by
 have hwy:Below b w y:=(hx.mono hb).trans hg;refine⟨hg,ih (listed.setIfInBounds j true) a' y (Nat.le_trans hb hwy.size) (EZ hcl hj) ?_ (ready_mono hr (Ne.symm hji)) ?_ ?_⟩
 .exact aaB
 .unfold El at *;rw [hs1,hs2];exact hy.imp (fun⟨p,q⟩=>⟨p,λz hz=>q z (hwy.trans hz)⟩) id
 .rw [Array.setIfInBounds_comm _ _ hji];exact hm):P:=h
theorem amk.AcF(h:P:=by
 refine⟨hg,ih (listed.setIfInBounds j true) a' y (EZ hcl hj) ?_ (ready_mono hr (Ne.symm hji)) ?_ ?_⟩
 .exact aaB
 .unfold rE at *;rw [hs1,hs2];exact hy.imp (fun⟨p,q⟩=>⟨p,λz hz=>q z (Ge.trans (Ge.trans hx hg) hz)⟩) id
 .rw [Array.setIfInBounds_comm _ _ hji];exact hm):P:=h
theorem aiR(h:P:=by
 open aun in exact agm):P:=h
theorem aml.Ab7(h:P:=by
 obtain⟨c0,c1,c2,c3,c4,c5,c6,c7,c8⟩:=nine lC;open amY in exact aav):P:=h
theorem amm.Ab7(h:P:=by
 obtain⟨g,e0,hBg,hgb⟩:∃g,gN=some ⟨g,0,none⟩/\B<=g/\(∀x,(Value.slice gN n.reqs.length aV).ownBlock=some x↔x=g):=by
  exact awW
 obtain⟨g',off,e0',hg,q0,q1,q2,q3⟩:=jf.four yZ.at.r i hi;rw [e0] at e0';simp only[Option.some.injEq,Addr.mk.injEq,and_true] at e0';obtain⟨rfl,rfl⟩:=e0';rw [Nat.zero_add] at q0 q1 q2 q3;rw [ah HST] at q3;obtain⟨c0,c1,c2,c3,c4,c5,c6,c7,c8⟩:=nine lC;open amX in exact aav):P:=h
theorem amn.Ab7(h:P:=by
 obtain⟨g,off,e0,hg,q0,q1,q2,q3⟩:=jf.four yZ.at.r i hi;rw [ah HST] at q3;obtain⟨c0,c1,c2,c3,c4,c5,c6,c7,c8⟩:=nine lC;open amW in exact aav):P:=h
theorem adJ(h:P:=by
 have hbw:aY wr W1:=by rw [hW1];exact au wr _
 have Bw:=Hq (ay GL hbw);have vL:=Hq (gI.trans (hbw.mono gI.size));exact AbH):P:=h
theorem amo.AbH(h:P:=by
 have HI1:=Hq (GR.At.below HI hbw);have hgw1:=hbw.size;have HKI:=Hq (GR.At.below HA vL)
 have DC:Hid ((k=0/\pv=true)\/∃(j:Nat) (y:Int),k=j+1/\pv=decide (y < fr)/\W1.cell? ⟨g,off+j*3,none⟩=some (.int .i64 y)):=by
  rcases xL with h|⟨j,y,h1,h2,h3⟩
  .exact .inl h
  .exact .inr ⟨j,y,h1,h2,(hbw.cell (p:=⟨g,off+j*3,none⟩) hgw).trans h3⟩
 clear hW1 hbw q0 q1 q2 c0 c1 c2 c3 c4 c5 c6 xL HI GL;obtain⟨d0,d1,d2⟩:=three HW1;open arJ in exact afI):P:=h
theorem amq.AbH(h:P:=by
 have hgw1:=hbw.size
 have DC:Hid ((k=0/\pv=true)\/∃(j:Nat) (y:Int),k=j+1/\pv=decide (y < si)/\W1.cell? ⟨g,off+j*4,none⟩=some (.int .i64 y)):=by
  exact ahh
 clear hW1 hbw q0 q1 q2 q3 c0 c1 c2 c3 c4 c5 c6 c7 c8 xL GL;obtain⟨d0,d1,d2,d3⟩:=gP HW1;open arI in exact afI):P:=h
theorem amr.AbH(h:P:=by
 clear hW1 hbw q0 q1 q2 q3 GL;obtain⟨d0,d1,d2,d3⟩:=gP HW1;go_cut [56] (λr wx=>r= .bool bb/\wx=W1)
 case first=>
  by_cases g1:y < si
  case' neg=>
   have hb1:decide (si<=y)=true:=decide_eq_true Aaa
   have HV:=Hq (show bb=true by rw [<-ah fO];simp[g1])
   clear fO Bh
   go_wp2_with (fail)
   go_meet
   case rel=>exact⟨Aam,rfl⟩
  have hb1:decide (si<=y)=false:=decide_eq_false Aaa;cases g2:ru si
  case' false=>
   have Hg2:=Hq (λw1=>kV si false w1 g2)
   have HV:=Hq (show bb=true by rw [<-ah fO];simp[g2])
   clear fO Bh
   go_wp2_with (first|(go_at_call 133;refine(Hg2 _).mono ?_;rintro e w9 ⟨rfl,rfl⟩))
   go_meet
   case rel=>exact⟨Aam,rfl⟩
  have Hg2:=Hq (λw1=>kV si true w1 g2);cases g3:keyOk sx.data.toList
  case' false=>
   have Hg3:=Hq (λw1=>iF sx false w1 g3)
   have HV:=Hq (show bb=true by rw [<-ah fO];simp[g3])
   clear fO Bh
   go_wp2_with (first|(go_at_call 133;refine(Hg2 _).mono ?_;rintro e w9 ⟨rfl,rfl⟩)|(go_at_call 131;refine(Hg3 _).mono ?_;rintro e w9 ⟨rfl,rfl⟩))
   go_meet
   case rel=>exact⟨Aam,rfl⟩
  have Hg3:=Hq (λw1=>iF sx true w1 g3);cases g4:fV sn
  case' false=>
   have Hg4:=Hq (λw1=>aU sn false w1 g4)
   have HV:=Hq (show bb=true by rw [<-ah fO];simp[g4])
   clear fO Bh
   go_wp2_with (first|(go_at_call 133;refine(Hg2 _).mono ?_;rintro e w9 ⟨rfl,rfl⟩)|(go_at_call 131;refine(Hg3 _).mono ?_;rintro e w9 ⟨rfl,rfl⟩)|(go_at_call 54;refine(Hg4 _).mono ?_;rintro e w9 ⟨rfl,rfl⟩))
   go_meet
   case rel=>exact⟨Aam,rfl⟩
  have Hg4:=Hq (λw1=>aU sn true w1 g4);by_cases g5:0<=st
  case' neg=>
   have hb5:decide (st < 0)=true:=decide_eq_true Aaa
   have HV:=Hq (show bb=true by rw [<-ah fO];simp[g5])
   clear fO Bh
   go_wp2_with (first|(go_at_call 133;refine(Hg2 _).mono ?_;rintro e w9 ⟨rfl,rfl⟩)|(go_at_call 131;refine(Hg3 _).mono ?_;rintro e w9 ⟨rfl,rfl⟩)|(go_at_call 54;refine(Hg4 _).mono ?_;rintro e w9 ⟨rfl,rfl⟩))
   go_meet
   case rel=>exact⟨Aam,rfl⟩
  have hb5:decide (st < 0)=false:=decide_eq_false Aaa;by_cases g6:st<=2
  case' neg=>
   have hb6:decide (2 < st)=true:=decide_eq_true Aaa
   have HV:=Hq (show bb=true by rw [<-ah fO];simp[g6])
   clear fO Bh
   go_wp2_with (first|(go_at_call 133;refine(Hg2 _).mono ?_;rintro e w9 ⟨rfl,rfl⟩)|(go_at_call 131;refine(Hg3 _).mono ?_;rintro e w9 ⟨rfl,rfl⟩)|(go_at_call 54;refine(Hg4 _).mono ?_;rintro e w9 ⟨rfl,rfl⟩))
   go_meet
   case rel=>exact⟨Aam,rfl⟩
  have hb6:decide (2 < st)=false:=decide_eq_false Aaa;have HV:=Hq (show bb=false by rw [<-ah fO];simp[g1,g2,g3,g4,g5,g6]);clear fO Bh;go_wp2_with (first|(go_at_call 133;refine(Hg2 _).mono ?_;rintro e w9 ⟨rfl,rfl⟩)|(go_at_call 131;refine(Hg3 _).mono ?_;rintro e w9 ⟨rfl,rfl⟩)|(go_at_call 54;refine(Hg4 _).mono ?_;rintro e w9 ⟨rfl,rfl⟩))
  go_meet
  case rel=>exact⟨Aam,rfl⟩
 case rest=>
  obtain⟨rfl,rfl⟩:=hcut;clear fO;cases hbv:bb
  .have HG:=Hq (show iB KB RR (reqs.take (k+1))=true by rw [ah Bh,hbv];rfl);subst hbv;clear HBAD Bh;go_wp2_with fail;go_roundw
   case rel=>exact⟨k+1,si,Aaa,Aai,rfl,Ef.symm,HG,Bw,vL⟩
   case measure=>simp[intOf];omega
  .have HP:=Hq (HBAD (by rw [ah Bh,hbv];rfl));subst hbv;clear HBAD Bh;go_wp2_with fail;go_ret;exact⟨aD HP.symm,vL⟩):P:=h
theorem ams.AbH(h:P:=by
 clear hW1 hbw q0 q1 q2 q3 GL;obtain⟨d0,d1,d2,d3⟩:=gP HW1;obtain⟨c0,c1,c2,c3,c4,c5,c6,c7,c8⟩:=nine Bw;go_cut [46] (λr wx=>r= .bool bb/\aY W1 wx)
 case first=>
  by_cases h1:y < si
  case' neg=>
   have HV:=Hq (show bb=true by rw [<-ah fO];simp[h1])
   have hb1:decide (si<=y)=true:=decide_eq_true Aaa
   clear fO Bh
   go_wp2_with fail
   go_meet
   case rel=>exact⟨Aam,Below.refl _ _⟩
  have hb1:decide (si<=y)=false:=decide_eq_false Aaa;by_cases h2:si < next
  case' neg=>
   have HV:=Hq (show bb=true by rw [<-ah fO];simp[h2])
   have hb2:decide (next<=si)=true:=decide_eq_true Aaa
   clear fO Bh
   go_wp2_with fail
   go_meet
   case rel=>exact⟨Aam,Below.refl _ _⟩
  have hb2:decide (next<=si)=false:=decide_eq_false Aaa;go_wp2_with fail;refine(Nu _ _ vL).mono ?_;rintro e w2 ⟨rfl,hb3⟩;have HB3:=Hq hb3;have HW2:=Hq (ay HW1 hb3);clear hb3 d0 d1 d2 d3 c0 c1 c2 c3 c4 c5 c6 c7 c8;obtain⟨d0,d1,d2,d3⟩:=gP HW2;cases h3:NN st
  case' false=>
   have HV:=Hq (show bb=true by rw [<-ah fO];simp[h3])
   clear fO Bh h3
   go_wp2_with fail
   go_meet
   case rel=>exact⟨Aam,HB3⟩
  cases h4:keyOk sx.data.toList
  case' false=>
   have HV:=Hq (show bb=true by rw [<-ah fO];simp[h4])
   have H4:=Hq (λw1=>iF sx false w1 h4)
   clear fO Bh h3 h4
   go_wp2_with (go_at_call 131;refine(H4 _).mono ?_;rintro e w9 ⟨rfl,rfl⟩)
   go_meet
   case rel=>exact⟨Aam,HB3⟩
  have H4:=Hq (λw1=>iF sx true w1 h4);have HV:=Hq (show bb= !fV sn by rw [<-ah fO];simp[h1,h2,h3,h4]);have H5:=Hq (λw1=>aU sn _ w1 rfl);clear fO Bh h3 h4;go_wp2_with (first|(go_at_call 131;refine(H4 _).mono ?_;rintro e w9 ⟨rfl,rfl⟩)|(go_at_call 54;refine(H5 _).mono ?_;rintro e w9 ⟨rfl,rfl⟩))
  go_meet
  case rel=>exact⟨Aam,HB3⟩
 case rest=>
  obtain⟨rfl,hbx⟩:=hcut;open asb in exact Vg):P:=h
theorem adK(h:P:=by
 have h1:rZ F=true:=by unfold nP at hr;simp only[Bool.and_eq_true] at hr;exact hr.1.1
 have h2:rZ T=true:=by unfold nP at hr;simp only[Bool.and_eq_true] at hr;exact hr.1.2
 have hft:¬F=T:=by unfold nP at hr;simp only[Bool.and_eq_true,decide_eq_true_iff] at hr;exact hr.2
 have H1:=Hq (λw1=>lW F true w1 h1);have H2:=Hq (λw1=>lW T true w1 h2);clear h1 h2;exact AbK):P:=h
theorem amu.AbK(h:P:=by
 have HP:=Hq (show bY ⟨K,F,T,I,L,k,N⟩=false by simp[bY,hr,k0,k1,k2]);clear hr;go_in
 go_wp2_with (first|(go_at_call_of 134 F;refine(H1 _).mono ?_;rintro e w1 ⟨rfl,rfl⟩)|(go_at_call_of 134 T;refine(H2 _).mono ?_;rintro e w1 ⟨rfl,rfl⟩))
 exact WI):P:=h
theorem amv.AbK(h:P:=by
 cases hc2:fV I
 case' false=>
  have HP:=Hq (show bY ⟨2,F,T,I,L,k,N⟩=false by simp[bY,hr,hc2])
  have oI:=Hq (λw1=>eU I false w1 hc2)
  clear hr hc2
  go_in
  go_wp2_with (first|(go_at_call_of 134 F;refine(H1 _).mono ?_;rintro e w1 ⟨rfl,rfl⟩)|(go_at_call_of 134 T;refine(H2 _).mono ?_;rintro e w1 ⟨rfl,rfl⟩)|(go_at_call_of 61 I;refine(oI _).mono ?_;rintro e w1 ⟨rfl,rfl⟩))
  go_ret
  exact⟨aD HP.symm,au w _⟩
 have oI:=Hq (λw1=>eU I true w1 hc2);by_cases hz:k.size=0
 case' neg=>
  have hne:k.toList.isEmpty=false:=jT k Aaa
  have HP:=Hq (show bY ⟨2,F,T,I,L,k,N⟩=false by simp[bY,hr,hc2,hz])
  clear hr hc2
  go_in
  go_wp2_with (first|(go_at_call_of 134 F;refine(H1 _).mono ?_;rintro e w1 ⟨rfl,rfl⟩)|(go_at_call_of 134 T;refine(H2 _).mono ?_;rintro e w1 ⟨rfl,rfl⟩)|(go_at_call_of 61 I;refine(oI _).mono ?_;rintro e w1 ⟨rfl,rfl⟩))
  go_ret
  exact⟨aD HP.symm,au w _⟩
 obtain rfl:=eq_empty k hz;by_cases hzN:N=0
 case' neg=>
  have HP:=Hq (show bY ⟨2,F,T,I,L,ByteArray.empty,N⟩=false by simp[bY,hr,hc2,hz,hzN])
  have he:(N == 0)=false:=by simp[hzN]
  clear hr hc2
  go_in
  go_wp2_with (first|(go_at_call_of 134 F;refine(H1 _).mono ?_;rintro e w1 ⟨rfl,rfl⟩)|(go_at_call_of 134 T;refine(H2 _).mono ?_;rintro e w1 ⟨rfl,rfl⟩)|(go_at_call_of 61 I;refine(oI _).mono ?_;rintro e w1 ⟨rfl,rfl⟩))
  go_ret
  exact⟨aD (by first|exact HP.symm|exact he.trans HP.symm),au w _⟩
 subst hzN;by_cases hzL:L=0
 case' neg=>
  have HP:=Hq (show bY ⟨2,F,T,I,L,ByteArray.empty,0⟩=false by simp[bY,hr,hc2,hz,hzL])
  have he:(L == 0)=false:=by simp[hzL]
  clear hr hc2
  go_in
  go_wp2_with (first|(go_at_call_of 134 F;refine(H1 _).mono ?_;rintro e w1 ⟨rfl,rfl⟩)|(go_at_call_of 134 T;refine(H2 _).mono ?_;rintro e w1 ⟨rfl,rfl⟩)|(go_at_call_of 61 I;refine(oI _).mono ?_;rintro e w1 ⟨rfl,rfl⟩))
  go_ret
  exact⟨aD (by first|exact HP.symm|exact he.trans HP.symm),au w _⟩
 subst hzL;have HP:=Hq (show bY ⟨2,F,T,I,0,ByteArray.empty,0⟩=true by simp[bY,hr,hc2,hz]);clear hr hc2;go_in
 go_wp2_with (first|(go_at_call_of 134 F;refine(H1 _).mono ?_;rintro e w1 ⟨rfl,rfl⟩)|(go_at_call_of 134 T;refine(H2 _).mono ?_;rintro e w1 ⟨rfl,rfl⟩)|(go_at_call_of 61 I;refine(oI _).mono ?_;rintro e w1 ⟨rfl,rfl⟩))
 exact WI):P:=h
theorem amw.AbK(h:P:=by
 cases hc2:keyOk k.data.toList
 case' false=>
  have HP:=Hq (show bY ⟨1,F,T,I,L,k,N⟩=false by simp[bY,hr,hc2])
  have oI:=Hq (λw1=>nK k false w1 hs hc2)
  clear hr hc2
  go_in
  go_wp2_with (first|(go_at_call_of 134 F;refine(H1 _).mono ?_;rintro e w1 ⟨rfl,rfl⟩)|(go_at_call_of 134 T;refine(H2 _).mono ?_;rintro e w1 ⟨rfl,rfl⟩)|(go_at_call_of 64 k;refine(oI _).mono ?_;rintro e w1 ⟨rfl,rfl⟩))
  go_ret
  exact⟨aD HP.symm,au w _⟩
 have oI:=Hq (λw1=>nK k true w1 hs hc2);cases hc3:fV N
 case' false=>
  have HP:=Hq (show bY ⟨1,F,T,I,L,k,N⟩=false by simp[bY,hr,hc2,hc3])
  have Nt:=Hq (λw1=>eU N false w1 hc3)
  clear hr hc2 hc3
  go_in
  go_wp2_with (first|(go_at_call_of 134 F;refine(H1 _).mono ?_;rintro e w1 ⟨rfl,rfl⟩)|(go_at_call_of 134 T;refine(H2 _).mono ?_;rintro e w1 ⟨rfl,rfl⟩)|(go_at_call_of 64 k;refine(oI _).mono ?_;rintro e w1 ⟨rfl,rfl⟩)|(go_at_call_of 61 N;refine(Nt _).mono ?_;rintro e w1 ⟨rfl,rfl⟩))
  go_ret
  exact⟨aD HP.symm,au w _⟩
 have Nt:=Hq (λw1=>eU N true w1 hc3);cases hc4:fV I
 case' false=>
  have HP:=Hq (show bY ⟨1,F,T,I,L,k,N⟩=false by simp[bY,hr,hc2,hc3,hc4])
  have HC4:=Hq (λw1=>eU I false w1 hc4)
  clear hr hc2 hc3 hc4
  go_in
  go_wp2_with (first|(go_at_call_of 134 F;refine(H1 _).mono ?_;rintro e w1 ⟨rfl,rfl⟩)|(go_at_call_of 134 T;refine(H2 _).mono ?_;rintro e w1 ⟨rfl,rfl⟩)|(go_at_call_of 64 k;refine(oI _).mono ?_;rintro e w1 ⟨rfl,rfl⟩)|(go_at_call_of 61 N;refine(Nt _).mono ?_;rintro e w1 ⟨rfl,rfl⟩)|(go_at_call_of 61 I;refine(HC4 _).mono ?_;rintro e w1 ⟨rfl,rfl⟩))
  go_ret
  exact⟨aD HP.symm,au w _⟩
 have HC4:=Hq (λw1=>eU I true w1 hc4);cases CW:decide (1<=L/\L<=I)
 case' false=>
  have HP:=Hq (show bY ⟨1,F,T,I,L,k,N⟩=false by simp[bY,hr,hc2,hc3,hc4,CW])
  have RV:=Hq (λw1=>uI L 1 I false w1 CW)
  clear hr hc2 hc3 hc4 CW
  go_in
  go_wp2_with (first|(go_at_call_of 134 F;refine(H1 _).mono ?_;rintro e w1 ⟨rfl,rfl⟩)|(go_at_call_of 134 T;refine(H2 _).mono ?_;rintro e w1 ⟨rfl,rfl⟩)|(go_at_call_of 64 k;refine(oI _).mono ?_;rintro e w1 ⟨rfl,rfl⟩)|(go_at_call_of 61 N;refine(Nt _).mono ?_;rintro e w1 ⟨rfl,rfl⟩)|(go_at_call_of 61 I;refine(HC4 _).mono ?_;rintro e w1 ⟨rfl,rfl⟩)|(go_at_call 63;refine(RV _).mono ?_;rintro e w1 ⟨rfl,rfl⟩))
  go_ret
  exact⟨aD HP.symm,au w _⟩
 have RV:=Hq (λw1=>uI L 1 I true w1 CW);have HP:=Hq (show bY ⟨1,F,T,I,L,k,N⟩=true by simp[bY,hr,hc2,hc3,hc4,CW]);clear hr hc2 hc3 hc4 CW;go_in
 go_wp2_with (first|(go_at_call_of 134 F;refine(H1 _).mono ?_;rintro e w1 ⟨rfl,rfl⟩)|(go_at_call_of 134 T;refine(H2 _).mono ?_;rintro e w1 ⟨rfl,rfl⟩)|(go_at_call_of 64 k;refine(oI _).mono ?_;rintro e w1 ⟨rfl,rfl⟩)|(go_at_call_of 61 N;refine(Nt _).mono ?_;rintro e w1 ⟨rfl,rfl⟩)|(go_at_call_of 61 I;refine(HC4 _).mono ?_;rintro e w1 ⟨rfl,rfl⟩)|(go_at_call 63;refine(RV _).mono ?_;rintro e w1 ⟨rfl,rfl⟩))
 exact WI):P:=h
theorem amx.AbK(h:P:=by
 cases hc2:keyOk k.data.toList
 case' false=>
  have HP:=Hq (show bY ⟨0,F,T,I,L,k,N⟩=false by simp[bY,hr,hc2])
  have oI:=Hq (λw1=>nK k false w1 hs hc2)
  clear hr hc2
  go_in
  go_wp2_with (first|(go_at_call_of 134 F;refine(H1 _).mono ?_;rintro e w1 ⟨rfl,rfl⟩)|(go_at_call_of 134 T;refine(H2 _).mono ?_;rintro e w1 ⟨rfl,rfl⟩)|(go_at_call_of 64 k;refine(oI _).mono ?_;rintro e w1 ⟨rfl,rfl⟩))
  go_ret
  exact⟨aD HP.symm,au w _⟩
 have oI:=Hq (λw1=>nK k true w1 hs hc2);cases hc3:fV N
 case' false=>
  have HP:=Hq (show bY ⟨0,F,T,I,L,k,N⟩=false by simp[bY,hr,hc2,hc3])
  have Nt:=Hq (λw1=>eU N false w1 hc3)
  clear hr hc2 hc3
  go_in
  go_wp2_with (first|(go_at_call_of 134 F;refine(H1 _).mono ?_;rintro e w1 ⟨rfl,rfl⟩)|(go_at_call_of 134 T;refine(H2 _).mono ?_;rintro e w1 ⟨rfl,rfl⟩)|(go_at_call_of 64 k;refine(oI _).mono ?_;rintro e w1 ⟨rfl,rfl⟩)|(go_at_call_of 61 N;refine(Nt _).mono ?_;rintro e w1 ⟨rfl,rfl⟩))
  go_ret
  exact⟨aD HP.symm,au w _⟩
 have Nt:=Hq (λw1=>eU N true w1 hc3);by_cases hzI:I=0
 case' neg=>
  have HP:=Hq (show bY ⟨0,F,T,I,L,k,N⟩=false by simp[bY,hr,hc2,hc3,hzI])
  have he:(I == 0)=false:=by simp[hzI]
  clear hr hc2 hc3
  go_in
  go_wp2_with (first|(go_at_call_of 134 F;refine(H1 _).mono ?_;rintro e w1 ⟨rfl,rfl⟩)|(go_at_call_of 134 T;refine(H2 _).mono ?_;rintro e w1 ⟨rfl,rfl⟩)|(go_at_call_of 64 k;refine(oI _).mono ?_;rintro e w1 ⟨rfl,rfl⟩)|(go_at_call_of 61 N;refine(Nt _).mono ?_;rintro e w1 ⟨rfl,rfl⟩))
  go_ret
  exact⟨aD (by first|exact HP.symm|exact he.trans HP.symm),au w _⟩
 subst hzI;by_cases hzL:L=0
 case' neg=>
  have HP:=Hq (show bY ⟨0,F,T,0,L,k,N⟩=false by simp[bY,hr,hc2,hc3,hzL])
  have he:(L == 0)=false:=by simp[hzL]
  clear hr hc2 hc3
  go_in
  go_wp2_with (first|(go_at_call_of 134 F;refine(H1 _).mono ?_;rintro e w1 ⟨rfl,rfl⟩)|(go_at_call_of 134 T;refine(H2 _).mono ?_;rintro e w1 ⟨rfl,rfl⟩)|(go_at_call_of 64 k;refine(oI _).mono ?_;rintro e w1 ⟨rfl,rfl⟩)|(go_at_call_of 61 N;refine(Nt _).mono ?_;rintro e w1 ⟨rfl,rfl⟩))
  go_ret
  exact⟨aD (by first|exact HP.symm|exact he.trans HP.symm),au w _⟩
 subst hzL;have HP:=Hq (show bY ⟨0,F,T,0,0,k,N⟩=true by simp[bY,hr,hc2,hc3]);clear hr hc2 hc3;go_in
 go_wp2_with (first|(go_at_call_of 134 F;refine(H1 _).mono ?_;rintro e w1 ⟨rfl,rfl⟩)|(go_at_call_of 134 T;refine(H2 _).mono ?_;rintro e w1 ⟨rfl,rfl⟩)|(go_at_call_of 64 k;refine(oI _).mono ?_;rintro e w1 ⟨rfl,rfl⟩)|(go_at_call_of 61 N;refine(Nt _).mono ?_;rintro e w1 ⟨rfl,rfl⟩))
 exact WI):P:=h
theorem OG(h:P:=by
 go_simp;refine aF 2 rfl Aab Aad ?_;go_simp;open avC in exact aas):P:=h
theorem amy.AaW(h:P:=by
 go_meet
 case rel=>exact⟨rfl,GR.setW_blk (gH n.id n.par a_k n.kids.length aL n.next av RL.length cv eD n.out.length aP eO n.seen.length aM IH.no (some ⟨g8,0,none⟩) n.reqs.length EW).toList (o:=0) (xs:=fU.toList) wK,(aC.of_below hg3).trans (aK (gH n.id n.par a_k n.kids.length aL n.next av RL.length cv eD n.out.length aP eO n.seen.length aM IH.no (some ⟨g8,0,none⟩) n.reqs.length EW).toList x2 0)⟩):P:=h
theorem amz.AaW(h:P:=by
 go_meet
 case rel=>exact⟨rfl,GR.setW_blk (gH n.id n.par a_k n.kids.length aL n.next av RL.length cv eD n.out.length aP eO n.seen.length aM IH.no (some ⟨g8,0,none⟩) n.reqs.length EW).toList (o:=0) (xs:=fU.toList) wK,(aC.of_below hx).trans (aK (gH n.id n.par a_k n.kids.length aL n.next av RL.length cv eD n.out.length aP eO n.seen.length aM IH.no (some ⟨g8,0,none⟩) n.reqs.length EW).toList x 0)⟩):P:=h
theorem amA.AaW(h:P:=by
 go_meet
 case rel=>exact⟨rfl,GR.setW_blk (gH n.id n.par a_k n.kids.length aL n.next av RL.length cv eD n.out.length aP eO n.seen.length aM n.old (some ⟨gv,0,none⟩) (n.reqs.length+1) vc).toList (o:=0) (xs:=fU.toList) wK,(aC.of_below hg3).trans (aK (gH n.id n.par a_k n.kids.length aL n.next av RL.length cv eD n.out.length aP eO n.seen.length aM n.old (some ⟨gv,0,none⟩) (n.reqs.length+1) vc).toList x2 0)⟩):P:=h
theorem amC.AaW(h:P:=by
 go_meet
 case rel=>exact⟨rfl,GR.setW_blk (gH n.id n.par a_k n.kids.length aL n.next av RL.length cv eD n.out.length aP eO n.seen.length aM n.old (some ⟨gv,0,none⟩) (n.reqs.length+1) vc).toList (o:=0) (xs:=fU.toList) wK,(aC.of_below hx).trans (aK (gH n.id n.par a_k n.kids.length aL n.next av RL.length cv eD n.out.length aP eO n.seen.length aM n.old (some ⟨gv,0,none⟩) (n.reqs.length+1) vc).toList x 0)⟩):P:=h
theorem amD.AaW(h:P:=by
 go_meet
 case rel=>exact⟨rfl,GR.setW_blk (gH n.id n.par a_k n.kids.length aL n.next (some ⟨gp,0,none⟩) n.pu.length bE eD n.out.length aP eO n.seen.length aM IH.no (some ⟨g8,0,none⟩) n.reqs.length EW).toList (o:=0) (xs:=fU.toList) wK,(aC.of_below hg3).trans (aK (gH n.id n.par a_k n.kids.length aL n.next (some ⟨gp,0,none⟩) n.pu.length bE eD n.out.length aP eO n.seen.length aM IH.no (some ⟨g8,0,none⟩) n.reqs.length EW).toList x2 0)⟩):P:=h
theorem amE.AaW(h:P:=by
 go_meet
 case rel=>exact⟨rfl,GR.setW_blk (gH n.id n.par a_k n.kids.length aL n.next (some ⟨gp,0,none⟩) n.pu.length bE eD n.out.length aP eO n.seen.length aM IH.no (some ⟨g8,0,none⟩) n.reqs.length EW).toList (o:=0) (xs:=fU.toList) wK,(aC.of_below hx).trans (aK (gH n.id n.par a_k n.kids.length aL n.next (some ⟨gp,0,none⟩) n.pu.length bE eD n.out.length aP eO n.seen.length aM IH.no (some ⟨g8,0,none⟩) n.reqs.length EW).toList x 0)⟩):P:=h
theorem amF.AaW(h:P:=by
 go_meet
 case rel=>exact⟨rfl,GR.setW_blk (gH n.id n.par a_k n.kids.length aL n.next (some ⟨gp,0,none⟩) n.pu.length bE eD n.out.length aP eO n.seen.length aM n.old (some ⟨gv,0,none⟩) (n.reqs.length+1) vc).toList (o:=0) (xs:=fU.toList) wK,(aC.of_below hg3).trans (aK (gH n.id n.par a_k n.kids.length aL n.next (some ⟨gp,0,none⟩) n.pu.length bE eD n.out.length aP eO n.seen.length aM n.old (some ⟨gv,0,none⟩) (n.reqs.length+1) vc).toList x2 0)⟩):P:=h
theorem amG.AaW(h:P:=by
 go_meet
 case rel=>exact⟨rfl,GR.setW_blk (gH n.id n.par a_k n.kids.length aL n.next (some ⟨gp,0,none⟩) n.pu.length bE eD n.out.length aP eO n.seen.length aM n.old (some ⟨gv,0,none⟩) (n.reqs.length+1) vc).toList (o:=0) (xs:=fU.toList) wK,(aC.of_below hx).trans (aK (gH n.id n.par a_k n.kids.length aL n.next (some ⟨gp,0,none⟩) n.pu.length bE eD n.out.length aP eO n.seen.length aM n.old (some ⟨gv,0,none⟩) (n.reqs.length+1) vc).toList x 0)⟩):P:=h
theorem awm(h:P:=by
 obtain⟨IH,IT,hIQ⟩:∃IH IT,IQ=IH::IT:=by
  exact aw1
 subst hIQ;have hIT:IT.length=n.reqs.length:=by have:=ah HLQ;simp at this;omega
 have y0:wc.cell? ⟨gv,0,none⟩=some (.int .i64 IH.no):=by
  exact aw0
 have HTA:=Hq (show jf wc (some ⟨gv,1*4,none⟩) IT from GR.At.drop (HL6.lies bX).1 1);have aBM:=(HL6.lies bX).2 gv 0 rfl;obtain⟨c0,c1,c2,c3,c4,c5,c6,c7,c8⟩:=nine mV;have cf:=aj mV 7;have hnl:=aA mV;have aA7:decide ((30:Int) < ((n.reqs.length+1:Nat):Int))=true:=decide_eq_true Aaa;go_upto_region 19 with fail;refine wp_at (λW7 Lp=>?_);have aCP:¬vc=1:=Aaa
 have aCQ:1<=vc:=Aaa
 exact Ae6):P:=h
theorem amH.Ae6(h:P:=by
 have qB:Hid (W7.heap[w.heap.size]?=some (.cells (gH n.id n.par a_k n.kids.length aL n.next av RL.length cv eD n.out.length aP eO n.seen.length aM IH.no (some ⟨gv,0,none⟩) (n.reqs.length+1) vc) 30 (0,0))):=by rw [Lp];exact aT mV 7 _
 have nT:Hid (W7.heap[w.heap.size+2]?=some (.cells fU 30 (0,0))):=by rw [Lp];exact gY _ Aaa jV
 have Zx:Hid (W7.heap[W1.heap.size]?=some (.cells (eG no k nn 0) 97 (0,0))):=by rw [Lp];exact gY _ Aaa DJ
 have ze:Hid (aY w W7):=by rw [Lp];exact vP.setCell (p:=⟨w.heap.size,7,none⟩) (Nat.le_refl _) _
 have adE:Hid (jf W7 (some ⟨gv,1*4,none⟩) IT):=by
  exact agY
 have HP7:Hid (LO 143 fH 4 (w.heap.size+3) W7 av cv RL):=by rw [Lp];exact Zv.keeps (aC.set _) (λx hx=>by simp at hx;omega)
 clear Lp HTA y0 cf c0 c1 c2 c3 c4 c5 c6 c7 c8 hnl mV jV DJ vP HL6 Zv;open anj in exact awt):P:=h
theorem amI.Ae6(h:P:=by
 have qB:Hid (W7.heap[w.heap.size]?=some (.cells (gH n.id n.par a_k n.kids.length aL n.next (some ⟨gp,0,none⟩) n.pu.length bE eD n.out.length aP eO n.seen.length aM IH.no (some ⟨gv,0,none⟩) (n.reqs.length+1) vc) 30 (0,0))):=by rw [Lp];exact aT mV 7 _
 have nT:Hid (W7.heap[w.heap.size+2]?=some (.cells fU 30 (0,0))):=by rw [Lp];exact gY _ Aaa jV
 have Zx:Hid (W7.heap[W1.heap.size]?=some (.cells (eG no k nn 1) 97 (0,0))):=by rw [Lp];exact gY _ Aaa DJ
 have ze:Hid (aY w W7):=by rw [Lp];exact vP.setCell (p:=⟨w.heap.size,7,none⟩) (Nat.le_refl _) _
 have adE:Hid (jf W7 (some ⟨gv,1*4,none⟩) IT):=by
  exact agY
 skip
 clear Lp HTA y0 cf c0 c1 c2 c3 c4 c5 c6 c7 c8 hnl mV jV DJ vP HL6;open ani in exact awt):P:=h
theorem awn(h:P:=by
 have qE:aY Z6 Z7:=by
  rw [hZ];exact au Z6 _
 have qB:=Hq (ay mV qE);have nT:=Hq (ay jV qE);have HN7:=Hq (HN6.kc (k:=9) (KC.of_below qE) Aaa);have HP7:=Hq (GR.own_below Zv qE);have ze:=Hq (vP.trans (qE.mono (Nat.le_trans hB vP.size)));have HK7:=Hq (HK6.step vP.size qE);have hsb:w.heap.size+1 < Z6.heap.size:=aA jV;generalize Z6.heap.size=sb at *;clear hZ qE mV jV HN6 Zv vP HK6 c3n hn6;have c3n:=(nine qB).2.2.2.1;have f3n:=aj qB 3;have hn7:=aA qB;go_upto_region 9 with fail;refine wp_at (λZ8 hZ=>?_);have rR:Hid (Z8.heap[w.heap.size]?=some (.cells (gH n.id n.par a_k n.kids.length aL (n.next+1) av RL.length cv eD n.out.length aP eO n.seen.length aM n.old gN n.reqs.length aV) 30 (0,0))):=by rw [hZ];exact pY qB
 have zn:Hid (Z8.heap[w.heap.size+1]?=some (.cells fU 30 (0,0))):=by rw [hZ];exact oC nT Aaa
 exact Afx):P:=h
theorem amJ.Afx(h:P:=by
 have Om:Hid (Z8.heap[sb]?=some (.cells (fI n.next dst key most) 95 (0,0))):=by rw [hZ];exact oC Wu Aaa
 open aol in exact awy):P:=h
theorem amK.Afx(h:P:=by
 have Om:Hid (Z8.heap[sb]?=some (.cells (fI n.next dst key pf) 95 (0,0))):=by rw [hZ];exact oC Wu Aaa
 open aok in exact awy):P:=h
theorem awo(h:P:=by
 clear hz hok hm hL he HR hw hF hks hb HID;generalize (takeN n o.m).1=n' at *;open aqR in exact Z0):P:=h
theorem amL.Afp(h:P:=by
 obtain⟨c0,c1,c2,c3,c4,c5,c6,c7,c8,c9⟩:=jr HY.blk;obtain⟨⟨p0,p1,p2,p3,p4,p5,p6⟩,_⟩:=dQ EI;have ajJ:=aA HY.blk;have aCd:=aA EI;go_upto_region 10 with fail;have y0:=cell_regrown c0;have z1:=cell_regrown p1;have z3:=cell_regrown p3;clear c0 c1 c2 c3 c4 c5 c6 c7 c8 c9 p0 p1 p2 p3 p4 p5 p6;refine bV 11 Aab ?_;show fD _ _ _ _ _ 12 (Array.replicate 12 false) _ _
 refine tk [0,1,2,3,4,5,6,7,8,9,10] ?_;iterate 11 (refine su (λK hK=>?_);go_simp;refine hK _ ?_;clear hK K)
 refine jc ?_;clear y0 z1 z3;refine bf Aab (λx hx=>?_);have JD:=Hq (Bg x A' G' c' n' (HY.step hx));clear hx;refine aF 11 rfl Aab Aad ?_;go_simp;refine JD.mono ?_;rintro e z ⟨rfl,c2,v2,hZ⟩;have HZ:=Hq hZ;clear hZ JD;refine wpAny_done Aab ?_;go_simp;go_wp2_with fail;go_ret;exact⟨rfl,A',G',c2,v2,HZ⟩):P:=h
theorem amM.Afp(h:P:=by
 go_wp2_with fail;go_ret;exact⟨rfl,A',G',c',v,by rw [List.append_nil];exact HY⟩):P:=h
theorem OH(h:P:=by
 open aui in exact OD):P:=h
theorem amN.AaV(h:P:=by
 clear HO p0 p1 p2 p3 p4 p5 p6;have f1:=ab9;open aAt in exact Sl):P:=h
theorem amO.AaV(h:P:=by
 clear HO HM p0 p1 p2 p3 p4 p5 p6;have f1:=acd;open aof in exact aiT):P:=h
theorem amP.AaV(h:P:=by
 clear HO p0 p1 p2 p3 p4 p5 p6;have f1:=acd;open aAu in exact Sl):P:=h
theorem amQ.AaV(h:P:=by
 clear HO p0 p1 p2 p3 p4 p5 p6;have f1:=VF;open aAv in exact Sl):P:=h
theorem amR.AaV(h:P:=by
 clear p0 p1 p2 p3 p4 p5 p6;refine dz Aab ?_;show iL _ _ _ _ 30 (Array.replicate 30 false) _ _
 open alQ in exact awg):P:=h
theorem amS.AaV(h:P:=by
 have y7:=cell_regrown p7;have y8:=cell_regrown p8;have y9:=cell_regrown p9;have y10:=cell_regrown oD;clear p0 p1 p2 p3 p4 p5 p6 p7 p8 p9 oD;refine dz Aab ?_;show iL _ _ _ _ 23 (Array.replicate 23 false) _ _
 open alR in exact awg):P:=h
theorem amT.AaV(h:P:=by
 clear HO HM p0 p1 p2 p3 p4 p5 p6;have f1:=VF;open aoe in exact aiT):P:=h
theorem amU.AaV(h:P:=by
 clear HO HM p0 p1 p2 p3 p4 p5 p6;have f1:=ab9;open aod in exact aiT):P:=h
theorem aav(h:P:=by
 obtain⟨d0,d1,d2,d3,d4,d5,d6,d7,d8⟩:=nine qZ;have f0:=aj qZ 0;have f1:=aj qZ 1;have f2:=aj qZ 2;have f3:=aj qZ 3;have f4:=aj qZ 4;have f5:=aj qZ 5;have f6:=aj qZ 6;have f7:=aj qZ 7;have f8:=aj qZ 8;exact Aa6):P:=h
theorem amV.Aa6(h:P:=by
 open auX in exact agA):P:=h
theorem amW.Aa6(h:P:=by
 have hnl:=aA lC;have hrl:=aA qZ;clear q0 q1 q2 HST;dsimp only at e0;subst e0;go_wp2_with fail;refine aO (λW' hW'=>?_)
 have e4:W'.heap[w.heap.size+1]?=some (.cells (gH n.id n.par a_k n.kids.length aL n.next jE n.pu.length bE eD n.out.length aP eO n.seen.length aM n.old (some ⟨g,off,none⟩) n.reqs.length aV) 30 (0,0)):=by
  exact aAO
 have gL:aC [w.heap.size+1] W1 W':=by
  exact aAP
 open ao7 in exact awK):P:=h
theorem amX.Aa6(h:P:=by
 have hnl:=aA lC;have hrl:=aA qZ;first|dsimp only at e0|skip
 subst e0;have HQ3:=Hq q3;have HQS:=Hq (And.intro q0 (And.intro q1 (And.intro q2 q3)));generalize n.reqs[i].k=qk at *;exact AaJ):P:=h
theorem amY.Aa6(h:P:=by
 have hnl:=aA lC;open auW in exact agA):P:=h
theorem amZ.Aa6(h:P:=by
 have hrl:=aA qZ;go_wp2_with fail;refine aO (λW' hW'=>?_)
 have e4:W'.heap[w.heap.size+2]?=some (.cells (dD n A1) 30 (0,0)):=by
  rw [hW'];exact GR.setW_blk (dD n A1).toList (o:=0) (xs:=fU.toList) qZ
 have gL:aC [w.heap.size+2] X W':=by
  rw [hW'];exact aK (dD n A1).toList X 0
 open auV in exact agz):P:=h
theorem aaw(h:P:=by
 rw [hmo] at Zp;unfold qg at Zp;have Nu:=Hq (λW (ha:dX W A.k n.kids)=>AO n A mF W hkl ha);rw [h2] at Nu;clear hmo h2;have kS:=Hq (h.nine hB);clear h;go_in
 go_upto_region 1 with fail;refine wp_at (λW0 hW=>?_);exact Aa4):P:=h
theorem am0.Aa4(h:P:=by
 obtain⟨e1,e2,e3,e4⟩:=gD w (.cells (dD n A) 30) (.cells (cK 0 mF mT mI mL mk mN) 32) (.cells fU 30);open azl in exact Yw3):P:=h
theorem am1.Aa4(h:P:=by
 obtain⟨e1,e2,e3,e4⟩:=gD w (.cells (dD n A) 30) (.cells (cK 0 mF mT mI mL mk mN) 32) (.cells fU 30);open azm in exact Yw3):P:=h
theorem am2.Aa4(h:P:=by
 obtain⟨e1,e2,e3,e4⟩:=gD w (.cells (dD n A) 30) (.cells (cK mK mF mT mI mL mk mN) 32) (.cells fU 30);open azn in exact Yw3):P:=h
theorem am3.Aa4(h:P:=by
 obtain⟨e1,e2,e3,e4⟩:=gD w (.cells (dD n A) 30) (.cells (cK 2 mF mT mI mL mk mN) 32) (.cells fU 30);open azo in exact Yw3):P:=h
theorem am4.Aa4(h:P:=by
 obtain⟨e1,e2,e3,e4⟩:=gD w (.cells (dD n A) 30) (.cells (cK 1 mF mT mI mL mk mN) 32) (.cells fU 30);open azp in exact Yw3):P:=h
theorem awp(h:P:=by
 go_upto_region 1 with fail;have y0:=cell_regrown c0;have y1:=cell_regrown c1;clear c0 c1;refine dz Aab ?_;show iL _ _ _ _ 14 (Array.replicate 14 false) _ _
 refine tk [0,1,2,3,4,5,6,7] ?_;iterate 8 (refine vJ (λK hK=>?_);go_simp;refine hK _ ?_;clear hK K)
 refine jc ?_;refine dP 8 rfl Aab Aab Aab (λ_ _ _ _ h=>h) (λK hK=>?_);go_simp
 first
  |(refine hK _ ?_;clear hK K)
  |(apply Exists.intro
    refine⟨λ_=>?_,hK _ ?_⟩
    (exact HC _ (Sc _))
    clear hK K)
 refine tk [9,10,11,12,13] ?_;iterate 5 (refine vJ (λK hK=>?_);go_simp;refine hK _ ?_;clear hK K)
 refine jc ?_;refine fE Aab (λz hz=>?_);have HZ:=Hq hz;have JB:=Hq (aJ H hz);clear hz y0 y1 Sc HC H;go_simp;go_wp2_with fail;refine(HG _ JB).mono ?_;rintro e w1 ⟨rfl,rfl⟩;go_wp2_with fail;exact Aen):P:=h
theorem am5.Aen(h:P:=by
 exact⟨rfl,rfl,HZ⟩):P:=h
theorem am6.Aen(h:P:=by
 go_ret;exact⟨rfl,jW.set JB _,(dS.of_below HZ).trans (dS.set _)⟩):P:=h
theorem awq(h:P:=by
 open arv in exact afC):P:=h
theorem am7.Afy(h:P:=by
 rintro e W3 ⟨A1,G1,cc,rfl,Hz,hb3,_,_⟩;have mO:=Hq (ay zl hb3);have HB3:=Hq (iX.trans (hb3.mono iX.size));have kS:=Hq Hz;have hrs:=aA zl;clear hb3 Hz c0 c1 c2 c3 c4 c5 c6 c7 c8 hnl Du Dz aiC zl;exact axe):P:=h
theorem am8.Afy(h:P:=by
 rintro e W3 ⟨A1,G1,cc,rfl,Hz,hb3,hP1,hP2,hR1,hR2⟩;have mO:=Hq (ay zl hb3);have mJ:=Hq (ay Dz hb3);have KP:=Hq (ay aiC hb3);have HB3:=Hq (iX.trans (hb3.mono iX.size));have HPR:=Hq (And.intro (And.intro hP1 hP2) (And.intro hR1 hR2));have kS:=Hq (Hz.flat (b:=0) (Nat.zero_le _));have Zg:=Hq (λx (hx:x < w.heap.size+3)=>Xb (b:=0) (Nat.zero_le _) (Hz.lo x (by have:=aA zl;omega)));have hrs:=aA zl;have H9:=Hq (abb 0 cc);generalize xQ 0 cc=c at *;have oI:=Hq (Zg (w.heap.size+2) Aaa);have CQ:=Hq (Zg w.heap.size Aaa);clear hb3 Hz hP1 hP2 hR1 hR2 c0 c1 c2 c3 c4 c5 c6 c7 c8 hnl Du Dz aiC zl;obtain⟨d0,d1,d2,d3,d4,d5,d6,d7,d8⟩:=nine mJ;have f0:=aj mJ 0;have f1:=aj mJ 1;have f2:=aj mJ 2;have f3:=aj mJ 3;have f4:=aj mJ 4;have f5:=aj mJ 5;have f6:=aj mJ 6;have f7:=aj mJ 7;have f8:=aj mJ 8;obtain⟨⟨p0,p1,p2,p3,p4,p5,p6,p7,p8,p9,oD⟩,_⟩:=aQ KP;have hnl:=aA mJ;have hol:=aA KP;go_upto_region 5 with fail;refine wp_at (λX hX=>?_)
 have e5:X.heap[w.heap.size]?=some (.cells (dD n A1) 30 (0,0)):=by
  exact awX
 have hkx:aC [w.heap.size] W3 X:=by
  exact aw3
 have gU:=Hq e5;have HOX:=Hq ((hkx.block _ (aA KP) Aac).trans KP);have qZ:=Hq ((hkx.block _ (aA mO) Aac).trans mO);have lU:=Hq (HB3.trans (hkx.below (B:=w.heap.size) (λx hx=>by have:x=w.heap.size:=Aag;omega) HB3.size));have BA:=Hq (kS.kc (k:=9) (KC.keeps hkx (λx hx=>by have:x=w.heap.size:=Aag;rw [this];exact CQ)) Aaa);exact Kw0):P:=h
theorem aiS(h:P:=by
 obtain⟨pk,pm,pf,ps⟩:=p;unfold gX at hp;simp only[Bool.and_eq_true] at hp;obtain⟨⟨⟨⟨_,a1⟩,a2⟩,a3⟩,a4⟩:=hp;have b1:0<=pm/\pm<=1000000000:=of_decide_eq_true a1;have b2:0<=pf/\pf<=1000000000:=of_decide_eq_true a2;have b3:0<=ps/\ps<=1000000000:=of_decide_eq_true a3;obtain⟨Sr,a11⟩:=b1;obtain⟨a20,a21⟩:=b2;obtain⟨a30,a31⟩:=b3;obtain⟨h10,h11⟩:=h1;obtain⟨h20,h21⟩:=h2;obtain⟨h30,h31⟩:=h3;clear a1 a2 a3 a4;exact Ab6):P:=h
theorem am9.Ab6(h:P:=by
 dsimp only at hf;clear he;rcases hf with hf|⟨hf,hs⟩
 all_goals
  go_in
  go_upto_region 5 with fail
  refine Fo.wp_at (λV hV=>?_)
  obtain⟨_,hC,hbel⟩:=AV (w:=w) (w1:=V) (by rw [hV];exact Below.refl _ _)
  have HC:=Hq hC
  have gI:=Hq hbel
  have vv:=(HE.below hbel).var 3 Aaa
  have hsz:=(show w.heap.size+1+1 < V.heap.size from Fo.lt_of_blk hC)
  obtain⟨⟨r0,r1,r2,r3⟩,s0,s1,s2,s3⟩:=gG hC
  clear hC hbel hV
  go_region
  all_goals
   go_wp2_with fail
   refine Fo.bodyPost_at (λW' hW'=>?_)
   obtain⟨⟨t0,t1,t2,t3⟩,_⟩:=gG (show W'.heap[w.heap.size+1+1]?=some (.cells (iM ⟨#[]⟩ 0 0 0) 143 (0,0)) by rw [hW'];exact Fo.four_set (w:=V.drew) HC)
   have hbb:aY w W':=by rw [hW'];exact Fo.four_below (w:=V.drew) (gI.trans ⟨rfl,rfl,rfl,Nat.le_refl _,λ_ _=>rfl⟩) Aaa
   exact bodyPost_ret (v:= .tuple #[.agg (iM ⟨#[]⟩ 0 0 0),uw (E 3)]) (by simp[results,results261,go_sem,t0,t1,t2,t3]) rfl ⟨rfl,hbb⟩):P:=h
theorem ana.Ab6(h:P:=by
 dsimp only at hf hs;clear hok he;open av1 in exact agX):P:=h
theorem anb.Ab6(h:P:=by
 dsimp only at hf hs;clear hok;open av0 in exact agX):P:=h
theorem awr(h:P:=by
 have tZ:=Hq gL;clear gL;refine aF 12 rfl Aab Aad ?_;go_simp;refine aF 13 rfl Aab Aad ?_;go_simp;refine wpAny_done Aab ?_;go_simp;go_wp2_with fail;refine aO (λW' hW'=>?_);subst hW';have gL:=ah tZ;open auU in exact agz):P:=h
theorem ane.Afn(h:P:=by
 exact bodyPost_ret (v:= .tuple #[(fT n A1),.slice (some ⟨y.heap.size,0,none⟩) 1 1,.int .i64 0]) Abc rfl ⟨A1,some ⟨y.heap.size,0,none⟩,1,rfl,HAT,HMT,nO⟩):P:=h
theorem anf.Afn(h:P:=by
 exact bodyPost_ret (v:= .tuple #[(fT n A1),.slice (some ⟨x.heap.size,0,none⟩) 1 1,.int .i64 0]) Abc rfl ⟨A1,some ⟨x.heap.size,0,none⟩,1,rfl,HAT,HMT,nO⟩):P:=h
theorem aws(h:P:=by
 have hat:kW l k=(gX l[k]&&(k == 0|| !sle l[k].k (l.getD (k - 1) default).k)):=by unfold kW;rw [getD_at l k hlt]
 exact AdX):P:=h
theorem ang.AdX(h:P:=by
 cases k with
 |zero=>
  obtain⟨g,off,rfl,hgw,c0,c1,c2,c3⟩:=aI.four (GR.At.below HA gI) 0 hlt
  simp only[Nat.zero_mul,Nat.add_zero] at c0 c1 c2 c3
  have hgt:decide ((0:Int) < ((0:Nat):Int))=false:=rfl
  have jB:=Hq hat
  have gU:=Hq (mX (kW l) 0)
  clear hat
  generalize l[0]=pu at *
  obtain⟨pk,pm,pf,ps⟩:=pu
  dsimp only at c0 c1 c2 c3 hks
  cases hkb:keyOk pk.data.toList
  .have HB:=Hq hkb;have HBAD:=Hq (iR hlt (show kW l 0=false by rw [ah jB];simp[gX,ah HB]));clear jB gU;have hkb':=ah HB;exact ai1
  have hkb':=hkb
  by_cases h1:0<=pm/\pm<=1000000000
  case' neg=>
   have hA:ru pm=false:=decide_eq_false h1
   have g1:decide (wL pm 0 1000000000)=false:=decide_eq_false h1
   have HBAD:=Hq (iR hlt (show kW l 0=false by rw [ah jB];simp[gX,hA]))
   clear jB gU hA
   go_wp2_with fail
   refine wp_region_quiet_lit Aab Aab ?_
   repeat (first|go_big_quiet_step ((first|(go_at_call 64;exact qh _ _ hks hkb' _ _)|(go_at_call_of 62 (IntKind.i64.wrap (pf+ps));exact gT _ _ g4 _ _)|(go_at_call_of 62 (pf+ps);exact gT _ _ g5 _ _)|(go_at_call_of 62 pm;exact gT _ _ g1 _ _)|(go_at_call_of 62 pf;exact gT _ _ g2 _ _)|(go_at_call_of 62 ps;exact gT _ _ g3 _ _)))|quiet_step ((first|(go_at_call 64;exact qh _ _ hks hkb' _ _)|(go_at_call_of 62 (IntKind.i64.wrap (pf+ps));exact gT _ _ g4 _ _)|(go_at_call_of 62 (pf+ps);exact gT _ _ g5 _ _)|(go_at_call_of 62 pm;exact gT _ _ g1 _ _)|(go_at_call_of 62 pf;exact gT _ _ g2 _ _)|(go_at_call_of 62 ps;exact gT _ _ g3 _ _))))
   refine wpQuiet_nil ?_
   intro _ hw'
   obtain⟨nq,hw''⟩:=hw'
   subst hw''
   go_wp2_with fail
   go_ret
   exact⟨aD HBAD.symm,(gI.alloc gI.size _).trans ⟨rfl,rfl,rfl,Nat.le_refl _,λ_ _=>rfl⟩⟩
  have g1:decide (wL pm 0 1000000000)=true:=decide_eq_true h1
  have hA1:ru pm=true:=decide_eq_true h1
  by_cases h2:0<=pf/\pf<=1000000000
  case' neg=>
   have hA:ru pf=false:=decide_eq_false h2
   have g2:decide (wL pf 0 1000000000)=false:=decide_eq_false h2
   have HBAD:=Hq (iR hlt (show kW l 0=false by rw [ah jB];simp[gX,hA]))
   clear jB gU hA
   go_wp2_with fail
   refine wp_region_quiet_lit Aab Aab ?_
   repeat (first|go_big_quiet_step ((first|(go_at_call 64;exact qh _ _ hks hkb' _ _)|(go_at_call_of 62 (IntKind.i64.wrap (pf+ps));exact gT _ _ g4 _ _)|(go_at_call_of 62 (pf+ps);exact gT _ _ g5 _ _)|(go_at_call_of 62 pm;exact gT _ _ g1 _ _)|(go_at_call_of 62 pf;exact gT _ _ g2 _ _)|(go_at_call_of 62 ps;exact gT _ _ g3 _ _)))|quiet_step ((first|(go_at_call 64;exact qh _ _ hks hkb' _ _)|(go_at_call_of 62 (IntKind.i64.wrap (pf+ps));exact gT _ _ g4 _ _)|(go_at_call_of 62 (pf+ps);exact gT _ _ g5 _ _)|(go_at_call_of 62 pm;exact gT _ _ g1 _ _)|(go_at_call_of 62 pf;exact gT _ _ g2 _ _)|(go_at_call_of 62 ps;exact gT _ _ g3 _ _))))
   refine wpQuiet_nil ?_
   intro _ hw'
   obtain⟨nq,hw''⟩:=hw'
   subst hw''
   go_wp2_with fail
   go_ret
   exact⟨aD HBAD.symm,(gI.alloc gI.size _).trans ⟨rfl,rfl,rfl,Nat.le_refl _,λ_ _=>rfl⟩⟩
  have g2:decide (wL pf 0 1000000000)=true:=decide_eq_true h2
  have hA2:ru pf=true:=decide_eq_true h2
  by_cases h3:0<=ps/\ps<=1000000000
  case' neg=>
   have hA:ru ps=false:=decide_eq_false h3
   have g3:decide (wL ps 0 1000000000)=false:=decide_eq_false h3
   have HBAD:=Hq (iR hlt (show kW l 0=false by rw [ah jB];simp[gX,hA]))
   clear jB gU hA
   go_wp2_with fail
   refine wp_region_quiet_lit Aab Aab ?_
   repeat (first|go_big_quiet_step ((first|(go_at_call 64;exact qh _ _ hks hkb' _ _)|(go_at_call_of 62 (IntKind.i64.wrap (pf+ps));exact gT _ _ g4 _ _)|(go_at_call_of 62 (pf+ps);exact gT _ _ g5 _ _)|(go_at_call_of 62 pm;exact gT _ _ g1 _ _)|(go_at_call_of 62 pf;exact gT _ _ g2 _ _)|(go_at_call_of 62 ps;exact gT _ _ g3 _ _)))|quiet_step ((first|(go_at_call 64;exact qh _ _ hks hkb' _ _)|(go_at_call_of 62 (IntKind.i64.wrap (pf+ps));exact gT _ _ g4 _ _)|(go_at_call_of 62 (pf+ps);exact gT _ _ g5 _ _)|(go_at_call_of 62 pm;exact gT _ _ g1 _ _)|(go_at_call_of 62 pf;exact gT _ _ g2 _ _)|(go_at_call_of 62 ps;exact gT _ _ g3 _ _))))
   refine wpQuiet_nil ?_
   intro _ hw'
   obtain⟨nq,hw''⟩:=hw'
   subst hw''
   go_wp2_with fail
   go_ret
   exact⟨aD HBAD.symm,(gI.alloc gI.size _).trans ⟨rfl,rfl,rfl,Nat.le_refl _,λ_ _=>rfl⟩⟩
  have g3:decide (wL ps 0 1000000000)=true:=decide_eq_true h3
  have hA3:ru ps=true:=decide_eq_true h3
  have e4:IntKind.i64.wrap (pf+ps)=pf+ps:=IntWalk.i64_in _ ⟨Aaa,Aaa⟩
  by_cases h4:0<=(pf+ps)/\(pf+ps)<=1000000000
  case' neg=>
   have hA:ru (pf+ps)=false:=decide_eq_false h4
   have g4:decide (wL (pf+ps) 0 1000000000)=false:=decide_eq_false h4
   have g5:=g4
   rw [<-e4] at g4
   have HBAD:=Hq (iR hlt (show kW l 0=false by rw [ah jB];simp[gX,hA]))
   clear jB gU hA
   go_wp2_with fail
   refine wp_region_quiet_lit Aab Aab ?_
   repeat (first|go_big_quiet_step ((first|(go_at_call 64;exact qh _ _ hks hkb' _ _)|(go_at_call_of 62 (IntKind.i64.wrap (pf+ps));exact gT _ _ g4 _ _)|(go_at_call_of 62 (pf+ps);exact gT _ _ g5 _ _)|(go_at_call_of 62 pm;exact gT _ _ g1 _ _)|(go_at_call_of 62 pf;exact gT _ _ g2 _ _)|(go_at_call_of 62 ps;exact gT _ _ g3 _ _)))|quiet_step ((first|(go_at_call 64;exact qh _ _ hks hkb' _ _)|(go_at_call_of 62 (IntKind.i64.wrap (pf+ps));exact gT _ _ g4 _ _)|(go_at_call_of 62 (pf+ps);exact gT _ _ g5 _ _)|(go_at_call_of 62 pm;exact gT _ _ g1 _ _)|(go_at_call_of 62 pf;exact gT _ _ g2 _ _)|(go_at_call_of 62 ps;exact gT _ _ g3 _ _))))
   refine wpQuiet_nil ?_
   intro _ hw'
   obtain⟨nq,hw''⟩:=hw'
   subst hw''
   go_wp2_with fail
   go_ret
   exact⟨aD HBAD.symm,(gI.alloc gI.size _).trans ⟨rfl,rfl,rfl,Nat.le_refl _,λ_ _=>rfl⟩⟩
  have g4:decide (wL (pf+ps) 0 1000000000)=true:=decide_eq_true h4
  have hA4:ru (pf+ps)=true:=decide_eq_true h4
  have g5:=g4
  rw [<-e4] at g4
  have EH:=Hq (show kW l 0=true by rw [ah jB];simp[gX,hkb,hA1,hA2,hA3,hA4])
  clear jB hA1 hA2 hA3 hA4
  go_wp2_with fail
  refine wp_region_quiet_lit Aab Aab ?_
  repeat (first|go_big_quiet_step ((first|(go_at_call 64;exact qh _ _ hks hkb' _ _)|(go_at_call_of 62 (IntKind.i64.wrap (pf+ps));exact gT _ _ g4 _ _)|(go_at_call_of 62 (pf+ps);exact gT _ _ g5 _ _)|(go_at_call_of 62 pm;exact gT _ _ g1 _ _)|(go_at_call_of 62 pf;exact gT _ _ g2 _ _)|(go_at_call_of 62 ps;exact gT _ _ g3 _ _)))|quiet_step ((first|(go_at_call 64;exact qh _ _ hks hkb' _ _)|(go_at_call_of 62 (IntKind.i64.wrap (pf+ps));exact gT _ _ g4 _ _)|(go_at_call_of 62 (pf+ps);exact gT _ _ g5 _ _)|(go_at_call_of 62 pm;exact gT _ _ g1 _ _)|(go_at_call_of 62 pf;exact gT _ _ g2 _ _)|(go_at_call_of 62 ps;exact gT _ _ g3 _ _))))
  refine wpQuiet_nil ?_
  intro _ hw'
  obtain⟨nq,hw''⟩:=hw'
  subst hw''
  go_wp2_with fail
  go_roundw
  case rel=>exact⟨0+1,Aaa,Aai,Acw,(gI.alloc gI.size _).trans ⟨rfl,rfl,rfl,Nat.le_refl _,λ_ _=>rfl⟩⟩
  case measure=>simp[intOf];omega
 |succ j=>
  obtain⟨g,off,rfl,hgw,c0,c1,c2,c3⟩:=aI.four (GR.At.below HA gI) (j+1) hlt
  obtain⟨g',off',e',_,d0,_,_,_⟩:=aI.four (GR.At.below HA gI) j Aaa
  have eg:g=g'/\off=off':=by injection e' with e';injection e' with e1 e2;exact⟨e1,e2⟩
  obtain⟨rfl,rfl⟩:=eg
  have hgd:l.getD j default=l[j]:=getD_at l j Aaa
  rw [show j+1 - 1=j from rfl,hgd] at hat
  have hgt:decide ((0:Int) < ((j:Int)+1))=true:=decide_eq_true Aaa
  clear e' hgd
  generalize l[j].k=q at *
  have jB:=Hq hat
  have gU:=Hq (mX (kW l) (j+1))
  clear hat
  generalize l[j+1]=pu at *
  obtain⟨pk,pm,pf,ps⟩:=pu
  dsimp only at c0 c1 c2 c3 hks
  cases hkb:keyOk pk.data.toList
  .have HB:=Hq hkb;have HBAD:=Hq (iR hlt (show kW l (j+1)=false by rw [ah jB];simp[gX,ah HB]));clear jB gU;have hkb':=ah HB;exact ai1
  have hkb':=hkb
  cases hbl:Op.bytesLess pk.toList q.toList
  case' true=>
   have hsl:sle pk q=true:=by unfold sle;rw [hbl];rfl
   cases heq:pk.toList == q.toList
   .exact ahk
   .exact ahk
  cases heq:pk.toList == q.toList
  case' true=>
   have hsl:sle pk q=true:=by unfold sle;rw [hbl,heq];rfl
   have HBAD:=Hq (iR hlt (show kW l (j+1)=false by rw [ah jB];simp[hsl]))
   clear jB gU hsl
   go_wp2_with fail
   refine wp_region_quiet_lit Aab Aab ?_
   repeat (first|go_big_quiet_step ((first|(go_at_call 64;exact qh _ _ hks hkb' _ _)|(go_at_call_of 62 (IntKind.i64.wrap (pf+ps));exact gT _ _ g4 _ _)|(go_at_call_of 62 (pf+ps);exact gT _ _ g5 _ _)|(go_at_call_of 62 pm;exact gT _ _ g1 _ _)|(go_at_call_of 62 pf;exact gT _ _ g2 _ _)|(go_at_call_of 62 ps;exact gT _ _ g3 _ _)))|quiet_step ((first|(go_at_call 64;exact qh _ _ hks hkb' _ _)|(go_at_call_of 62 (IntKind.i64.wrap (pf+ps));exact gT _ _ g4 _ _)|(go_at_call_of 62 (pf+ps);exact gT _ _ g5 _ _)|(go_at_call_of 62 pm;exact gT _ _ g1 _ _)|(go_at_call_of 62 pf;exact gT _ _ g2 _ _)|(go_at_call_of 62 ps;exact gT _ _ g3 _ _))))
   refine wpQuiet_nil ?_
   intro _ hw'
   obtain⟨nq,hw''⟩:=hw'
   subst hw''
   go_wp2_with fail
   go_ret
   exact⟨aD HBAD.symm,(gI.alloc gI.size _).trans ⟨rfl,rfl,rfl,Nat.le_refl _,λ_ _=>rfl⟩⟩
  have hsl:Hid (sle pk q=false):=by unfold sle;rw [hbl,heq];rfl
  by_cases h1:0<=pm/\pm<=1000000000
  case' neg=>
   have hA:ru pm=false:=decide_eq_false h1
   have g1:decide (wL pm 0 1000000000)=false:=decide_eq_false h1
   have HBAD:=Hq (iR hlt (show kW l (j+1)=false by rw [ah jB];simp[gX,hA]))
   clear jB gU hA
   go_wp2_with fail
   refine wp_region_quiet_lit Aab Aab ?_
   repeat (first|go_big_quiet_step ((first|(go_at_call 64;exact qh _ _ hks hkb' _ _)|(go_at_call_of 62 (IntKind.i64.wrap (pf+ps));exact gT _ _ g4 _ _)|(go_at_call_of 62 (pf+ps);exact gT _ _ g5 _ _)|(go_at_call_of 62 pm;exact gT _ _ g1 _ _)|(go_at_call_of 62 pf;exact gT _ _ g2 _ _)|(go_at_call_of 62 ps;exact gT _ _ g3 _ _)))|quiet_step ((first|(go_at_call 64;exact qh _ _ hks hkb' _ _)|(go_at_call_of 62 (IntKind.i64.wrap (pf+ps));exact gT _ _ g4 _ _)|(go_at_call_of 62 (pf+ps);exact gT _ _ g5 _ _)|(go_at_call_of 62 pm;exact gT _ _ g1 _ _)|(go_at_call_of 62 pf;exact gT _ _ g2 _ _)|(go_at_call_of 62 ps;exact gT _ _ g3 _ _))))
   refine wpQuiet_nil ?_
   intro _ hw'
   obtain⟨nq,hw''⟩:=hw'
   subst hw''
   go_wp2_with fail
   go_ret
   exact⟨aD HBAD.symm,(gI.alloc gI.size _).trans ⟨rfl,rfl,rfl,Nat.le_refl _,λ_ _=>rfl⟩⟩
  have g1:decide (wL pm 0 1000000000)=true:=decide_eq_true h1
  have hA1:ru pm=true:=decide_eq_true h1
  by_cases h2:0<=pf/\pf<=1000000000
  case' neg=>
   have hA:ru pf=false:=decide_eq_false h2
   have g2:decide (wL pf 0 1000000000)=false:=decide_eq_false h2
   have HBAD:=Hq (iR hlt (show kW l (j+1)=false by rw [ah jB];simp[gX,hA]))
   clear jB gU hA
   go_wp2_with fail
   refine wp_region_quiet_lit Aab Aab ?_
   repeat (first|go_big_quiet_step ((first|(go_at_call 64;exact qh _ _ hks hkb' _ _)|(go_at_call_of 62 (IntKind.i64.wrap (pf+ps));exact gT _ _ g4 _ _)|(go_at_call_of 62 (pf+ps);exact gT _ _ g5 _ _)|(go_at_call_of 62 pm;exact gT _ _ g1 _ _)|(go_at_call_of 62 pf;exact gT _ _ g2 _ _)|(go_at_call_of 62 ps;exact gT _ _ g3 _ _)))|quiet_step ((first|(go_at_call 64;exact qh _ _ hks hkb' _ _)|(go_at_call_of 62 (IntKind.i64.wrap (pf+ps));exact gT _ _ g4 _ _)|(go_at_call_of 62 (pf+ps);exact gT _ _ g5 _ _)|(go_at_call_of 62 pm;exact gT _ _ g1 _ _)|(go_at_call_of 62 pf;exact gT _ _ g2 _ _)|(go_at_call_of 62 ps;exact gT _ _ g3 _ _))))
   refine wpQuiet_nil ?_
   intro _ hw'
   obtain⟨nq,hw''⟩:=hw'
   subst hw''
   go_wp2_with fail
   go_ret
   exact⟨aD HBAD.symm,(gI.alloc gI.size _).trans ⟨rfl,rfl,rfl,Nat.le_refl _,λ_ _=>rfl⟩⟩
  have g2:decide (wL pf 0 1000000000)=true:=decide_eq_true h2
  have hA2:ru pf=true:=decide_eq_true h2
  by_cases h3:0<=ps/\ps<=1000000000
  case' neg=>
   have hA:ru ps=false:=decide_eq_false h3
   have g3:decide (wL ps 0 1000000000)=false:=decide_eq_false h3
   have HBAD:=Hq (iR hlt (show kW l (j+1)=false by rw [ah jB];simp[gX,hA]))
   clear jB gU hA
   go_wp2_with fail
   refine wp_region_quiet_lit Aab Aab ?_
   repeat (first|go_big_quiet_step ((first|(go_at_call 64;exact qh _ _ hks hkb' _ _)|(go_at_call_of 62 (IntKind.i64.wrap (pf+ps));exact gT _ _ g4 _ _)|(go_at_call_of 62 (pf+ps);exact gT _ _ g5 _ _)|(go_at_call_of 62 pm;exact gT _ _ g1 _ _)|(go_at_call_of 62 pf;exact gT _ _ g2 _ _)|(go_at_call_of 62 ps;exact gT _ _ g3 _ _)))|quiet_step ((first|(go_at_call 64;exact qh _ _ hks hkb' _ _)|(go_at_call_of 62 (IntKind.i64.wrap (pf+ps));exact gT _ _ g4 _ _)|(go_at_call_of 62 (pf+ps);exact gT _ _ g5 _ _)|(go_at_call_of 62 pm;exact gT _ _ g1 _ _)|(go_at_call_of 62 pf;exact gT _ _ g2 _ _)|(go_at_call_of 62 ps;exact gT _ _ g3 _ _))))
   refine wpQuiet_nil ?_
   intro _ hw'
   obtain⟨nq,hw''⟩:=hw'
   subst hw''
   go_wp2_with fail
   go_ret
   exact⟨aD HBAD.symm,(gI.alloc gI.size _).trans ⟨rfl,rfl,rfl,Nat.le_refl _,λ_ _=>rfl⟩⟩
  have g3:decide (wL ps 0 1000000000)=true:=decide_eq_true h3
  have hA3:ru ps=true:=decide_eq_true h3
  have e4:IntKind.i64.wrap (pf+ps)=pf+ps:=IntWalk.i64_in _ ⟨Aaa,Aaa⟩
  by_cases h4:0<=(pf+ps)/\(pf+ps)<=1000000000
  case' neg=>
   have hA:ru (pf+ps)=false:=decide_eq_false h4
   have g4:decide (wL (pf+ps) 0 1000000000)=false:=decide_eq_false h4
   have g5:=g4
   rw [<-e4] at g4
   have HBAD:=Hq (iR hlt (show kW l (j+1)=false by rw [ah jB];simp[gX,hA]))
   clear jB gU hA
   go_wp2_with fail
   refine wp_region_quiet_lit Aab Aab ?_
   repeat (first|go_big_quiet_step ((first|(go_at_call 64;exact qh _ _ hks hkb' _ _)|(go_at_call_of 62 (IntKind.i64.wrap (pf+ps));exact gT _ _ g4 _ _)|(go_at_call_of 62 (pf+ps);exact gT _ _ g5 _ _)|(go_at_call_of 62 pm;exact gT _ _ g1 _ _)|(go_at_call_of 62 pf;exact gT _ _ g2 _ _)|(go_at_call_of 62 ps;exact gT _ _ g3 _ _)))|quiet_step ((first|(go_at_call 64;exact qh _ _ hks hkb' _ _)|(go_at_call_of 62 (IntKind.i64.wrap (pf+ps));exact gT _ _ g4 _ _)|(go_at_call_of 62 (pf+ps);exact gT _ _ g5 _ _)|(go_at_call_of 62 pm;exact gT _ _ g1 _ _)|(go_at_call_of 62 pf;exact gT _ _ g2 _ _)|(go_at_call_of 62 ps;exact gT _ _ g3 _ _))))
   refine wpQuiet_nil ?_
   intro _ hw'
   obtain⟨nq,hw''⟩:=hw'
   subst hw''
   go_wp2_with fail
   go_ret
   exact⟨aD HBAD.symm,(gI.alloc gI.size _).trans ⟨rfl,rfl,rfl,Nat.le_refl _,λ_ _=>rfl⟩⟩
  have g4:decide (wL (pf+ps) 0 1000000000)=true:=decide_eq_true h4
  have hA4:ru (pf+ps)=true:=decide_eq_true h4
  have g5:=g4
  rw [<-e4] at g4
  have EH:=Hq (show kW l (j+1)=true by rw [ah jB];simp[gX,hkb,hA1,hA2,hA3,hA4,ah hsl])
  clear jB hA1 hA2 hA3 hA4
  go_wp2_with fail
  refine wp_region_quiet_lit Aab Aab ?_
  repeat (first|go_big_quiet_step ((first|(go_at_call 64;exact qh _ _ hks hkb' _ _)|(go_at_call_of 62 (IntKind.i64.wrap (pf+ps));exact gT _ _ g4 _ _)|(go_at_call_of 62 (pf+ps);exact gT _ _ g5 _ _)|(go_at_call_of 62 pm;exact gT _ _ g1 _ _)|(go_at_call_of 62 pf;exact gT _ _ g2 _ _)|(go_at_call_of 62 ps;exact gT _ _ g3 _ _)))|quiet_step ((first|(go_at_call 64;exact qh _ _ hks hkb' _ _)|(go_at_call_of 62 (IntKind.i64.wrap (pf+ps));exact gT _ _ g4 _ _)|(go_at_call_of 62 (pf+ps);exact gT _ _ g5 _ _)|(go_at_call_of 62 pm;exact gT _ _ g1 _ _)|(go_at_call_of 62 pf;exact gT _ _ g2 _ _)|(go_at_call_of 62 ps;exact gT _ _ g3 _ _))))
  refine wpQuiet_nil ?_
  intro _ hw'
  obtain⟨nq,hw''⟩:=hw'
  subst hw''
  go_wp2_with fail
  go_roundw
  case rel=>exact⟨(j+1)+1,Aaa,Aai,Acw,(gI.alloc gI.size _).trans ⟨rfl,rfl,rfl,Nat.le_refl _,λ_ _=>rfl⟩⟩
  case measure=>simp[intOf];omega):P:=h
theorem anh.AdX(h:P:=by
 cases k with
 |zero=>
  obtain⟨g,off,rfl,hgw,c0,c1,c2,c3⟩:=aI.four (GR.At.below HA gI) 0 hlt
  simp only[Nat.zero_mul,Nat.add_zero] at c0 c1 c2 c3
  have hgt:decide ((0:Int) < ((0:Nat):Int))=false:=rfl
  have jB:=Hq hat
  have gU:=Hq (mX (kW l) 0)
  clear hat
  generalize l[0]=pu at *
  cases hpo:gX pu
  .have HO:=Hq (λw1=>qw pu false w1 hpo);have HBAD:=Hq (iR hlt (show kW l 0=false by rw [ah jB,hpo];rfl));clear jB gU hpo;obtain⟨pk,pm,pf,ps⟩:=pu;dsimp only at c0 c1 c2 c3;open alN in exact aau
  .have HO:=Hq (λw1=>qw pu true w1 hpo);have EH:=Hq (show kW l 0=true by rw [ah jB,hpo];rfl);clear jB hpo;obtain⟨pk,pm,pf,ps⟩:=pu;dsimp only at c0 c1 c2 c3;open alM in exact aau
 |succ j=>
  have hlt2:j < l.length:=Aaa
  obtain⟨g,off,rfl,hgw,c0,c1,c2,c3⟩:=aI.four (GR.At.below HA gI) (j+1) hlt
  obtain⟨g2,off2,e2,ajy,d0,d1,d2,d3⟩:=aI.four (GR.At.below HA gI) j hlt2
  have e3:g=g2:=by injection e2 with e2;injection e2 with e2 e4
  have e4:off=off2:=by injection e2 with e2;injection e2 with e2 e4
  subst e3 e4
  clear e2 ajy d1 d2 d3
  have hgt:decide ((0:Int) < ((j+1:Nat):Int))=true:=decide_eq_true Aaa
  have ej:IntKind.i64.wrap (((j+1:Nat):Int) - 1)=(j:Int):=by rw [IntWalk.i64_in _ ⟨by omega,by omega⟩];omega
  rw [show j+1 - 1=j by omega,getD_at l j hlt2] at hat
  have jB:=Hq hat
  have gU:=Hq (mX (kW l) (j+1))
  clear hat
  generalize l[j+1]=pu at *
  generalize l[j]=pq at *
  obtain⟨q,qm,qf,qs⟩:=pq
  dsimp only at d0
  cases hpo:gX pu
  .have HO:=Hq (λw1=>qw pu false w1 hpo);have HBAD:=Hq (iR hlt (show kW l (j+1)=false by rw [ah jB,hpo];rfl));clear jB gU hpo;obtain⟨pk,pm,pf,ps⟩:=pu;dsimp only at c0 c1 c2 c3;open alL in exact aau
  .have HO:=Hq (λw1=>qw pu true w1 hpo);cases hsl:Op.bytesLess q.toList pu.k.toList
   .have HBAD:=Hq (iR hlt (show kW l (j+1)=false by rw [ah jB,hpo];dsimp only;rw [<-Qb,hsl];simp));clear jB gU hpo;obtain⟨pk,pm,pf,ps⟩:=pu;dsimp only at c0 c1 c2 c3 hsl;open alK in exact aau
   .have EH:=Hq (show kW l (j+1)=true by rw [ah jB,hpo];dsimp only;rw [<-Qb,hsl];simp);clear jB hpo;obtain⟨pk,pm,pf,ps⟩:=pu;dsimp only at c0 c1 c2 c3 hsl;open alJ in exact aau):P:=h
theorem awt(h:P:=by
 obtain⟨c0,c1,c2,c3,c4,c5,c6,c7,c8⟩:=nine qB;have cf:=aj qB 8;have hnl:=aA qB;obtain⟨i0,hi,hz0,hz1,hz2⟩:=info_parts wS;obtain⟨a8,EW,W8,hrun,CY,Ep,⟨g8,rfl⟩,hc8⟩:=run_copy_row (P:=prog) bX Aaa W7 28 97 i0 (.agg (eG 0 ByteArray.empty 0 0)) 40 underlying28 hi hz0 hz1 hz2 rfl (some ⟨gv,1*4,none⟩) IT (vc - 1) adE (iP _) Aah Aaa;rw [hIT,Nat.one_mul] at hrun;have Wt:=Hq hrun;have rR:=Hq (ay qB Ep);have zn:=Hq (ay nT Ep);have adw:=Hq (ay Zx Ep);have GY:=Hq (ze.trans (Ep.mono ze.size));have HL8:=Hq (LO.own (en:=aN) CY);have hz7:w.heap.size+3<=W7.heap.size:=by have:=aA Zx;omega
 exact Ac0):P:=h
theorem ani.Ac0(h:P:=by
 skip
 open aus in exact agn):P:=h
theorem anj.Ac0(h:P:=by
 have YT:=Hq (HP7.below Ep);open aur in exact agn):P:=h
theorem DK(h:P:=by
 unfold j6;have lD:=Hq (λW (h:aY w W)=>uU n A W (hz.mono Aaa) (ha.below h));rw [hok] at lD;exact AaQ):P:=h
theorem ank.AaQ(h:P:=by
 have GN:=Hq (λW=>jP ⟨K,no,k,nn,⟨mK,mF,mT,mI,mL,mk,mN⟩⟩ W Aal Aal);open als in exact EL):P:=h
theorem anl.AaQ(h:P:=by
 have Du:=Hq (λW (h:aY w W)=>uT n A W hz (ha.below h));clear hz ha hok;go_in
 go_upto_region 2 with fail;refine wp_at (λW1 hW=>?_);open aqu in exact afj):P:=h
theorem anm.AaQ(h:P:=by
 have kR:=Hq (λW A1 G1 c (hB:0<=W.heap.size) (h9:∀x,6 < c x->c x=9) (hp:((∃g,A1.p=some ⟨g,0,none⟩)/\n.pu.length<=A1.cp)/\(∃g,A1.r=some ⟨g,0,none⟩)/\n.reqs.length<=A1.cr) (hN:NQ W 0 n A1 G1 c)=>Q0 n A1 G1 c no W 0 hB h9 hz hp.1.1 hp.1.2 (cZ hok).2.2.2.2.2 hN);unfold iI at kR;generalize bn n no=GV at *;obtain⟨N1,CU⟩:=GV;dsimp only at kR ⊢;have GN:=Hq (λW=>jP ⟨2,no,k,nn,⟨mK,mF,mT,mI,mL,mk,mN⟩⟩ W Aal Aal);open alu in exact EL):P:=h
theorem ano.AaQ(h:P:=by
 have kR:=Hq (λW A1 G1 c (hB:0<=W.heap.size) (h9:∀x,6 < c x->c x=9) (hp:((∃g,A1.p=some ⟨g,0,none⟩)/\n.pu.length<=A1.cp)/\(∃g,A1.r=some ⟨g,0,none⟩)/\n.reqs.length<=A1.cr) (hN:NQ W 0 n A1 G1 c)=>Yu n A1 G1 c 1 no k nn mK mF mT mI mL mk mN W 0 hB h9 hz hk hp.1.1 hp.1.2 hp.2.1 hp.2.2 (cZ hok).2.2.2.2.2 hN);unfold iI at kR;generalize gJ n no k nn=GV at *;obtain⟨N1,CU⟩:=GV;dsimp only at kR ⊢;have GN:=Hq (λW=>jP ⟨1,no,k,nn,⟨mK,mF,mT,mI,mL,mk,mN⟩⟩ W Aal Aal);open alv in exact EL):P:=h
theorem anp.AaQ(h:P:=by
 have hpz:(decide (n.par < 0))=false:=by
  exact ahl
 have kR:=Hq (λW A1 G1 c (hB:0<=W.heap.size) (h9:∀x,6 < c x->c x=9) (hp:((∃g,A1.p=some ⟨g,0,none⟩)/\n.pu.length<=A1.cp)/\(∃g,A1.r=some ⟨g,0,none⟩)/\n.reqs.length<=A1.cr) (hN:NQ W 0 n A1 G1 c)=>QT n A1 G1 c n.par k nn W 0 hB h9 hz hk hp.1.1 hp.1.2 (by have h:=(cZ hok).2.2.2.1;unfold fV at h;simp at h;omega) hN);unfold fZ at kR;generalize fG n n.par k nn=GV at *;obtain⟨N1,L1,b1⟩:=GV;dsimp only at kR ⊢;generalize (if b1=true then(0:Int) else 1)=CU at *;have GN:=Hq (λW=>jP ⟨4,no,k,nn,⟨mK,mF,mT,mI,mL,mk,mN⟩⟩ W Aal Aal);open alx in exact EL):P:=h
theorem anq.AaQ(h:P:=by
 have hmo:bY ⟨mK,mF,mT,mI,mL,mk,mN⟩=true:=by
  have h:=hop;unfold bq at h;dsimp only at h;rw [if_neg Aaa,if_neg Aaa,if_neg Aaa,if_neg Aaa,if_pos rfl,Bool.and_eq_true] at h;exact h.2
 have kR:=Hq (λW A1 G1 c (hB:0<=W.heap.size) (h9:∀x,6 < c x->c x=9) (hp:((∃g,A1.p=some ⟨g,0,none⟩)/\n.pu.length<=A1.cp)/\(∃g,A1.r=some ⟨g,0,none⟩)/\n.reqs.length<=A1.cr) (hN:NQ W 0 n A1 G1 c)=>acQ n A1 G1 c mK mF mT mI mL mk mN W 0 hB h9 hz hmk hok hmo hp.1.1 hp.1.2 hN);clear hmo;unfold fZ at kR;generalize CX n ⟨mK,mF,mT,mI,mL,mk,mN⟩=GV at *;obtain⟨N1,L1,CU⟩:=GV;dsimp only at kR ⊢;have GN:=Hq (λW=>jP ⟨6,no,k,nn,⟨mK,mF,mT,mI,mL,mk,mN⟩⟩ W Aal Aal);open aly in exact EL):P:=h
theorem anr.AaQ(h:P:=by
 have hpz:(decide (n.par < 0))=true:=by rw [hpar];rfl
 clear hpar;have GN:=Hq (λW=>jP ⟨4,no,k,nn,⟨mK,mF,mT,mI,mL,mk,mN⟩⟩ W Aal Aal);open alz in exact EL):P:=h
theorem ant.AaQ(h:P:=by
 have hpz:(decide (n.par < 0))=true:=by rw [hpar];rfl
 clear hpar;have GN:=Hq (λW=>jP ⟨3,no,k,nn,⟨mK,mF,mT,mI,mL,mk,mN⟩⟩ W Aal Aal);open alA in exact EL):P:=h
theorem anu.AaQ(h:P:=by
 have hpg:(decide (n.par≥0))=false:=by rw [hpar];rfl
 have ayi:(decide (0<=n.par))=false:=hpg;clear hpar
 have kR:=Hq (λW (A1:bC) (hp:(∃g,A1.p=some ⟨g,0,none⟩)/\n.pu.length<=A1.cp) (hN:aI W A1.p n.pu)=>(by
  obtain⟨⟨g,hg⟩,hc⟩:=hp
  rw [hg] at hN ⊢
  have:=Gj g 0 A1.cp n.pu k nn W (Nat.le_trans hz.p Aaa) hc hz.pk hk hN
  rw [hu] at this
  exact this:Calls prog 38 #[.slice A1.p n.pu.length A1.cp,.string k,.int .i64 nn] W (iY W (RL,true))))
 clear hu;unfold iY at kR;have GN:=Hq (λW=>jP ⟨0,no,k,nn,⟨mK,mF,mT,mI,mL,mk,mN⟩⟩ W Aal Aal);open alB in exact EL):P:=h
theorem anw.AaQ(h:P:=by
 have hpg:(decide (n.par≥0))=false:=by rw [hpar];rfl
 have ayi:(decide (0<=n.par))=false:=hpg;clear hpar
 have kR:=Hq (λW (A1:bC) (hp:(∃g,A1.p=some ⟨g,0,none⟩)/\n.pu.length<=A1.cp) (hN:aI W A1.p n.pu)=>(by
  obtain⟨⟨g,hg⟩,hc⟩:=hp
  rw [hg] at hN ⊢
  have:=Gj g 0 A1.cp n.pu k nn W (Nat.le_trans hz.p Aaa) hc hz.pk hk hN
  rw [hu] at this
  exact this:Calls prog 38 #[.slice A1.p n.pu.length A1.cp,.string k,.int .i64 nn] W (iY W (RL,false))))
 exact Zw7):P:=h
theorem anx.AaQ(h:P:=by
 have hpg:(decide (n.par≥0))=true:=by
  have h:=(cZ hok).1;unfold dH at h;simp only[Bool.and_eq_true,decide_eq_true_eq] at h;exact decide_eq_true Aaa
 have ayi:(decide (0<=n.par))=true:=hpg
 have kR:=Hq (λW (A1:bC) (hp:(∃g,A1.p=some ⟨g,0,none⟩)/\n.pu.length<=A1.cp) (hN:aI W A1.p n.pu)=>(by
  obtain⟨⟨g,hg⟩,hc⟩:=hp
  rw [hg] at hN ⊢
  have:=Gj g 0 A1.cp n.pu k nn W (Nat.le_trans hz.p Aaa) hc hz.pk hk hN
  rw [hu] at this
  exact this:Calls prog 38 #[.slice A1.p n.pu.length A1.cp,.string k,.int .i64 nn] W (iY W (RL,ok))))
 exact Zw7):P:=h
theorem anz.AaQ(h:P:=by
 have kR:=Hq (λW A1 (hN:bQ W A1 n)=>acR n A1 W (hz.mono Aaa) hN);rw [show acC n=n.out.map (pU n) from if_pos hok] at kR;unfold Bv at kR;dsimp only at kR ⊢;generalize n.out.map (pU n)=L1 at *;have GN:=Hq (λW=>jP ⟨5,no,k,nn,⟨mK,mF,mT,mI,mL,mk,mN⟩⟩ W Aal Aal);open alC in exact EL):P:=h
theorem awu(h:P:=by
 open atM in exact aai):P:=h
theorem anA.Aei(h:P:=by
 open at6 in exact agk):P:=h
theorem anB.Aei(h:P:=by
 open ash in exact afR):P:=h
theorem WB(h:P:=by
 have vS:=Hq (show aY w V by rw [hV];exact((Below.refl _ _).alloc (Nat.le_refl _) _).alloc Aac _);have hgV:=bH hblk;obtain⟨p0,p1,p2,p3,p4,p5,p6⟩:=uj hblk;clear hV hblk;exact AaY):P:=h
theorem anC.AaY(h:P:=by
 have cO:∀d os,Calls prog 299 #[.agg #[.int .i64 F,.int .i64 T,.int .i64 I]] (Sort.grow (redrawn V d) os) λe w''=>e= .returned (.bool false)/\∃p:Regrown,w''=Sort.grow (redrawn V p.d) p.os:=λd os=>Calls.regrown_of (HO _)
 open amN in exact OH):P:=h
theorem anD.AaY(h:P:=by
 have cO:∀d os,Calls prog 298 #[.agg #[.int .i64 F,.int .i64 T,.int .i64 I,.int .i64 L,.string k,.int .i64 N]] (Sort.grow (redrawn V d) os) λe w''=>e= .returned (.bool true)/\∃p:Regrown,w''=Sort.grow (redrawn V p.d) p.os:=λd os=>Calls.regrown_of (HO _)
 have cM:∀d os,Calls prog 135 #[.iface 156 (.agg #[.int .i64 F,.int .i64 T,.int .i64 I,.int .i64 L,.string k,.int .i64 N])] (Sort.grow (redrawn V d) os) λe w''=>e= .returned (qg ⟨1,F,T,I,L,k,N⟩)/\∃p:Regrown,w''=Sort.grow (redrawn V p.d) p.os:=λd os=>Calls.regrown_of (HM _)
 open amO in exact OH):P:=h
theorem anE.AaY(h:P:=by
 have cO:∀d os,Calls prog 298 #[.agg #[.int .i64 F,.int .i64 T,.int .i64 I,.int .i64 L,.string k,.int .i64 N]] (Sort.grow (redrawn V d) os) λe w''=>e= .returned (.bool false)/\∃p:Regrown,w''=Sort.grow (redrawn V p.d) p.os:=λd os=>Calls.regrown_of (HO _)
 open amP in exact OH):P:=h
theorem anF.AaY(h:P:=by
 have cO:∀d os,Calls prog 297 #[.agg #[.int .i64 F,.int .i64 T,.string k,.int .i64 N]] (Sort.grow (redrawn V d) os) λe w''=>e= .returned (.bool false)/\∃p:Regrown,w''=Sort.grow (redrawn V p.d) p.os:=λd os=>Calls.regrown_of (HO _)
 open amQ in exact OH):P:=h
theorem anG.AaY(h:P:=by
 have cO:∀d os,Calls prog 297 #[.agg #[.int .i64 F,.int .i64 T,.string k,.int .i64 N]] (Sort.grow (redrawn V d) os) λe w''=>e= .returned (.bool true)/\∃p:Regrown,w''=Sort.grow (redrawn V p.d) p.os:=λd os=>Calls.regrown_of (HO _)
 have cM:∀d os,Calls prog 135 #[.iface 154 (.agg #[.int .i64 F,.int .i64 T,.string k,.int .i64 N])] (Sort.grow (redrawn V d) os) λe w''=>e= .returned (qg ⟨0,F,T,0,0,k,N⟩)/\∃p:Regrown,w''=Sort.grow (redrawn V p.d) p.os:=λd os=>Calls.regrown_of (HM _)
 open amT in exact OH):P:=h
theorem anH.AaY(h:P:=by
 have cO:∀d os,Calls prog 299 #[.agg #[.int .i64 F,.int .i64 T,.int .i64 I]] (Sort.grow (redrawn V d) os) λe w''=>e= .returned (.bool true)/\∃p:Regrown,w''=Sort.grow (redrawn V p.d) p.os:=λd os=>Calls.regrown_of (HO _)
 have cM:∀d os,Calls prog 135 #[.iface 158 (.agg #[.int .i64 F,.int .i64 T,.int .i64 I])] (Sort.grow (redrawn V d) os) λe w''=>e= .returned (qg ⟨2,F,T,I,0,ByteArray.empty,0⟩)/\∃p:Regrown,w''=Sort.grow (redrawn V p.d) p.os:=λd os=>Calls.regrown_of (HM _)
 open amU in exact OH):P:=h
theorem awv(h:P:=by
 have Wt:=Hq hrun;clear hrun JQ Xl Xr jZ k9 hn9 YT HN8 GY HK8;have c5n:=(nine rR).2.2.2.2.2.1;obtain⟨s0,s1,s2,s3⟩:=gP Om;have c5w:=(nine xX).2.2.2.2.2.1;have f5w:=aj xX 5;have hn8:=aA rR;have hs8:=aA Om;go_upto_region 10 with(at_builtin;refine gu rfl _ _ 26 rfl _ _ rfl rfl _ _ Wt ?_)
 refine wp_at (λZ9 hZ=>?_);have N9:Hid (Z9.heap[w.heap.size]?=some (.cells (gH n.id n.par a_k n.kids.length aL (n.next+1) av RL.length cv a6 (n.out.length+1) c6 eO n.seen.length aM n.old gN n.reqs.length aV) 30 (0,0))):=by rw [hZ];exact pY xX
 have aiJ:Hid (Z9.heap[w.heap.size+1]?=some (.cells fU 30 (0,0))):=by rw [hZ];exact oC lY Aaa
 exact AcP):P:=h
theorem anI.AcP(h:P:=by
 have adD:Hid (Z9.heap[sb]?=some (.cells (fI n.next dst key pf) 95 (0,0))):=by rw [hZ];exact oC Sb Aaa
 have Eh:Hid (∀W' W'',aC [w.heap.size+1] Z9 W'->Out c w W' W''->RM W'' ⟨a_k,av,a6,eO,gN,aL,cv,c6,aM,aV⟩ ⟨n.id,n.par,n.kids,n.next+1,RL,n.out++[⟨n.next,dst,key,pf⟩],n.seen,n.old,n.reqs⟩):=λW' W'' hk ho=>by
  obtain⟨F,hk2,hF⟩:=ho
  refine gU W'' ⟨w.heap.size::(w.heap.size+1)::F,aC.trans (b:=Z9) (by rw [hZ];exact(aC.set _).mono (λx hx=>Abe)) (aC.trans (hk.mono (λx hx=>Abe)) (hk2.mono (λx hx=>Aax))),λy hy=>?_⟩
  rcases List.mem_cons.1 hy with h1|h1
  .exact .inl (.inl h1)
  .exact ahM
 open ar3 in exact afN):P:=h
theorem anJ.AcP(h:P:=by
 have adD:Hid (Z9.heap[sb]?=some (.cells (fI n.next dst key most) 95 (0,0))):=by rw [hZ];exact oC Sb Aaa
 have Eh:Hid (∀W' W'',aC [w.heap.size+1] Z9 W'->Out c w W' W''->RM W'' ⟨a_k,av,a6,eO,gN,aL,cv,c6,aM,aV⟩ ⟨n.id,n.par,n.kids,n.next+1,RL,n.out++[⟨n.next,dst,key,most⟩],n.seen,n.old,n.reqs⟩):=λW' W'' hk ho=>by
  obtain⟨F,hk2,hF⟩:=ho
  refine gU W'' ⟨w.heap.size::(w.heap.size+1)::F,aC.trans (b:=Z9) (by rw [hZ];exact(aC.set _).mono (λx hx=>Abe)) (aC.trans (hk.mono (λx hx=>Abe)) (hk2.mono (λx hx=>Aax))),λy hy=>?_⟩
  rcases List.mem_cons.1 hy with h1|h1
  .exact .inl (.inl h1)
  .exact ahM
 open ar2 in exact afN):P:=h
theorem WE(h:P:=by
 have HW1:=Hq (h.step (au w (.cells (cu K no k nn mK mF mT mI mL mk mN) 34)));have xB:=Hq (heap_alloc_new w (.cells (cu K no k nn mK mF mT mI mL mk mN) 34));exact AaZ):P:=h
theorem anK.AaZ(h:P:=by
 clear h he hR hz hk hpar;open atf in exact Vj):P:=h
theorem anL.AaZ(h:P:=by
 clear h hR hpar;obtain⟨c0,c1,c2,c3,c4,c5,c6,c7,c8,c9⟩:=jr HW1.blk;have hwl:=aA HW.blk;have hne:wb≠w.heap.size:=Aaa
 go_in
 go_upto_region 1 with fail;have y1:=cell_regrown c1;clear c0 c1 c2 c3 c4 c5 c6 c7 c8 c9;open asg in exact afR):P:=h
theorem anM.AaZ(h:P:=by
 have hq2:(n.par == -1)=false:=Abl
 clear h hR hpar;open ate in exact Vj):P:=h
theorem anN.AaZ(h:P:=by
 have hq2:(n.par == -1)=false:=Abl
 clear h hR hpar;generalize fG n n.par k nn=gv at *;obtain⟨gn,gl,gb⟩:=gv;dsimp only at EI ⊢;open atd in exact Vj):P:=h
theorem anO.AaZ(h:P:=by
 clear h ho;obtain⟨⟨p0,p1,p2,p3,p4,p5,p6,p7,p8,p9,oD⟩,_⟩:=aQ xB;have hpl:=aA xB;go_in
 go_wp2_with fail;refine(HIO _).mono ?_;rintro e w2 ⟨rfl,hb2⟩;have HW2:=Hq (HW1.step hb2);have Bf:=Hq (ay xB hb2);clear hb2 HW1 xB p0 p1 p2 p3 p4 p5 p6 p7 p8 p9 oD HIO;exact AaE):P:=h
theorem anP.AaZ(h:P:=by
 open atc in exact Vj):P:=h
theorem adL(h:P:=by
 rintro e wf ⟨f,rfl,hin,hcx,hkx⟩;have HS2:=Hq ((qb.new _).draw hcx hkx);clear hcx hkx hin qb;obtain⟨⟨c0,c1,c2,c3,c4,c5,c6,c7,c8,c9,c10⟩,f0,f1,f2,f3,f4,f5,f6,f7,f8,f9,f10⟩:=aQ HS2.own;have hzg:=bH HS2.own;go_wp2_with fail;exact AbL):P:=h
theorem anQ.AbL(h:P:=by
 go_meet
 case rel=>exact⟨rfl,⟨K,f,k,n,⟨mK,mF,mT,mI,mL,mk,mN⟩⟩,HS2.put 1 (.int .i64 f) rfl,gs,gm⟩):P:=h
theorem anR.AbL(h:P:=by
 go_meet
 case rel=>exact⟨rfl,⟨K,no,k,f,⟨mK,mF,mT,mI,mL,mk,mN⟩⟩,HS2.put 3 (.int .i64 f) rfl,gs,gm⟩):P:=h
theorem anS.AbL(h:P:=by
 go_meet
 case rel=>exact⟨rfl,⟨f,no,k,n,⟨mK,mF,mT,mI,mL,mk,mN⟩⟩,HS2.put 0 (.int .i64 f) rfl,gs,gm⟩):P:=h
theorem anT.AbL(h:P:=by
 go_meet
 case rel=>exact⟨rfl,⟨6,0,⟨#[]⟩,0,⟨0,f,1,0,0,key,(1+y)⟩⟩,HS2.far (o':=⟨6,0,⟨#[]⟩,0,⟨0,f,1,0,0,key,(1+y)⟩⟩) (dw (Below.refl _ _) (Nat.le_refl _)) (gF HS2.own),Aan,Aan⟩):P:=h
theorem aww(h:P:=by
 obtain⟨gp,hgp⟩:=hP;obtain⟨gr,hgr⟩:=hR;subst hgp;subst hgr;have Rv:=Hq (λW (ha:aI W (some ⟨gp,0,none⟩) n.pu)=>Yx gp 0 bE n.pu k nn W (Nat.le_trans hz.p Aaa) vC hz.pk hkz ha);unfold iY at Rv;rw [hu] at Rv;have hp:=jl hok;have Oe:=Hq (λW1 (ha:jf W1 (some ⟨gr,0,none⟩) n.reqs)=>AQ n (⟨a_k,(some ⟨gp,0,none⟩),eD,eO,(some ⟨gr,0,none⟩),aL,bE,aP,aM,aV⟩:bC) no W1 Aaa hp.1 ha);rw [show tJ n.reqs no= -1 by unfold tJ;rw [hf];rfl] at Oe;have GQ:=Hq hp.1;have aBm:=hp.2.1;clear hp hok hf hu hkz hz vC;unfold iI;have H9:=Hq h9;clear h9;have kS:=Hq (h.nine hB);clear h;exact Ac6):P:=h
theorem anU.Ac6(h:P:=by
 open az7 in exact av3):P:=h
theorem anV.Ac6(h:P:=by
 open az8 in exact av3):P:=h
theorem Hu(h:P:=by
 have hke:k=l.length:=Aaa
 subst hke;have hnlt:decide ((l.length:Int) < (l.length:Int))=false:=Aac
 exact AaU):P:=h
theorem anW.AaU(h:P:=by
 have HX:=Hq (show aG l key=⟨key,0,0,0⟩ by
  have h:=ah HN
  rw [List.take_length] at h
  unfold aG
  rw [h]
  rfl)
 go_wp2_with fail;refine bodyPost_ret (v:= .agg (iM key 0 0 0)) (by simp[results,results120,go_sem]) rfl ⟨by rw [ah HX],?_⟩;exact(Below.refl _ _).alloc (Nat.le_refl _) _):P:=h
theorem anX.AaU(h:P:=by
 have h:=ah HN;rw [List.take_length] at h;have HF:=Hq h;clear h;go_wp2_with fail;go_ret;exact⟨aD HF.symm,rfl⟩):P:=h
theorem anY.AaU(h:P:=by
 have HX:=Hq (show aG l key=⟨key,0,0,0⟩ by
  have h:=ah HN
  rw [List.take_length] at h
  unfold aG
  rw [h]
  rfl)
 go_wp2_with fail;refine(kR _).mono ?_;rintro e w1 ⟨rfl,hb1⟩;have hB:w1.heap[w.heap.size]?=some (.cells (iM ⟨#[]⟩ 0 0 0) 143 (0,0)):=by rw [hb1.block _ aef];exact GL
 have HB:=Hq hB;have HB2:=Hq (gI.trans (hb1.mono gI.size));obtain⟨⟨r0,r1,r2,r3⟩,s0,s1,s2,s3⟩:=gG hB;clear hB hb1;go_wp2_with fail;clear r0 r1 r2 r3;refine Fo.bodyPost_at (λW' hW'=>?_);obtain⟨⟨r0,r1,r2,r3⟩,_⟩:=gG (show W'.heap[w.heap.size]?=some (.cells (iM key 0 0 0) 143 (0,0)) by rw [hW'];exact Fo.four_set HB);have hbb:aY w W':=by rw [hW'];exact Fo.four_below HB2 (Nat.le_refl _)
 refine bodyPost_ret (v:= .agg (iM key 0 0 0)) (by simp[results,results136,go_sem,r0,r1,r2,r3]) rfl ⟨by rw [ah HX],hbb⟩):P:=h
theorem anZ.AaU(h:P:=by
 go_wp2_with fail;go_ret;exact⟨a',c',g,hg,rfl,HB,gI⟩):P:=h
theorem an0.AaU(h:P:=by
 have h:=ah HN;rw [List.take_length] at h;have HF:=Hq h;clear h;go_wp2_with fail;go_ret;exact⟨⟨-1,rfl,by rw [ah HF];rfl⟩,rfl⟩):P:=h
theorem an1.AaU(h:P:=by
 go_wp2_with fail;go_ret2
 have h:=ah HP;rw [List.take_length] at h;exact⟨_,_,_,rfl,h,gI⟩):P:=h
theorem an2.AaU(h:P:=by
 go_wp2_with fail;go_ret;have h:=ah HB;rw [List.take_length,Nat.sub_self,List.replicate_zero,List.append_nil] at h;exact⟨rfl,h,gI⟩):P:=h
theorem an3.AaU(h:P:=by
 have xL:=Hq (place_at l pk l.length (Nat.le_refl _) mU (λh=>absurd h (Nat.lt_irrefl _))).1;go_wp2_with fail;go_quiet (fail);go_wp2_with fail;go_meet
 case rel=>exact⟨by rw [ah xL],_,sH w1 _ _⟩):P:=h
theorem an4.AaU(h:P:=by
 go_wp2_with fail;go_ret;exact⟨rfl,oN w q⟩):P:=h
theorem an5.AaU(h:P:=by
 have HF:=Hq (XU mU);go_wp2_with fail;go_ret;exact⟨aD (by rw [ah HF];simp<;>omega),gI⟩):P:=h
theorem aax(h:P:=by
 have hke:k=out.length:=Aaa
 subst hke;have hnlt:decide ((out.length:Int) < (out.length:Int))=false:=Aac
 exact Aa3):P:=h
theorem an6.Aa3(h:P:=by
 have HOF:Hid (TT=iB RQ RR reqs):=by
  have h:=ah mU;rw [List.take_length] at h;rw [ah HTT,h];rfl
 clear Dt Ee xG HOT;go_wp2_with fail;go_loopw [5] (λi wr=>∃k:Nat,k<=reqs.length/\i= .int .i64 k/\iB RQ RR (reqs.take k)=true/\wr.heap[w.heap.size]?=some (.cells (dD ⟨id,par,kids,next,pu,out,seen,old,reqs⟩ ⟨ak,ap,ao,as',ar,ck,cp,co,cs,cr⟩) 30 (0,0))/\aY w wr) (λi _=>reqs.length - (intOf i).toNat)
 case atStart=>exact⟨0,Nat.zero_le _,rfl,rfl,GL,gI⟩
 case round=>
  open aoj in exact adM):P:=h
theorem an7.Aa3(h:P:=by
 have hyy:=ah Ef HN;clear HLY yY Ef;subst hyy;go_upto_region 8 with fail;refine wp_at (λW3 hW3=>?_);have hbw:aY wr W3:=by rw [hW3];exact Below.refl _ _
 open aoE in exact awG):P:=h
theorem an8.Aa3(h:P:=by
 have HF:=Hq (Ef HN);go_wp2_with fail;go_ret;exact⟨MH HF.symm,au w _⟩):P:=h
theorem an9.Aa3(h:P:=by
 have HRS:Hid (L=(out.take out.length).map PM):=by
  rw [ah Ob,List.take_length];cases hOK:OK
  .rcases Nat.eq_zero_or_pos out.length with h|h
   .rw [List.eq_nil_of_length_eq_zero h];rfl
   .exact absurd (hpos h) (by rw [hOK];simp)
  .rfl
 clear hpos;go_wp2_with fail;go_ret;rw [ah HRS];exact Bv.of_own Aac HO Aaa HW):P:=h
theorem aoa.Aa3(h:P:=by
 have HB3:=Hq (HB2.trans ((oN w2 q).mono HB2.size));have HA3:=Hq (ay HA2 (oN w2 q));have Nt:=Hq (ay oI (oN w2 q));clear HO2 akP;go_wp2_with fail;clear c0 c1 c2 c3 c4 c5 c6 c7 c8 e0 e1 e2 e3 e4 e5 e6 e7 e8;generalize w2.drewN q=w3 at *;clear HB2 HA2 oI;go_loopw [6] (λi wr=>∃k:Nat,k<=seen.length/\i= .int .i64 k/\aY w3 wr) (λi _=>seen.length - (intOf i).toNat)
 case atStart=>exact OI
 case round=>
  obtain⟨k,hk,rfl,hbel⟩:=hrel;have gI:=Hq hbel;have lI:=Hq (HB3.trans (hbel.mono HB3.size));have HA4:=Hq (ay HA3 hbel);have HC4:=Hq (ay Nt hbel);clear hbel;obtain⟨c0,c1,c2,c3,c4,c5,c6,c7,c8⟩:=nine HA4;obtain⟨e0,e1,e2,e3,e4,e5,e6,e7,e8⟩:=nine HC4;by_cases hlt:k < seen.length
  .obtain⟨g1,o1,b1,d1,rfl,hg1,s0,s1,s2,s3⟩:=KO.s.below lI k hlt;obtain⟨g2,o2,b2,d2,rfl,hg2,t0,t1,t2,t3⟩:=Ro.s.below lI k hlt;have hln:=HZ.sk seen[k] (List.getElem_mem hlt);have p0:∀d os,Calls prog 48 #[.slice b1 seen[k].ids.length d1,.slice b2 seen[k].ids.length d2] (Sort.grow (redrawn wr d) os) λe w''=>e= .returned (.bool true)/\∃p:Regrown,w''=Sort.grow (redrawn wr p.d) p.os:=λd os=>Calls.regrown_of (HSI b1 b2 d1 d2 seen[k].ids _ hln (GR.At.below s3 (below_regrown wr d os)) (GR.At.below t3 (below_regrown wr d os)))
   clear s3 t3 hln;generalize seen[k]=x at *;obtain⟨xf,xl,xs⟩:=x;dsimp only at s0 s1 s2 t0 t1 t2 p0;go_upto_region 11 with fail;have y0:=cell_regrown c6;have y1:=cell_regrown e6;have y2:=cell_regrown s0;have y3:=cell_regrown s1;have y4:=cell_regrown s2;have y5:=cell_regrown t0;have y6:=cell_regrown t1;have y7:=cell_regrown t2;refine wp_region_quiet_below Aab Aab ?_;repeat (first|go_big_quiet_step (first|(go_at_call 48;exact p0 _ _))|quiet_step (first|(go_at_call 48;exact p0 _ _)))
   refine wpQuiet_nil ?_;intro _ hw';obtain⟨⟨dq,osq⟩,hw''⟩:=hw';subst hw'';have mH:=Hq (gI.trans ((below_regrown wr dq osq).mono gI.size));clear p0;go_wp2_with fail;go_roundw
   case rel=>exact⟨k+1,Aaa,Aai,mH⟩
   case measure=>simp[intOf];omega
  .have hke:k=seen.length:=Aaa
   subst hke;have hnlt:decide ((seen.length:Int) < (seen.length:Int))=false:=Aac
   have xA:=Hq (GR.At.below KO.r lI);have ayT:=Hq (GR.At.below Ro.r lI);have akC:=Hq (iA.trans (lI.mono iA.size));clear HA3 Nt HB3 gI KO Ro HSI Rv;go_wp2_with fail;go_loopw [7] (λi w5=>∃k q:Nat,k<=reqs.length/\i= .int .i64 k/\w5=wr.drewN q) (λi _=>reqs.length - (intOf i).toNat)
   case atStart=>exact⟨0,0,Nat.zero_le _,rfl,rfl⟩
   case round=>
    obtain⟨k,q,hk,rfl,rfl⟩:=hrel;by_cases hlt:k < reqs.length
    .obtain⟨g1,o1,rfl,hg1,s0,s1,s2,s3⟩:=jf.four xA k hlt;obtain⟨g2,o2,rfl,hg2,t0,t1,t2,t3⟩:=jf.four ayT k hlt;generalize reqs[k]=x at *;obtain⟨xo,xk,xn,xs⟩:=x;exact aaM
    .have hke:k=reqs.length:=Aaa
     subst hke;have hnlt:decide ((reqs.length:Int) < (reqs.length:Int))=false:=Aac
     go_wp2_with fail;go_ret;exact⟨rfl,akC.trans ((oN wr q).mono akC.size)⟩):P:=h
theorem awx(h:P:=by
 go_in
 go_upto_region 1 with fail;refine Fo.wp_at (λV hV=>?_);have hbV:aY w V:=by rw [hV];exact dU w _
 have hblk:V.heap[w.heap.size]?=some (.cells #[.int .i64 dm,.int .i64 df,.int .i64 ds] 220 (0,0)):=by rw [hV];exact heap_alloc_new w _
 have hlt:=Fo.lt_of_blk hblk;have c0:V.cell? ⟨w.heap.size,0,none⟩=some (.int .i64 dm):=by rw [cell_of_row V _ _ _ _ (0,0) hblk];rfl
 have c1:V.cell? ⟨w.heap.size,1,none⟩=some (.int .i64 df):=by rw [cell_of_row V _ _ _ _ (0,0) hblk];rfl
 have c2:V.cell? ⟨w.heap.size,2,none⟩=some (.int .i64 ds):=by rw [cell_of_row V _ _ _ _ (0,0) hblk];rfl
 have vS:=Hq hbV;clear hblk hV hbV;exact AeH):P:=h
theorem aob.AeH(h:P:=by
 go_cut [9,10] (λp9 oD wx=>∃pb:Nat,p9= .pointer (some ⟨pb,0,none⟩)/\oD= .nilIface/\aY w wx/\wx.heap[pb]?=some (.cells (iM pk qm qf qs) 143 (0,0))/\w.heap.size<=pb)
 case first=>
  have hnV:w.heap.size≠V.heap.size:=Aaa
  have hmV:V.heap.size≠w.heap.size:=Aaa
  go_region_held (λw'=>w'.cell? ⟨w.heap.size,0,none⟩=some (.int .i64 dm)/\w'.cell? ⟨w.heap.size,1,none⟩=some (.int .i64 df)/\w'.cell? ⟨w.heap.size,2,none⟩=some (.int .i64 ds)) (go_keep)
   (first
    |((go_at_call 260);(refine(ND _ (by exact vS.trans (by exact⟨rfl,rfl,rfl,Aac,λk hk=>by first|rfl|exact Below.heap_alloc _ _ _ Aaa⟩))).mono ?_);(rintro e w4 ⟨rfl,hb4⟩);(have hs4:=hb4.size);(simp at hs4);(have lI:=Hq (vS.trans (Below.trans (b:=_) (by exact⟨rfl,rfl,rfl,Aac,λk hk=>by first|rfl|exact Below.heap_alloc _ _ _ Aaa⟩) (hb4.mono (by first|omega|(simp<;>omega))))));(obtain⟨hc4,hf4⟩:=CS hb4);(have d0:w4.cell? ⟨w.heap.size,0,none⟩=some (.int .i64 dm):=by rw [hc4 _ _ (by first|omega|(simp<;>omega))];first|exact c0|exact(World.cell?_alloc_lt _ _ _ hlt).trans c0);(have d1:w4.cell? ⟨w.heap.size,1,none⟩=some (.int .i64 df):=by rw [hc4 _ _ (by first|omega|(simp<;>omega))];first|exact c1|exact(World.cell?_alloc_lt _ _ _ hlt).trans c1);(have d2:w4.cell? ⟨w.heap.size,2,none⟩=some (.int .i64 ds):=by rw [hc4 _ _ (by first|omega|(simp<;>omega))];first|exact c2|exact(World.cell?_alloc_lt _ _ _ hlt).trans c2);(first|(guard_hyp hs4:V.heap.size+1<=w4.heap.size;obtain⟨⟨z0,z1,z2,z3⟩,x0,x1,x2,x3⟩:=gG (Fo.one_block (show Below (V.alloc (.cells (iM ⟨#[]⟩ 0 0 0) 143)).heap.size (V.alloc (.cells (iM ⟨#[]⟩ 0 0 0) 143)) w4 from⟨hb4.os,hb4.tape,hb4.output,hb4.size,hb4.block⟩)).1;have Bl:V.heap.size < w4.heap.size:=World.block_lt_of_cell? _ _ z0;have HZ:=Hq (Fo.one_block (show Below (V.alloc (.cells (iM ⟨#[]⟩ 0 0 0) 143)).heap.size (V.alloc (.cells (iM ⟨#[]⟩ 0 0 0) 143)) w4 from⟨hb4.os,hb4.tape,hb4.output,hb4.size,hb4.block⟩)).1)|skip);(have Tq:w.heap.size < w4.heap.size:=by omega);(have hn4:w.heap.size≠w4.heap.size:=by omega);(have hm4:w4.heap.size≠w.heap.size:=by omega);(clear hb4 hc4 hf4))
    |((go_at_call 261);(refine(HSH _ (by exact lI.trans (by exact⟨rfl,rfl,rfl,Aac,λk hk=>by first|rfl|exact Below.heap_alloc _ _ _ Aaa⟩))).mono ?_);(rintro e w5 ⟨rfl,hb5⟩);(have hs5:=hb5.size);(try simp at hs5);(have iX:=Hq (lI.trans (Below.trans (b:=_) (by exact⟨rfl,rfl,rfl,Aac,λk hk=>by first|rfl|exact Below.heap_alloc _ _ _ Aaa⟩) (hb5.mono (by first|omega|(simp<;>omega))))));(obtain⟨CW,Xk⟩:=CS hb5);(have e0:w5.cell? ⟨w.heap.size,0,none⟩=some (.int .i64 dm):=by rw [CW _ _ (by first|omega|(simp<;>omega))];first|exact d0|exact(World.cell?_alloc_lt _ _ _ Tq).trans d0);(have e1:w5.cell? ⟨w.heap.size,1,none⟩=some (.int .i64 df):=by rw [CW _ _ (by first|omega|(simp<;>omega))];first|exact d1|exact(World.cell?_alloc_lt _ _ _ Tq).trans d1);(have e2:w5.cell? ⟨w.heap.size,2,none⟩=some (.int .i64 ds):=by rw [CW _ _ (by first|omega|(simp<;>omega))];first|exact d2|exact(World.cell?_alloc_lt _ _ _ Tq).trans d2);(first|(guard_hyp Bl:V.heap.size < w4.heap.size;have HY:=Hq ((hb5.block _ Bl).trans HZ);have y0:=(CW _ 0 Bl).trans z0;have y1:=(CW _ 1 Bl).trans z1;have y2:=(CW _ 2 Bl).trans z2;have y3:=(CW _ 3 Bl).trans z3;have v0:=(Xk _ 0 Bl).trans x0;have v1:=(Xk _ 1 Bl).trans x1;have v2:=(Xk _ 2 Bl).trans x2;have v3:=(Xk _ 3 Bl).trans x3)|(guard_hyp hs5:w4.heap.size+1<=w5.heap.size;have HY:=Hq (Fo.one_block hb5).1;obtain⟨⟨y0,y1,y2,y3⟩,v0,v1,v2,v3⟩:=gG (Fo.one_block hb5).1)|skip);(have aBn:w.heap.size < w5.heap.size:=by omega);(have hn5:w.heap.size≠w5.heap.size:=by omega);(have hm5:w5.heap.size≠w.heap.size:=by omega);(clear hb5 CW Xk)))
  all_goals
   go_wp2_with fail
   go_meet
   case rel=>
    first
     |exact⟨_,rfl,rfl,Fo.four_below iX Aaa,Fo.four_set HY,Aaa⟩
     |exact⟨_,rfl,rfl,iX.alloc iX.size _,heap_alloc_new w5 _,Aaa⟩
 case rest=>
  obtain⟨pb,rfl,rfl,hbx,hpb,hge⟩:=hcut;obtain⟨⟨p0,p1,p2,p3⟩,_⟩:=gG hpb;have akp:=Hq (adb _ hbx);have lU:=Hq hbx;have KQ:=Hq hpb;have aBp:=Fo.lt_of_blk hpb
  have HNE:=Hq (show pb≠mp/\v.ownBlock≠some pb from⟨λe=>by
   have:=(YV _ hbx).blk
   rw [<-e,hpb] at this
   injection this with this
   injection this with h1 h2 h3
   exact absurd h2 Aae,own_ne (YV _ hbx).row hpb Aae⟩)
  clear hbx hpb adb ND HSH vS c0 c1 c2 hlt;go_wp2_with fail;refine akp.mono ?_;rintro e w6 ⟨hb6,ax6,hcase⟩;have vP:=Hq (Below.trans (lU.mono hB) hb6);have ajG:=(ax6 pb aBp HNE.1 HNE.2).trans KQ;clear ax6 hb6 p0 p1 p2 p3 akp;rcases hcase with⟨hf,rfl,Ce⟩|⟨hf,h20,rfl⟩|⟨hf,h20,rfl,v',Ce⟩
  .rw [ah tZ hf] at Ce;open apG in exact afb
  .have HF:=Hq hf;have H20:=Hq h20;clear hf h20 ajG;go_wp2_with fail;go_ret;exact⟨vP,.inl ⟨HF,H20,rfl⟩⟩
  .rw [ah HKN hf] at Ce;open apF in exact afb):P:=h
theorem aoc.AeH(h:P:=by
 have hnV:w.heap.size≠V.heap.size:=Aaa
 have hmV:V.heap.size≠w.heap.size:=Aaa
 go_region_held (λw'=>w'.cell? ⟨w.heap.size,0,none⟩=some (.int .i64 dm)/\w'.cell? ⟨w.heap.size,1,none⟩=some (.int .i64 df)/\w'.cell? ⟨w.heap.size,2,none⟩=some (.int .i64 ds)) (go_keep)
  (first
   |((go_at_call 260);(refine(ND _ (by exact vS.trans (by exact⟨rfl,rfl,rfl,Aac,λk hk=>by first|rfl|exact Below.heap_alloc _ _ _ Aaa⟩))).mono ?_);(rintro e w4 ⟨rfl,hb4⟩);(have hs4:=hb4.size);(simp at hs4);(have lI:=Hq (vS.trans (Below.trans (b:=_) (by exact⟨rfl,rfl,rfl,Aac,λk hk=>by first|rfl|exact Below.heap_alloc _ _ _ Aaa⟩) (hb4.mono (by first|omega|(simp<;>omega))))));(obtain⟨hc4,hf4⟩:=CS hb4);(have d0:w4.cell? ⟨w.heap.size,0,none⟩=some (.int .i64 dm):=by rw [hc4 _ _ (by first|omega|(simp<;>omega))];first|exact c0|exact(World.cell?_alloc_lt _ _ _ hlt).trans c0);(have d1:w4.cell? ⟨w.heap.size,1,none⟩=some (.int .i64 df):=by rw [hc4 _ _ (by first|omega|(simp<;>omega))];first|exact c1|exact(World.cell?_alloc_lt _ _ _ hlt).trans c1);(have d2:w4.cell? ⟨w.heap.size,2,none⟩=some (.int .i64 ds):=by rw [hc4 _ _ (by first|omega|(simp<;>omega))];first|exact c2|exact(World.cell?_alloc_lt _ _ _ hlt).trans c2);(first|(guard_hyp hs4:V.heap.size+1<=w4.heap.size;obtain⟨⟨z0,z1,z2,z3⟩,x0,x1,x2,x3⟩:=gG (Fo.one_block (show Below (V.alloc (.cells (iM ⟨#[]⟩ 0 0 0) 143)).heap.size (V.alloc (.cells (iM ⟨#[]⟩ 0 0 0) 143)) w4 from⟨hb4.os,hb4.tape,hb4.output,hb4.size,hb4.block⟩)).1;have Bl:V.heap.size < w4.heap.size:=World.block_lt_of_cell? _ _ z0)|skip);(have Tq:w.heap.size < w4.heap.size:=by omega);(have hn4:w.heap.size≠w4.heap.size:=by omega);(have hm4:w4.heap.size≠w.heap.size:=by omega);(clear hb4 hc4 hf4))
   |((go_at_call 261);(refine(HSH _ (by exact lI.trans (by exact⟨rfl,rfl,rfl,Aac,λk hk=>by first|rfl|exact Below.heap_alloc _ _ _ Aaa⟩))).mono ?_);(rintro e w5 ⟨ix,hix,rfl,hb5⟩);(have hs5:=hb5.size);(try simp at hs5);(have iX:=Hq (lI.trans (Below.trans (b:=_) (by exact⟨rfl,rfl,rfl,Aac,λk hk=>by first|rfl|exact Below.heap_alloc _ _ _ Aaa⟩) (hb5.mono (by first|omega|(simp<;>omega))))));(obtain⟨CW,Xk⟩:=CS hb5);(have e0:w5.cell? ⟨w.heap.size,0,none⟩=some (.int .i64 dm):=by rw [CW _ _ (by first|omega|(simp<;>omega))];first|exact d0|exact(World.cell?_alloc_lt _ _ _ Tq).trans d0);(have e1:w5.cell? ⟨w.heap.size,1,none⟩=some (.int .i64 df):=by rw [CW _ _ (by first|omega|(simp<;>omega))];first|exact d1|exact(World.cell?_alloc_lt _ _ _ Tq).trans d1);(have e2:w5.cell? ⟨w.heap.size,2,none⟩=some (.int .i64 ds):=by rw [CW _ _ (by first|omega|(simp<;>omega))];first|exact d2|exact(World.cell?_alloc_lt _ _ _ Tq).trans d2);(first|(guard_hyp Bl:V.heap.size < w4.heap.size;have y0:=(CW _ 0 Bl).trans z0;have y1:=(CW _ 1 Bl).trans z1;have y2:=(CW _ 2 Bl).trans z2;have y3:=(CW _ 3 Bl).trans z3;have v0:=(Xk _ 0 Bl).trans x0;have v1:=(Xk _ 1 Bl).trans x1;have v2:=(Xk _ 2 Bl).trans x2;have v3:=(Xk _ 3 Bl).trans x3)|(guard_hyp hs5:w4.heap.size+1<=w5.heap.size;obtain⟨⟨y0,y1,y2,y3⟩,v0,v1,v2,v3⟩:=gG (Fo.one_block hb5).1)|skip);(have aBn:w.heap.size < w5.heap.size:=by omega);(have hn5:w.heap.size≠w5.heap.size:=by omega);(have hm5:w5.heap.size≠w.heap.size:=by omega);(clear hb5 CW Xk)))
 all_goals
  go_wp2_with fail
  go_ret
  refine⟨ix,hix,rfl,?_⟩
  first|exact iX.alloc iX.size _|exact Fo.four_below iX Aaa):P:=h
theorem aiT(h:P:=by
 refine wp_region_quiet_below Aab Aab ?_;repeat (first|go_big_quiet_step (first|exact cO _ _|exact cM _ _)|quiet_step (first|exact cO _ _|exact cM _ _))
 refine wpQuiet_nil ?_;intro _ hw';obtain⟨⟨dq,osq⟩,hw''⟩:=hw';subst hw'';have mH:=Hq (vS.trans ((below_regrown _ dq osq).mono vS.size));clear cO cM y0 y1 y2 y3 y4 y5 y6;exact AcD):P:=h
theorem aod.AcD(h:P:=by
 exact Kw6):P:=h
theorem aoe.AcD(h:P:=by
 exact AaA):P:=h
theorem aof.AcD(h:P:=by
 go_wp2_with fail;exact bodyPost_ret (v:= .tuple #[wR ⟨1,F,T,I,L,k,N⟩,.bool true]) Abb rfl ⟨Aaw,mH⟩):P:=h
theorem adM(h:P:=by
 obtain⟨k,hk,rfl,hall,hblk,hbel⟩:=hrel;have mU:=Hq hall;have gI:=Hq hbel;have GL:=Hq hblk;exact AbA):P:=h
theorem aog.AbA(h:P:=by
 obtain⟨c0,c1,c2,_⟩:=nine hblk;clear hall hbel hblk;by_cases hlt:k < kids.length
 case' neg=>
  have hke:k=kids.length:=Aaa
  subst hke
  have hnlt:decide ((kids.length:Int) < (kids.length:Int))=false:=Aac
  have HF:Hid (dH ⟨id,par,kids,next,pu,out,seen,old,reqs⟩=true):=by
   exact WH
  go_wp2_with fail
  go_ret
  exact⟨aD HF.symm,gI⟩
 have HBAD:Hid (iB (jN id par) iQ (kids.take (k+1))=false->dH ⟨id,par,kids,next,pu,out,seen,old,reqs⟩=false):=λh=>lD.trans (xG _ h)
 cases k with
 |zero=>
  obtain⟨g,off,rfl,hgw,q0⟩:=dX.one (GR.At.below HA gI) 0 hlt
  rw [Nat.add_zero] at q0
  have hgt:decide ((0:Int) < ((0:Nat):Int))=false:=rfl
  have gU:Hid (iB (jN id par) iQ (kids.take 1)=jN id par kids[0]):=ah Dt hlt
  clear Dt Ee xG
  generalize kids[0]=x at *
  cases hx1:rZ x
  case' false=>
   have HP:=Hq (HBAD (by rw [ah gU];simp[jN,hx1]))
   clear HBAD gU
   go_wp2_with fail
   refine wp_region_quiet_lit Aab Aab ?_
   repeat (first|go_big_quiet_step ((first|(go_at_call 134;exact nS _ _ hx1 _ _)))|quiet_step ((first|(go_at_call 134;exact nS _ _ hx1 _ _))))
   refine wpQuiet_nil ?_
   intro _ hw'
   obtain⟨nq,hw''⟩:=hw'
   subst hw''
   go_wp2_with fail
   go_ret
   exact⟨aD HP.symm,gI.trans ⟨rfl,rfl,rfl,Nat.le_refl _,λ_ _=>rfl⟩⟩
  by_cases hx2:x=id
  case' pos=>
   have hy2:(x == id)=true:=by simp[hx2]
   have HP:=Hq (HBAD (by rw [ah gU];simp[jN,hx2]))
   clear HBAD gU hx2
   go_wp2_with fail
   refine wp_region_quiet_lit Aab Aab ?_
   repeat (first|go_big_quiet_step ((first|(go_at_call 134;exact nS _ _ hx1 _ _)))|quiet_step ((first|(go_at_call 134;exact nS _ _ hx1 _ _))))
   refine wpQuiet_nil ?_
   intro _ hw'
   obtain⟨nq,hw''⟩:=hw'
   subst hw''
   go_wp2_with fail
   go_ret
   exact⟨aD HP.symm,gI.trans ⟨rfl,rfl,rfl,Nat.le_refl _,λ_ _=>rfl⟩⟩
  have hy2:(x == id)=false:=by simp[hx2]
  by_cases hx3:x=par
  case' pos=>
   have hy3:(x == par)=true:=by simp[hx3]
   have HP:=Hq (HBAD (by rw [ah gU];simp[jN,hx3]))
   clear HBAD gU hx3
   go_wp2_with fail
   refine wp_region_quiet_lit Aab Aab ?_
   repeat (first|go_big_quiet_step ((first|(go_at_call 134;exact nS _ _ hx1 _ _)))|quiet_step ((first|(go_at_call 134;exact nS _ _ hx1 _ _))))
   refine wpQuiet_nil ?_
   intro _ hw'
   obtain⟨nq,hw''⟩:=hw'
   subst hw''
   go_wp2_with fail
   go_ret
   exact⟨aD HP.symm,gI.trans ⟨rfl,rfl,rfl,Nat.le_refl _,λ_ _=>rfl⟩⟩
  have hy3:(x == par)=false:=by simp[hx3]
  have HG:=Hq (show iB (jN id par) iQ (kids.take (0+1))=true by rw [ah gU];simp[jN,hx1,hx2,hx3])
  clear HBAD gU
  go_wp2_with fail
  refine wp_region_quiet_lit Aab Aab ?_
  repeat (first|go_big_quiet_step ((first|(go_at_call 134;exact nS _ _ hx1 _ _)))|quiet_step ((first|(go_at_call 134;exact nS _ _ hx1 _ _))))
  refine wpQuiet_nil ?_
  intro _ hw'
  obtain⟨nq,hw''⟩:=hw'
  subst hw''
  go_wp2_with fail
  go_roundw
  case rel=>exact⟨0+1,Aaa,Aai,HG,GL,gI.trans ⟨rfl,rfl,rfl,Nat.le_refl _,λ_ _=>rfl⟩⟩
  case measure=>simp[intOf];omega
 |succ j=>
  obtain⟨g,off,e1,hgw,q0⟩:=dX.one (GR.At.below HA gI) (j+1) hlt
  obtain⟨g',off',e2,aCs,q1⟩:=dX.one (GR.At.below HA gI) j Aaa
  rw [e1] at e2
  injection e2 with e2
  injection e2 with e2 e3
  subst e2 e3 e1
  have hgt:decide ((0:Int) < ((j+1:Nat):Int))=true:=decide_eq_true Aaa
  have gU:Hid (iB (jN id par) iQ (kids.take (j+1+1))=(jN id par kids[j+1]&&iQ kids[j] kids[j+1])):=by
   have h:=ah Ee j hlt;rw [ah mU] at h;exact h
  clear Dt Ee xG
  generalize kids[j]=y at *
  generalize kids[j+1]=x at *
  cases hx1:rZ x
  case' false=>
   have HP:=Hq (HBAD (by rw [ah gU];simp[jN,hx1]))
   clear HBAD gU
   go_wp2_with fail
   refine wp_region_quiet_lit Aab Aab ?_
   repeat (first|go_big_quiet_step ((first|(go_at_call 134;exact nS _ _ hx1 _ _)))|quiet_step ((first|(go_at_call 134;exact nS _ _ hx1 _ _))))
   refine wpQuiet_nil ?_
   intro _ hw'
   obtain⟨nq,hw''⟩:=hw'
   subst hw''
   go_wp2_with fail
   go_ret
   exact⟨aD HP.symm,gI.trans ⟨rfl,rfl,rfl,Nat.le_refl _,λ_ _=>rfl⟩⟩
  by_cases hx2:x=id
  case' pos=>
   have hy2:(x == id)=true:=by simp[hx2]
   have HP:=Hq (HBAD (by rw [ah gU];simp[jN,hx2]))
   clear HBAD gU hx2
   go_wp2_with fail
   refine wp_region_quiet_lit Aab Aab ?_
   repeat (first|go_big_quiet_step ((first|(go_at_call 134;exact nS _ _ hx1 _ _)))|quiet_step ((first|(go_at_call 134;exact nS _ _ hx1 _ _))))
   refine wpQuiet_nil ?_
   intro _ hw'
   obtain⟨nq,hw''⟩:=hw'
   subst hw''
   go_wp2_with fail
   go_ret
   exact⟨aD HP.symm,gI.trans ⟨rfl,rfl,rfl,Nat.le_refl _,λ_ _=>rfl⟩⟩
  have hy2:(x == id)=false:=by simp[hx2]
  by_cases hx3:x=par
  case' pos=>
   have hy3:(x == par)=true:=by simp[hx3]
   have HP:=Hq (HBAD (by rw [ah gU];simp[jN,hx3]))
   clear HBAD gU hx3
   go_wp2_with fail
   refine wp_region_quiet_lit Aab Aab ?_
   repeat (first|go_big_quiet_step ((first|(go_at_call 134;exact nS _ _ hx1 _ _)))|quiet_step ((first|(go_at_call 134;exact nS _ _ hx1 _ _))))
   refine wpQuiet_nil ?_
   intro _ hw'
   obtain⟨nq,hw''⟩:=hw'
   subst hw''
   go_wp2_with fail
   go_ret
   exact⟨aD HP.symm,gI.trans ⟨rfl,rfl,rfl,Nat.le_refl _,λ_ _=>rfl⟩⟩
  have hy3:(x == par)=false:=by simp[hx3]
  by_cases hx4:y < x
  case' neg=>
   have hy4:decide (x<=y)=true:=decide_eq_true Aaa
   have HP:=Hq (HBAD (by rw [ah gU];simp[jN,iQ,hx4]))
   clear HBAD gU
   go_wp2_with fail
   refine wp_region_quiet_lit Aab Aab ?_
   repeat (first|go_big_quiet_step ((first|(go_at_call 134;exact nS _ _ hx1 _ _)))|quiet_step ((first|(go_at_call 134;exact nS _ _ hx1 _ _))))
   refine wpQuiet_nil ?_
   intro _ hw'
   obtain⟨nq,hw''⟩:=hw'
   subst hw''
   go_wp2_with fail
   go_ret
   exact⟨aD HP.symm,gI.trans ⟨rfl,rfl,rfl,Nat.le_refl _,λ_ _=>rfl⟩⟩
  have hy4:decide (x<=y)=false:=decide_eq_false Aaa
  have HG:=Hq (show iB (jN id par) iQ (kids.take (j+1+1))=true by rw [ah gU];simp[jN,hx1,hx2,hx3,iQ,hx4])
  clear HBAD gU
  go_wp2_with fail
  refine wp_region_quiet_lit Aab Aab ?_
  repeat (first|go_big_quiet_step ((first|(go_at_call 134;exact nS _ _ hx1 _ _)))|quiet_step ((first|(go_at_call 134;exact nS _ _ hx1 _ _))))
  refine wpQuiet_nil ?_
  intro _ hw'
  obtain⟨nq,hw''⟩:=hw'
  subst hw''
  go_wp2_with fail
  go_roundw
  case rel=>exact⟨j+1+1,Aaa,Aai,HG,GL,gI.trans ⟨rfl,rfl,rfl,Nat.le_refl _,λ_ _=>rfl⟩⟩
  case measure=>simp[intOf];omega):P:=h
theorem aoh.AbA(h:P:=by
 obtain⟨c0,c1,c2,c3,c4,c5,c6,_⟩:=nine hblk;clear hall hbel hblk;by_cases hlt:k < seen.length
 case' neg=>
  have hke:k=seen.length:=Aaa
  subst hke
  have hnlt:decide ((seen.length:Int) < (seen.length:Int))=false:=Aac
  have HF:Hid (TT=true):=by
   exact WH
  go_wp2_with fail
  go_ret
  exact⟨aD HF.symm,gI⟩
 have HBAD:Hid (iB PP RR (seen.take (k+1))=false->TT=false):=λh=>lD.trans (xG _ h)
 obtain⟨g,off,b,c,e0,hgw,q0,q1,q2,hI⟩:=mW.below HS gI k hlt;have Ie:(seen[k]).ids.length<=1048600:=ah UK _ (List.getElem_mem hlt);have HI:=Hq hI;have Dx:=Hq Ie;clear hI Ie
 have Wq:Hid (∃pv:Bool,iB PP RR (seen.take (k+1))=((NN (seen[k]).f&&vO seen[k])&&pv)/\((k=0/\pv=true)\/∃(j:Nat) (y:Int),k=j+1/\pv=decide (y < (seen[k]).f)/\wr.cell? ⟨g,off+j*3,none⟩=some (.int .i64 y))):=by
  cases k with
  |zero=>
   refine⟨true,?_,.inl ⟨rfl,rfl⟩⟩
   have h:=ah Dt hlt
   rw [Bool.and_true]
   exact h
  |succ j=>
   obtain⟨g',off',_,_,e2,_,p0,_⟩:=mW.below HS gI j Aaa
   rw [e0] at e2
   injection e2 with e2
   injection e2 with e2 e3
   subst e2 e3
   refine⟨_,?_,.inr ⟨j,_,rfl,rfl,p0⟩⟩
   have h:=ah Ee j hlt
   rw [ah mU] at h
   exact h
 subst e0;generalize hsk:seen[k]=sk at *;clear hsk;obtain⟨fr,lo,ids⟩:=sk;dsimp only at q0 q1 q2 HI Dx Wq;obtain⟨pv,hpv,hpk⟩:=ah Wq;have gU:=Hq hpv;have xL:=Hq hpk;obtain⟨bb,hbb⟩:∃bb,(!(NN fr&&pv&&fV lo&&decide (ids.length<=40)))=bb:=⟨_,rfl⟩;have fO:=Hq hbb;clear hpv hpk Wq hbb Dt Ee xG;go_upto_region 10 with fail;open auB in exact ags):P:=h
theorem aoi.AbA(h:P:=by
 obtain⟨c0,c1,c2,c3,c4,c5,c6,c7,c8⟩:=nine hblk;clear hall hbel hblk;by_cases hlt:k < out.length
 case' pos=>
  have HBAD:Hid (iB OT RO (out.take (k+1))=false->TT=false):=λh=>by rw [ah HTT,ah xG _ h];rfl
  obtain⟨g,off,e0,hgw,q0,q1,q2,q3⟩:=SentAt.four (HA.below gI).o k hlt
  (try dsimp only at e0 q0 q1 q2 q3)
  have hks:=HZ.ok _ (List.getElem_mem hlt)
  (try dsimp only at hks)
  have Wq:Hid (∃pv:Bool,iB OT RO (out.take (k+1))=(OT out[k]&&pv)/\((k=0/\pv=true)\/∃(j:Nat) (y:Int),k=j+1/\pv=decide (y < (out[k]).i)/\wr.cell? ⟨g,off+j*4,none⟩=some (.int .i64 y))):=by
   cases k with
   |zero=>
    refine⟨true,?_,.inl ⟨rfl,rfl⟩⟩
    rw [Bool.and_true]
    exact Dt hlt
   |succ j=>
    obtain⟨g',off',e2,_,p0,_⟩:=SentAt.four (HA.below gI).o j (show j < out.length by omega)
    (try dsimp only at e2 p0)
    rw [e0] at e2
    injection e2 with e2
    injection e2 with e2 e3
    subst e2 e3
    refine⟨_,?_,.inr ⟨j,_,rfl,rfl,p0⟩⟩
    have h:=ah Ee j hlt
    rw [ah mU] at h
    exact h
  subst e0
  have lD:=Hq (HOT out[k])
  generalize out[k]=sk at *
  generalize OT sk=OB at *
  obtain⟨si,st,sx,sn⟩:=sk
  dsimp only at q0 q1 q2 q3 hks Wq lD
  obtain⟨pv,hpv,hpk⟩:=ah Wq
  have gU:=Hq hpv
  have xL:=Hq hpk
  obtain⟨bb,hbb⟩:∃bb,(!(decide (1<=si/\si<=next - 1)&&NN st&&keyOk sx.data.toList&&fV sn&&pv))=bb:=⟨_,rfl⟩
  have fO:=Hq hbb
  clear hpv hpk Wq hbb Dt Ee xG
  go_upto_region 7 with fail
  refine wp_at (λW1 hW1=>?_)
  have HW1:Hid (W1.heap[wr.heap.size]?=some (.cells (fI si st sx sn) 95 (0,0))):=Acl
  have hbw:aY wr W1:=by rw [hW1];exact au wr _
  have Bw:=Hq (ay GL hbw)
  have vL:=Hq (gI.trans (hbw.mono gI.size))
  have hgw1:=hbw.size
  have DC:Hid ((k=0/\pv=true)\/∃(j:Nat) (y:Int),k=j+1/\pv=decide (y < si)/\W1.cell? ⟨g,off+j*4,none⟩=some (.int .i64 y)):=by
   exact ahh
  clear hW1 hbw q0 q1 q2 q3 c0 c1 c2 c3 c4 c5 c6 c7 c8 xL GL
  obtain⟨d0,d1,d2,d3⟩:=gP HW1
  obtain⟨c0,c1,c2,c3,c4,c5,c6,c7,c8⟩:=nine Bw
  have k0:=cell_grown' c0
  have k1:=cell_grown' c1
  have k2:=cell_grown' c2
  have k3:=cell_grown' c3
  have k4:=cell_grown' c4
  have k5:=cell_grown' c5
  have k6:=cell_grown' c6
  have k7:=cell_grown' c7
  have k8:=cell_grown' c8
  have m0:=cell_grown' d0
  have m1:=cell_grown' d1
  have m2:=cell_grown' d2
  have m3:=cell_grown' d3
  have en:IntKind.i64.wrap (next - 1)=next - 1:=IntWalk.i64_in _ ⟨Aaa,Aaa⟩
  go_cut [98] (λr wx=>r= .bool bb/\aY W1 wx)
  case first=>
   rcases DC with⟨rfl,rfl⟩|⟨j,y,rfl,rfl,q1⟩
   .have hgt:decide ((0:Int) < ((0:Nat):Int))=false:=rfl;open azN in exact Yw8
   .have hgt:decide ((0:Int) < ((j+1:Nat):Int))=true:=decide_eq_true Aaa;have m9:=cell_grown' q1;open azM in exact Yw8
  case rest=>
   obtain⟨rfl,hbx⟩:=hcut;open asa in exact Vg
 open an6 in exact aax):P:=h
theorem aoj.AbA(h:P:=by
 clear c0 c1 c2 c3 c4 c5 c6 c7 c8;obtain⟨c0,c1,c2,c3,c4,c5,c6,c7,c8⟩:=nine hblk;clear hall hbel hblk;by_cases hlt:k < reqs.length
 case' neg=>
  have hke:k=reqs.length:=Aaa
  subst hke
  have aB5:decide ((reqs.length:Int) < (reqs.length:Int))=false:=Aac
  have HF:Hid (TT=true):=by
   have h:=ah mU;rw [List.take_length] at h;exact HOF.trans h
  go_wp2_with fail
  go_ret
  exact⟨aD HF.symm,gI⟩
 have HBAD:Hid (iB RQ RR (reqs.take (k+1))=false->TT=false):=λh=>HOF.trans (HDB _ h)
 obtain⟨g,off,e0,hgw,q0,q1,q2,q3⟩:=jf.four (HA.below gI).r k hlt;(try dsimp only at e0 q0 q1 q2 q3)
 have hks:=HZ.rk _ (List.getElem_mem hlt);(try dsimp only at hks)
 have Wq:Hid (∃pv:Bool,iB RQ RR (reqs.take (k+1))=(RQ reqs[k]&&pv)/\((k=0/\pv=true)\/∃(j:Nat) (y:Int),k=j+1/\pv=decide (y < (reqs[k]).no)/\wr.cell? ⟨g,off+j*4,none⟩=some (.int .i64 y))):=by
  cases k with
  |zero=>
   refine⟨true,?_,.inl ⟨rfl,rfl⟩⟩
   rw [Bool.and_true]
   exact HDF hlt
  |succ j=>
   obtain⟨g',off',e2,_,p0,_⟩:=jf.four (HA.below gI).r j (show j < reqs.length by omega)
   (try dsimp only at e2 p0)
   rw [e0] at e2
   injection e2 with e2
   injection e2 with e2 e3
   subst e2 e3
   refine⟨_,?_,.inr ⟨j,_,rfl,rfl,p0⟩⟩
   have h:=ah HDN j hlt
   rw [ah mU] at h
   exact h
 subst e0;have lD:=Hq (Oe reqs[k]);generalize reqs[k]=sk at *;generalize RQ sk=OB at *;obtain⟨si,sx,sn,st⟩:=sk;dsimp only at q0 q1 q2 q3 hks Wq lD;obtain⟨pv,hpv,hpk⟩:=ah Wq;have gU:=Hq hpv;have xL:=Hq hpk;obtain⟨bb,hbb⟩:∃bb,(!(decide (old+1<=si/\si<=1000000000)&&keyOk sx.data.toList&&fV sn&&decide (0<=st/\st<=2)&&pv))=bb:=⟨_,rfl⟩;have fO:=Hq hbb;clear hpv hpk Wq hbb HDF HDN HDB;go_upto_region 13 with fail;refine wp_at (λW1 hW1=>?_);have HW1:Hid (W1.heap[wr.heap.size]?=some (.cells (eG si sx sn st) 97 (0,0))):=Acl
 open amq in exact adJ):P:=h
theorem awy(h:P:=by
 have HN8:Hid (NQ Z8 B n (⟨a_k,(some ⟨gp,0,none⟩),eD,eO,gN,aL,bE,aP,aM,aV⟩:bC) G (newC w.heap.size 9 c)):=by rw [hZ];exact HN7.kc (k:=9) (KC.set (aZ (Nat.le_refl _))) Aaa
 have YT:Hid (Z8.ownsRow bs 143 4 (.slice av RL.length cv) RL.length (GR.flat fH RL)):=by rw [hZ];exact dG HP7 (aC.set _) (λy hy=>by have:y=w.heap.size:=Aat;omega)
 have GY:Hid (Below B w Z8):=by rw [hZ];exact ze.setCell (p:=⟨w.heap.size,3,none⟩) hB _
 have HK8:Hid (Apart c w Z8):=by rw [hZ];exact HK7.keeps ze.size (aC.set _) (λy hy=>by have:y=w.heap.size:=Aat;omega)
 clear hZ HK7 qB nT HN7 HP7 ze Wu c3n f3n hn7;exact Aer):P:=h
theorem aok.Aer(h:P:=by
 obtain⟨a6,c6,W9,hrun,JQ,Xl,Xr⟩:∃a6 c6 W9,(Builtin.append_ #[26,26] 26 #[.slice eD n.out.length aP,.slice (some ⟨Z8.heap.size,0,none⟩) 1 1]).run prog (Z8.alloc (.cells (fI n.next dst key pf) 95))= .ok (.slice a6 (n.out.length+1) c6) W9/\W9.ownsRow B 95 4 (.slice a6 (n.out.length+1) c6) (n.out.length+1) (GR.flat aW (n.out++[⟨n.next,dst,key,pf⟩]))/\(Z8.alloc (.cells (fI n.next dst key pf) 95)).grownBy W9 (Value.slice eD n.out.length aP).ownBlock/\∀x,(Value.slice a6 (n.out.length+1) c6).ownBlock=some x->(Value.slice eD n.out.length aP).ownBlock=some x\/(Z8.alloc (.cells (fI n.next dst key pf) 95)).heap.size<=x:=by
  obtain⟨hi,hz0,hz1,hz2⟩:=ah HI;obtain⟨v',w',hr,ho,hg,hw⟩:=dR (P:=prog) (Z8.alloc (.cells (fI n.next dst key pf) 95)) B 26 26 95 i0 (.agg (fI 0 0 ByteArray.empty 0)) 4 40 underlying26 hi hz0 hz1 hz2 rfl Aae (.slice eD n.out.length aP) n.out.length (GR.flat aW n.out) (GR.own_below HN8.o (au Z8 _)) ⟨Z8.heap.size,0,none⟩ 1 1 (aW ⟨n.next,dst,key,pf⟩) rfl (World.news_of_block (heap_alloc_new Z8 _)) (uq _) Aah Aaa (Nat.le_trans (Nat.le_trans hB GY.size) (au Z8 _).size);obtain⟨a6,c6,hv6,_⟩:=GR.own_at (enc:=aW) (sz:=4) (l:=n.out++[⟨n.next,dst,key,pf⟩]) eu (by rw [List.length_append,jd];exact ho);exact ahf
 have jZ:=HN8.kc (k:=9) (KC.of_below (au Z8 (.cells (fI n.next dst key pf) 95))) Aaa;have k9:KC (newC w.heap.size 9 c) 3 (Z8.alloc (.cells (fI n.next dst key pf) 95)) W9:=KC.grown Xl jZ.co;have hn9:∀x,w.heap.size<=x->newC w.heap.size 9 c x≠3:=λx hx=>by rw [aZ hx];omega
 have xX:=Hq (k9.obj (ay rR (au Z8 (.cells (fI n.next dst key pf) 95))) (hn9 _ (Nat.le_refl _)));have lY:=Hq (k9.obj (ay zn (au Z8 (.cells (fI n.next dst key pf) 95))) (hn9 _ Aaa));have Sb:=Hq (k9.obj (ay Om (au Z8 (.cells (fI n.next dst key pf) 95))) (hn9 _ Aaa));have Zc:=Hq (k9.below (B:=B) (GY.trans ((au Z8 (.cells (fI n.next dst key pf) 95)).mono (Nat.le_trans hB GY.size))) jZ.lo Aaa (Nat.le_trans (Nat.le_trans hB GY.size) (au Z8 _).size));have hZ8:w.heap.size+1 < Z8.heap.size:=aA zn
 have gU:Hid (∀W',(∃F,aC F W9 W'/\∀y∈F,(y=w.heap.size\/y=w.heap.size+1)\/(y < w.heap.size/\6 < c y))->RM W' ⟨a_k,av,a6,eO,gN,aL,cv,c6,aM,aV⟩ ⟨n.id,n.par,n.kids,n.next+1,RL,n.out++[⟨n.next,dst,key,pf⟩],n.seen,n.old,n.reqs⟩):=λW' hkF=>by
  obtain⟨F,hk,hF⟩:=hkF
  have kF:KC (newC w.heap.size 9 c) 9 W9 W':=KC.keeps hk (λy hy=>by
   rcases hF y hy with h1|h1
   .exact aZ Aaa
   .rw [eT h1.1];exact H9 y h1.2)
  have hr:=(kF.own (k9.own jZ.r jZ.cr Aaa) jZ.cr Aaa)
  have hp:=(dG (k9.own (j:=9) (GR.own_below YT (au Z8 _)) (λx hx=>aZ (by have:=uQ YT hx;omega)) Aaa) hk (λy hy=>by
   have:=hF y hy
   omega))
  have ho:W'.ownsRow B 95 4 (.slice a6 (n.out++[(⟨n.next,dst,key,pf⟩:lJ)]).length c6) (n.out++[(⟨n.next,dst,key,pf⟩:lJ)]).length (GR.flat aW (n.out++[(⟨n.next,dst,key,pf⟩:lJ)])):=(by
   rw [List.length_append]
   exact kH JQ (λx hx=>by
    have hx9:=Mr JQ hx
    refine hk.block x hx9 (λhm=>?_)
    have hm':=hF x hm
    rcases Xr x hx with h1|h1
    .exact aha
    .have:=(au Z8 (.cells (fI n.next dst key pf) 95)).size
     omega))
  have hp9:∀g,av.map (λy=>y.block)=some g->6 < newC w.heap.size 9 c g:=λg hg=>by
   have h1:=uQ hp (nD hp hg)
   rw [aZ Aaa]
   omega
  have ho9:∀x,(Value.slice a6 (n.out++[(⟨n.next,dst,key,pf⟩:lJ)]).length c6).ownBlock=some x->(Value.slice eD n.out.length aP).ownBlock=some x\/(Z8.alloc (.cells (fI n.next dst key pf) 95)).heap.size<=x:=λx hx=>by
   rw [List.length_append] at hx
   exact Xr x hx
  have hz9:(Z8.alloc (.cells (fI n.next dst key pf) 95)).heap.size=Z8.heap.size+1:=Aac
  exact RM.of (n:=⟨n.id,n.par,n.kids,n.next+1,RL,n.out++[⟨n.next,dst,key,pf⟩],n.seen,n.old,n.reqs⟩) (A:=⟨a_k,av,a6,eO,gN,aL,cv,c6,aM,aV⟩) (c:=newC w.heap.size 9 c) (kF.w (k9.w jZ.k jZ.ck Aaa) jZ.ck Aaa) jZ.ck (kF.seenQ (k9.seenQ jZ.sq jZ.c4 jZ.ci Aaa Aaa) jZ.c4 jZ.ci Aaa Aaa) jZ.c4 jZ.ci jZ.ni
   (GR.own_ati aX hp) (λg hg _=> .inr (hp9 g hg)) ho (λx hx=>by
    rcases ho9 x hx with h1|h1
    .exact .inl (jZ.co x h1)
    .refine .inr ?_;rw [aZ Aaa]
     omega) hr (λx hx=> .inl (jZ.cr x hx))
   (λg hg _ h6=>⟨λe=>by
    rcases ho9 g e with h1|h1
    .have:=jZ.co g h1;omega
    .have h2:=Mr YT (nD YT hg)
     omega,λe=>by have:=jZ.cr g e;omega⟩) (λx hx h6 e=>by have:=jZ.cr x e;omega)
 have HK9:=Hq ((HK8.step GY.size (au Z8 (.cells (fI n.next dst key pf) 95))).grown (Nat.le_trans GY.size (au Z8 _).size) Xl (λx hx hlt=>by
  have h1:=jZ.co x hx
  rw [eT hlt] at h1
  omega))
 open anI in exact awv):P:=h
theorem aol.Aer(h:P:=by
 obtain⟨a6,c6,W9,hrun,JQ,Xl,Xr⟩:∃a6 c6 W9,(Builtin.append_ #[26,26] 26 #[.slice eD n.out.length aP,.slice (some ⟨Z8.heap.size,0,none⟩) 1 1]).run prog (Z8.alloc (.cells (fI n.next dst key most) 95))= .ok (.slice a6 (n.out.length+1) c6) W9/\W9.ownsRow B 95 4 (.slice a6 (n.out.length+1) c6) (n.out.length+1) (GR.flat aW (n.out++[⟨n.next,dst,key,most⟩]))/\(Z8.alloc (.cells (fI n.next dst key most) 95)).grownBy W9 (Value.slice eD n.out.length aP).ownBlock/\∀x,(Value.slice a6 (n.out.length+1) c6).ownBlock=some x->(Value.slice eD n.out.length aP).ownBlock=some x\/(Z8.alloc (.cells (fI n.next dst key most) 95)).heap.size<=x:=by
  obtain⟨hi,hz0,hz1,hz2⟩:=ah HI;obtain⟨v',w',hr,ho,hg,hw⟩:=dR (P:=prog) (Z8.alloc (.cells (fI n.next dst key most) 95)) B 26 26 95 i0 (.agg (fI 0 0 ByteArray.empty 0)) 4 40 underlying26 hi hz0 hz1 hz2 rfl Aae (.slice eD n.out.length aP) n.out.length (GR.flat aW n.out) (GR.own_below HN8.o (au Z8 _)) ⟨Z8.heap.size,0,none⟩ 1 1 (aW ⟨n.next,dst,key,most⟩) rfl (World.news_of_block (heap_alloc_new Z8 _)) (uq _) Aah Aaa (Nat.le_trans (Nat.le_trans hB GY.size) (au Z8 _).size);obtain⟨a6,c6,hv6,_⟩:=GR.own_at (enc:=aW) (sz:=4) (l:=n.out++[⟨n.next,dst,key,most⟩]) eu (by rw [List.length_append,jd];exact ho);exact ahf
 have jZ:=HN8.kc (k:=9) (KC.of_below (au Z8 (.cells (fI n.next dst key most) 95))) Aaa;have k9:KC (newC w.heap.size 9 c) 3 (Z8.alloc (.cells (fI n.next dst key most) 95)) W9:=KC.grown Xl jZ.co;have hn9:∀x,w.heap.size<=x->newC w.heap.size 9 c x≠3:=λx hx=>by rw [aZ hx];omega
 have xX:=Hq (k9.obj (ay rR (au Z8 (.cells (fI n.next dst key most) 95))) (hn9 _ (Nat.le_refl _)));have lY:=Hq (k9.obj (ay zn (au Z8 (.cells (fI n.next dst key most) 95))) (hn9 _ Aaa));have Sb:=Hq (k9.obj (ay Om (au Z8 (.cells (fI n.next dst key most) 95))) (hn9 _ Aaa));have Zc:=Hq (k9.below (B:=B) (GY.trans ((au Z8 (.cells (fI n.next dst key most) 95)).mono (Nat.le_trans hB GY.size))) jZ.lo Aaa (Nat.le_trans (Nat.le_trans hB GY.size) (au Z8 _).size));have hZ8:w.heap.size+1 < Z8.heap.size:=aA zn
 have gU:Hid (∀W',(∃F,aC F W9 W'/\∀y∈F,(y=w.heap.size\/y=w.heap.size+1)\/(y < w.heap.size/\6 < c y))->RM W' ⟨a_k,av,a6,eO,gN,aL,cv,c6,aM,aV⟩ ⟨n.id,n.par,n.kids,n.next+1,RL,n.out++[⟨n.next,dst,key,most⟩],n.seen,n.old,n.reqs⟩):=λW' hkF=>by
  obtain⟨F,hk,hF⟩:=hkF
  have kF:KC (newC w.heap.size 9 c) 9 W9 W':=KC.keeps hk (λy hy=>by
   rcases hF y hy with h1|h1
   .exact aZ Aaa
   .rw [eT h1.1];exact H9 y h1.2)
  have hr:=(kF.own (k9.own jZ.r jZ.cr Aaa) jZ.cr Aaa)
  have hp:=(dG (k9.own (j:=9) (GR.own_below YT (au Z8 _)) (λx hx=>aZ (by have:=uQ YT hx;omega)) Aaa) hk (λy hy=>by
   have:=hF y hy
   omega))
  have ho:W'.ownsRow B 95 4 (.slice a6 (n.out++[(⟨n.next,dst,key,most⟩:lJ)]).length c6) (n.out++[(⟨n.next,dst,key,most⟩:lJ)]).length (GR.flat aW (n.out++[(⟨n.next,dst,key,most⟩:lJ)])):=(by
   rw [List.length_append]
   exact kH JQ (λx hx=>by
    have hx9:=Mr JQ hx
    refine hk.block x hx9 (λhm=>?_)
    have hm':=hF x hm
    rcases Xr x hx with h1|h1
    .exact aha
    .have:=(au Z8 (.cells (fI n.next dst key most) 95)).size
     omega))
  have hp9:∀g,av.map (λy=>y.block)=some g->6 < newC w.heap.size 9 c g:=λg hg=>by
   have h1:=uQ hp (nD hp hg)
   rw [aZ Aaa]
   omega
  have ho9:∀x,(Value.slice a6 (n.out++[(⟨n.next,dst,key,most⟩:lJ)]).length c6).ownBlock=some x->(Value.slice eD n.out.length aP).ownBlock=some x\/(Z8.alloc (.cells (fI n.next dst key most) 95)).heap.size<=x:=λx hx=>by
   rw [List.length_append] at hx
   exact Xr x hx
  have hz9:(Z8.alloc (.cells (fI n.next dst key most) 95)).heap.size=Z8.heap.size+1:=Aac
  exact RM.of (n:=⟨n.id,n.par,n.kids,n.next+1,RL,n.out++[⟨n.next,dst,key,most⟩],n.seen,n.old,n.reqs⟩) (A:=⟨a_k,av,a6,eO,gN,aL,cv,c6,aM,aV⟩) (c:=newC w.heap.size 9 c) (kF.w (k9.w jZ.k jZ.ck Aaa) jZ.ck Aaa) jZ.ck (kF.seenQ (k9.seenQ jZ.sq jZ.c4 jZ.ci Aaa Aaa) jZ.c4 jZ.ci Aaa Aaa) jZ.c4 jZ.ci jZ.ni
   (GR.own_ati aX hp) (λg hg _=> .inr (hp9 g hg)) ho (λx hx=>by
    rcases ho9 x hx with h1|h1
    .exact .inl (jZ.co x h1)
    .refine .inr ?_;rw [aZ Aaa]
     omega) hr (λx hx=> .inl (jZ.cr x hx))
   (λg hg _ h6=>⟨λe=>by
    rcases ho9 g e with h1|h1
    .have:=jZ.co g h1;omega
    .have h2:=Mr YT (nD YT hg)
     omega,λe=>by have:=jZ.cr g e;omega⟩) (λx hx h6 e=>by have:=jZ.cr x e;omega)
 have HK9:=Hq ((HK8.step GY.size (au Z8 (.cells (fI n.next dst key most) 95))).grown (Nat.le_trans GY.size (au Z8 _).size) Xl (λx hx hlt=>by
  have h1:=jZ.co x hx
  rw [eT hlt] at h1
  omega))
 open anJ in exact awv):P:=h
theorem awz(h:P:=by
 rw [<-hW] at e1 e2 e3 e4;have HN:=Hq e1;have HM:=Hq e2;have HR:=Hq e3;have HB0:=Hq e4;have Jv:=Hq (kS.kc (k:=9) (KC.of_below e4) Aaa);clear hW e1 e2 e3 e4 kS;obtain⟨m0,m1,m2,m3,m4,m5,m6⟩:=jY HM;have hml:=aA HM;have hnl:=aA HN;go_wp2_with fail;refine(Zp W0).mono ?_;rintro e W1 ⟨rfl,hb1⟩;have lC:=Hq (ay HN hb1);have NV:=Hq (ay HM hb1);have qC:=Hq (ay HR hb1);have HB1:=Hq (HB0.trans (hb1.mono HB0.size));have yZ:=Hq (Jv.kc (k:=9) (KC.of_below hb1) Aaa);clear hb1 HM HR HN HB0 Jv;clear m0 m1 m2 m3 m4 m5 m6 hml hnl Zp;obtain⟨m0,m1,m2,m3,m4,m5,m6⟩:=jY NV;exact Ad7):P:=h
theorem aom.Ad7(h:P:=by
 have hml:=aA NV;have rT:=Hq (ay qC (au W1 (.cells #[] 32)));have KO:=Hq (yZ.kc (k:=9) (KC.of_below (au W1 (.cells #[] 32))) Aaa);have vQ:=Hq (HB1.trans ((au W1 (.cells #[] 32)).mono HB1.size));obtain⟨c0,c1,c2,c3,c4,c5,c6,c7,c8⟩:=nine lC;open al3 in exact Wz):P:=h
theorem aon.Ad7(h:P:=by
 obtain⟨c0,c1,c2,c3,c4,c5,c6,c7,c8⟩:=nine lC;have hml:=aA NV;have hnl:=aA lC;go_wp2_with fail;refine(Nu W1 yZ.at.k).mono ?_;rintro e W2 ⟨rfl,hb2⟩;have kC:=Hq (ay lC hb2);have zi:=Hq (ay NV hb2);have jU:=Hq (ay qC hb2);have HB2:=Hq (HB1.trans (hb2.mono HB1.size));have NW:=Hq (yZ.kc (k:=9) (KC.of_below hb2) Aaa);clear hb2 NV qC lC HB1 yZ;clear m0 m1 m2 m3 m4 m5 m6 c0 c1 c2 c3 c4 c5 c6 c7 c8 hml hnl Nu;obtain⟨m0,m1,m2,m3,m4,m5,m6⟩:=jY zi;exact Kw3):P:=h
theorem adN(h:P:=by
 refine wJ 3 Aab ?_;show lH _ _ _ _ _ 5 (Array.replicate 5 false) _ _
 refine tk [0] ?_;(refine tkF (λK hK=>?_);go_simp;refine hK _ ?_;clear hK K)
 refine jc ?_;clear y0 y1 y2 y3 y4 y5 y6 y7 y8;exact AbB):P:=h
theorem aoo.AbB(h:P:=by
 refine jL 1 rfl rfl Aab Aad Aad Aae (λx hx=>?_) (λx hx=>?_)
 .go_simp;refine⟨Below.refl _ _,?_⟩;refine jL 2 rfl rfl Aab Aad Aad Aae (λx2 hx2=>?_) (λx2 hx2=>?_)
  .have RH:=(gP (ay KT (Ge.trans hx hx2))).2.2.2;open arq in exact Ve
  .have hg3:=Ge.trans hx hx2;have RH:=(gP (ay KT hg3)).2.2.2;have wK:=Hq (ay lY hg3);open azy in exact Y6
 .have RH:=(gP (ay KT hx)).2.2.2;have wK:=Hq (ay lY hx);open azx in exact Y6):P:=h
theorem aop.AbB(h:P:=by
 refine jL 1 rfl rfl Aab Aad Aad Aae (λx hx=>?_) (λx hx=>?_)
 .go_simp;refine⟨Below.refl _ _,?_⟩;refine jL 2 rfl rfl Aab Aad Aad Aae (λx2 hx2=>?_) (λx2 hx2=>?_)
  .have RH:=(gP (ay DJ (Ge.trans hx hx2))).2.2.2;open arp in exact Ve
  .have hg3:=Ge.trans hx hx2;have RH:=(gP (ay DJ hg3)).2.2.2;have wK:=Hq (ay jV hg3);open azv in exact Y6
 .have RH:=(gP (ay DJ hx)).2.2.2;have wK:=Hq (ay jV hx);open azu in exact Y6):P:=h
theorem aoq.AbB(h:P:=by
 refine jL 1 rfl rfl Aab Aad Aad Aae (λx hx=>?_) (λx hx=>?_)
 .go_simp;refine⟨Below.refl _ _,?_⟩;refine jL 2 rfl rfl Aab Aad Aad Aae (λx2 hx2=>?_) (λx2 hx2=>?_)
  .have RH:=(gP (ay KT (Ge.trans hx hx2))).2.2.2;open aro in exact Ve
  .have hg3:=Ge.trans hx hx2;have RH:=(gP (ay KT hg3)).2.2.2;have wK:=Hq (ay lY hg3);open azE in exact Y6
 .have RH:=(gP (ay KT hx)).2.2.2;have wK:=Hq (ay lY hx);open azD in exact Y6):P:=h
theorem aor.AbB(h:P:=by
 refine jL 1 rfl rfl Aab Aad Aad Aae (λx hx=>?_) (λx hx=>?_)
 .go_simp;refine⟨Below.refl _ _,?_⟩;refine jL 2 rfl rfl Aab Aad Aad Aae (λx2 hx2=>?_) (λx2 hx2=>?_)
  .have RH:=(gP (ay DJ (Ge.trans hx hx2))).2.2.2;open arn in exact Ve
  .have hg3:=Ge.trans hx hx2;have RH:=(gP (ay DJ hg3)).2.2.2;have wK:=Hq (ay jV hg3);open azB in exact Y6
 .have RH:=(gP (ay DJ hx)).2.2.2;have wK:=Hq (ay jV hx);open azA in exact Y6):P:=h
theorem awC(h:P:=by
 cases h1:NN fr
 case' false=>
  have cN:=ah Nu fr false W1 HKI h1
  have HV:=Hq (show bb=true by rw [<-ah fO];simp[h1])
  clear fO
  refine wp_region_quiet_below Aab Aab ?_
  repeat (first|go_big_quiet_step ((first|(go_at_call 47;exact cN _ _)|(go_at_call 61;exact cS _ _)))|quiet_step ((first|(go_at_call 47;exact cN _ _)|(go_at_call 61;exact cS _ _))))
  refine wpQuiet_nil ?_
  intro _ hw'
  obtain⟨⟨dq,osq⟩,hw''⟩:=hw'
  subst hw''
  go_wp2_with fail
  go_meet
  case rel=>exact yg
 have cN:=ah Nu fr true W1 HKI h1;exact AcQ):P:=h
theorem aos.AcQ(h:P:=by
 by_cases h2:y < fr
 case' neg=>
  have hy:decide (fr<=y)=true:=decide_eq_true Aaa
  have HV:=Hq (show bb=true by rw [<-ah fO];simp[h2])
  clear fO
  refine wp_region_quiet_below Aab Aab ?_
  repeat (first|go_big_quiet_step ((first|(go_at_call 47;exact cN _ _)|(go_at_call 61;exact cS _ _)))|quiet_step ((first|(go_at_call 47;exact cN _ _)|(go_at_call 61;exact cS _ _))))
  refine wpQuiet_nil ?_
  intro _ hw'
  obtain⟨⟨dq,osq⟩,hw''⟩:=hw'
  subst hw''
  go_wp2_with fail
  go_meet
  case rel=>exact yg
 have hy:decide (fr<=y)=false:=decide_eq_false Aaa;open alH in exact awe):P:=h
theorem aot.AcQ(h:P:=by
 open alI in exact awe):P:=h
theorem awD(h:P:=by
 rw [<-hW] at e1 e2 e3 e4;have adt:=Hq e1;have adk:=Hq e2;have akV:=Hq e3;have HB0:=Hq e4;have adq:=Hq (kS.kc (k:=9) (KC.of_below e4) Aaa);clear hW e1 e2 e3 e4;obtain⟨bi,ci,eA,hgs0,⟨t0,t1,t2⟩,_,hWi⟩:=jw.three adq.s i hi;rw [hs0] at t0 t1 t2 hWi;rw [hfi] at t0;have ajx:G.s < w.heap.size:=acw HGS Aaa;have ZK:=Hq hWi;have HT:=Hq (And.intro t0 (And.intro t1 t2));clear hWi t0 t1 t2;dsimp only at eA;subst eA;obtain⟨c0,c1,c2,c3,c4,c5,c6,c7,c8⟩:=nine adt;obtain⟨m0,m1,m2,m3,m4,m5,m6⟩:=jY adk;have hnl:=aA adt;have hml:=aA adk;go_upto_block 0 with fail;exact AdY):P:=h
theorem aou.AdY(h:P:=by
 go_cut [7] from 15 (λj wx=>j= .int .i64 (i:Nat)/\Ge W0 wx)
 case first=>
  exact ai3
 case rest=>
  open ak6 in exact aiN):P:=h
theorem aov.AdY(h:P:=by
 exact AdQ):P:=h
theorem awE(h:P:=by
 have u0:=dB (b:=wr.heap.size) hbl c0;have u1:=dB (b:=wr.heap.size) hbl c1;have u2:=dB (b:=wr.heap.size) hbl c2;have u3:=dB (b:=wr.heap.size) hbl c3;have u4:=dB (b:=wr.heap.size) hbl c4;have u5:=dB (b:=wr.heap.size) hbl c5;have u6:=dB (b:=wr.heap.size) hbl c6;have u7:=dB (b:=wr.heap.size) hbl c7;have u8:=dB (b:=wr.heap.size) hbl c8;exact AdL):P:=h
end Go.Proofs.YtacgbldlonoaaaaGreatDoor
