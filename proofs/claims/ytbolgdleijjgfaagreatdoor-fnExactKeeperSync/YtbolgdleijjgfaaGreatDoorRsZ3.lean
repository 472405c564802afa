/-
  Parts of proofs that stand more than once, each said once.
-/
import Derived.Test.YtbolgdleijjgfaaGreatDoorRsZ2
namespace Go.Proofs.YtbolgdleijjgfaaGreatDoor
open Go.Proofs.Tryz
set_option maxRecDepth 100000
variable{P:Prop}
theorem ap6.Adk(h:P:=by
 go_upto_region 6 with fail;go_wp2_with fail;refine(HPT W1 yu.at.p).mono ?_;rintro e W2 ⟨v,rfl,hne,hrow,hb2⟩;obtain⟨av,cv,rfl,_⟩:=GR.own_at (enc:=fu) (sz:=4) aP hrow;have ku:=Hq (aj mU hb2);have mZ:=Hq (aj sD hb2);have HB2:=Hq (HB1.trans (hb2.mono HB1.size));have Hy:=Hq (yu.kc (k:=9) (KC.of_below hb2) Aaa);have qY:=Hq hrow;have hbs:w.heap.size+1 < W1.heap.size:=hrl;generalize W1.heap.size=bs at *;clear hb2 hne hrow c0 c1 c2 c3 c4 c5 c6 c7 c8 hnl hrl HPT mU sD HB1 yu;have f4n:=aC ku 4;have c4n:=(nine ku).2.2.2.2.1;have hn2:=ay ku;go_upto_region 7 with fail;refine wp_at (λZ6 hZ=>?_);have nT:Hid (Z6.heap[w.heap.size]?=some (.cells (vW n.id n.par a_k n.kids.length dz n.next av RL.length cv je n.out.length dX iU n.seen.length dA n.old jq n.reqs.length dK) 39 (0,0))):=by rw [hZ];exact Dl ku
 have ru:Hid (Z6.heap[w.heap.size+1]?=some (.cells kR 39 (0,0))):=by rw [hZ];exact jg mZ Aaa
 have HN6:Hid (NQ Z6 B n (⟨a_k,(some ⟨gp,0,none⟩),je,iU,jq,dz,fJ,dX,dA,dK⟩:bq) G (newC w.heap.size 9 c)):=by rw [hZ];exact Hy.kc (k:=9) (KC.set (aX (aEM _))) Aaa
 have HP6:Hid (Z6.ownsRow bs 155 4 (.slice av RL.length cv) RL.length (GR.flat fu RL)):=by rw [hZ];exact dD qY (aA.set _) (λy hy=>by have:y=w.heap.size:=Aar;omega)
 have yj:Hid (Below B w Z6):=by rw [hZ];exact(HB2.mono hB).setCell (p:=⟨w.heap.size,4,none⟩) hB _
 have HK6:Hid (Apart c w Z6):=by rw [hZ];exact(Apart.of_below HB2).keeps HB2.size (aA.set _) (λy hy=>by have:y=w.heap.size:=Aar;omega)
 clear hZ ku mZ Hy qY HB2 f4n c4n hn2;have c3n:=(nine nT).2.2.2.1;have hn6:=ay nT;go_upto_region 8 with fail;refine wp_at (λZ7 hZ=>?_)
 have HS7:Hid (Z7.heap[Z6.heap.size]?=some (.cells (gI n.next dst key gP) 145 (0,0))):=by
  rw [hZ];exact aEK Z6 _
 have vV:aH Z6 Z7:=by
  rw [hZ];exact au Z6 _
 have rU:=Hq (aj nT vV);have wB:=Hq (aj ru vV);have HN7:=Hq (HN6.kc (k:=9) (KC.of_below vV) Aaa);have HP7:=Hq (GR.own_below HP6 vV);have Ht:=Hq (yj.trans (vV.mono (aEP hB yj.size)));have HK7:=Hq (HK6.step yj.size vV);have hsb:w.heap.size+1 < Z6.heap.size:=ay ru;generalize Z6.heap.size=sb at *;clear hZ vV nT ru HN6 HP6 yj HK6 c3n hn6;have c3n:=(nine rU).2.2.2.1;have f3n:=aC rU 3;have hn7:=ay rU;go_upto_region 9 with fail;refine wp_at (λZ8 hZ=>?_);have vQ:Hid (Z8.heap[w.heap.size]?=some (.cells (vW n.id n.par a_k n.kids.length dz (n.next+1) av RL.length cv je n.out.length dX iU n.seen.length dA n.old jq n.reqs.length dK) 39 (0,0))):=by rw [hZ];exact Dl rU
 have Ir:Hid (Z8.heap[w.heap.size+1]?=some (.cells kR 39 (0,0))):=by rw [hZ];exact jg wB Aaa
 have XD:Hid (Z8.heap[sb]?=some (.cells (gI n.next dst key gP) 145 (0,0))):=by rw [hZ];exact jg HS7 Aaa
 have HN8:Hid (NQ Z8 B n (⟨a_k,(some ⟨gp,0,none⟩),je,iU,jq,dz,fJ,dX,dA,dK⟩:bq) G (newC w.heap.size 9 c)):=by rw [hZ];exact HN7.kc (k:=9) (KC.set (aX (aEM _))) Aaa
 have HP8:Hid (Z8.ownsRow bs 155 4 (.slice av RL.length cv) RL.length (GR.flat fu RL)):=by rw [hZ];exact dD HP7 (aA.set _) (λy hy=>by have:y=w.heap.size:=Aar;omega)
 have Z0:Hid (Below B w Z8):=by rw [hZ];exact Ht.setCell (p:=⟨w.heap.size,3,none⟩) hB _
 have HK8:Hid (Apart c w Z8):=by rw [hZ];exact HK7.keeps Ht.size (aA.set _) (λy hy=>by have:y=w.heap.size:=Aar;omega)
 clear hZ HK7 rU wB HN7 HP7 Ht HS7 c3n f3n hn7
 obtain⟨a6,c6,W9,hrun,ab7,akR,ak2⟩:∃a6 c6 W9,(Builtin.append_ #[35,35] 35 #[.slice je n.out.length dX,.slice (some ⟨Z8.heap.size,0,none⟩) 1 1]).run prog (Z8.alloc (.cells (gI n.next dst key gP) 145))= .ok (.slice a6 (n.out.length+1) c6) W9/\W9.ownsRow B 145 4 (.slice a6 (n.out.length+1) c6) (n.out.length+1) (GR.flat aM (n.out++[⟨n.next,dst,key,gP⟩]))/\(Z8.alloc (.cells (gI n.next dst key gP) 145)).grownBy W9 (Value.slice je n.out.length dX).ownBlock/\∀x,(Value.slice a6 (n.out.length+1) c6).ownBlock=some x->(Value.slice je n.out.length dX).ownBlock=some x\/(Z8.alloc (.cells (gI n.next dst key gP) 145)).heap.size<=x:=by
  obtain⟨hi,hz0,hz1,hz2⟩:=ah HI;obtain⟨v',w',hr,ho,hg,hw⟩:=kK (P:=prog) (Z8.alloc (.cells (gI n.next dst key gP) 145)) B 35 35 145 i0 (.agg (gI 0 0 ByteArray.empty 0)) 4 40 underlying35 hi hz0 hz1 hz2 rfl Aae (.slice je n.out.length dX) n.out.length (GR.flat aM n.out) (GR.own_below HN8.o (au Z8 _)) ⟨Z8.heap.size,0,none⟩ 1 1 (aM ⟨n.next,dst,key,gP⟩) rfl (aFA (aEK Z8 _)) (yN _) Aaj Aaa (aEP (aEP hB Z0.size) (au Z8 _).size);obtain⟨a6,c6,hv6,_⟩:=GR.own_at (enc:=aM) (sz:=4) (l:=n.out++[⟨n.next,dst,key,gP⟩]) aR (by rw [aER,jk];exact ho);rw [aER] at hv6;have hv7:v'= .slice a6 (n.out.length+1) c6:=hv6;subst hv7;exact⟨a6,c6,w',hr,by rw [jk];exact ho,hg,hw⟩
 have qj:=HN8.kc (k:=9) (KC.of_below (au Z8 (.cells (gI n.next dst key gP) 145))) Aaa;have k9:KC (newC w.heap.size 9 c) 3 (Z8.alloc (.cells (gI n.next dst key gP) 145)) W9:=KC.grown akR qj.co;have hn9:∀x,w.heap.size<=x->newC w.heap.size 9 c x≠3:=λx hx=>by rw [aX hx];omega
 have DK:=Hq (k9.obj (aj vQ (au Z8 (.cells (gI n.next dst key gP) 145))) (hn9 _ (aEM _)));have zM:=Hq (k9.obj (aj Ir (au Z8 (.cells (gI n.next dst key gP) 145))) (hn9 _ Aaa));have aas:=Hq (k9.obj (aj XD (au Z8 (.cells (gI n.next dst key gP) 145))) (hn9 _ Aaa));have HB9:=Hq (k9.below (B:=B) (Z0.trans ((au Z8 (.cells (gI n.next dst key gP) 145)).mono (aEP hB Z0.size))) qj.lo Aaa (aEP (aEP hB Z0.size) (au Z8 _).size));have hZ8:w.heap.size+1 < Z8.heap.size:=ay Ir
 have iE:Hid (∀W',(∃F,aA F W9 W'/\∀y∈F,(y=w.heap.size\/y=w.heap.size+1)\/(y < w.heap.size/\6 < c y))->RM W' ⟨a_k,av,a6,iU,jq,dz,cv,c6,dA,dK⟩ ⟨n.id,n.par,n.kids,n.next+1,RL,n.out++[⟨n.next,dst,key,gP⟩],n.seen,n.old,n.reqs⟩):=λW' hkF=>by
  obtain⟨F,hk,hF⟩:=hkF
  have kF:KC (newC w.heap.size 9 c) 9 W9 W':=KC.keeps hk (λy hy=>by
   rcases hF y hy with h1|h1
   .exact aX Aaa
   .rw [fC h1.1];exact H9 y h1.2)
  have hr:=(kF.own (k9.own qj.r qj.cr Aaa) qj.cr Aaa)
  have hp:=(dD (k9.own (j:=9) (GR.own_below HP8 (au Z8 _)) (λx hx=>aX (by have:=vw HP8 hx;omega)) Aaa) hk (λy hy=>by
   have:=hF y hy
   omega))
  have ho:W'.ownsRow B 145 4 (.slice a6 (n.out++[(⟨n.next,dst,key,gP⟩:jC)]).length c6) (n.out++[(⟨n.next,dst,key,gP⟩:jC)]).length (GR.flat aM (n.out++[(⟨n.next,dst,key,gP⟩:jC)])):=(by
   rw [aER]
   exact jA ab7 (λx hx=>by
    have hx9:=Cu ab7 hx
    refine hk.block x hx9 (λhm=>?_)
    have hm':=hF x hm
    rcases ak2 x hx with h1|h1
    .have h2:=qj.co x h1;rcases hm' with h3|h3
     .rw [aX Aaa] at h2;cases h2
     .rw [fC h3.1] at h2;omega
    .have:=(au Z8 (.cells (gI n.next dst key gP) 145)).size
     omega))
  have hp9:∀g,av.map (λy=>y.block)=some g->6 < newC w.heap.size 9 c g:=λg hg=>by
   have h1:=vw hp (tq hp hg)
   rw [aX Aaa]
   omega
  have ho9:∀x,(Value.slice a6 (n.out++[(⟨n.next,dst,key,gP⟩:jC)]).length c6).ownBlock=some x->(Value.slice je n.out.length dX).ownBlock=some x\/(Z8.alloc (.cells (gI n.next dst key gP) 145)).heap.size<=x:=λx hx=>by
   rw [aER] at hx
   exact ak2 x hx
  have hz9:(Z8.alloc (.cells (gI n.next dst key gP) 145)).heap.size=Z8.heap.size+1:=Aac
  exact RM.of (n:=⟨n.id,n.par,n.kids,n.next+1,RL,n.out++[⟨n.next,dst,key,gP⟩],n.seen,n.old,n.reqs⟩) (A:=⟨a_k,av,a6,iU,jq,dz,cv,c6,dA,dK⟩) (c:=newC w.heap.size 9 c) (kF.w (k9.w qj.k qj.ck Aaa) qj.ck Aaa) qj.ck (kF.seenQ (k9.seenQ qj.sq qj.c4 qj.ci Aaa Aaa) qj.c4 qj.ci Aaa Aaa) qj.c4 qj.ci qj.ni
   (GR.own_ati aP hp) (λg hg _=> .inr (hp9 g hg)) ho (λx hx=>by
    rcases ho9 x hx with h1|h1
    .exact .inl (qj.co x h1)
    .refine .inr ?_;rw [aX Aaa]
     omega) hr (λx hx=> .inl (qj.cr x hx))
   (λg hg _ h6=>⟨λe=>by
    rcases ho9 g e with h1|h1
    .have:=qj.co g h1;omega
    .have h2:=Cu HP8 (tq HP8 hg)
     omega,λe=>by have:=qj.cr g e;omega⟩) (λx hx h6 e=>by have:=qj.cr x e;omega)
 have HK9:=Hq ((HK8.step Z0.size (au Z8 (.cells (gI n.next dst key gP) 145))).grown (aEP Z0.size (au Z8 _).size) akR (λx hx hlt=>by
  have h1:=qj.co x hx
  rw [fC hlt] at h1
  omega))
 have aam:=Hq hrun;clear hrun ab7 akR ak2 qj k9 hn9 HP8 HN8 Z0 HK8;have c5n:=(nine vQ).2.2.2.2.2.1;obtain⟨s0,s1,s2,s3⟩:=iD XD;have c5w:=(nine DK).2.2.2.2.2.1;have f5w:=aC DK 5;have hn8:=ay vQ;have hs8:=ay XD;go_upto_region 10 with(at_builtin;refine fV rfl _ _ 35 rfl _ _ rfl rfl _ _ aam ?_)
 refine wp_at (λZ9 hZ=>?_);have Ov:Hid (Z9.heap[w.heap.size]?=some (.cells (vW n.id n.par a_k n.kids.length dz (n.next+1) av RL.length cv a6 (n.out.length+1) c6 iU n.seen.length dA n.old jq n.reqs.length dK) 39 (0,0))):=by rw [hZ];exact Dl DK
 have ajJ:Hid (Z9.heap[w.heap.size+1]?=some (.cells kR 39 (0,0))):=by rw [hZ];exact jg zM Aaa
 have ajM:Hid (Z9.heap[sb]?=some (.cells (gI n.next dst key gP) 145 (0,0))):=by rw [hZ];exact jg aas Aaa
 have Il:Hid (∀W' W'',aA [w.heap.size+1] Z9 W'->Out c w W' W''->RM W'' ⟨a_k,av,a6,iU,jq,dz,cv,c6,dA,dK⟩ ⟨n.id,n.par,n.kids,n.next+1,RL,n.out++[⟨n.next,dst,key,gP⟩],n.seen,n.old,n.reqs⟩):=λW' W'' hk ho=>by
  obtain⟨F,hk2,hF⟩:=ho
  refine iE W'' ⟨w.heap.size::(w.heap.size+1)::F,aA.trans (b:=Z9) (by rw [hZ];exact(aA.set _).mono (λx hx=>Aba)) (aA.trans (hk.mono (λx hx=>Aba)) (hk2.mono (λx hx=>Aai))),λy hy=>?_⟩
  rcases aE8.1 hy with h1|h1
  .exact .inl (.inl h1)
  .rcases aE8.1 h1 with h2|h2
   .exact .inl (.inr h2)
   .exact .inr (hF y h2)
 have uy:Hid (Below B w Z9):=by rw [hZ];exact HB9.setCell (p:=⟨w.heap.size,5,none⟩) hB _
 have HKZ:Hid (Apart c w Z9):=by rw [hZ];exact HK9.keeps HB9.size (aA.set _) (λy hy=>by have:y=w.heap.size:=Aar;omega)
 clear hZ HK9 iE aam DK zM aas HB9 c5n s0 s1 s2 s3 c5w f5w hn8 hs8 vQ Ir XD hZ8;have HNV:Hid (gM ⟨n.id,n.par,n.kids,n.next+1,RL,n.out++[⟨n.next,dst,key,gP⟩],n.seen,n.old,n.reqs⟩ ⟨a_k,av,a6,iU,jq,dz,cv,c6,dA,dK⟩= .agg (vW n.id n.par a_k n.kids.length dz (n.next+1) av RL.length cv a6 (n.out.length+1) c6 iU n.seen.length dA n.old jq n.reqs.length dK)):=by unfold Hid;simp[gM,dH]
 have Iq:Hid (∀x,Ge Z9 x->Calls prog 157 #[.agg (vW n.id n.par a_k n.kids.length dz (n.next+1) av RL.length cv a6 (n.out.length+1) c6 iU n.seen.length dA n.old jq n.reqs.length dK),.agg (gI n.next dst key gP)] x (dM x (nZ PM))):=λx hx=>by
  have h1:=Xk ⟨n.id,n.par,n.kids,n.next+1,RL,n.out++[⟨n.next,dst,key,gP⟩],n.seen,n.old,n.reqs⟩ ⟨a_k,av,a6,iU,jq,dz,cv,c6,dA,dK⟩ ⟨n.next,dst,key,gP⟩ x Aah (GR.At.below (Il Z9 Z9 (aA.refl _ _) Out.refl).at.o hx)
  rw [ah HPM,ah HNV] at h1
  exact h1
 obtain⟨qK,qF,qT,qI,qL,qk,qN⟩:=PM;unfold nZ at Iq
 have zH:Hid (∀W' mb,aA [w.heap.size+1] Z9 W'->W'.heap[mb]?=some (.cells (bQ qK qF qT qI qL qk qN) 70 (0,0))->w.heap.size<=mb->(∀W'',Out c w W' W''->RM W'' ⟨a_k,av,a6,iU,jq,dz,cv,c6,dA,dK⟩ ⟨n.id,n.par,n.kids,n.next+1,RL,n.out++[⟨n.next,dst,key,gP⟩],n.seen,n.old,n.reqs⟩)/\(∀W'',Out c w W' W''->GR.At jh 7 W'' (some ⟨mb,0,none⟩) [⟨qK,qF,qT,qI,qL,qk,qN⟩])/\Below B w W'/\Apart c w W'):=λW' mb hk hm hmb=>by
  refine⟨λW'' ho=>Il W' W'' hk ho,λW'' ho i hi=>?_,uy.trans (hk.below (λx hx=>by have:x=w.heap.size+1:=Aag;omega) (aEP hB uy.size)),HKZ.keeps uy.size hk (λx hx=>by have:x=w.heap.size+1:=Aag;omega)⟩
  obtain⟨F,hk2,hF⟩:=ho
  have hm2:=hk2.obj hm (λhx=>by have:=(hF mb hx).1;omega)
  refine⟨mb,0,rfl,ay hm2,λj hj=>?_⟩
  have hi0:i=0:=Abt
  subst hi0
  have h1:=aEW W'' mb (0+(0*7+j)) _ _ (0,0) hm2
  rw [h1]
  simp[jh]
 clear Il uy HKZ HPM;obtain⟨c0,c1,c2,c3,c4,c5,c6,c7,c8⟩:=nine Ov;obtain⟨s0,s1,s2,s3⟩:=iD ajM;open ant in exact XJ):P:=h
theorem aa4(h:P:=by
 have hke:k=out.length:=Aaa
 subst hke;have hnlt:decide ((out.length:Int) < (out.length:Int))=false:=Aac
 exact Aa4):P:=h
theorem ap7.Aa4(h:P:=by
 have HOF:Hid (TT=gV RQ RR reqs):=by
  have h:=ah jr;rw [aFd] at h;rw [ah HTT,h];rfl
 clear Oo Ey yt HOT;go_wp2_with fail;go_loopw [5] (λi wr=>∃k:Nat,k<=reqs.length/\i= .int .i64 k/\gV RQ RR (reqs.take k)=true/\wr.heap[w.heap.size]?=some (.cells (dH ⟨id,par,kids,next,pu,out,seen,old,reqs⟩ ⟨ak,ap,ao,as',ar,ck,cp,co,cs,cr⟩) 39 (0,0))/\aH w wr) (λi _=>reqs.length - (intOf i).toNat)
 case atStart=>exact⟨0,aE1 _,rfl,rfl,Hu,aY⟩
 case round=>
  open aqO in exact aeK):P:=h
theorem ap8.Aa4(h:P:=by
 have HRS:Hid (L=(out.take out.length).map PM):=by
  rw [ah N9,aFd];cases hOK:OK
  .rcases Nat.eq_zero_or_pos out.length with h|h
   .rw [aFg h];rfl
   .exact absurd (hpos h) (by rw [hOK];simp)
  .rfl
 clear hpos;go_wp2_with fail;go_ret;rw [ah HRS];exact BI.of_own Aac HO Aaa HW):P:=h
theorem ap9.Aa4(h:P:=by
 have HF:=Hq (zL HN);go_wp2_with fail;go_ret;exact⟨mD HF.symm,au w _⟩):P:=h
theorem aqa.Aa4(h:P:=by
 have hyy:=ah zL HN;clear HLY zy zL;subst hyy;go_upto_region 8 with fail;refine wp_at (λW3 hW3=>?_);have hbw:aH wr W3:=by rw [hW3];exact aEY _ _
 open aoW in exact awM):P:=h
theorem aqb.Aa4(h:P:=by
 exact akn):P:=h
theorem awZ(h:P:=by
 have HF:=Hq hf;have ajF:=Hq (WG mp mb n0 _ G ⟨pk,qm,qf,qs⟩ w6 hkey hn0 Ih.blk Ih.map);have HP6:=Hq Ih;obtain⟨⟨p0,p1,p2,p3⟩,_⟩:=fP ak0;clear hf Ih ak0;go_wp2_with fail;refine ajF.mono ?_;rintro e w7 ⟨rfl,hm7,hk7⟩;have HP7:=Hq (HP6.turned hk7 hm7);have Ht:=Hq (yj.trans (Di hk7 HP6.lom (aEP hB yj.size)));clear hm7 hk7 p0 p1 p2 p3;go_wp2_with fail;go_ret;exact AdV):P:=h
theorem aqc.AdV(h:P:=by
 exact⟨Ht,.inr ⟨.inr h20,rfl,_,HP7⟩⟩):P:=h
theorem aqd.AdV(h:P:=by
 exact⟨Ht,.inr ⟨.inl HF,rfl,_,HP7⟩⟩):P:=h
theorem SN(h:P:=by
 obtain⟨k,hk,rfl,hB,hbel⟩:=hrel;have HB:=Hq hB;have aY:=Hq hbel;clear hB hbel hmk;exact AaR):P:=h
theorem aqe.AaR(h:P:=by
 by_cases hlt:k < l.length
 .obtain⟨g,off,rfl,hgw,q0,q1,q2,q3⟩:=aG.four (GR.At.below HA aY) k hlt;have TS:=Hq (Dr l ⟨ByteArray.empty,0,0,0⟩ k hlt);generalize l[k]=pu at *;obtain⟨pk,pm,pf,ps⟩:=pu;dsimp only at q0 q1 q2 q3;have hln:(l.take k++List.replicate (l.length - k) (⟨ByteArray.empty,0,0,0⟩:Pu)).length=l.length:=Aah
  go_wp2_with fail;refine(af2 ⟨pk,pm,pf,ps⟩ _).mono ?_;rintro e w5 ⟨rfl,hb5⟩;have gQ:=Hq (LA HB hb5);have fI:=Hq (aY.trans (hb5.mono aY.size));clear hb5 q0 q1 q2 q3;exact axQ
 .exact SV):P:=h
theorem aqf.AaR(h:P:=by
 by_cases hlt:k < l.length
 .obtain⟨g,off,rfl,hgw,q0⟩:=bC.one (GR.At.below HA aY) k hlt;have TS:=Hq (ZI l 0 k hlt);generalize l[k]=pu at *;have hln:(l.take k++List.replicate (l.length - k) (0:Int)).length=l.length:=Aah
  have s0:=lZ.one HB k Aaa;have f0:=GR.Blk.free HB k;go_wp2_with fail;first|go_region|skip
  go_roundw
  case rel=>
   have h:=GR.Blk.set HB aW k Aaa pu;rw [ah TS] at h;have h2:=GR.setW_below (o:=k*1) (aEM w.heap.size) (bf pu) aY;rw [Nat.mul_one] at h h2;exact⟨k+1,Aaa,Aaf,h,h2⟩
  case measure=>simp[intOf];omega
 .exact SV):P:=h
theorem aqg.AaR(h:P:=by
 by_cases hlt:k < l.length
 .obtain⟨g,off,rfl,hgw,q0,q1,q2,q3⟩:=SentAt.four (GR.At.below HA aY) k hlt;have TS:=Hq (NH l ⟨0,0,ByteArray.empty,0⟩ k hlt);generalize l[k]=pu at *;obtain⟨pi,pt,pk,pn⟩:=pu;dsimp only at q0 q1 q2 q3;have hln:(l.take k++List.replicate (l.length - k) (⟨0,0,ByteArray.empty,0⟩:jC)).length=l.length:=Aah
  go_wp2_with fail;refine(alB ⟨pi,pt,pk,pn⟩ _).mono ?_;rintro e w5 ⟨rfl,hb5⟩;have gQ:=Hq (lW.step HB hb5);have fI:=Hq (aY.trans (hb5.mono aY.size));clear hb5 q0 q1 q2 q3;obtain⟨s0,s1,s2,s3⟩:=lW.four gQ k Aaa;open atu in exact aaI
 .exact SV):P:=h
theorem aqh.AaR(h:P:=by
 by_cases hlt:k < l.length
 .obtain⟨g,off,rfl,hgw,q0,q1,q2,q3⟩:=fT.four (GR.At.below HA aY) k hlt;have TS:=Hq (Ry l ⟨0,ByteArray.empty,0,0⟩ k hlt);generalize l[k]=pu at *;obtain⟨pno,pk,pn,ps⟩:=pu;dsimp only at q0 q1 q2 q3;have hln:(l.take k++List.replicate (l.length - k) (⟨0,ByteArray.empty,0,0⟩:Rq)).length=l.length:=Aah
  go_wp2_with fail;refine(azL ⟨pno,pk,pn,ps⟩ _).mono ?_;rintro e w5 ⟨rfl,hb5⟩;have gQ:=Hq (qy.step HB hb5);have fI:=Hq (aY.trans (hb5.mono aY.size));clear hb5 q0 q1 q2 q3;obtain⟨s0,s1,s2,s3⟩:=qy.four gQ k Aaa;open att in exact aaI
 .exact SV):P:=h
theorem aqi.AaR(h:P:=by
 by_cases hlt:k < l.length
 .obtain⟨g,off,rfl,hgw,q0,q1,q2,q3,q4,q5,q6,q7,q8,q9,q10,q11⟩:=lV (GR.At.below HA aY) k hlt;have TS:=Hq (KU l ⟨⟨0,0,ByteArray.empty,0,⟨0,0,0,0,0,ByteArray.empty,0⟩⟩,0⟩ k hlt);generalize l[k]=pu at *;have Oc:=Hq (λw1=>adH pu w1);obtain⟨⟨oK,Qx,ok,on,⟨mK,mF,mT,mI,mL,mk,mN⟩⟩,ac⟩:=pu;dsimp only at q0 q1 q2 q3 q4 q5 q6 q7 q8 q9 q10 q11;have hln:(l.take k++List.replicate (l.length - k) (⟨⟨0,0,ByteArray.empty,0,⟨0,0,0,0,0,ByteArray.empty,0⟩⟩,0⟩:An)).length=l.length:=Aah
  open avY in exact ahs
 .exact SV):P:=h
theorem aqj.AaR(h:P:=by
 by_cases hlt:k < l.length
 .obtain⟨g,off,rfl,hgw,q0,q1,q2,q3,q4,q5,q6⟩:=rF (GR.At.below HA aY) k hlt;have TS:=Hq (KU l ⟨0,0,0,0,0,ByteArray.empty,0⟩ k hlt);generalize l[k]=pu at *;have Oc:=Hq (λw1=>ajk pu w1);obtain⟨mK,mF,mT,mI,mL,mk,mN⟩:=pu;dsimp only at q0 q1 q2 q3 q4 q5 q6;have hln:(l.take k++List.replicate (l.length - k) (⟨0,0,0,0,0,ByteArray.empty,0⟩:Mg)).length=l.length:=Aah
  open avX in exact ahs
 .exact SV):P:=h
theorem aqk.AaR(h:P:=by
 by_cases hlt:k < l.length
 .obtain⟨g,cap',ev,hgl,hgw⟩:=HR.form Aaa;have ea:a=some ⟨g,0,none⟩:=by injection ev
  subst ea;have c0:∀(_:k < l.length),Hid True:=λ_=>trivial
  clear c0 ev;have hcl:_:=aY.cell (p:=⟨g,k,none⟩) hgw;have hce:=HR.cellAt k Aaa;have hck:w.cell? ⟨g,k,none⟩=some (.string l[k].k):=by rw [hce];simp[hlt]
  rw [hck] at hcl;clear hce hck;have TS:=Hq (Dr l ⟨ByteArray.empty,0,0,0⟩ k hlt);have hkk:=ah Sr l[k] (aE2 hlt);have hgk:=ah HG l[k] (aE2 hlt);have akI:=HH.below aY;generalize l[k]=pu at *;have Oq:=Hq (Mk mp mb n _ G pu.k wr hkk akI.blk akI.map);rw [hgk] at Oq;have mW:=Hq (λw1=>FJ pu w1 hkk);clear hkk hgk akI;obtain⟨pk,pm,pf,ps⟩:=pu;dsimp only at hcl;have hln:(l.take k++List.replicate (l.length - k) (⟨ByteArray.empty,0,0,0⟩:Pu)).length=l.length:=Aah
  go_wp2_with fail;refine Oq.mono ?_;rintro e w4 ⟨rfl,hb4⟩;have mQ:=Hq (LA HB hb4);have Ew:=Hq (aY.trans (hb4.mono aY.size));clear hb4 Oq;go_wp2_with fail;refine(mW _).mono ?_;rintro e w5 ⟨rfl,hb5⟩;have gQ:=Hq (LA mQ hb5);have fI:=Hq (Ew.trans (hb5.mono Ew.size));clear hb5;exact axQ
 .exact SV):P:=h
theorem aa5(h:P:=by
 go_wp2_with fail;refine H.mono ?_;rintro e w1 ⟨v,rfl,hv,hown,hb⟩;have HV:=Hq hv;have HO:=Hq hown;have HB:=Hq hb;clear hown hb hv;go_wp2_with fail;exact Aa0):P:=h
theorem aql.Aa0(h:P:=by
 exact aET (v:= .tuple #[v,.bool r.2]) (by simp[results,results156,go_sem]) rfl ⟨v,rfl,HV,HO,HB⟩):P:=h
theorem aqm.Aa0(h:P:=by
 exact aET (v:= .tuple #[v,.bool r.2]) (by simp[results,results155,go_sem]) rfl ⟨v,rfl,HV,HO,HB⟩):P:=h
theorem aqn.Aa0(h:P:=by
 exact aET (v:= .tuple #[v,.bool r.2]) (by simp[results,results160,go_sem]) rfl ⟨v,rfl,HV,HO,HB⟩):P:=h
theorem aqo.Aa0(h:P:=by
 exact aET (v:= .tuple #[v,.bool r.2]) (by simp[results,results186,go_sem]) rfl ⟨v,rfl,HV,HO,HB⟩):P:=h
theorem aqp.Aa0(h:P:=by
 exact aET (v:= .tuple #[v,.bool r.2]) (by simp[results,results127,go_sem]) rfl ⟨v,rfl,HV,HO,HB⟩):P:=h
theorem Iw(h:P:=by
 clear hr;go_in
 go_upto_region 11 with fail;refine wp_at (λV hV=>?_);exact AaO):P:=h
theorem aqr.AaO(h:P:=by
 have hblk:V.heap[w.heap.size]?=some (.cells (bQ 2 F T I 0 ByteArray.empty 0) 70 (0,0)):=by rw [hV,aEZ _ _ _ Aac];exact aEK w _
 open aAt in exact Yk2):P:=h
theorem aqs.AaO(h:P:=by
 have hblk:V.heap[w.heap.size]?=some (.cells (bQ 2 F T I 0 ByteArray.empty N) 70 (0,0)):=by rw [hV,aEZ _ _ _ Aac];exact aEK w _
 open aAu in exact Yk2):P:=h
theorem aqt.AaO(h:P:=by
 have hblk:V.heap[w.heap.size]?=some (.cells (bQ 2 F T I L k N) 70 (0,0)):=by rw [hV,aEZ _ _ _ Aac];exact aEK w _
 open aAw in exact Yk2):P:=h
theorem aqu.AaO(h:P:=by
 have hblk:V.heap[w.heap.size]?=some (.cells (bQ 2 F T I L k N) 70 (0,0)):=by rw [hV,aEZ _ _ _ Aac];exact aEK w _
 open aoz in exact XK):P:=h
theorem aqv.AaO(h:P:=by
 have hblk:V.heap[w.heap.size]?=some (.cells (bQ 1 F T I L k N) 70 (0,0)):=by rw [hV,aEZ _ _ _ Aac];exact aEK w _
 open aoA in exact XK):P:=h
theorem aqw.AaO(h:P:=by
 have hblk:V.heap[w.heap.size]?=some (.cells (bQ 1 F T I L k N) 70 (0,0)):=by rw [hV,aEZ _ _ _ Aac];exact aEK w _
 open aoB in exact XK):P:=h
theorem aqx.AaO(h:P:=by
 have hblk:V.heap[w.heap.size]?=some (.cells (bQ 0 F T 0 0 k N) 70 (0,0)):=by rw [hV,aEZ _ _ _ Aac];exact aEK w _
 open aAI in exact Yk7):P:=h
theorem aqy.AaO(h:P:=by
 have hblk:V.heap[w.heap.size]?=some (.cells (bQ 0 F T 0 L k N) 70 (0,0)):=by rw [hV,aEZ _ _ _ Aac];exact aEK w _
 open aAJ in exact Yk7):P:=h
theorem aqz.AaO(h:P:=by
 have hblk:V.heap[w.heap.size]?=some (.cells (bQ 0 F T I L k N) 70 (0,0)):=by rw [hV,aEZ _ _ _ Aac];exact aEK w _
 open aAK in exact Yk7):P:=h
theorem aqA.AaO(h:P:=by
 have hblk:V.heap[w.heap.size]?=some (.cells (bQ 0 F T I L k N) 70 (0,0)):=by rw [hV,aEZ _ _ _ Aac];exact aEK w _
 open aoC in exact XK):P:=h
theorem aw0(h:P:=by
 obtain⟨i,hi,hcmp⟩:=Option.map_eq_some_iff.1 Is.comp;obtain⟨j,hj,hjs⟩:=Option.map_eq_some_iff.1 Is.size;have h8:= @aFC prog 300 _ Extern.ReflectliteType.typeOf func300 Aab Aab Aab Aab;have h32:= @aFC prog 351 _ Is.cmp func351 Aab Aab Aab Aab;have tT:=Is.typeOf;have cT:=Is.comparable;have mR:=Is.methodComparable;exact Aen):P:=h
theorem aqB.Aen(h:P:=by
 have nE:=Is.noIs;have uE:=Is.noUnwrap;have vE:=Is.noUnwraps;have heq:=run_eql_iface_ptr_other (P:=prog) w underlying247 underlying374 hi hcmp hj (by rw [hjs];decide) hne ha hb;exact aiA):P:=h
theorem aqC.Aen(h:P:=by
 have heq:=run_eql_iface_ptr_same (P:=prog) w a underlying247 underlying374 hi hcmp hj;exact aiA):P:=h
theorem aj7(h:P:=by
 refine Dw 0 rfl Aab Aab Aab (λ_ _ _ _ h=>h) (λK hK=>?_);go_simp
 first
  |(refine hK _ ?_;clear hK K)
  |(apply Exists.intro
    refine⟨λ_=>rfl,hK _ ?_⟩
    clear hK K)
 exact Ab7):P:=h
theorem aqD.Ab7(h:P:=by
 refine rT 7 ?_;refine tk [1,2,3,4,5] ?_;iterate 5 (refine iO (λK hK=>?_);go_simp;refine hK _ ?_;clear hK K)
 refine jf ?_;clear y9 z0 z1 z2 z3 z4 z5 z6;refine dG 6 rfl Aab Aad (λx hx=>?_);go_simp;refine⟨au x _,?_⟩;have JM:=Hq ((HSW.step hx).step (au x (.cells (bQ mK mF mT mI mL mk mN) 70)));have iE:=Hq (aEK x (.cells (bQ mK mF mT mI mL mk mN) 70));have hbs:w0.heap.size<=x.heap.size:=(HSW.step hx).keep.size;clear hx HSW HXW iK HS;generalize x.alloc (.cells (bQ mK mF mT mI mL mk mN) 70)=y at *;refine aU Aab (λz hz=>?_);have wC:=Hq (JM.step hz);have Il:=Hq (aj iE hz);clear hz JM iE;refine an 7 ?_;refine pE z (.tmp 12) (.tmp 14) 40 rfl w0.heap.size 70 i0 (.agg (bQ 0 0 0 0 0 ByteArray.empty 0)) 7 64 underlying40 hi hz0 hz1 hz2 rfl Aae (.slice va L.length vc) L.length (GR.flat jh L) Aao wC.m ⟨x.heap.size,0,none⟩ 1 1 (jh ⟨mK,mF,mT,mI,mL,mk,mN⟩) Aao rfl (aFA Il) (Pk _) Aaj Aaa wC.keep.size ?_;intro v6 w6 hown6 rD PN;obtain⟨va6,vc6,hv6,_⟩:=GR.own_at (enc:=jh) (sz:=7) (l:=L++[⟨mK,mF,mT,mI,mL,mk,mN⟩]) jT (by rw [aER,jk];exact hown6);rw [aER] at hv6;have hv7:v6= .slice va6 (L.length+1) vc6:=hv6;subst hv7;clear hv6;obtain⟨hb6,hS6⟩:=wC.app ⟨mK,mF,mT,mI,mL,mk,mN⟩ hown6 rD PN;have HS6:=Hq hS6;obtain⟨k0,k1,k2,k3,k4,k5,k6,k7,k8,k9⟩:=jN hb6;have kf:=aC hb6 9;clear hown6 rD PN hb6 hS6 wC Il;refine an 8 ?_;go_simp;refine an 9 ?_;go_simp;refine an 10 ?_;go_simp;refine ad ?_;go_simp;go_wp2_with fail;exact aGD (v:= .tuple #[]) (by simp[results,results220,go_sem]) rfl ⟨rfl,_,_,HS6⟩):P:=h
theorem aqE.Ab7(h:P:=by
 refine rT 9 ?_;refine tk [1,2,3,4,5,6,7] ?_;iterate 7 (refine iO (λK hK=>?_);go_simp;refine hK _ ?_;clear hK K)
 refine jf ?_;clear y8 z0 z1 z2 z3;refine dG 8 rfl Aab Aad (λx hx=>?_);go_simp;refine⟨au x _,?_⟩;have HX:=Hq ((HW1.step hx).step (au x (.cells (gT q.no q.k q.n q.s) 148)));have HN:=Hq (aEK x (.cells (gT q.no q.k q.n q.s) 148));have HRL:=Hq (show∀y,(Value.slice A.r n.reqs.length A.cr).ownBlock=some y->x.heap.size≠y from λy hy=>by have:=((HW1.step hx).no.r.lt y hy).2;omega);clear hx HW HW1 wu;generalize x.alloc (.cells (gT q.no q.k q.n q.s) 148)=x1 at *;refine aU Aab (λu hu=>?_);have HU:=Hq (HX.step hu);have HNU:=Hq (aj HN hu);clear hu HX HN;refine an 9 ?_;go_simp;refine(alb w0.heap.size A.r A.cr i n.reqs q x.heap.size u Aaa hi HU.keep.size HU.no.r HNU HRL).mono ?_;rintro e w6 ⟨a6,c6,rfl,hown6,rD,PN⟩;obtain⟨hb6,Wy⟩:=HU.reqPut hown6 rD PN;have Vz:=Hq Wy;obtain⟨k0,k1,k2,k3,k4,k5,k6,k7,k8,k9⟩:=jN hb6;have kf:=aC hb6 8;have hw6:=ay hb6;clear hown6 rD PN hb6 Wy HU HNU HRL;rw [hlen] at Vz ⊢;refine an 10 ?_;go_simp;refine an 11 ?_;go_simp;refine an 12 ?_;go_simp;refine an 13 ?_;go_simp;refine ad ?_;go_simp;go_upto_region 2 with fail;refine wp_at (λV hV=>?_);have HV:Hid (WK w0 V wb (eO n (qB n.reqs i q)) ⟨A.k,A.p,A.o,A.s,a6,A.ck,A.cp,A.co,A.cs,c6⟩ G (newC u.heap.size 6 c) v L):=by rw [hV];exact Vz
 clear hV Vz k0 k1 k2 k3 k4 k5 k6 k7 k8 k9 kf hw6;have hl2:(eO n (qB n.reqs i q)).reqs.length=n.reqs.length+1:=hlen;obtain⟨d0,d1,d2,d3,d4,d5,d6,d7,d8,d9⟩:=jN HV.blk;rw [hl2] at d8;have hVl:=ay HV.blk;by_cases aja:30 < n.reqs.length+1
 case' neg=>
  have hm2:¬((30:Int) < (n.reqs.length:Int)+1):=Aaa
  have HK:=Hq (show Dh n q i=eO n (qB n.reqs i q) by unfold Dh;rw [hlen,aEX aja]);go_wp2_with fail;exact aGD (v:= .tuple #[]) (by simp[results,results218,go_sem]) rfl ⟨rfl,_,_,_,by rw [ah HK];exact HV⟩
 have hm2:(30:Int) < (n.reqs.length:Int)+1:=Aaa
 obtain⟨g,hAr,hgw,hgl,⟨q0,_,_,_⟩,_⟩:=HV.reqRow 0 Aaa;dsimp only at hAr;subst hAr;have hz8:(0:Int) < (n.reqs.length:Int)+1:=Aaa
 have HK:=Hq (show Dh n q i=eO (oW n (eO n (qB n.reqs i q)).reqs[0].no) ((qB n.reqs i q).drop 1) by
  unfold Dh
  rw [hlen,aE7 aja]
  congr 2
  show((qB n.reqs i q).headD default).no=(qB n.reqs i q)[0].no
  rw [List.headD_eq_head?_getD,List.head?_eq_getElem?,aEQ Aaa]
  rfl)
 generalize (eO n (qB n.reqs i q)).reqs[0].no=old at *;rw [Nat.zero_mul] at q0;have vf7:=aC HV.blk 7;have vf8:=aC HV.blk 8;have HO:=Hq (HV.oldPut old);go_upto_region 4 with fail;refine wp_at (λV2 hV2=>?_);have HV2:Hid (WK w0 V2 wb (oW (eO n (qB n.reqs i q)) old) ⟨A.k,A.p,A.o,A.s,some ⟨g,0,none⟩,A.ck,A.cp,A.co,A.cs,c6⟩ G (newC u.heap.size 6 c) v L):=by rw [hV2];exact HO
 clear hV2 HO HV d0 d1 d2 d3 d4 d5 d6 d7 d8 d9 q0 vf7 vf8 hVl;have hl3:(oW (eO n (qB n.reqs i q)) old).reqs.length=n.reqs.length+1:=hlen;obtain⟨d0,d1,d2,d3,d4,d5,d6,d7,d8,d9⟩:=jN HV2.blk;rw [hl3] at d8;have hVl:=ay HV2.blk;have HD:=Hq (akx w0.heap.size (some ⟨g,0,none⟩) c6 (qB n.reqs i q) V2 Aaa Aaa HV2.no.r);rw [hlen] at HD;go_wp2_with fail;refine HD.mono ?_;rintro e w7 ⟨a7,c7,rfl,J5,ayE,ayX⟩;obtain⟨vV,Pv⟩:=HV2.reqPut J5 (by rw [hl3];exact ayE) (by rw [hl3];exact ayX);have hl7:((qB n.reqs i q).drop 1).length=n.reqs.length:=by rw [aFt,hlen];omega
 rw [hl7] at Pv;have HW7:=Hq Pv;obtain⟨k0,k1,k2,k3,k4,k5,k6,k7,k8,k9⟩:=jN vV;have kf:=aC vV 8;have hw7:=ay vV;clear J5 ayE ayX vV Pv HV2 HD d0 d1 d2 d3 d4 d5 d6 d7 d8 d9;go_wp2_with fail;exact aGD (v:= .tuple #[]) (by simp[results,results218,go_sem]) rfl ⟨rfl,_,_,_,by rw [ah HK];exact HW7⟩):P:=h
theorem aqF.Ab7(h:P:=by
 refine rT 8 ?_;refine tk [1,2,3,4,5] ?_;iterate 5 (refine iO (λK hK=>?_);go_simp;refine hK _ ?_;clear hK K)
 refine jf ?_;clear y0;refine dG 6 rfl Aab Aad (λx hx=>?_);go_simp;refine(HO _ ((HH.keep1 (HF2.step hx).keep hfb hne))).mono ?_;rintro e y ⟨hcase,hby⟩;have HFX:=Hq (HF2.step hx);clear hx;rcases hcase with⟨hyes,rfl⟩|⟨hno,p,rfl⟩
 case' inr=>
  have HST:=Hq (HN hno);exact⟨rfl,.inr ⟨_,rfl⟩,HFX.found HS HST hby⟩
 have HST:=Hq (HY hyes);have HSN:=Hq (iE HST);obtain⟨hz5,hz6⟩:=ah HGT HST;clear hyes HY HN iE HGT HO HF2;refine⟨hby,?_⟩;have HFY:=Hq (HFX.step hby);clear hby HFX;refine dG 7 rfl Aab Aad (λx2 hx2=>?_);go_simp;refine⟨au x2 _,?_⟩;have HFZ:=Hq ((HFY.step hx2).step (au x2 (.cells (bJ K no k n mK mF mT mI mL mk mN) 73)));have Il:=Hq (aEK x2 (.cells (bJ K no k n mK mF mT mI mL mk mN) 73));clear hx2 HFY;generalize x2.alloc (.cells (bJ K no k n mK mF mT mI mL mk mN) 73)=y2 at *;refine aU Aab (λu hu=>?_);have HFU:=Hq (HFZ.step hu);have HNU:=Hq (aI Il hu);clear hu HFZ Il;have hLl:=ah HL;refine an 8 ?_;refine pE u (.tmp 37) (.tmp 40) 93 rfl (w.heap.size+1) 73 i0 (.agg (bJ 0 0 ByteArray.empty 0 0 0 0 0 0 ByteArray.empty 0)) 11 104 underlying93 hi hz0 hz1 hz2 rfl Aae (.slice va L.length vc) L.length (GR.flat nW L) Aao HFU.own ⟨x2.heap.size,0,none⟩ 1 1 (nW ⟨K,no,k,n,⟨mK,mF,mT,mI,mL,mk,mN⟩⟩) Aao rfl (aFA HNU) (Pm _) Aaj Aaa (by have:=HFU.gl;omega) ?_;intro v6 w6 hown6 rD _;obtain⟨va6,vc6,hv6,_⟩:=GR.own_at (enc:=nW) (sz:=11) (l:=L++[⟨K,no,k,n,⟨mK,mF,mT,mI,mL,mk,mN⟩⟩]) jU (by rw [aER,yO];exact hown6);rw [aER] at hv6;have hv7:v6= .slice va6 (L.length+1) vc6:=hv6;subst hv7;clear hv6;obtain⟨hb6,hF6⟩:=HFU.app ⟨K,no,k,n,⟨mK,mF,mT,mI,mL,mk,mN⟩⟩ hown6 rD;have HF6:=Hq (hF6 z);obtain⟨k0,k1⟩:=ZL hb6;have kf0:=ai8 hb6 0;have kf1:=ai8 hb6 1;clear hown6 rD hb6 hF6 HFU HNU;refine an 9 ?_;go_simp;refine an 10 ?_;go_simp;refine an 11 ?_;go_simp;refine ad ?_;go_simp;go_wp2_with fail;go_roundw
 case rel=>exact⟨z,_,_,HF6,HSN⟩
 case measure=>
  have h1:=ah HEA;have h2:=HF6.endOf;rw [h1,h2];omega):P:=h
theorem aw1(h:P:=by
 clear hm hM;go_in
 go_wp2_with fail;refine(HN _).mono ?_;rintro e w1 ⟨rfl,hb1⟩;rw [hno];obtain⟨hA,hz,hbel⟩:=Fo.one_block hb1;obtain⟨⟨p0,p1,p2,p3⟩,_⟩:=fP hA;have hm1:w1.heap[mp]?=some (.cells #[v,.map (some mb)] 356 (0,0)):=by rw [hbel.block _ hmp];exact HM
 obtain⟨⟨m0,m1⟩,_⟩:=mH hm1;have hI1:iG w1.drew mb n G:=HI.kept (by rw [<-hbel.block _ hmb];rfl);exact Aeh):P:=h
theorem aqG.Aeh(h:P:=by
 obtain⟨w2,hrun,hI2,hK2⟩:=ah HST _ 0 hI1;have HI2:=Hq (hI2.mono (Nat.le_succ n));have oH:=Hq ((Keeps.of_below (g:=mb) hbel).trans (Keeps.trans (b:=w1.drew) (Keeps.of_below (aEY _ _).drew) hK2));clear hb1 hA hbel hm1 hI1 hI2 hK2 HST HN;go_wp2_with fail;go_region
 all_goals
  go_wp2_with fail
  exact aET (v:= .tuple #[]) (by simp[results,results303,go_sem]) rfl ⟨rfl,HI2,oH⟩):P:=h
theorem aqH.Aeh(h:P:=by
 obtain⟨w2,hrun,hI2,hK2⟩:=ah HST _ hI1;have HI2:=Hq hI2;have oH:=Hq ((Keeps.of_below (g:=mb) hbel).trans (Keeps.trans (b:=w1.drew) (Keeps.of_below (aEY _ _).drew) hK2));clear hb1 hA hbel hm1 hI1 hI2 hK2 HST HN;go_wp2_with fail;go_region
 all_goals
  go_wp2_with fail
  exact aGD (v:= .tuple #[]) (by simp[results,results303,go_sem]) rfl ⟨rfl,HI2,oH⟩):P:=h
theorem aw2(h:P:=by
 go_simp;refine(aeo A2 x5 (HS.step HG).nl.at).mono ?_;rintro e y5 ⟨A3,ma,mc,rfl,hat,hmt,hb5⟩;refine⟨hb5.mono HG.size,?_⟩;have hxs:=HG.size;have HNL:=Hq (show NL x5.heap.size y5 A3 m' from λF W'' hk hF=>(hat W'' ⟨F,hk,hF⟩).at);have HG2:=Hq (Ge.trans HG hb5);exact AdK):P:=h
theorem aqI.AdK(h:P:=by
 have HQ2:=Hq (aj HQ hb5);have hqd:qf < x5.heap.size\/y5.heap.size<=qf:= .inl (ay HQ);open atK in exact agW):P:=h
theorem aqJ.AdK(h:P:=by
 open atJ in exact agW):P:=h
theorem aw3(h:P:=by
 go_upto_region 1 with fail;generalize w.alloc (.cells (AA k A).toArray 43)=W0 at *;obtain⟨hr0,_⟩:=sU R6;open aum in exact aaO):P:=h
theorem aqK.Aer(h:P:=by
 rintro e W1 ⟨rfl,hk⟩;have zx:=Hq (aj R6 hk);have HB1:=Hq (HB0.trans (hk.mono HB0.size));clear hk hr0 R6 HB0 Xu;obtain⟨_,hr1⟩:=sU zx;go_upto_region 4 with fail;open apd in exact aeJ):P:=h
theorem aqL.Aer(h:P:=by
 rintro e W1 ⟨rfl,hm,hk⟩;have HB1:=Hq hm;have yu:=Hq (gU.keeps Ik hk (λx hx hx2=>HD.1 x hx2 hx));have HW1:=Hq (HW0.keeps hk (λx hx hx2=>(HD.2 x (aFc _ hx)).1 hx2));have HA1:=Hq (HA0.keeps hk (λx hx hx2=>(HD.2 x (aFh _ hx)).1 hx2));have zx:=Hq (hk.obj R6 (λhx=>HNE _ Aai rfl));have uq:=Hq (pJ.trans (hk.mono (λx hx=>Aai)));clear hm hk hr0 HB0 Ik HW0 HA0 R6 pJ Xu;obtain⟨_,hr1⟩:=sU zx;go_upto_region 2 with fail;open ape in exact aeJ):P:=h
theorem aw4(h:P:=by
 go_wp2_with (at_builtin;refine aFG _ rfl _ _ 34 rfl w.heap.size 155 i0 (.agg (iR ByteArray.empty 0 0 0)) 4 40 underlying34 hi hz0 hz1 hz2 rfl Aae _ 0 [] rfl hlit x l.length cap (GR.flat fu l) rfl ?c0 ?c1 ?c2 ?c3 ?c4 ?c5 ?_)
 case c0=>exact GR.flat_length fu 4 aP l
 case c1=>exact HN
 case c2=>exact Fe l
 case c3=>unfold maxLen;omega
 case c4=>omega
 case c5=>simp
 exact AcY):P:=h
theorem aqM.AcY(h:P:=by
 intro v' w1 hown' hgrow _;open avU in exact ahq):P:=h
theorem aqN.AcY(h:P:=by
 intro v' w1 hown' hgrow hnil;have HNN:=Hq (show v'≠ .slice none 0 0 from hnil);open avS in exact ahq):P:=h
theorem aeK(h:P:=by
 obtain⟨k,hk,rfl,hall,hblk,hbel⟩:=hrel;have jr:=Hq hall;have aY:=Hq hbel;have Hu:=Hq hblk;exact AbJ):P:=h
theorem aqO.AbJ(h:P:=by
 clear c0 c1 c2 c3 c4 c5 c6 c7 c8;obtain⟨c0,c1,c2,c3,c4,c5,c6,c7,c8⟩:=nine hblk;clear hall hbel hblk;by_cases hlt:k < reqs.length
 case' neg=>
  have hke:k=reqs.length:=Aaa
  subst hke;have aDv:decide ((reqs.length:Int) < (reqs.length:Int))=false:=Aac
  have HF:Hid (TT=true):=by
   have h:=ah jr;rw [aFd] at h;exact HOF.trans h
  go_wp2_with fail;go_ret;exact⟨aF HF.symm,aY⟩
 have HBAD:Hid (gV RQ RR (reqs.take (k+1))=false->TT=false):=λh=>HOF.trans (HDB _ h)
 obtain⟨g,off,e0,hgw,q0,q1,q2,q3⟩:=fT.four (HA.below aY).r k hlt;(try dsimp only at e0 q0 q1 q2 q3)
 have hks:=HZ.rk _ (aE2 hlt);(try dsimp only at hks)
 have XA:Hid (∃pv:Bool,gV RQ RR (reqs.take (k+1))=(RQ reqs[k]&&pv)/\((k=0/\pv=true)\/∃(j:Nat) (y:Int),k=j+1/\pv=decide (y < (reqs[k]).no)/\wr.cell? ⟨g,off+j*4,none⟩=some (.int .i64 y))):=by
  cases k with
  |zero=>
   refine⟨true,?_,.inl ⟨rfl,rfl⟩⟩;rw [Bool.and_true];exact HDF hlt
  |succ j=>
   obtain⟨g',off',e2,_,p0,_⟩:=fT.four (HA.below aY).r j (show j < reqs.length by omega);(try dsimp only at e2 p0)
   rw [e0] at e2;injection e2 with e2
   injection e2 with e2 e3
   subst e2 e3;refine⟨_,?_,.inr ⟨j,_,rfl,rfl,p0⟩⟩;have h:=ah HDN j hlt;rw [ah jr] at h;exact h
 subst e0;have mW:=Hq (Ow reqs[k]);generalize reqs[k]=sk at *;generalize RQ sk=OB at *;obtain⟨si,sx,sn,st⟩:=sk;dsimp only at q0 q1 q2 q3 hks XA mW;obtain⟨pv,hpv,hpk⟩:=ah XA;have iE:=Hq hpv;have Sc:=Hq hpk;obtain⟨bb,hbb⟩:∃bb,(!(decide (old+1<=si/\si<=1000000000)&&keyOk sx.data.toList&&fH sn&&decide (0<=st/\st<=2)&&pv))=bb:=⟨_,rfl⟩;have eT:=Hq hbb;clear hpv hpk XA hbb HDF HDN HDB;go_upto_region 13 with fail;refine wp_at (λW1 hW1=>?_);have HW1:Hid (W1.heap[wr.heap.size]?=some (.cells (gT si sx sn st) 148 (0,0))):=Abz
 open anz in exact aeG):P:=h
theorem aqP.AbJ(h:P:=by
 obtain⟨c0,c1,c2,c3,c4,c5,c6,_⟩:=nine hblk;clear hall hbel hblk;by_cases hlt:k < seen.length
 case' neg=>
  have hke:k=seen.length:=Aaa
  subst hke;have hnlt:decide ((seen.length:Int) < (seen.length:Int))=false:=Aac
  exact akn
 have HBAD:Hid (gV PP RR (seen.take (k+1))=false->TT=false):=λh=>mW.trans (yt _ h)
 obtain⟨g,off,b,c,e0,hgw,q0,q1,q2,hI⟩:=gZ.below HS aY k hlt;have xY:(seen[k]).ids.length<=1048600:=ah qX _ (aE2 hlt);have HI:=Hq hI;have Dz:=Hq xY;clear hI xY
 have XA:Hid (∃pv:Bool,gV PP RR (seen.take (k+1))=((NN (seen[k]).f&&vX seen[k])&&pv)/\((k=0/\pv=true)\/∃(j:Nat) (y:Int),k=j+1/\pv=decide (y < (seen[k]).f)/\wr.cell? ⟨g,off+j*3,none⟩=some (.int .i64 y))):=by
  cases k with
  |zero=>
   refine⟨true,?_,.inl ⟨rfl,rfl⟩⟩;have h:=ah Oo hlt;rw [Bool.and_true];exact h
  |succ j=>
   obtain⟨g',off',_,_,e2,_,p0,_⟩:=gZ.below HS aY j Aaa;exact ahG
 subst e0;generalize hsk:seen[k]=sk at *;clear hsk;obtain⟨fr,lo,ids⟩:=sk;dsimp only at q0 q1 q2 HI Dz XA;obtain⟨pv,hpv,hpk⟩:=ah XA;have iE:=Hq hpv;have Sc:=Hq hpk;obtain⟨bb,hbb⟩:∃bb,(!(NN fr&&pv&&fH lo&&decide (ids.length<=40)))=bb:=⟨_,rfl⟩;have eT:=Hq hbb;clear hpv hpk XA hbb Oo Ey yt;go_upto_region 10 with fail;open avw in exact ahi):P:=h
theorem aqQ.AbJ(h:P:=by
 obtain⟨c0,c1,c2,c3,c4,c5,c6,c7,c8⟩:=nine hblk;clear hall hbel hblk;by_cases hlt:k < out.length
 case' pos=>
  have HBAD:Hid (gV OT RO (out.take (k+1))=false->TT=false):=λh=>by rw [ah HTT,ah yt _ h];rfl
  obtain⟨g,off,e0,hgw,q0,q1,q2,q3⟩:=SentAt.four (HA.below aY).o k hlt
  (try dsimp only at e0 q0 q1 q2 q3)
  have hks:=HZ.ok _ (aE2 hlt)
  (try dsimp only at hks)
  have XA:Hid (∃pv:Bool,gV OT RO (out.take (k+1))=(OT out[k]&&pv)/\((k=0/\pv=true)\/∃(j:Nat) (y:Int),k=j+1/\pv=decide (y < (out[k]).i)/\wr.cell? ⟨g,off+j*4,none⟩=some (.int .i64 y))):=by
   cases k with
   |zero=>
    refine⟨true,?_,.inl ⟨rfl,rfl⟩⟩;rw [Bool.and_true];exact Oo hlt
   |succ j=>
    obtain⟨g',off',e2,_,p0,_⟩:=SentAt.four (HA.below aY).o j (show j < out.length by omega);(try dsimp only at e2 p0)
    exact ahG
  subst e0
  have mW:=Hq (HOT out[k])
  generalize out[k]=sk at *
  generalize OT sk=OB at *
  obtain⟨si,st,sx,sn⟩:=sk
  dsimp only at q0 q1 q2 q3 hks XA mW
  obtain⟨pv,hpv,hpk⟩:=ah XA
  have iE:=Hq hpv
  have Sc:=Hq hpk
  obtain⟨bb,hbb⟩:∃bb,(!(decide (1<=si/\si<=next - 1)&&NN st&&keyOk sx.data.toList&&fH sn&&pv))=bb:=⟨_,rfl⟩
  have eT:=Hq hbb
  clear hpv hpk XA hbb Oo Ey yt
  go_upto_region 7 with fail
  refine wp_at (λW1 hW1=>?_)
  have HW1:Hid (W1.heap[wr.heap.size]?=some (.cells (gI si st sx sn) 145 (0,0))):=Abz
  have hbw:aH wr W1:=by rw [hW1];exact au wr _
  have BJ:=Hq (aj Hu hbw)
  have oF:=Hq (aY.trans (hbw.mono aY.size))
  have hgw1:=hbw.size
  have DR:Hid ((k=0/\pv=true)\/∃(j:Nat) (y:Int),k=j+1/\pv=decide (y < si)/\W1.cell? ⟨g,off+j*4,none⟩=some (.int .i64 y)):=by
   exact aii
  clear hW1 hbw q0 q1 q2 q3 c0 c1 c2 c3 c4 c5 c6 c7 c8 Sc Hu
  obtain⟨d0,d1,d2,d3⟩:=iD HW1
  obtain⟨c0,c1,c2,c3,c4,c5,c6,c7,c8⟩:=nine BJ
  have k0:=cell_grown' c0
  have k1:=cell_grown' c1
  have k2:=cell_grown' c2
  have k3:=cell_grown' c3
  have k4:=cell_grown' c4
  have k5:=cell_grown' c5
  have k6:=cell_grown' c6
  have k7:=cell_grown' c7
  have k8:=cell_grown' c8
  have m0:=cell_grown' d0
  have m1:=cell_grown' d1
  have m2:=cell_grown' d2
  have m3:=cell_grown' d3
  have en:IntKind.i64.wrap (next - 1)=next - 1:=IntWalk.i64_in _ ⟨Aaa,Aaa⟩
  go_cut [98] (λr wx=>r= .bool bb/\aH W1 wx)
  case first=>
   rcases DR with⟨rfl,rfl⟩|⟨j,y,rfl,rfl,q1⟩
   .have hgt:decide ((0:Int) < ((0:Nat):Int))=false:=rfl;open aAE in exact Yk5
   .have hgt:decide ((0:Int) < ((j+1:Nat):Int))=true:=aEO Aaa;have m9:=cell_grown' q1;open aAD in exact Yk5
  case rest=>
   obtain⟨rfl,hbx⟩:=hcut;open as5 in exact VP
 open ap7 in exact aa4):P:=h
theorem aqR.AbJ(h:P:=by
 obtain⟨c0,c1,c2,_⟩:=nine hblk;clear hall hbel hblk;by_cases hlt:k < kids.length
 case' neg=>
  have hke:k=kids.length:=Aaa
  subst hke;have hnlt:decide ((kids.length:Int) < (kids.length:Int))=false:=Aac
  have HF:Hid (eu ⟨id,par,kids,next,pu,out,seen,old,reqs⟩=true):=by
   exact Wj
  go_wp2_with fail;go_ret;exact⟨aF HF.symm,aY⟩
 have HBAD:Hid (gV (kE id par) iL (kids.take (k+1))=false->eu ⟨id,par,kids,next,pu,out,seen,old,reqs⟩=false):=λh=>mW.trans (yt _ h)
 cases k with
 |zero=>
  obtain⟨g,off,rfl,hgw,q0⟩:=bC.one (GR.At.below HA aY) 0 hlt;rw [aGw] at q0;have hgt:decide ((0:Int) < ((0:Nat):Int))=false:=rfl;have iE:Hid (gV (kE id par) iL (kids.take 1)=kE id par kids[0]):=ah Oo hlt;clear Oo Ey yt;generalize kids[0]=x at *;open at6 in exact agY
 |succ j=>
  obtain⟨g,off,e1,hgw,q0⟩:=bC.one (GR.At.below HA aY) (j+1) hlt;obtain⟨g',off',e2,aDS,q1⟩:=bC.one (GR.At.below HA aY) j Aaa;open avz in exact ahj):P:=h
theorem aw5(h:P:=by
 have hb0:=au w (.cells (AA k A).toArray 43);have e0:=aEK w (.cells (AA k A).toArray 43);have hE1:=xq (s:=1) hz.b;have hP1:=uI (s:=1) hz.b Aaa;have hE2:=xq (s:=dY 1 k.base) hz.n;have hP2:=uI (s:=dY 1 k.base) hz.n hP1;have hw:=hz.w;have ha:=hz.a;have HEK:=Hq (show eKp k=dY (dY 1 k.base) k.node+7*k.wait.length+12*k.asked.length from rfl);exact Adm):P:=h
theorem aqS.Adm(h:P:=by
 have Xu:=Hq (λW (hW:aH w W)=>J3 1 Aaa Aaa k.base A.b G1 W (hz.b.mono Aaa) (h.b.below hW));have Vq:=Hq (λW (hW:aH w W)=>J3 (dY 1 k.base) hP1 Aaa k.node A.n G2 W (hz.n.mono Aaa) (h.n.below hW));have HM3:=Hq (λW (hW:aH w W)=>Pz A.wa gw A.wc k.wait.length (dY (dY 1 k.base) k.node) k.wait W rfl hP2 Aaa Aaa (GR.W.below h.wt hW));have HM4:=Hq (fun(z:Int) (W:World) (hz:z=((dY (dY 1 k.base) k.node+7*k.wait.length:Nat):Int)) (hW:aH w W)=>hz▸WB A.aa ga A.ac k.asked.length (dY (dY 1 k.base) k.node+7*k.wait.length) k.asked W rfl Aaa Aaa Aaa (GR.W.below h.sk hW));have R6:=Hq e0;have HB0:=Hq hb0;have g1:decide (((dY 1 k.base:Nat):Int) < 0)=false:=Aac
 have g2:decide (((dY (dY 1 k.base) k.node:Nat):Int) < 0)=false:=Aac
 clear h hb0 e0 hz hE1 hE2;generalize eKp k=EK at *;generalize dY (dY 1 k.base) k.node=E2 at *;generalize dY 1 k.base=E1 at *;go_in
 open aqK in exact aw3):P:=h
theorem aqT.Adm(h:P:=by
 have Xu:=Hq (λW (hW:gU W A.b G1 k.base)=>J9 1 Aaa Aaa k.base A.b G1 W (hz.b.mono Aaa) h.bn hW);have Vq:=Hq (λW (hW:gU W A.n G2 k.node)=>J9 (dY 1 k.base) hP1 Aaa k.node A.n G2 W (hz.n.mono Aaa) h.nn hW);have HM3:=Hq (λW (hW:GR.W jh 7 W A.wa gw k.wait)=>Qs A.wa gw A.wc (dY (dY 1 k.base) k.node) k.wait W hP2 Aaa Aaa hW);have HM4:=Hq (fun(z:Int) (W:World) (hz:z=((dY (dY 1 k.base) k.node+7*k.wait.length:Nat):Int)) (hW:GR.W dQ 12 W A.aa ga k.asked)=>hz▸WW A.aa ga A.ac (dY (dY 1 k.base) k.node+7*k.wait.length) k.asked W Aaa Aaa Aaa hW);have HNE:=Hq (show∀x∈G1.all k.base++(G2.all k.node++(fp gw k.wait++fp ga k.asked)),w.heap.size≠x from λx hx=>by have:=h.r x hx;omega);have HD:=Hq (And.intro h.d h.dl);have HDD:=Hq h.dd;have h0:=h.below hb0;have HB0:=Hq h0.b;have Ik:=Hq h0.n;have HW0:=Hq h0.wt;have HA0:=Hq h0.sk;have R6:=Hq e0;have pJ:=Hq (aA.of_below (F:=G1.all k.base++(G2.all k.node++(fp gw k.wait++fp ga k.asked))) hb0);clear h h0 hb0 e0 hz hhi;generalize eKp k=EK at *;go_in
 open aqL in exact aw3):P:=h
theorem aw6(h:P:=by
 rintro e W3 ⟨A1,ma,mc,rfl,hat,hmt,hb3,hap⟩;have qx:=Hq ((hap _ (ay mZ) (by rw [aX Aaa];omega)).trans mZ);have aad:=Hq hat;have aeb:=Hq hmt;have HB3:=Hq ((HB2.mono hB).trans hb3);have Sq:Hid (Apart c w W3):=λx hx hc=>(hap x (aEU hx HB2.size) (by rw [fC hx];exact hc)).trans (HB2.block x hx)
 have h23:=hb3.size;have h02:=HB2.size;have h2r:=ay mZ;exact Adn):P:=h
theorem aqU.Adn(h:P:=by
 clear hat hmt hb3 hap c0 c1 c2 c3 c4 c5 c6 c7 c8 m0 m1 m2 m3 m4 m5 m6 hml hnl OI ku BK mZ Hy;obtain⟨⟨d0,d1,d2,d3,d4,d5,d6,d7,d8⟩,f0,f1,f2,f3,f4,f5,f6,f7,f8⟩:=iM qx;have hrl:=ay qx;go_wp2_with fail;refine eH (u1:= .slice ma L1.length mc) (u2:= .int .i64 Da) results131 rfl rfl rfl rfl qx (λW' e4 fq=>?_)
 have HAT:=Hq (λW'' (ho:Out c w W' W'')=>(show RM W'' A1 N1 from(by
  obtain⟨F,hk,hF⟩:=ho
  exact aad _ ⟨(w.heap.size+2)::F,aA.trans (b:=W') (fq.mono (λx hx=>Aba)) (hk.mono (λx hx=>Aai)),λy hy=>by
   rcases aE8.1 hy with h1|h1
   .exact Wi
   .exact⟨aEU (hF y h1).1 h02,by rw [fC (hF y h1).1];exact(hF y h1).2⟩⟩)))
 have ED:=Hq (λW'' (ho:Out c w W' W'')=>(show GR.At jh 7 W'' ma L1 from(by
  obtain⟨F,hk,hF⟩:=ho
  exact aeb _ ⟨(w.heap.size+2)::F,aA.trans (b:=W') (fq.mono (λx hx=>Aba)) (hk.mono (λx hx=>Aai)),λy hy=>by
   rcases aE8.1 hy with h1|h1
   .exact Wi
   .exact⟨aEU (hF y h1).1 h02,by rw [fC (hF y h1).1];exact(hF y h1).2⟩⟩)))
 have qZ:Hid (Below B w W'):=HB3.trans (fq.below (λx hx=>by have:x=w.heap.size+2:=Aag;omega) (aEP hB HB3.size));have xS:=Hq (Apart.keeps (c:=c) Sq HB3.size fq (λx hx=>by have:x=w.heap.size+2:=Aag;omega));clear e4 fq;exact⟨A1,ma,mc,rfl,HAT,ED,qZ,xS⟩):P:=h
theorem aqV.Adn(h:P:=by
 clear hat hmt hb3 hap c0 c1 c2 c3 c4 c5 c6 c7 c8 m0 m1 m2 m3 m4 m5 m6 hml hnl HGV ku BK mZ Hy;obtain⟨A1,hA1⟩:∃A2,A2=A1:=⟨_,rfl⟩;subst hA1;have N8:=Hq (aEK W3 (.cells (dH N1 A1) 39));have xU:=Hq (aj qx (au W3 (.cells (dH N1 A1) 39)));have vT:=Hq (HB3.trans ((au W3 (.cells (dH N1 A1) 39)).mono (aEP hB HB3.size)));have HKA:=Hq (Sq.step HB3.size (au W3 (.cells (dH N1 A1) 39)));obtain⟨c0,c1,c2,c3,c4,c5,c6,c7,c8⟩:=nine N8;obtain⟨⟨d0,d1,d2,d3,d4,d5,d6,d7,d8⟩,f0,f1,f2,f3,f4,f5,f6,f7,f8⟩:=iM xU;have hnl:=ay N8;have hrl:=ay xU;go_wp2_with fail;refine eH results131 rfl rfl rfl rfl xU (λW' e4 fq=>?_)
 have HAT:=Hq (λW'' (ho:Out c w W' W'')=>(show RM W'' A1 N1 from(by
  obtain⟨F,hk,hF⟩:=ho
  exact aad _ ⟨(w.heap.size+2)::F,aA.trans (b:=W') ((aA.of_below (au W3 (.cells (dH N1 A1) 39))).trans (fq.mono (λx hx=>Aba))) (hk.mono (λx hx=>Aai)),λy hy=>by
   rcases aE8.1 hy with h1|h1
   .exact Wi
   .exact⟨aEU (hF y h1).1 h02,by rw [fC (hF y h1).1];exact(hF y h1).2⟩⟩)))
 have ED:=Hq (λW'' (ho:Out c w W' W'')=>(show GR.At jh 7 W'' ma L1 from(by
  obtain⟨F,hk,hF⟩:=ho
  exact aeb _ ⟨(w.heap.size+2)::F,aA.trans (b:=W') ((aA.of_below (au W3 (.cells (dH N1 A1) 39))).trans (fq.mono (λx hx=>Aba))) (hk.mono (λx hx=>Aai)),λy hy=>by
   rcases aE8.1 hy with h1|h1
   .exact Wi
   .exact⟨aEU (hF y h1).1 h02,by rw [fC (hF y h1).1];exact(hF y h1).2⟩⟩)))
 open atj in exact agQ):P:=h
theorem aw7(h:P:=by
 obtain⟨e1,e2,e3,e4⟩:=gu w (.cells (dH n A) 39) (.cells (bJ K no k nn mK mF mT mI mL mk mN) 73) (.cells kR 39);have hsz:(((w.alloc (.cells (dH n A) 39)).alloc (.cells (bJ K no k nn mK mF mT mI mL mk mN) 73)).alloc (.cells kR 39)).heap.size=w.heap.size+3:=Aac
 generalize hW0:((w.alloc (.cells (dH n A) 39)).alloc (.cells (bJ K no k nn mK mF mT mI mL mk mN) 73)).alloc (.cells kR 39)=W0 at *;exact AdH):P:=h
theorem aqW.AdH(h:P:=by
 open aBQ in exact ajV):P:=h
theorem aqX.AdH(h:P:=by
 open aBR in exact ajV):P:=h
theorem aw8(h:P:=by
 obtain⟨e1,e2,e3,e4⟩:=gu w (.cells (dH n A) 39) (.cells (bJ 4 no k nn mK mF mT mI mL mk mN) 73) (.cells kR 39);have hsz:(((w.alloc (.cells (dH n A) 39)).alloc (.cells (bJ 4 no k nn mK mF mT mI mL mk mN) 73)).alloc (.cells kR 39)).heap.size=w.heap.size+3:=Aac
 generalize hW0:((w.alloc (.cells (dH n A) 39)).alloc (.cells (bJ 4 no k nn mK mF mT mI mL mk mN) 73)).alloc (.cells kR 39)=W0 at *;exact Aee):P:=h
theorem aqY.Aee(h:P:=by
 exact axi):P:=h
theorem aqZ.Aee(h:P:=by
 exact Zk8):P:=h
theorem aw9(h:P:=by
 obtain⟨e1,e2,e3,e4⟩:=gu w (.cells (dH n A) 39) (.cells (bJ 3 no k nn mK mF mT mI mL mk mN) 73) (.cells kR 39);have hsz:(((w.alloc (.cells (dH n A) 39)).alloc (.cells (bJ 3 no k nn mK mF mT mI mL mk mN) 73)).alloc (.cells kR 39)).heap.size=w.heap.size+3:=Aac
 generalize hW0:((w.alloc (.cells (dH n A) 39)).alloc (.cells (bJ 3 no k nn mK mF mT mI mL mk mN) 73)).alloc (.cells kR 39)=W0 at *;exact Aeq):P:=h
theorem ara.Aeq(h:P:=by
 open Sk2 in exact Yk0):P:=h
theorem arb.Aeq(h:P:=by
 exact axi):P:=h
theorem axa(h:P:=by
 obtain⟨e1,e2,e3,e4⟩:=gu w (.cells (dH n A) 39) (.cells (bJ 0 no k nn mK mF mT mI mL mk mN) 73) (.cells kR 39);have hsz:(((w.alloc (.cells (dH n A) 39)).alloc (.cells (bJ 0 no k nn mK mF mT mI mL mk mN) 73)).alloc (.cells kR 39)).heap.size=w.heap.size+3:=Aac
 generalize hW0:((w.alloc (.cells (dH n A) 39)).alloc (.cells (bJ 0 no k nn mK mF mT mI mL mk mN) 73)).alloc (.cells kR 39)=W0 at *;exact Ac6):P:=h
theorem ard.Ac6(h:P:=by
 open Sk6 in exact Yk0):P:=h
theorem arf.Ac6(h:P:=by
 open Sk0 in exact Yk0):P:=h
theorem XP(h:P:=by
 obtain⟨k,z,hk,rfl,rfl,hz0,hz1,hall,hbel⟩:=hrel;have jr:=Hq hall;have aY:=Hq hbel;clear hall hbel;exact AaU):P:=h
theorem arh.AaU(h:P:=by
 by_cases hlt:k < l.length
 .obtain⟨g,off,rfl,hgw,q0,q1,q2,q3⟩:=aG.four (GR.At.below HA aY) k hlt;open apq in exact XM
 .exact aeN):P:=h
theorem ari.AaU(h:P:=by
 by_cases hlt:k < l.length
 .obtain⟨g,off,rfl,hgw,q0,q1,q2,q3⟩:=SentAt.four (GR.At.below HA aY) k hlt;open apr in exact XM
 .exact aeN):P:=h
theorem arj.AaU(h:P:=by
 by_cases hlt:k < l.length
 .obtain⟨g,off,rfl,hgw,q0,q1,q2,q3⟩:=fT.four (GR.At.below HA aY) k hlt;open aps in exact XM
 .exact aeN):P:=h
theorem ark.AaU(h:P:=by
 by_cases hlt:k < l.length
 .obtain⟨g,off,b,c,e0,hgw,q0,q1,q2,_⟩:=gZ.below HA aY k hlt;subst e0;open apt in exact XM
 .exact aeN):P:=h
theorem arl.AaU(h:P:=by
 by_cases hlt:k < l.length
 .obtain⟨g,off,rfl,hgw,q0,q1,q2,q3,q4,q5,q6,q7,q8,q9,q10,q11⟩:=lV (GR.At.below HA aY) k hlt;open apu in exact XM
 .exact ahA):P:=h
theorem arn.AaU(h:P:=by
 by_cases hlt:k < l.length
 .obtain⟨g,off,rfl,hgw,q0,q1,q2,q3,q4,q5,q6⟩:=rF (GR.At.below HA aY) k hlt;open apv in exact XM
 .exact ahA):P:=h
theorem axb(h:P:=by
 refine eZ 3 rfl Aab Aad (λx hx=>?_);go_simp;refine⟨au x _,?_⟩;have jI:=Hq (Ge.trans (Ge.trans wY hx) (au x (.cells #[.int .u8 K] 5)));have hcx:(x.alloc (.cells #[.int .u8 K] 5)).cell? ⟨x.heap.size,0,none⟩=some (.int .u8 K):=Aac
 have hcv:=λd os=>HCV (Sort.grow (redrawn (x.alloc (.cells #[.int .u8 K] 5)) d) os) x.heap.size (aEL hcx d os)
 exact Ado):P:=h
theorem aro.Ado(h:P:=by
 obtain⟨a1,a2,a3,a4,a5,a6⟩:=ah HA;clear hx wY HCV HA hcx;generalize hy:x.alloc (.cells #[.int .u8 K] 5)=y at *;refine tk [4,8,12,16,20,24,28,29] ?_;iterate 8 (refine iO (λK hK=>?_);go_simp;refine hK _ ?_;clear hK K)
 refine jf ?_;refine dS Aab (λz hz=>?_);have uy:=Hq (Ge.trans jI hz);clear hz jI hcv a1 a2 a3 a4 a5 a6;go_simp;go_wp2_with fail;go_ret;exact⟨rfl,uy⟩):P:=h
theorem arp.Ado(h:P:=by
 obtain⟨a1,a2,a3,a4⟩:=ah HA;clear hx wY HCV HA hcx;generalize hy:x.alloc (.cells #[.int .u8 K] 5)=y at *;refine tk [4,8,12,16,21,22] ?_;iterate 6 (refine iO (λK hK=>?_);go_simp;refine hK _ ?_;clear hK K)
 refine jf ?_;refine dS Aab (λz hz=>?_);have uy:=Hq (Ge.trans jI hz);clear hz jI hcv a1 a2 a3 a4;go_simp;go_wp2_with fail;go_ret;exact⟨rfl,uy⟩):P:=h
theorem axc(h:P:=by
 clear h hc;obtain⟨⟨p0,p1,p2,p3,p4,p5,p6,p7,p8,p9,oD⟩,_⟩:=aJ Sz;have hpl:=ay Sz;go_upto_region 3 with fail;have z1:=aEL p1;have z2:=aEL p2;have z3:=aEL p3;clear p0 p1 p2 p3 p4 p5 p6 p7 p8 p9 oD;refine rg 9 Ge 10 ?_;refine tk [0,1,2,3,5,6] ?_;iterate 6 (refine iO (λK hK=>?_);go_simp;refine hK _ ?_;clear hK K)
 refine jf ?_;clear z1 z2 z3;exact AdX):P:=h
theorem arq.AdX(h:P:=by
 refine zq 4 8 rfl rfl Aab Aad Aad (λx hx=>?c1) (λx hx=>?c2)
 case' c1=>
  go_simp
  refine(clone k x Aaa).mono ?_
  rintro e y ⟨rfl,hby⟩
  refine⟨hby,?_⟩
  have HY:=Hq (Ge.trans hx hby)
  clear hx hby
  refine tk [7] ?_
  (refine iO (λK hK=>?_);go_simp;refine hK _ ?_;clear hK K)
  refine jf ?_
  refine dG 8 rfl Aab Aad (λx2 hx2=>?_)
  go_simp
  refine⟨au x2 _,?_⟩
  have hgl:z.heap.size<=x2.heap.size:=(Ge.trans HY hx2).size
  have Hw:=Hq (aEK x2 (.cells (gT 0 ⟨#[]⟩ 0 0) 148))
  have vT:=Hq (Ge.trans (Ge.trans HY hx2) (au x2 (.cells (gT 0 ⟨#[]⟩ 0 0) 148)))
  clear hx2 HY
  generalize x2.alloc (.cells (gT 0 ⟨#[]⟩ 0 0) 148)=y2 at *
  generalize x2.heap.size=g at *
  refine aU Aab (λz2 hz2=>?_)
  have kS:=Hq (aj Hw hz2)
  have eT:=Hq (Ge.trans vT hz2)
  clear hz2 Hw vT
  have D6:=ay kS
  obtain⟨g0,g1,g2,g3⟩:=iD kS
  have f0:=aC kS 0
  have f1:=aC kS 1
  have f2:=aC kS 2
  have f3:=aC kS 3
  refine an 9 ?_
  go_simp
  refine ad ?_
  go_simp
  go_upto_region 4 with fail
  refine wp_at (λW hW=>?_)
  have Vn:Hid (W.heap[g]?=some (.cells (gT no k nn 0) 148 (0,0))):=Abu
  have iK:Hid (aH z W):=Abv
  clear hW kS eT D6 g0 g1 g2 g3 f0 f1 f2 f3
 case' c2=>
  go_simp
  refine⟨au x _,?_⟩
  have hgl:z.heap.size<=x.heap.size:=hx.size
  have Hw:=Hq (aEK x (.cells (gT 0 ⟨#[]⟩ 0 0) 148))
  have vT:=Hq (Ge.trans hx (au x (.cells (gT 0 ⟨#[]⟩ 0 0) 148)))
  clear hx
  generalize x.alloc (.cells (gT 0 ⟨#[]⟩ 0 0) 148)=y2 at *
  generalize x.heap.size=g at *
  refine dG 4 rfl Aab Aad (λx2 hx2=>?_)
  go_simp
  refine(clone k x2 Aaa).mono ?_
  rintro e y3 ⟨rfl,hby⟩
  refine⟨hby,?_⟩
  have HGC:=Hq (aj Hw (Ge.trans hx2 hby))
  have Z4:=Hq (Ge.trans vT (Ge.trans hx2 hby))
  clear hx2 hby Hw vT
  refine tk [7] ?_
  (refine iO (λK hK=>?_);go_simp;refine hK _ ?_;clear hK K)
  refine jf ?_
  refine aU Aab (λz2 hz2=>?_)
  have kS:=Hq (aj HGC hz2)
  have eT:=Hq (Ge.trans Z4 hz2)
  clear hz2 HGC Z4
  have D6:=ay kS
  obtain⟨g0,g1,g2,g3⟩:=iD kS
  have f0:=aC kS 0
  have f1:=aC kS 1
  have f2:=aC kS 2
  have f3:=aC kS 3
  refine an 9 ?_
  go_simp
  refine ad ?_
  go_simp
  go_upto_region 4 with fail
  refine wp_at (λW hW=>?_)
  have Vn:Hid (W.heap[g]?=some (.cells (gT no k nn 0) 148 (0,0))):=Abu
  have iK:Hid (aH z W):=Abv
  clear hW kS eT D6 g0 g1 g2 g3 f0 f1 f2 f3
 all_goals
  have HWW:=Hq (HZ.step iK)
  have H6:=Hq (aj Sz iK)
  clear HZ Sz iK
  obtain⟨⟨p0,p1,p2,p3,p4,p5,p6,p7,p8,p9,oD⟩,_⟩:=aJ H6
  have hpw:=ay H6
  go_wp2_with fail
  refine(xU W HWW).mono ?_
  rintro e w1 ⟨rfl,hb1⟩
  have HW2:=Hq (HWW.step hb1)
  have HG2:=Hq (aj Vn hb1)
  clear hb1 xU p0 p1 p2 p3 p4 p5 p6 p7 p8 p9 oD HWW H6 Vn
  go_upto_region 5 with fail
  refine wp_at (λV hV=>?_)
  obtain rfl:=hV
  obtain⟨g6,hAr,aDU,aDP,⟨q0,q1,q2,q3⟩,_⟩:=HW2.reqRow i hil
  obtain⟨d0,d1,d2,d3,d4,d5,d6,d7,d8,d9⟩:=jN HW2.blk
  rw [hAr] at d8
  obtain⟨s0,s1,s2,s3⟩:=iD HG2
  have hw2:=ay HW2.blk
  have hg2:=ay HG2
  have aCl:(i:Int) < (n.reqs.length:Int):=Aaa
  generalize n.reqs[i]=lm at *
  obtain⟨ln,lk,lx,ls⟩:=lm
  dsimp only at q0 q1 q2 q3 afj HSQ
  subst afj
  have heq:=aBV ln lk k lx nn ls 0
  have hB:=ah HSQ
  generalize (lk.toList == k.toList&&decide (lx=nn)&&decide (ls=0))=B at *
  subst hB
  have y8:=aEL d8
  have x0:=aEL q0
  have x1:=aEL q1
  have x2:=aEL q2
  have x3:=aEL q3
  have v0:=aEL s0
  have v1:=aEL s1
  have v2:=aEL s2
  have v3:=aEL s3
  clear d0 d1 d2 d3 d4 d5 d6 d7 d8 d9 q0 q1 q2 q3 s0 s1 s2 s3
  refine I9 13 ?_
  refine tk [0,1,2,3,4,5,6,7,8,9,10,11,12] ?_
  iterate 13 (refine iO (λK hK=>?_);go_simp;refine hK _ ?_;clear hK K)
  refine jf ?_
  refine dS Aab (λV hV=>?_)
  have HW3:=Hq (HW2.step hV)
  clear hV HW2 HG2 y8 x0 x1 x2 x3 v0 v1 v2 v3 heq
  go_simp
  cases SQ
  all_goals
   go_wp2_with fail
   go_ret
   rw [ah HAD]
   exact⟨rfl,A,G,c,HW3⟩):P:=h
theorem ars.AdX(h:P:=by
 refine zq 4 8 rfl rfl Aab Aad Aad (λx hx=>?c1) (λx hx=>?c2)
 case' c1=>
  go_simp
  refine(clone k x Aaa).mono ?_
  rintro e y ⟨rfl,hby⟩
  refine⟨hby,?_⟩
  have HY:=Hq (Ge.trans hx hby)
  clear hx hby
  refine tk [7] ?_
  (refine iO (λK hK=>?_);go_simp;refine hK _ ?_;clear hK K)
  refine jf ?_
  refine dG 8 rfl Aab Aad (λx2 hx2=>?_)
  go_simp
  refine⟨au x2 _,?_⟩
  have hgl:z.heap.size<=x2.heap.size:=(Ge.trans HY hx2).size
  have Hw:=Hq (aEK x2 (.cells (gT 0 ⟨#[]⟩ 0 0) 148))
  have vT:=Hq (Ge.trans (Ge.trans HY hx2) (au x2 (.cells (gT 0 ⟨#[]⟩ 0 0) 148)))
  clear hx2 HY
  generalize x2.alloc (.cells (gT 0 ⟨#[]⟩ 0 0) 148)=y2 at *
  generalize x2.heap.size=g at *
  refine aU Aab (λz2 hz2=>?_)
  have kS:=Hq (aj Hw hz2)
  have eT:=Hq (Ge.trans vT hz2)
  clear hz2 Hw vT
  have D6:=ay kS
  obtain⟨g0,g1,g2,g3⟩:=iD kS
  have f0:=aC kS 0
  have f1:=aC kS 1
  have f2:=aC kS 2
  have f3:=aC kS 3
  refine an 9 ?_
  go_simp
  refine ad ?_
  go_simp
  go_upto_region 4 with fail
  refine wp_at (λW hW=>?_)
  have Vn:Hid (W.heap[g]?=some (.cells (gT no k nn 0) 148 (0,0))):=Abu
  have iK:Hid (aH z W):=Abv
  clear hW kS eT D6 g0 g1 g2 g3 f0 f1 f2 f3
 case' c2=>
  go_simp
  refine⟨au x _,?_⟩
  have hgl:z.heap.size<=x.heap.size:=hx.size
  have Hw:=Hq (aEK x (.cells (gT 0 ⟨#[]⟩ 0 0) 148))
  have vT:=Hq (Ge.trans hx (au x (.cells (gT 0 ⟨#[]⟩ 0 0) 148)))
  clear hx
  generalize x.alloc (.cells (gT 0 ⟨#[]⟩ 0 0) 148)=y2 at *
  generalize x.heap.size=g at *
  refine dG 4 rfl Aab Aad (λx2 hx2=>?_)
  go_simp
  refine(clone k x2 Aaa).mono ?_
  rintro e y3 ⟨rfl,hby⟩
  refine⟨hby,?_⟩
  have HGC:=Hq (aj Hw (Ge.trans hx2 hby))
  have Z4:=Hq (Ge.trans vT (Ge.trans hx2 hby))
  clear hx2 hby Hw vT
  refine tk [7] ?_
  (refine iO (λK hK=>?_);go_simp;refine hK _ ?_;clear hK K)
  refine jf ?_
  refine aU Aab (λz2 hz2=>?_)
  have kS:=Hq (aj HGC hz2)
  have eT:=Hq (Ge.trans Z4 hz2)
  clear hz2 HGC Z4
  have D6:=ay kS
  obtain⟨g0,g1,g2,g3⟩:=iD kS
  have f0:=aC kS 0
  have f1:=aC kS 1
  have f2:=aC kS 2
  have f3:=aC kS 3
  refine an 9 ?_
  go_simp
  refine ad ?_
  go_simp
  go_upto_region 4 with fail
  refine wp_at (λW hW=>?_)
  have Vn:Hid (W.heap[g]?=some (.cells (gT no k nn 0) 148 (0,0))):=Abu
  have iK:Hid (aH z W):=Abv
  clear hW kS eT D6 g0 g1 g2 g3 f0 f1 f2 f3
 all_goals
  have HWW:=Hq ((HZ.recol (c':=newC z.heap.size 9 c) (λx hx=>fC hx)).step iK)
  have hcg:newC z.heap.size 9 c g=9:=aX hgl
  have H6:=Hq (aj Sz iK)
  have hgw:=ay Vn
  have aCj:g≠wb:=by have:=ay HZ.blk;omega
  clear HZ Sz iK
  obtain⟨⟨p0,p1,p2,p3,p4,p5,p6,p7,p8,p9,oD⟩,_⟩:=aJ H6
  have hpw:=ay H6
  go_wp2_with fail
  refine(xU W _ HWW).mono ?_
  rintro e w1 ⟨rfl,hb1⟩
  have HW2:=Hq (HWW.step hb1)
  have qY:=Hq (aj H6 hb1)
  have HG2:=Hq (aj Vn hb1)
  clear hb1 xU p0 p1 p2 p3 p4 p5 p6 p7 p8 p9 oD HWW H6 Vn hgw
  go_upto_region 5 with fail
  refine wp_at (λV hV=>?_)
  obtain rfl:=hV
  refine I9 13 ?_
  refine tk [0,1,2,3,4,5,6,7,8,9,10,11,12] ?_
  iterate 13 (refine iO (λK hK=>?_);go_simp;refine hK _ ?_;clear hK K)
  refine jf ?_
  refine dS Aab (λV hV=>?_)
  have HW3:=Hq (HW2.step hV)
  have Sy:=Hq (aj qY hV)
  have Ii:=Hq (aj HG2 hV)
  clear hV HW2 qY HG2
  obtain⟨c0,c1,c2,c3,c4,c5,c6,c7,c8,c9⟩:=jN HW3.blk
  obtain⟨⟨p0,p1,p2,p3,p4,p5,p6,p7,p8,p9,oD⟩,_⟩:=aJ Sy
  have hw3:=ay HW3.blk
  have hp3:=ay Sy
  go_simp
  go_upto_region 10 with fail
  have y4:=aEL c4
  have z2:=aEL p2
  have z3:=aEL p3
  clear c0 c1 c2 c3 c4 c5 c6 c7 c8 c9 p0 p1 p2 p3 p4 p5 p6 p7 p8 p9 oD
  refine rg 13 Ge 15 ?_
  refine tk [0,1,2,3,4,5,6,7,8,9] ?_
  iterate 10 (refine iO (λK hK=>?_);go_simp;refine hK _ ?_;clear hK K)
  refine jf ?_
  clear y4 z2 z3
  refine dG 10 rfl Aab Aad (λx hx=>?_)
  go_simp
  have HX:=Hq (HW3.step hx)
  refine(Sd x _ HX).mono ?_
  rintro e y ⟨a,cp,g5,hg5,rfl,hp,hby⟩
  refine⟨hby,?_⟩
  have hgx:g < x.heap.size:=aEU (ay Ii) hx.size
  have HGX:=Hq (aj Ii (Ge.trans hx hby))
  have HST:=Hq (λu (hu:Ge y u)=>Xh (cp:=cp) HX (hby.trans (hu.mono hby.size)) hg5 (hp.below hu))
  clear hby hg5 hp Sd hx Ii Sy
  refine tk [11,12] ?_
  iterate 2 (refine iO (λK hK=>?_);go_simp;refine hK _ ?_;clear hK K)
  refine jf ?_
  refine aU Aab (λu hu=>?_)
  refine an 13 ?_
  go_simp
  refine(HST u hu).mono ?_
  rintro e z9 ⟨rfl,A',G',c',hZ9,WE,LZ⟩
  have hc9:c' g=9:=(LZ g hgx).trans hcg
  have HZ9:=Hq hZ9
  have HG9:=Hq (WE g _ aCj (aj HGX hu))
  clear hZ9 HST hu WE HGX HX HW3 LZ hcg hgx
  obtain⟨rl,rb⟩:=r
  dsimp only at HZ9 HAD HRL ⊢
  refine an 14 ?_
  go_simp
  refine ad ?_
  go_simp
  have h9l:=ay HG9
  obtain⟨s0,s1,s2,s3⟩:=iD HG9
  have sf3:=aC HG9 3
  cases rb
  .rw [aEX Aac] at HZ9;have hrl:=ah HRL rfl;subst hrl;rw [aEX Aac] at HAD;have amN:=Hq (HZ9.kc (k:=9) (KC.set (i:=3) (v:= .int .i64 1) hc9) Aaa);have al5:=Hq (azH (u:= .int .i64 1) HG9);clear HZ9;go_upto_region 12 with fail;refine wp_at (λY hY=>?_);have aAm:Hid (WK w0 Y wb n A' G' c' v L):=by rw [hY];exact amN
   have al6:Hid (Y.heap[g]?=some (.cells (gT no k nn 1) 148 (0,0))):=by rw [hY];exact al5
   clear hY amN al5 HG9 s0 s1 s2 s3 sf3 h9l;have h9l:=ay al6;obtain⟨s0,s1,s2,s3⟩:=iD al6;have HKP:=Hq (adU w0 Y wb n A' G' c' v L ⟨no,k,nn,1⟩ i hil hlen aAm);rw [ah HKN] at HKP;exact ahP
  .rw [aE7 rfl] at HZ9;rw [aE7 rfl] at HAD;have HKP:=Hq (adU w0 z9 wb (setPu n rl) A' G' c' v L ⟨no,k,nn,0⟩ i hil hlen HZ9);have hki:Dh (setPu n rl) ⟨no,k,nn,0⟩ i=rJ (setPu n rl) ⟨no,k,nn,0⟩:=ah HKI rl 0;rw [hki] at HKP;clear hki;exact ahP):P:=h
theorem axd(h:P:=by
 open awl in exact ahw):P:=h
theorem aru.AeC(h:P:=by
 exact axH):P:=h
theorem arv.AeC(h:P:=by
 open auy in exact OM):P:=h
theorem axe(h:P:=by
 generalize DX s=RES at *;generalize jV s=OK at *;generalize vB s (gG s 0)=N1 at *;generalize vB s (gG s 1)=N2 at *;generalize vB s (gG s 2)=N3 at *;generalize vB s (gG s 3)=N4 at *;generalize vB s (iZ s (gG s 4))=N5 at *;generalize j6 s (gG s 4)=TX at *;generalize jX s (iZ s (gG s 4))=E6 at *;generalize iZ s (gG s 4)=E5 at *;generalize gG s 4=E4 at *;exact Ac3):P:=h
theorem arw.Ac3(h:P:=by
 go_in
 go_wp2_with fail;refine(HN _).mono ?_;rintro e w1 ⟨g,cap,rfl,hg1,hc1,hb1⟩;have hR1:=aI (aEK w _) hb1;have hB1:=(au w _).trans (hb1.mono Aac);have hC1:=Hq hc1;clear hb1 hc1;go_wp2_with fail;refine(HT _).mono ?_;rintro e w2 ⟨rfl,hb2⟩;have hR2:=aI hR1 hb2;have hB2:=hB1.trans (hb2.mono hB1.size);have hg2:=aEU hg1 hb2.size;have hC2:=Hq (show w2.cell? ⟨g,0,none⟩=some (.int .i64 N1)/\w2.cell? ⟨g,1,none⟩=some (.int .i64 N2)/\w2.cell? ⟨g,2,none⟩=some (.int .i64 N3)/\w2.cell? ⟨g,3,none⟩=some (.int .i64 N4) by simp only[(fE hb2).1 g _ hg1];exact hC1);clear hb2 hR1 hB1 hg1 hC1;go_wp2_with fail;refine(HG _).mono ?_;rintro e w3 ⟨rfl,hb3⟩;have hR3:=aI hR2 hb3;have hB3:=hB2.trans (hb3.mono hB2.size);have hg3:=aEU hg2 hb3.size;have hC3:w3.cell? ⟨g,0,none⟩=some (.int .i64 N1)/\w3.cell? ⟨g,1,none⟩=some (.int .i64 N2)/\w3.cell? ⟨g,2,none⟩=some (.int .i64 N3)/\w3.cell? ⟨g,3,none⟩=some (.int .i64 N4):=by simp only[(fE hb3).1 g _ hg2];exact hC2
 obtain⟨c0,c1,c2,c3⟩:=hC3;clear hb3 hR2 hB2 hg2 hC2;have HR3:=Hq hR3;have HB3:=Hq hB3;clear hR3 hB3;open asJ in exact VN):P:=h
theorem arx.Ac3(h:P:=by
 generalize gG s 3=E3 at *;generalize gG s 2=E2 at *;generalize gG s 1=E1 at *;rw [ez] at zI;clear ez hs;have HH:=Hq hH;clear hH;go_in
 go_upto_region 4 with fail;refine wp_at (λV0 hV=>?_)
 have hM0:V0.heap[w.heap.size+1]?=some (.cells (bQ (s[0].toNat:Int) 0 0 0 0 ⟨#[]⟩ 0) 70 (0,0)):=by
  rw [hV];have h:=aEK (w.alloc (.cells (bQ 0 0 0 0 0 ⟨#[]⟩ 0) 70)) (.cells (bQ (s[0].toNat:Int) 0 0 0 0 ⟨#[]⟩ 0) 70);rwa [show(w.alloc (.cells (bQ 0 0 0 0 0 ⟨#[]⟩ 0) 70)).heap.size=w.heap.size+1 by simp] at h
 have hR0:V0.heap[w.heap.size]?=some (.cells (bQ 0 0 0 0 0 ⟨#[]⟩ 0) 70 (0,0)):=by rw [hV,aEZ _ _ _ Aac];exact aEK w _
 have hB0:aH w V0:=by rw [hV];exact((aEY _ _).alloc (aEM _) _).alloc Aac _
 clear hV hw64 hb0;have HM0:=Hq hM0;have Vu:=Hq hR0;have HB0:=Hq hB0;clear hM0 hR0 hB0;go_wp2_with fail;refine(zI _ (HH.below HB0)).mono ?_;rintro e x1 ⟨rfl,hb1⟩;have gM1:=aI HM0 hb1;have gR1:=aI Vu hb1;have gB1:=HB0.trans (hb1.mono HB0.size);obtain⟨⟨c0,c1,c2,c3,c4,c5,c6⟩,f0,f1,f2,f3,f4,f5,f6⟩:=eD gM1;have hz1:=cK gM1;have GM1:=Hq gM1;have GR1:=Hq gR1;have GB1:=Hq gB1;clear hb1 HM0 Vu HB0 gM1 gR1 gB1 zI;go_upto_region 5 with fail;refine wp_at (λV1 hV=>?_);have hM1:V1.heap[w.heap.size+1]?=some (.cells (bQ (s[0].toNat:Int) N1 0 0 0 ⟨#[]⟩ 0) 70 (0,0)):=by rw [hV];exact blk_set GM1 1 (.int .i64 N1)
 have hR1:V1.heap[w.heap.size]?=some (.cells (bQ 0 0 0 0 0 ⟨#[]⟩ 0) 70 (0,0)):=by rw [hV];exact one_other GR1 Aaa
 have hB1:aH w V1:=by rw [hV];exact GB1.setCell (p:=⟨w.heap.size+1,1,none⟩) (Nat.le_succ _) (.int .i64 N1)
 clear hV GM1 GR1 GB1 c0 c1 c2 c3 c4 c5 c6 f0 f1 f2 f3 f4 f5 f6 hz1;have Xu:=Hq hM1;have HR1:=Hq hR1;have HB1:=Hq hB1;clear hM1 hR1 hB1;go_wp2_with fail;refine(HG2 _ (HH.below HB1)).mono ?_;rintro e x2 ⟨rfl,hb2⟩;have gM2:=aI Xu hb2;have gR2:=aI HR1 hb2;have gB2:=HB1.trans (hb2.mono HB1.size);obtain⟨⟨c0,c1,c2,c3,c4,c5,c6⟩,f0,f1,f2,f3,f4,f5,f6⟩:=eD gM2;have hz2:=cK gM2;have GM2:=Hq gM2;have GR2:=Hq gR2;have GB2:=Hq gB2;clear hb2 Xu HR1 HB1 gM2 gR2 gB2 HG2;go_upto_region 6 with fail;refine wp_at (λV2 hV=>?_);have hM2:V2.heap[w.heap.size+1]?=some (.cells (bQ (s[0].toNat:Int) N1 N2 0 0 ⟨#[]⟩ 0) 70 (0,0)):=by rw [hV];exact blk_set GM2 2 (.int .i64 N2)
 have hR2:V2.heap[w.heap.size]?=some (.cells (bQ 0 0 0 0 0 ⟨#[]⟩ 0) 70 (0,0)):=by rw [hV];exact one_other GR2 Aaa
 have hB2:aH w V2:=by rw [hV];exact GB2.setCell (p:=⟨w.heap.size+1,2,none⟩) (Nat.le_succ _) (.int .i64 N2)
 clear hV GM2 GR2 GB2 c0 c1 c2 c3 c4 c5 c6 f0 f1 f2 f3 f4 f5 f6 hz2;have Vq:=Hq hM2;have HR2:=Hq hR2;have HB2:=Hq hB2;clear hM2 hR2 hB2;go_wp2_with fail;refine(Ii _ (HH.below HB2)).mono ?_;rintro e x3 ⟨rfl,hb3⟩;have gM3:=aI Vq hb3;have gR3:=aI HR2 hb3;have gB3:=HB2.trans (hb3.mono HB2.size);obtain⟨⟨c0,c1,c2,c3,c4,c5,c6⟩,f0,f1,f2,f3,f4,f5,f6⟩:=eD gM3;have hz3:=cK gM3;have GM3:=Hq gM3;have GR3:=Hq gR3;have GB3:=Hq gB3;clear hb3 Vq HR2 HB2 gM3 gR3 gB3 Ii;go_upto_region 7 with fail;refine wp_at (λV3 hV=>?_);have hM3:V3.heap[w.heap.size+1]?=some (.cells (bQ (s[0].toNat:Int) N1 N2 N3 0 ⟨#[]⟩ 0) 70 (0,0)):=by rw [hV];exact blk_set GM3 3 (.int .i64 N3)
 have hR3:V3.heap[w.heap.size]?=some (.cells (bQ 0 0 0 0 0 ⟨#[]⟩ 0) 70 (0,0)):=by rw [hV];exact one_other GR3 Aaa
 have hB3:aH w V3:=by rw [hV];exact GB3.setCell (p:=⟨w.heap.size+1,3,none⟩) (Nat.le_succ _) (.int .i64 N3)
 clear hV GM3 GR3 GB3 c0 c1 c2 c3 c4 c5 c6 f0 f1 f2 f3 f4 f5 f6 hz3;have HM3:=Hq hM3;have HR3:=Hq hR3;have HB3:=Hq hB3;clear hM3 hR3 hB3;go_wp2_with fail;refine(HG4 _ (HH.below HB3)).mono ?_;rintro e x4 ⟨rfl,hb4⟩;have gM4:=aI HM3 hb4;have gR4:=aI HR3 hb4;have gB4:=HB3.trans (hb4.mono HB3.size);obtain⟨⟨c0,c1,c2,c3,c4,c5,c6⟩,f0,f1,f2,f3,f4,f5,f6⟩:=eD gM4;have BF:=cK gM4;have GM4:=Hq gM4;have GR4:=Hq gR4;have GB4:=Hq gB4;clear hb4 HM3 HR3 HB3 gM4 gR4 gB4 HG4;go_upto_region 8 with fail;refine wp_at (λV4 hV=>?_);have hM4:V4.heap[w.heap.size+1]?=some (.cells (bQ (s[0].toNat:Int) N1 N2 N3 N4 ⟨#[]⟩ 0) 70 (0,0)):=by rw [hV];exact blk_set GM4 4 (.int .i64 N4)
 have hR4:V4.heap[w.heap.size]?=some (.cells (bQ 0 0 0 0 0 ⟨#[]⟩ 0) 70 (0,0)):=by rw [hV];exact one_other GR4 Aaa
 have hB4:aH w V4:=by rw [hV];exact GB4.setCell (p:=⟨w.heap.size+1,4,none⟩) (Nat.le_succ _) (.int .i64 N4)
 clear hV GM4 GR4 GB4 c0 c1 c2 c3 c4 c5 c6 f0 f1 f2 f3 f4 f5 f6 BF;have HM4:=Hq hM4;have HR4:=Hq hR4;have mQ:=Hq hB4;clear hM4 hR4 hB4;go_wp2_with fail;refine(uo _ (HH.below mQ)).mono ?_;rintro e x5 ⟨rfl,hb5⟩;have gM5:=aI HM4 hb5;have gR5:=aI HR4 hb5;have gB5:=mQ.trans (hb5.mono mQ.size);obtain⟨⟨c0,c1,c2,c3,c4,c5,c6⟩,f0,f1,f2,f3,f4,f5,f6⟩:=eD gM5;have hz5:=cK gM5;have GM5:=Hq gM5;have GR5:=Hq gR5;have GB5:=Hq gB5;clear hb5 HM4 HR4 mQ gM5 gR5 gB5 uo;go_upto_region 9 with fail;refine wp_at (λV5 hV=>?_);have hM5:V5.heap[w.heap.size+1]?=some (.cells (bQ (s[0].toNat:Int) N1 N2 N3 N4 TX 0) 70 (0,0)):=by rw [hV];exact blk_set GM5 5 (.string TX)
 have Ww:V5.heap[w.heap.size]?=some (.cells (bQ 0 0 0 0 0 ⟨#[]⟩ 0) 70 (0,0)):=by rw [hV];exact one_other GR5 Aaa
 have hB5:aH w V5:=by rw [hV];exact GB5.setCell (p:=⟨w.heap.size+1,5,none⟩) (Nat.le_succ _) (.string TX)
 clear hV GM5 GR5 GB5 c0 c1 c2 c3 c4 c5 c6 f0 f1 f2 f3 f4 f5 f6 hz5;have HM5:=Hq hM5;have XC:=Hq Ww;have gQ:=Hq hB5;clear hM5 Ww hB5;go_wp2_with fail;refine(HG6 _ (HH.below gQ)).mono ?_;rintro e x6 ⟨rfl,hb6⟩;have gM6:=aI HM5 hb6;have gR6:=aI XC hb6;have gB6:=gQ.trans (hb6.mono gQ.size);obtain⟨⟨c0,c1,c2,c3,c4,c5,c6⟩,f0,f1,f2,f3,f4,f5,f6⟩:=eD gM6;have hz6:=cK gM6;have GM6:=Hq gM6;have GR6:=Hq gR6;have GB6:=Hq gB6;clear hb6 HM5 XC gQ gM6 gR6 gB6 HG6;go_upto_region 10 with fail;refine wp_at (λV6 hV=>?_);have hM6:V6.heap[w.heap.size+1]?=some (.cells (bQ (s[0].toNat:Int) N1 N2 N3 N4 TX N5) 70 (0,0)):=by rw [hV];exact blk_set GM6 6 (.int .i64 N5)
 have hR6:V6.heap[w.heap.size]?=some (.cells (bQ 0 0 0 0 0 ⟨#[]⟩ 0) 70 (0,0)):=by rw [hV];exact one_other GR6 Aaa
 have hB6:aH w V6:=by rw [hV];exact GB6.setCell (p:=⟨w.heap.size+1,6,none⟩) (Nat.le_succ _) (.int .i64 N5)
 clear hV GM6 GR6 GB6 c0 c1 c2 c3 c4 c5 c6 f0 f1 f2 f3 f4 f5 f6 hz6;have hzM:=cK hM6;have hzR:=cK hR6;by_cases hE:E6=(s.size:Int)
 case' neg=>
  have hO:OK=false:=by rw [ah HO,aEN hE];rfl
  have xX:=Hq (HZ hO)
  have hq:(E6 != (s.size:Int))=true:=by simpa using hE
  obtain⟨⟨d0,d1,d2,d3,d4,d5,d6⟩,f0,f1,f2,f3,f4,f5,f6⟩:=eD hR6
  have HR:=Hq hR6
  have HB:=Hq hB6
  have HE:=Hq hE
  clear hO HO HZ HM HP hM6 hR6 hB6 hE
  open asQ in exact agK
 have hq:(E6 != (s.size:Int))=false:=by simpa using hE
 obtain⟨q0,q1,q2,q3,q4,q5,q6⟩:=uF hM6;have HR:=Hq hR6;have HB:=Hq hB6;have HMB:=Hq hM6;have HE:=Hq hE;clear hR6 hB6 hM6 hE;open arV in exact agx):P:=h
theorem axf(h:P:=by
 have hc:s[k].toNat < 256:=s[k].toNat_lt;have aEe:=hv2 hj;have HU:=Hq (hu2 hj);clear hv2 hu2 hv5 hu;obtain⟨hp0,hp1⟩:=afI s[k].toNat v;exact Aey):P:=h
theorem arz.Aey(h:P:=by
 by_cases hb:128<=s[k].toNat
 .have HR:=Hq (Mth.get_more s k _ m _ _ hlt hj hb HG);clear HG;go_wp2
  go_round
  case rel=>exact⟨_,_,_,k+1,HU,Kr m _ v hm,Aaf,Aaf,Aaf,by have:=ah HK;omega,HR⟩
  case measure=>simp[intOf];omega
 .by_cases hbig:(4000000000:Int) < (m:Int)+(s[k].toNat:Int) % 128*(v:Int)
  .have HR:=Hq (Mth.get_bad s k _ m _ _ hlt hj hb (.inl (QC m _ v hb hbig)) HG);clear HG;exact aeP
  .by_cases hz:(s[k].toNat:Int)<=0
   .by_cases hj0:0 < j
    .have HR:=Hq (Mth.get_bad s k _ m _ _ hlt hj hb (.inr ⟨Aaa,hj0⟩) HG);have hik:i < k:=by have:=ah HK;omega
     clear HG;exact aeP
    .have HR:=Hq (Mth.get_hit s k _ m _ _ hlt hj hb (zf m _ v hb hbig) (.inr Aaa) HG);have hik:k<=i:=by have:=ah HK;omega
     clear HG;go_wp2
     go_ret3
     exact⟨QU HR (QD m _ v hz) (by have:=ah HK;omega),rfl⟩
   .have HR:=Hq (Mth.get_hit s k _ m _ _ hlt hj hb (zf m _ v hb hbig) (.inl Aaa) HG);have hz':0 < (s[k].toNat:Int):=Aaa
    clear HG;go_wp2
    go_ret3
    exact⟨QU HR (QE m _ v hb) (by have:=ah HK;omega),rfl⟩):P:=h
theorem arA.Aey(h:P:=by
 by_cases hb:128<=s[k].toNat
 .have HR:=Hq (Mth.get_more s k _ m _ _ hlt hj hb HG);have HN:=Hq (Zg s i j k m v HK hlt HU0 hb El);clear HG;go_wp2
  go_round
  case rel=>exact⟨_,_,_,k+1,HU,Kr m _ v hm,Aaf,Aaf,Aaf,by have:=ah HK;omega,HN,HR⟩
  case measure=>simp[intOf];omega
 .go_wp2_with fail;generalize hx:((m:Int)+(s[k].toNat:Int) % 128*(v:Int))=x;have hx0:0<=x:=Aaa
  have hx1:x<=34359738368:=Aaa
  have HX:=Hq hx;clear hx hp0 hp1;have hA:(0:Int)<=(k:Int)+1:=Aaa
  have hB:(k:Int)+1<=(s.size:Int):=Aaa
  have hC:(i:Int)<=(k:Int)+1:=Aaa
  have hW:IntKind.i64.wrap ((k:Int)+1)=(k:Int)+1:=IntWalk.i64_in _ ⟨Aaa,Aaa⟩;by_cases hbig:4000000000 < x
  .have HR:=Hq (Mth.get_bad s k _ m _ _ hlt hj hb (.inl (QC m _ v hb (by rw [ah HX];exact hbig))) HG);have hne:(([]:List UInt8) == (s.extract i (k+1)).toList)=false:=Kh (by rw [Ah s i j k (ah HK) hlt];simp);go_region_with (go_at_call 147;refine(vO _ _ (.inr hbig)).mono ?_;rintro e w' ⟨rfl,rfl⟩)
   all_goals
    go_wp2
    go_ret2
    exact⟨get_none HR,(aEY _ _).drew⟩
  .have hsm:x<=4000000000:=Aaa
   have HV:Hid (x.toNat=m+s[k].toNat*v):=by have h1:=QE m s[k].toNat v hb;rw [ah HX] at h1;rw [h1];rfl
   by_cases hbad:s[k].toNat=0/\0 < j
   .have HR:=Hq (Mth.get_bad s k _ m _ _ hlt hj hb (.inr hbad) HG);have hne:(Mth.put x.toNat == (s.extract i (k+1)).toList)=false:=Kh (by rw [ah HV];exact akw s i j k m v HK hlt HU0 hj El hbad.1 hbad.2);clear hbad;go_region_with (go_at_call 147;refine(wU _ _ hx0 hsm).mono ?_;rintro e w' ⟨rfl,hbel⟩)
    all_goals
     go_wp2
     go_ret2
     exact⟨get_none HR,by first|exact hbel|exact((aEY _ _).drew).trans hbel⟩
   .have HR:=Hq (Mth.get_hit s k _ m _ _ hlt hj hb (zf m _ v hb (by rw [ah HX];omega)) Aaa HG);have heq:(Mth.put x.toNat == (s.extract i (k+1)).toList)=true:=XZ (by rw [ah HV];exact ae5 s i j k m v HK hlt HU0 hj hb El (by omega));clear hbad;go_region_with (go_at_call 147;refine(wU _ _ hx0 hsm).mono ?_;rintro e w' ⟨rfl,hbel⟩)
    all_goals
     go_wp2
     go_ret2
     exact⟨get_some HR (by have:=ah HV;omega) (by have:=ah HK;omega),by first|exact hbel|exact((aEY _ _).drew).trans hbel⟩):P:=h
theorem axg(h:P:=by
 have HAT:Hid (∀W'',Out c w W' W''->RM W'' (⟨a_k,(some ⟨gp,0,none⟩),je,(some ⟨G.s,0,none⟩),jq,dz,fJ,dX,dA,dK⟩:bq) (dU n (n.seen.set i ⟨mF,fQ s0 mL,bX s0 mL⟩))):=λW'' ho=>by
  obtain⟨F,hk,hF⟩:=ho
  have hold:=(HNF.kc (k:=9) (KC.keeps hk (λx hx=>HCO x (hF x hx).1 (hF x hx).2)) Aaa)
  have ho:Out c w W' W'':=⟨F,hk,hF⟩
  exact hold.rm
 exact AeD):P:=h
theorem arB.AeD(h:P:=by
 have Lf:Hid (∀W'',Out c w W' W''->GR.At jh 7 W'' (some ⟨W8.heap.size,0,none⟩) []):=λW'' ho j hj=>(by simp at hj)
 have qZ:Hid (Below B w W'):=ad7.trans (fq.below (λx hx=>by have:x=w.heap.size+2:=Aag;omega) (by have h1:=ay zM;omega));have xS:=Hq (Apart.keeps (c:=c) aea (by have h1:=ay zM;omega) fq (λx hx=>by have:x=w.heap.size+2:=Aag;omega));clear e4 fq;exact⟨(⟨a_k,(some ⟨gp,0,none⟩),je,(some ⟨G.s,0,none⟩),jq,dz,fJ,dX,dA,dK⟩:bq),(some ⟨W8.heap.size,0,none⟩),⟨0,by simp[gM,dH,dU]⟩,HAT,Lf,qZ,xS⟩):P:=h
theorem arC.AeD(h:P:=by
 have Lf:Hid (∀W'',Out c w W' W''->GR.At jh 7 W'' (some ⟨ab,0,none⟩) [⟨2,n.id,mF,mI,0,ByteArray.empty,0⟩]):=λW'' ho j hj=>Ti (fq.obj aae (λhm=>Acm)) ho Aaa j hj
 have qZ:Hid (Below B w W'):=ajp.trans (fq.below (λx hx=>by have:x=w.heap.size+2:=Aag;omega) (by have h1:=ay wB;omega));have xS:=Hq (Apart.keeps (c:=c) ajy (by have h1:=ay wB;omega) fq (λx hx=>by have:x=w.heap.size+2:=Aag;omega));clear e4 fq;exact⟨(⟨a_k,(some ⟨gp,0,none⟩),je,(some ⟨G.s,0,none⟩),jq,dz,fJ,dX,dA,dK⟩:bq),(some ⟨ab,0,none⟩),⟨1,by simp[gM,dH,dU]⟩,HAT,Lf,qZ,xS⟩):P:=h
theorem aj8(h:P:=by
 have hwl:=ay h.blk;obtain⟨K,no,k,nn,⟨mK,mF,mT,mI,mL,mk,mN⟩⟩:=o;dsimp only at *;subst hK;have HW0:=Hq h;clear h;go_in
 go_upto_region 2 with fail;refine wp_at (λW hW=>?_);exact AcK):P:=h
theorem arD.AcK(h:P:=by
 obtain⟨_,e2,e3⟩:=fU w (.cells (bJ K no k nn 2 mF mT mI mL mk mN) 73) (.cells (bQ 2 mF mT mI mL mk mN) 70);open apZ in exact aj5):P:=h
theorem arE.AcK(h:P:=by
 obtain⟨_,e2,e3⟩:=fU w (.cells (bJ K no k nn 1 mF mT mI mL mk mN) 73) (.cells (bQ 1 mF mT mI mL mk mN) 70);open ap0 in exact aj5):P:=h
theorem arF.AcK(h:P:=by
 obtain⟨_,e2,e3⟩:=fU w (.cells (bJ K no k nn 0 mF mT mI mL mk mN) 73) (.cells (bQ 0 mF mT mI mL mk mN) 70);open ap1 in exact aj5):P:=h
theorem axh(h:P:=by
 obtain⟨⟨p0,p1,p2,p3,p4,p5,p6,p7,p8,p9,oD⟩,_⟩:=aJ HO;obtain⟨c0,c1,c2,c3,c4,c5,c6,c7,c8⟩:=nine HN;have hol:=ay HO;have hnl:=ay HN;go_wp2_with fail;refine(Ow W0 Ik.at.r).mono ?_;rintro e W1 ⟨rfl,hb1⟩;have mU:=Hq (aj HN hb1);have Xy:=Hq (aj HO hb1);have BM:=Hq (aj HR hb1);have HB1:=Hq (HB0.trans (hb1.mono HB0.size));exact Adq):P:=h
theorem arG.Adq(h:P:=by
 clear hb1 c0 c1 c2 c3 c4 c5 c6 c7 c8 p0 p1 p2 p3 p4 p5 p6 p7 p8 p9 oD hnl hol Ow HN HO HR Ik HB0;obtain⟨⟨p0,p1,p2,p3,p4,p5,p6,p7,p8,p9,oD⟩,_⟩:=aJ Xy;obtain⟨c0,c1,c2,c3,c4,c5,c6,c7,c8⟩:=nine mU;have hol:=ay Xy;have hnl:=ay mU;have hrl:=ay BM;go_upto_region 9 with fail;refine wp_at (λW2 hW2=>?_);have hbw2:=au W1 (.cells (gT no k nn 1) 148);have hq2:=aEK W1 (.cells (gT no k nn 1) 148);rw [<-hW2] at hbw2 hq2;have ku:=Hq (aj mU hbw2);have Ip:=Hq (aj Xy hbw2);have mZ:=Hq (aj BM hbw2);have ajH:=Hq hq2;have HB2:=Hq (HB1.trans (hbw2.mono HB1.size));have hqb:w.heap.size+2 < W1.heap.size:=hrl;clear hW2 hbw2 hq2 c0 c1 c2 c3 c4 c5 c6 c7 c8 p0 p1 p2 p3 p4 p5 p6 p7 p8 p9 oD mU Xy BM HB1 hnl hol hrl;obtain⟨⟨p0,p1,p2,p3,p4,p5,p6,p7,p8,p9,oD⟩,_⟩:=aJ Ip;obtain⟨c0,c1,c2,c3,c4,c5,c6,c7,c8⟩:=nine ku;have hol:=ay Ip;have hnl:=ay ku;have hql:=ay ajH;go_wp2_with fail;refine(Sd W2 (mP.kc (k:=9) (KC.of_below HB2) Aaa).at.p).mono ?_;rintro e W3 ⟨v3,rfl,akU,hrow3,hb3⟩;obtain⟨av,cv,rfl,_⟩:=GR.own_at (enc:=fu) (sz:=4) aP hrow3;have HRW:=Hq (LO.own (en:=fu) hrow3);have sG:=Hq (aj ku hb3);have Lg:=Hq (aj Ip hb3);have qx:=Hq (aj mZ hb3);have XB:=Hq (aj ajH hb3);have HB3:=Hq (HB2.trans (hb3.mono HB2.size));clear hb3 akU hrow3 Sd ku Ip mZ ajH HB2 c0 c1 c2 c3 c4 c5 c6 c7 c8 p0 p1 p2 p3 p4 p5 p6 p7 p8 p9 oD hnl hol;obtain⟨c0,c1,c2,c3,c4,c5,c6,c7,c8⟩:=nine sG;obtain⟨q0,q1,q2,q3⟩:=iD XB;have cf:=aC sG 4;have qf:=aC XB 3;have hnl:=ay sG;have aD6:=ay XB;go_upto_if 71 with fail;have hne1:w.heap.size≠W1.heap.size:=Aaa
 go_cut [5] (λz wx=>z= .int .i64 0/\∃pa pc,wx.heap[w.heap.size]?=some (.cells (vW n.id n.par a_k n.kids.length dz n.next pa PL.length pc je n.out.length dX iU n.seen.length dA n.old (some ⟨gr,0,none⟩) n.reqs.length dK) 39 (0,0))/\wx.heap[W1.heap.size]?=some (.cells (gT no k nn st) 148 (0,0))/\wx.heap[w.heap.size+1]?=some (.cells (bJ K no k nn mK mF mT mI mL mk mN) 73 (0,0))/\wx.heap[w.heap.size+2]?=some (.cells kR 39 (0,0))/\aH w wx/\PD gp n.pu (w.heap.size+3) wx pa pc PL)
 case first=>
  cases ok
  case' false=>
   simp at hPL hst
   subst hPL hst
   go_wp2_with fail
   go_meet
   case rel=>exact⟨rfl,_,_,sG,XB,Lg,qx,HB3,.inr ⟨rfl,rfl⟩⟩
  simp at hPL hst;subst hPL hst;go_wp2_with fail;go_meet
  case rel=>
   have hk:aA [w.heap.size,W1.heap.size] W3 ((W3.setCell ⟨w.heap.size,4,none⟩ (.slice av RL.length cv)).setCell ⟨W1.heap.size,3,none⟩ (.int .i64 0)):=((aA.set _).mono Aac).trans ((aA.set _).mono Aac);exact⟨rfl,_,_,l7 _ hne1 (aN sG 4 _),aN (l7 _ hne1.symm XB) 3 _,hk.obj Lg Aah,hk.obj qx Aah,(HB3.setCell (p:=⟨w.heap.size,4,none⟩) (aEM _) _).setCell (p:=⟨W1.heap.size,3,none⟩) Aah _,.inl ((HRW.keeps hk (λx hx=>Aak)).lower Aaa)⟩
 case rest=>
 obtain⟨rfl,pa,pc,hN4,hQ4,hO4,hR4,hB4,hP4⟩:=hcut;clear c0 c1 c2 c3 c4 c5 c6 c7 c8 q0 q1 q2 q3 cf qf sG Lg qx XB HB3 HRW hPL hst;obtain⟨W4,hW4⟩:∃x:World,x=wc:=⟨_,rfl⟩;subst hW4;have DJ:=Hq hN4;have amn:=Hq hQ4;have ajD:=Hq hO4;have SA:=Hq hR4;have mQ:=Hq hB4;have Sb:=Hq hP4;clear hN4 hQ4 hO4 hR4 hB4 hP4;have HA4:=Hq (mP.kc (k:=9) (KC.of_below mQ) Aaa).at.r;obtain⟨c0,c1,c2,c3,c4,c5,c6,c7,c8⟩:=nine DJ;obtain⟨⟨p0,p1,p2,p3,p4,p5,p6,p7,p8,p9,oD⟩,_⟩:=aJ ajD;have hnl:=ay DJ;have hol:=ay ajD;have hile:=xM n.reqs no;go_upto_block 0 with fail;go_cut [10] from 11 (λi wx=>i= .int .i64 (dW n.reqs no:Nat)/\Ge W4 wx)
 case first=>
  go_wp2_with fail;go_loopw [10] (λi wr=>∃j q:Nat,j<=n.reqs.length/\i= .int .i64 j/\(∀x (hx:x < n.reqs.length),x < j->n.reqs[x].no < no)/\wr=W4.drewN q) (λi _=>n.reqs.length - (intOf i).toNat)
  case atStart=>exact⟨0,0,aE1 _,rfl,λx hx h=>Aaa,rfl⟩
  case round=>
   obtain⟨j,q,hj,rfl,hlo,rfl⟩:=hrel;have HLO:=Hq hlo;clear hlo;by_cases hlt:j < n.reqs.length
   .obtain⟨g',off',e0,hg',y0,_,_,_⟩:=fT.four HA4 j hlt;cases e0
    rw [aFz] at y0
    have HUP:=Hq (fun(h:no<=n.reqs[j].no)=>Ng (l:=n.reqs) (no:=no) H6 (i:=j) hj HLO (λx hx hjx=>by
     rcases Nat.lt_or_eq_of_le hjx with h1|h1
     .have:=aFQ.1 H6 j x hlt hx h1;omega
     .subst h1;exact h))
    have aah:=Hq (fun(h:n.reqs[j].no < no)=>show∀x (hx:x < n.reqs.length),x < j+1->n.reqs[x].no < no from λx hx h2=>by
     by_cases e:x=j
     .subst e;exact h
     .exact HLO x hx Aaa)
    generalize n.reqs[j].no=rn at *;by_cases hcmp:rn < no
    .go_wp2_with fail;go_quiet (fail);go_wp2_with fail;go_roundw
     case rel=>exact⟨j+1,_,Aaa,Aaf,aah hcmp,rfl⟩
     case measure=>simp[intOf];omega
    .have abW:decide (rn < no)=false:=aEN hcmp;have HJ:=Hq (HUP Aaa);exact ah3
   .have hje:j=n.reqs.length:=Aaa
    subst hje;have HJ:=Hq (Ng (l:=n.reqs) (no:=no) H6 (i:=n.reqs.length) (aEM _) HLO (λx hx hjx=>Aaa));have abW:decide ((n.reqs.length:Int) < (n.reqs.length:Int))=false:=Aac
    exact ah3
 case rest=>
  obtain⟨rfl,hge⟩:=hcut;have Io:=Hq (aj DJ hge);have EO:=Hq (aj SA hge);have ael:=Hq (aj amn hge);have gQ:=Hq (mQ.trans (hge.mono mQ.size));have HA5:=Hq (GR.At.below HA4 hge);have JJ:=Hq (Sb.below hge);clear Sb;clear hge c0 c1 c2 c3 c4 c5 c6 c7 c8 p0 p1 p2 p3 p4 p5 p6 p7 p8 p9 oD hnl hol DJ ajD SA amn mQ HA4;obtain⟨c0,c1,c2,c3,c4,c5,c6,c7,c8⟩:=nine Io;obtain⟨q0,q1,q2,q3⟩:=iD ael;have hnl:=ay Io;have Yu:=ay ael;have HIQ:=Hq (show wK n.reqs ⟨no,k,nn,st⟩=n.reqs.take (dW n.reqs no)++⟨no,k,nn,st⟩::n.reqs.drop (dW n.reqs no) from rfl);generalize dW n.reqs no=pos at *;obtain⟨IQ,akG⟩:∃IQ,wK n.reqs ⟨no,k,nn,st⟩=IQ:=⟨_,rfl⟩;rw [akG] at HIQ;have HIN:=Hq akG;clear akG;go_upto_region 16 with fail;go_cut [10] from 11 (λi wx=>i= .int .i64 pos/\∃va vc,(∃g,va=some ⟨g,0,none⟩)/\n.reqs.length+1<=vc/\wx.heap[w.heap.size]?=some (.cells (vW n.id n.par a_k n.kids.length dz n.next pa PL.length pc je n.out.length dX iU n.seen.length dA n.old va (n.reqs.length+1) vc) 39 (0,0))/\wx.heap[w.heap.size+2]?=some (.cells kR 39 (0,0))/\wx.heap[W1.heap.size]?=some (.cells (gT no k nn st) 148 (0,0))/\LO 148 aL 4 (w.heap.size+3) wx va vc IQ/\PD gp n.pu (w.heap.size+3) wx pa pc PL/\aH w wx)
  case first=>
   have hwb:wc.heap.size<=wc.heap.size:=aEM _;have y8:=bZ hnl c8;have z0:=bZ Yu q0;have z1:=bZ Yu q1;have z2:=bZ Yu q2;have z3:=bZ Yu q3;clear c0 c1 c2 c3 c4 c5 c6 c7 c8 q0 q1 q2 q3;have hpc:pos<=dK:=Aaa
   have Lj:=Hq (show fT wc (some ⟨gr,0,none⟩) (n.reqs.take pos) from GR.At.take HA5 pos)
   obtain⟨AD,hAD,hDR⟩:∃AD,(if dK=pos then some (⟨gr,0,none⟩:Addr) else some ⟨gr,pos*4,none⟩)=AD/\fT wc AD (n.reqs.drop pos):=by
    by_cases hcz:dK=pos
    .refine⟨_,rfl,?_⟩;rw [show n.reqs.drop pos=[] by apply aF7;omega];exact GR.at_nil _ _
    .refine⟨_,rfl,?_⟩;rw [aEX hcz];exact GR.At.drop HA5 pos
   have HDR:=Hq hDR;clear hDR;refine rg 15 (RB wc.heap.size) 16 ?_;refine tk [1,2,3,4,6,9,10,11,12] ?_;iterate 9 (refine JD 20 (QS _) (λK hK=>?_);go_simp;first|refine hK _ ?_|(apply Exists.intro;refine⟨λ_=>?_,hK _ ?_⟩;rfl);clear hK K)
   refine jf ?_;clear y8 z0 z1 z2 z3;have hlt1:(n.reqs.take pos).length=pos:=Abk
   have akT:(n.reqs.drop pos).length=n.reqs.length - pos:=by rw [aFt]
   obtain⟨i0,hi,hz0,hz1,hz2⟩:=aFm Aq;have HE:=Hq (show n.reqs.take pos++[(⟨no,k,nn,st⟩:Rq)]++n.reqs.drop pos=IQ by rw [ah HIQ,aFr];rfl);have zL:=Hq (show IQ.length=n.reqs.length+1 by rw [<-ah HE];simp;omega);refine Hr (enc:=aL) (sz:=4) (e:=(⟨no,k,nn,st⟩:Rq)) (i:=i0) (ve:= .agg (gT no k nn st)) 0 5 7 8 13 93 98 100 101 106 99 97 105 aV Aaa (λx u hu=>by simp at hu;rcases hu with rfl|rfl|rfl|rfl<;>rfl) underlying37 hi hz0 hz1 hz2 rfl Lj HDR hlt1 akT Aaa Aae Aae rfl rfl rfl Aab ⟨rfl,rfl,rfl,rfl⟩ ⟨rfl,rfl,rfl,rfl⟩ ⟨rfl,rfl,rfl,rfl⟩ ⟨rfl,rfl,rfl,rfl⟩ ⟨rfl,rfl,rfl,rfl⟩ Aab (H:=λv0 v4 v7 v8 v12 y5 hG hV=>?_);have uo:=Hq hG;rw [ah HE,ah zL] at hV
   obtain⟨g,cvT,rfl,hcv⟩:∃g cv,v12= .slice (some ⟨g,0,none⟩) (n.reqs.length+1) cv/\n.reqs.length+1<=cv:=by
    rcases hV.2 with⟨_,hn⟩|⟨g,cap,_,hv,_,_,hnc,_⟩
    .omega
    .exact⟨g,cap,hv,hnc⟩
   have HV5:=Hq hV;clear hG hV;have aCP:wc.heap.size<=y5.heap.size:=uo.size;refine tk [14] ?_;open ar8 in exact agB
  case rest=>
   clear c0 c1 c2 c3 c4 c5 c6 c7 c8 q0 q1 q2 q3 hnl Yu Io EO ael gQ HA5 JJ;obtain⟨rfl,va,vc,⟨gv,rfl⟩,hvc,hN6,hR6,hQ6,hL6,hP6,hB6⟩:=hcut;have HLQ:=Hq (show IQ.length=n.reqs.length+1 by rw [ah HIQ];simp;omega);have nT:=Hq hN6;have ru:=Hq hR6;have aem:=Hq hQ6;have HL6:=Hq hL6;have HP6:=Hq hP6;have yj:=Hq hB6;clear hN6 hR6 hQ6 hL6 hP6 hB6;rename_i wo _ _ _
   by_cases h30:30 < n.reqs.length+1
   .have HK:=Hq (show rJ (setPu n PL) ⟨no,k,nn,st⟩=eO (oW (setPu n PL) (IQ.headD default).no) IQ.tail by unfold rJ;rw [show((setPu n PL)).reqs=n.reqs from rfl,ah HIN,ah HLQ,aE7 h30])
    obtain⟨IH,IT,hIQ⟩:∃IH IT,IQ=IH::IT:=by
     cases hq:IQ with
     |nil=>have:=ah HLQ;rw [hq] at this;simp at this
     |cons a b=>exact⟨a,b,rfl⟩
    subst hIQ;have hIT:IT.length=n.reqs.length:=by have:=ah HLQ;simp at this;omega
    have y0:wc.cell? ⟨gv,0,none⟩=some (.int .i64 IH.no):=by
     obtain⟨g',off',e0,_,h0,_⟩:=fT.four (HL6.lies aV).1 0 Aac;cases e0
     simpa using h0
    have HTA:=Hq (show fT wc (some ⟨gv,1*4,none⟩) IT from GR.At.drop (HL6.lies aV).1 1);have aCO:=(HL6.lies aV).2 gv 0 rfl;obtain⟨c0,c1,c2,c3,c4,c5,c6,c7,c8⟩:=nine nT;have cf:=aC nT 7;have hnl:=ay nT;have aCb:decide ((30:Int) < ((n.reqs.length+1:Nat):Int))=true:=aEO Aaa;go_upto_region 19 with fail;refine wp_at (λW7 Pv=>?_);have aEf:¬vc=1:=Aaa
    have aEg:1<=vc:=Aaa
    have rU:Hid (W7.heap[w.heap.size]?=some (.cells (vW n.id n.par a_k n.kids.length dz n.next pa PL.length pc je n.out.length dX iU n.seen.length dA IH.no (some ⟨gv,0,none⟩) (n.reqs.length+1) vc) 39 (0,0))):=by rw [Pv];exact aN nT 7 _
    have wB:Hid (W7.heap[w.heap.size+2]?=some (.cells kR 39 (0,0))):=by rw [Pv];exact l7 _ Aaa ru
    have ajI:Hid (W7.heap[W1.heap.size]?=some (.cells (gT no k nn st) 148 (0,0))):=by rw [Pv];exact l7 _ Aaa aem
    have Ht:Hid (aH w W7):=by rw [Pv];exact yj.setCell (p:=⟨w.heap.size,7,none⟩) (aEM _) _
    have amC:Hid (fT W7 (some ⟨gv,1*4,none⟩) IT):=by
     rw [Pv];exact((show zO aL 4 (w.heap.size+3) wc (some ⟨gv,1*4,none⟩) IT from⟨HTA,λg off e=>by cases e;exact aCO⟩).keeps (aA.set _) (λx hx=>Aak)).1
    have HP7:Hid (PD gp n.pu (w.heap.size+3) W7 pa pc PL):=by rw [Pv];exact HP6.keeps (aA.set _) (λx hx=>by simp at hx;omega)
    clear Pv HTA y0 cf c0 c1 c2 c3 c4 c5 c6 c7 c8 hnl nT ru aem yj HL6 HP6;obtain⟨c0,c1,c2,c3,c4,c5,c6,c7,c8⟩:=nine rU;have cf:=aC rU 8;have hnl:=ay rU;obtain⟨i0,hi,hz0,hz1,hz2⟩:=aFm Aq;obtain⟨a8,c8',W8,hrun,PK,IE,⟨g8,rfl⟩,hc8⟩:=run_copy_row (P:=prog) aV Aaa W7 37 148 i0 (.agg (gT 0 ByteArray.empty 0 0)) 40 underlying37 hi hz0 hz1 hz2 rfl (some ⟨gv,1*4,none⟩) IT (vc - 1) amC (nC _) Aaj Aaa;rw [hIT,Nat.one_mul] at hrun;have aam:=Hq hrun;have vQ:=Hq (aj rU IE);have Ir:=Hq (aj wB IE);have amo:=Hq (aj ajI IE);have Z0:=Hq (Ht.trans (IE.mono Ht.size));have HL8:=Hq (LO.own (en:=aL) PK);have hz7:w.heap.size+3<=W7.heap.size:=by have:=ay ajI;omega
    have HP8:=Hq (HP7.below IE);have k8:=(nine vQ).2.2.2.2.2.2.2.2;have kf8:=aC vQ 8;clear hrun IE PK;go_upto_region 20 with(at_builtin;refine fV rfl (.tmp 118) (.tmp 121) 37 rfl _ _ rfl rfl _ _ (aam _) ?_)
    refine wp_at (λW9 hW9=>?_);have DK:Hid (W9.heap[w.heap.size]?=some (.cells (vW n.id n.par a_k n.kids.length dz n.next pa PL.length pc je n.out.length dX iU n.seen.length dA IH.no (some ⟨g8,0,none⟩) n.reqs.length c8') 39 (0,0))):=by rw [hW9];exact aN vQ 8 _
    have zM:Hid (W9.heap[w.heap.size+2]?=some (.cells kR 39 (0,0))):=by rw [hW9];exact l7 _ Aaa Ir
    have amq:Hid (W9.heap[W1.heap.size]?=some (.cells (gT no k nn st) 148 (0,0))):=by rw [hW9];exact l7 _ Aaa amo
    have HB9:Hid (aH w W9):=by rw [hW9];exact Z0.setCell (p:=⟨w.heap.size,8,none⟩) (aEM _) _
    have HL9:Hid (LO 148 aL 4 (w.heap.size+3) W9 (some ⟨g8,0,none⟩) c8' IT):=by rw [hW9];exact((HL8.lower hz7).keeps (aA.set _) (λx hx=>Aak))
    have HP9:Hid (PD gp n.pu (w.heap.size+3) W9 pa pc PL):=by rw [hW9];exact HP8.keeps (aA.set _) (λx hx=>by simp at hx;omega)
    clear hW9 k8 kf8 vQ Ir amo Z0 HL8 rU wB ajI Ht amC aam c0 c1 c2 c3 c4 c5 c6 c7 c8 cf hnl HP8 HP7;have akH:IT.length=n.reqs.length:=hIT;clear hIT;obtain⟨c0,c1,c2,c3,c4,c5,c6,c7,c8⟩:=nine DK;have hnl:=ay DK;have hnr:=ay zM;have hnq:=ay amq;clear c0 c1 c2 c3 c4 c5 c6 c7 c8;refine rg 4 (aA [w.heap.size+2]) 5 ?_;refine nO 0 20 rfl Aab Aab Aab Aab Aab (λ_ _ _ _ h=>h) Aad 39 _ rfl w.heap.size 0 rfl (vW n.id n.par a_k n.kids.length dz n.next pa PL.length pc je n.out.length dX iU n.seen.length dA IH.no (some ⟨g8,0,none⟩) n.reqs.length c8').toList _ (Gh DK) ⟨hnl,Aaa⟩ underlying39 rfl Aab ?_;open asq in exact agF
   .have HK:=Hq (show rJ (setPu n PL) ⟨no,k,nn,st⟩=eO (setPu n PL) IQ by unfold rJ;rw [show((setPu n PL)).reqs=n.reqs from rfl,ah HIN,ah HLQ,aEX h30]);obtain⟨c0,c1,c2,c3,c4,c5,c6,c7,c8⟩:=nine nT;have hnl:=ay nT;have aCb:decide ((30:Int) < ((n.reqs.length+1:Nat):Int))=false:=aEN Aaa;have hIT:IQ.length=n.reqs.length+1:=ah HLQ;clear HLQ;have akH:=Hq hIT;clear hIT;go_upto_region 20 with fail;clear c0 c1 c2 c3 c4 c5 c6 c7 c8 hnl;obtain⟨c0,c1,c2,c3,c4,c5,c6,c7,c8⟩:=nine nT;have hnl:=ay nT;have hnr:=ay ru;have hnq:=ay aem;clear c0 c1 c2 c3 c4 c5 c6 c7 c8;refine rg 4 (aA [w.heap.size+2]) 5 ?_;refine nO 0 20 rfl Aab Aab Aab Aab Aab (λ_ _ _ _ h=>h) Aad 39 _ rfl w.heap.size 0 rfl (vW n.id n.par a_k n.kids.length dz n.next pa PL.length pc je n.out.length dX iU n.seen.length dA n.old (some ⟨gv,0,none⟩) (n.reqs.length+1) vc).toList _ (Gh nT) ⟨hnl,Aaa⟩ underlying39 rfl Aab ?_;open aso in exact agF):P:=h
theorem arH.Adq(h:P:=by
 have yu:=Hq (Ik.kc (k:=9) (KC.of_below hb1) Aaa);clear hb1 c0 c1 c2 c3 c4 c5 c6 c7 c8 p0 p1 p2 p3 p4 p5 p6 p7 p8 p9 oD hnl hol Ow HN HO HR Ik HB0;obtain⟨g,off,e0,hg,q0,q1,q2,q3⟩:=fT.four yu.at.r i hi;rw [ah amr] at q0 q1 q2 q3;clear amr;obtain⟨rno,rk,rn,rs⟩:=rq;exact Kk6):P:=h
theorem agw(h:P:=by
 have y0:=(hcell 0 Aaa).1;rw [Nat.mul_one,aGw] at y0;simp only[List.getElem?_cons_zero] at y0;clear hcell;exact AcT):P:=h
theorem arI.AcT(h:P:=by
 subst eb;have hlen:=Yw s0 mL k;by_cases hge:fQ s0 mL<=s0.ids[k]
 .have HY:=Hq (Yx s0 mL k hlt hge);generalize s0.ids[k]=x at *;have hd:decide (fQ s0 mL<=x)=true:=aEO hge;go_wp2_with fail;go_quiet (fail);go_wp2_with (at_builtin;refine aFG _ rfl _ _ 22 rfl W3.heap.size 3 i0 (.int .i64 0) 1 8 underlying22 hi0 hz0 hz1' hz2 rfl Aae _ _ _ rfl (Ec hown) ⟨wr.heap.size,0,none⟩ 1 1 [.int .i64 x] rfl rfl ?c1 ?c2 ?c3 ?c4 ?c5 ?_)
  case c1=>exact cell_one_new _ _ _
  case c2=>intro u hu;simp at hu;subst hu;rfl
  case c3=>unfold maxLen;omega
  case c4=>omega
  case c5=>have:=aY.size;simp;omega
  intro v' w2 hown' hgrow _;have azR:=Hq (GR.below_append (wr:=wr.drewN nq) (aY.trans ⟨rfl,rfl,rfl,aEM _,λ_ _=>rfl⟩) aY.size hown hgrow)
  obtain⟨g',cp',rfl⟩:∃g' cp',v'= .slice (some ⟨g',0,none⟩) ((pQ s0 mL k).length+1) cp':=by
   rcases hown'.2 with⟨_,hn⟩|⟨g',cap',cur,hv,_⟩
   .omega
   .exact⟨g',cap',hv⟩
  have yI:=Hq hown';clear hown' hgrow;go_wp2_with fail;go_roundw
  case rel=>exact⟨k+1,g',cp',Aaa,Aaf,by rw [ah HY,aER];rfl,by rw [ah HY,aER,GR.flat_append,GR.flat_one];exact yI,λe=>by rw [ah HY] at e;simp at e,azR⟩
  case measure=>simp[intOf];omega
 .have HY:=Hq (ach s0 mL k hlt hge);generalize s0.ids[k]=x at *;have hd:decide (fQ s0 mL<=x)=false:=aEN hge;go_wp2_with fail;go_quiet (fail);go_wp2_with fail;go_roundw
  case rel=>exact⟨k+1,g,cp,Aaa,Aaf,by rw [ah HY],by rw [ah HY];exact hown,by rw [ah HY];exact aju,aY.trans ⟨rfl,rfl,rfl,aEM _,λ_ _=>rfl⟩⟩
  case measure=>simp[intOf];omega):P:=h
theorem arJ.AcT(h:P:=by
 have HUP:=Hq (fun(h:¬(bX s0 mL)[x] < mI)=>adL (l:=bX s0 mL) (x:=mI) hx HLO (λ_=>h))
 have aah:=Hq (fun(h:(bX s0 mL)[x] < mI)=>show∀y (hy:y < (bX s0 mL).length),y < x+1->(bX s0 mL)[y] < mI from λy hy h2=>by
  by_cases e:y=x
  .subst e;exact h
  .exact HLO y hy Aaa)
 generalize (bX s0 mL)[x]=rn at *;by_cases hcmp:rn < mI
 .go_wp2_with fail;go_quiet (fail);go_wp2_with fail;go_roundw
  case rel=>exact⟨x+1,_,Aaa,Aaf,aah hcmp,rfl⟩
  case measure=>simp[intOf];omega
 .have abW:decide (rn < mI)=false:=aEN hcmp;have HJ:=Hq (HUP hcmp);exact ahK):P:=h
theorem VJ(h:P:=by
 clear HNk HYk;go_wp2_with fail;refine(HCk wr HB).mono ?_;rintro e w1 ⟨rfl,hb1⟩;have HB1:=Hq (HB.trans (hb1.mono HB.size));rw [hq];exact Aa8):P:=h
theorem arK.Aa8(h:P:=by
 clear hb1 q0 q1 q2;exact aiD):P:=h
theorem arL.Aa8(h:P:=by
 clear hb1 q0 q1 q2;exact abl):P:=h
theorem arM.Aa8(h:P:=by
 clear hb1 q0 q1 q2 q3;exact aiD):P:=h
theorem arN.Aa8(h:P:=by
 clear hb1 q0 q1 q2 q3;go_wp2_with fail;go_ret;exact⟨Aac,HB1⟩):P:=h
theorem ER(h:P:=by
 obtain⟨k,m,hk,rfl,rfl,hm,hbel⟩:=hrel;have HM:=Hq hm;have aY:=Hq hbel;clear hbel;exact AaS):P:=h
theorem arO.AaS(h:P:=by
 by_cases hlt:k < l.length
 .have hm0:0 < m:=Aaa
  have hm1:(m:Int)<=92233720368547758:=Aaa
  obtain⟨e0,hgl,s0,_⟩:=GR.W.one (GR.W.below HA aY) k (by rw [fA mkInt 1 s l l.length (aEM _)];exact hlt);rw [Cq mkInt 1 s l l.length k hlt (aEM _),<-hm] at s0;dsimp only[mkInt] at s0;subst e0;clear hm;go_wp2_with fail;first|go_quiet (fail)|skip
  go_wp2_with fail;go_roundw
  case rel=>exact⟨k+1,m+1,Aaa,Aaf,Aaf,by have:=ah HM;omega,aY.trans ⟨rfl,rfl,rfl,aEM _,λ_ _=>rfl⟩⟩
  case measure=>simp[intOf];omega
 .exact XR):P:=h
theorem arP.AaS(h:P:=by
 by_cases hlt:k < l.length
 .have hm0:0 < m:=Aaa
  have hm1:(m:Int)<=92233720368547758:=Aaa
  obtain⟨e0,hgl,⟨s0,s1,s2,s3⟩,_⟩:=GR.W.fourReq (GR.W.below HA aY) k (by rw [fA jO 4 s l l.length (aEM _)];exact hlt);rw [Cq jO 4 s l l.length k hlt (aEM _),<-hm] at s0 s1 s2 s3;dsimp only[jO] at s0 s1 s2 s3;subst e0;have ED:=Hq (λz w1 (hz:z=((m+1:Nat):Int))=>kH (m+1) z w1 hz Aaa Aaa);exact akd
 .exact XR):P:=h
theorem arQ.AaS(h:P:=by
 by_cases hlt:k < l.length
 .have hm0:0 < m:=Aaa
  have hm1:(m:Int)<=92233720368547758:=Aaa
  obtain⟨e0,hgl,⟨s0,s1,s2,s3⟩,_⟩:=GR.W.fourSent (GR.W.below HA aY) k (by rw [fA iA 4 s l l.length (aEM _)];exact hlt);rw [Cq iA 4 s l l.length k hlt (aEM _),<-hm] at s0 s1 s2 s3;dsimp only[iA] at s0 s1 s2 s3;open avj in exact VT
 .exact XR):P:=h
theorem arR.AaS(h:P:=by
 by_cases hlt:k < l.length
 .have hm0:0 < m:=Aaa
  have hm1:(m:Int)<=92233720368547758:=Aaa
  obtain⟨e0,hgl,⟨s0,s1,s2,s3⟩,_⟩:=GR.W.fourPurse (GR.W.below HA aY) k (by rw [fA fZ 4 s l l.length (aEM _)];exact hlt);rw [Cq fZ 4 s l l.length k hlt (aEM _),<-hm] at s0 s1 s2 s3;dsimp only[fZ] at s0 s1 s2 s3;subst e0;have ED:=Hq (λz w1 (hz:z=((m+0:Nat):Int))=>kH (m+0) z w1 hz Aaa Aaa);exact akd
 .exact XR):P:=h
theorem arS.AaS(h:P:=by
 by_cases hlt:k < l.length
 .open asi in exact agD
 .open amT in exact uz):P:=h
theorem arT.AaS(h:P:=by
 by_cases hlt:k < l.length
 .have hm0:0 < m:=Aaa
  have hm1:(m:Int)<=92233720368547758:=Aaa
  obtain⟨e0,hgl,⟨s0,s1,s2,s3,s4,s5,s6,s7,s8,s9,s10,s11⟩,_⟩:=GR.W.twelveA (GR.W.below HA aY) k (by rw [fA iX 12 s l l.length (aEM _)];exact hlt);rw [Cq iX 12 s l l.length k hlt (aEM _),<-hm] at s0 s1 s2 s3 s4 s5 s6 s7 s8 s9 s10 s11;dsimp only[iX] at s0 s1 s2 s3 s4 s5 s6 s7 s8 s9 s10 s11;open avi in exact VT
 .exact XR):P:=h
theorem arU.AaS(h:P:=by
 by_cases hlt:k < l.length
 .have hm0:0 < m:=Aaa
  have hm1:(m:Int)<=92233720368547758:=Aaa
  obtain⟨e0,hgl,⟨s0,s1,s2,s3,s4,s5,s6⟩,_⟩:=GR.W.sevenM (GR.W.below HA aY) k (by rw [fA mkMsg 7 s l l.length (aEM _)];exact hlt);rw [Cq mkMsg 7 s l l.length k hlt (aEM _),<-hm] at s0 s1 s2 s3 s4 s5 s6;dsimp only[mkMsg] at s0 s1 s2 s3 s4 s5 s6;subst e0;have ED:=Hq (λz w1 (hz:z=((m+5:Nat):Int))=>kH (m+5) z w1 hz Aaa Aaa);clear hm;open aov in exact aeH
 .exact XR):P:=h
theorem agx(h:P:=by
 go_wp2_with fail;refine(HP _).mono ?_;rintro e w5 ⟨rfl,hb5⟩;have Ww:=aI HR hb5;have hM5:=aI HMB hb5;have hB5:=HB.trans (hb5.mono HB.size);have aEk:=cK hM5;have aEm:=cK Ww;obtain⟨⟨d0,d1,d2,d3,d4,d5,d6⟩,f0,f1,f2,f3,f4,f5,f6⟩:=eD Ww;have XC:=Hq Ww;have gQ:=Hq hB5;clear hb5 HR HMB HB q0 q1 q2 q3 q4 q5 q6 HP hzM hzR;exact AeE):P:=h
theorem arV.AeE(h:P:=by
 cases hp:bV ⟨s[0].toNat,N1,N2,N3,N4,TX,N5⟩
 case' false=>
  have hO:OK=false:=by rw [ah HO,hp];simp
  have xX:=Hq (HZ hO)
  clear hO HO HZ HM hM5 Ww hB5 hp
  open asO in exact agJ
 have hO:OK=true:=by rw [ah HO,aEO (ah HE),hp];rfl
 have xX:=Hq (HM hO);obtain⟨q0,q1,q2,q3,q4,q5,q6⟩:=uF hM5;clear hO HO HZ HM hM5 Ww hB5 hp;open asD in exact agH):P:=h
theorem arW.AeE(h:P:=by
 by_cases hp:jL ⟨s[0].toNat,N1,N2,N3,N4,TX,N5⟩=s
 case' neg=>
  have hO:OK=false:=by rw [ah HO,aEN hp];simp
  have xX:=Hq (HZ hO)
  have hq:((jL ⟨s[0].toNat,N1,N2,N3,N4,TX,N5⟩).toList == s.toList)=false:=by
   exact aiq
  clear hO HO HZ HM hM5 Ww hB5
  generalize jL ⟨s[0].toNat,N1,N2,N3,N4,TX,N5⟩=pm at *
  have HP:=Hq hp
  clear hp
  open asN in exact agJ
 have hO:OK=true:=by rw [ah HO,aEO hE,aEO hp];rfl
 have xX:=Hq (HM hO);have hq:((jL ⟨s[0].toNat,N1,N2,N3,N4,TX,N5⟩).toList == s.toList)=true:=by rw [hp];simp
 obtain⟨q0,q1,q2,q3,q4,q5,q6⟩:=uF hM5;clear hO HO HZ HM hM5 Ww hB5;have HP:=Hq hp;clear hp;generalize jL ⟨s[0].toNat,N1,N2,N3,N4,TX,N5⟩=pm at *;open asC in exact agH):P:=h
theorem OL(h:P:=by
 have hd:((l.length:Int) != (m.length:Int))=true:=Aah
 have HP:=Hq (show¬l=m from λh=>hn (congrArg List.length h));exact Aa3):P:=h
theorem arX.Aa3(h:P:=by
 clear hn ha hb;go_in
 exact OQ):P:=h
theorem arY.Aa3(h:P:=by
 clear hn ha hb;go_in
 exact OQ):P:=h
theorem arZ.Aa3(h:P:=by
 clear hn ha hb;go_in
 exact OQ):P:=h
theorem ar0.Aa3(h:P:=by
 clear hn ha hb;go_in
 exact OQ):P:=h
theorem ar1.Aa3(h:P:=by
 clear hn ha hb hi;go_in
 exact OQ):P:=h
theorem agy(h:P:=by
 obtain⟨g,off,rfl,hgw,c0,c1,c2,c3⟩:=aG.four (GR.At.below HA aY) 0 hlt;simp only[Nat.zero_mul,aGw] at c0 c1 c2 c3;have hgt:decide ((0:Int) < ((0:Nat):Int))=false:=rfl;have nU:=Hq hat;have iE:=Hq (qA (og l) 0);clear hat;generalize l[0]=pu at *;exact Aej):P:=h
theorem ar2.Aej(h:P:=by
 cases hpo:iB pu
 .have HO:=Hq (λw1=>ql pu false w1 hpo);have HBAD:=Hq (oh hlt (show og l 0=false by rw [ah nU,hpo];rfl));clear nU iE hpo;obtain⟨pk,pm,pf,ps⟩:=pu;dsimp only at c0 c1 c2 c3;open aBJ in exact aaZ
 .have HO:=Hq (λw1=>ql pu true w1 hpo);have Ez:=Hq (show og l 0=true by rw [ah nU,hpo];rfl);clear nU hpo;obtain⟨pk,pm,pf,ps⟩:=pu;dsimp only at c0 c1 c2 c3;open aBI in exact aaZ):P:=h
theorem ar3.Aej(h:P:=by
 obtain⟨pk,pm,pf,ps⟩:=pu;dsimp only at c0 c1 c2 c3 hks;cases hkb:keyOk pk.data.toList
 .have HB:=Hq hkb;have HBAD:=Hq (oh hlt (show og l 0=false by rw [ah nU];simp[iB,ah HB]));clear nU iE;have hkb':=ah HB;exact Zk0
 have hkb':=hkb;by_cases h1:0<=pm/\pm<=1000000000
 case' neg=>
  have hA:rA pm=false:=aEN h1;have g1:decide (yJ pm 0 1000000000)=false:=aEN h1;exact aeS
 have g1:decide (yJ pm 0 1000000000)=true:=aEO h1;have hA1:rA pm=true:=aEO h1;by_cases h2:0<=pf/\pf<=1000000000
 case' neg=>
  have hA:rA pf=false:=aEN h2;have g2:decide (yJ pf 0 1000000000)=false:=aEN h2;exact aeS
 have g2:decide (yJ pf 0 1000000000)=true:=aEO h2;have hA2:rA pf=true:=aEO h2;by_cases h3:0<=ps/\ps<=1000000000
 case' neg=>
  have hA:rA ps=false:=aEN h3;have g3:decide (yJ ps 0 1000000000)=false:=aEN h3;exact aeS
 open avV in exact ahr):P:=h
theorem agz(h:P:=by
 clear hr hc2 hc3;go_in
 go_wp2_with (first|(go_at_call_of 121 F;refine(H1 _).mono ?_;rintro e w1 ⟨rfl,rfl⟩)|(go_at_call_of 121 T;refine(H2 _).mono ?_;rintro e w1 ⟨rfl,rfl⟩)|(go_at_call_of 93 k;refine(CY _).mono ?_;rintro e w1 ⟨rfl,rfl⟩)|(go_at_call_of 90 N;refine(HC3 _).mono ?_;rintro e w1 ⟨rfl,rfl⟩))
 exact Ad6):P:=h
theorem ar4.Ad6(h:P:=by
 go_ret;exact⟨aF (by first|exact HP.symm|exact he.trans HP.symm),au w _⟩):P:=h
theorem ar5.Ad6(h:P:=by
 exact xW):P:=h
theorem agA(h:P:=by
 obtain⟨c0,c1,c2,c3,c4,c5,c6,c7,c8⟩:=nine BJ;have k0:=cell_grown' c0;have k1:=cell_grown' c1;have k2:=cell_grown' c2;have k3:=cell_grown' c3;have k4:=cell_grown' c4;have k5:=cell_grown' c5;have k6:=cell_grown' c6;have k7:=cell_grown' c7;have k8:=cell_grown' c8;have m0:=cell_grown' d0;have m1:=cell_grown' d1;have m2:=cell_grown' d2;exact AdU):P:=h
theorem ar6.AdU(h:P:=by
 have m3:=cell_grown' d3;have en:IntKind.i64.wrap (old+1)=old+1:=IntWalk.i64_in _ ⟨Aaa,Aaa⟩;go_cut [151] (λr wx=>r= .bool bb/\aH W1 wx)
 case first=>
  rcases DR with⟨rfl,rfl⟩|⟨j,y,rfl,rfl,q1⟩
  .have hgt:decide ((0:Int) < ((0:Nat):Int))=false:=rfl;open aAC in exact Yk4
  .have hgt:decide ((0:Int) < ((j+1:Nat):Int))=true:=aEO Aaa;have m9:=cell_grown' q1;open aAB in exact Yk4
 case rest=>
  obtain⟨rfl,hbx⟩:=hcut;open as4 in exact VP):P:=h
theorem ar7.AdU(h:P:=by
 go_cut [64] (λr wx=>r= .bool bb/\aH W1 wx)
 case first=>
  rcases DR with⟨rfl,rfl⟩|⟨j,y,rfl,rfl,q1⟩
  .have hgt:decide ((0:Int) < ((0:Nat):Int))=false:=rfl;open ao4 in exact awO
  .have hgt:decide ((0:Int) < ((j+1:Nat):Int))=true:=aEO Aaa;have m3:=cell_grown' q1;open ao3 in exact awO
 case rest=>
  obtain⟨rfl,hbx⟩:=hcut;have HW2:=Hq (aj HW1 hbx);open as3 in exact VP):P:=h
theorem agB(h:P:=by
 (refine JD 20 (QS _) (λK hK=>?_);go_simp;first|refine hK _ ?_|(apply Exists.intro;refine⟨λ_=>?_,hK _ ?_⟩;rfl);clear hK K)
 refine jf ?_;refine qb Aab (λz hz=>?_);have HGz:=Hq (uo.trans (hz.mono uo.size));have HVz:=Hq (GR.own_below HV5 hz);exact Aed):P:=h
theorem ar8.Aed(h:P:=by
 have hsz:wc.heap.size<=z.heap.size:=HGz.size;clear hz;have HNz:Hid (z.heap[w.heap.size]?=some (.cells (vW n.id n.par a_k n.kids.length dz n.next pa PL.length pc je n.out.length dX iU n.seen.length dA n.old (some ⟨gr,0,none⟩) n.reqs.length dK) 39 (0,0))):=by unfold Hid;rw [(ah HGz).block _ hnl];exact Io
 have HRz:Hid (z.heap[w.heap.size+2]?=some (.cells kR 39 (0,0))):=by unfold Hid;rw [(ah HGz).block _ (ay (ah EO))];exact EO
 have HQz:Hid (z.heap[W1.heap.size]?=some (.cells (gT no k nn st) 148 (0,0))):=by unfold Hid;rw [(ah HGz).block _ Yu];exact ael
 have kc:=(nine HNz).2.2.2.2.2.2.2.2;have kf:=aC HNz 8;refine an 15 ?_;go_simp;refine ad ?_;go_simp;go_wp2_with fail;go_meet
 case rel=>
  refine⟨rfl,some ⟨g,0,none⟩,cvT,⟨g,rfl⟩,hcv,aN HNz 8 _,l7 _ Aaa HRz,l7 _ Aaa HQz,?_,(JJ.below HGz).keeps (aA.set _) (λx hx=>Aak),(gQ.trans (HGz.mono gQ.size)).setCell (p:=⟨w.heap.size,8,none⟩) (aEM _) _⟩;exact((LO.own (en:=aL) (cp:=cvT) (l:=IQ) (by rw [ah zL];exact HVz)).keeps (aA.set _) (λx hx=>Aak)).lower Aaa):P:=h
theorem ar9.Aed(h:P:=by
 clear hz;have HSz:=Hq (show z.heap[sb]?=some (.cells #[.int .i64 mF,.int .i64 (fQ s0 mL),.slice (some ⟨gi,0,none⟩) (bX s0 mL).length Yb] 130 (0,0)) by rw [(ah HGz).block _ ayT];exact aap);obtain⟨_,_,kc⟩:=CV HSz;have kf:=aC HSz 2;refine an 14 ?_;go_simp;refine ad ?_;go_simp;go_wp2_with fail;go_meet
 case rel=>
  exact⟨g,cv,hbg,ac9 HVz (aA.set _) (λx hx hm=>by simp[Value.ownBlock] at hx;simp at hm;omega),aN HSz 2 _,(aA.of_below HGz).trans (aA.set _)⟩):P:=h
theorem agC(h:P:=by
 clear HR;clear ho hk hn;go_in
 go_wp2_with (first|(go_at_call_of 170 no;refine(HO _).mono ?_;rintro e w1 ⟨rfl,rfl⟩)|(go_at_call_of 190 k;refine(HK _).mono ?_;rintro e w1 ⟨rfl,rfl⟩)|(go_at_call_of 170 n;refine(HN _).mono ?_;rintro e w1 ⟨rfl,rfl⟩))
 exact Ad0):P:=h
theorem asa.Ad0(h:P:=by
 go_region
 go_upto_region 23 with fail;open atU in exact VR):P:=h
theorem asb.Ad0(h:P:=by
 go_ret;exact⟨aF (by rw [ah HP];simp),by first|exact jF w _ _|exact Below.setNew (jF w _ _) Aaa⟩):P:=h
theorem VK(h:P:=by
 have hlo:=h.o.lt;have mP:=Hq (h.nine hB);clear h;go_in
 go_upto_region 1 with fail;refine wp_at (λW0 hW=>?_);exact AbE):P:=h
theorem ase.AbE(h:P:=by
 obtain⟨e1,e2,e3⟩:=fU w (.cells (dH n A) 39) (.cells kR 39);open anh in exact ajX):P:=h
theorem asf.AbE(h:P:=by
 obtain⟨e1,e2,e3⟩:=fU w (.cells (dH n A) 39) (.cells kR 39);open auD in exact ag2):P:=h
theorem asg.AbE(h:P:=by
 obtain⟨e1,e2,e3⟩:=fU w (.cells (dH n (⟨a_k,(some ⟨gp,0,none⟩),je,iU,jq,dz,fJ,dX,dA,dK⟩:bq)) 39) (.cells kR 39);open ani in exact ajX):P:=h
theorem ash.AbE(h:P:=by
 obtain⟨e1,e2,e3⟩:=fU w (.cells (dH n (⟨a_k,rG,je,iU,jq,dz,fJ,dX,dA,dK⟩:bq)) 39) (.cells kR 39);open anj in exact ajX):P:=h
theorem agD(h:P:=by
 have hbd:=Ac s 1048600 (l.take k) (λx hx=>HL2 x (List.mem_of_mem_take hx));rw [<-hm,aFf,aFU Aaa] at hbd;obtain⟨hb1,hb2⟩:=hbd;have hm0:0 < m:=Aaa
 have hm1:(m:Int)<=92233720368547758:=Aaa
 exact AcW):P:=h
theorem asi.AcW(h:P:=by
 have hS:dZ wr a g I (kU s l):=dZ.keeps (F:=[]) HA (aA.of_below (aY.mono (aEM _))) (λ_ _=>Aac) (λ_ _=>Aac);obtain⟨b,cc,e0,hg0,⟨s0,s1,s2⟩,_,hI⟩:=dZ.three hS k (by rw [jy];exact hlt);rw [Qp s l k hlt,<-hm] at s0 s1 s2 hI;have xY:=ah HL2 l[k] (aE2 hlt);have BA:Hid (jd s (l.take (k+1))=m+2+(l[k]).ids.length):=Adg
 subst e0;clear hm hS;generalize l[k]=sk at *;obtain⟨fr,lo,ids⟩:=sk;unfold mSn at s0 s1 s2 hI;rw [fA mkInt 1 (m+2) ids ids.length (aEM _)] at s2;dsimp only at s0 s1 s2 hI xY BA;have HH:=Hq (λz (hz:z=((m+2:Nat):Int))=>Px b (I k) cc ids.length (m+2) z ids wr hz rfl Aaa Aaa xY hI);clear hI;go_wp2_with (go_at_call 76;refine(HH _ Aaa).mono ?_;rintro e w1 ⟨rfl,hb5⟩;have oF:=Hq (aY.trans (hb5.mono aY.size));clear hb5)
 go_roundw
 case rel=>exact⟨k+1,m+2+ids.length,Aaa,Aaf,Aaf,BA.symm,oF⟩
 case measure=>simp[intOf];omega):P:=h
theorem asj.AcW(h:P:=by
 have hk':k < (Es s l k).length:=by rw [uU s l k hk];exact hlt
 obtain⟨b,cc,e0,hg0,⟨s0,s1,s2⟩,⟨f0,f1⟩,hI⟩:=dZ.three HR k hk';have hpos:0 < l.length:=Aaa
 have akP:g∈fp g l:=dB hpos
 have HNE:Hid (∀x∈mX I (Es s l k),x≠g):=by
  rw [xA (uU s l k hk) (λi h1 h2=>WR s l k hk i h1 h2)];exact λx hx e=>HND.2.2 g akP x hx e.symm
 have HNI:Hid ((mX I (Es s l k)).Nodup):=by
  rw [xA (uU s l k hk) (λi h1 h2=>WR s l k hk i h1 h2)];exact HND.2.1
 have xY:=ah HL2 l[k] (aE2 hlt);have hat:=acL s l k hlt;rw [hat] at s0 s1 s2 hI;have HPT:=Hq (dZ.put HR k hk' (m:Int) ((m:Int)+1) HNE);rw [hat] at HPT;have HSE:=Hq (WU s l k hlt);have HIK:=Hq (jw (I:=I) hlt);subst e0;have HI:=Hq hI;have BA:Hid (jd s (l.take (k+1))=m+2+(l[k]).ids.length):=Adg
 have HMS:Hid (mSn (jd s (l.take k)) l[k]=⟨(m:Int),(m:Int)+1,jH mkInt 1 (m+2) (l[k]).ids (l[k]).ids.length⟩):=by rw [<-hm];rfl
 clear hm hI hat;have hmz:(Es s l k)[k]=l[k]:=acL s l k hlt;have HMZ:=Hq hmz;clear hmz;generalize l[k]=sk at *;obtain⟨fr,lo,ids⟩:=sk;dsimp only at s0 s1 s2 HI xY HPT HIK BA HMS;go_wp2_with fail;have vU:aA [g] wr ((wr.setCell ⟨g,k*3,none⟩ (.int .i64 (m:Int))).setCell ⟨g,k*3+1,none⟩ (.int .i64 ((m:Int)+1))):=(aA.set _).trans (aA.set _)
 have hI2:=HI.keeps vU (λx hx=>by
  have h1:=ah HIK x hx
  have h2:=HND.2.2 g akP x h1
  simp
  exact λe=>h2 e.symm)
 have hc2:((wr.setCell ⟨g,k*3,none⟩ (.int .i64 (m:Int))).setCell ⟨g,k*3+1,none⟩ (.int .i64 ((m:Int)+1))).cell? ⟨g,k*3+2,none⟩=some (.slice b ids.length cc):=(aFV _ _ _ _ Aac).trans ((aFV _ _ _ _ Aac).trans s2);have CY:=Hq hc2;have HKK:=Hq vU;refine(Qr b (I k) cc (m+2) _ ids _ Aaa Aaa Aaa xY hI2).mono ?_;rintro e w2 ⟨rfl,hW2,hK2⟩
 have zH:Hid (dZ w2 (some ⟨g,0,none⟩) g I (Es s l (k+1))/\aA (fp g l++mX I l) w w2):=by
  have hk2:k < ((Es s l k).set k ⟨(m:Int),(m:Int)+1,ids⟩).length:=by simpa using hk'
  have hcg:mX I ((Es s l k).set k ⟨(m:Int),(m:Int)+1,ids⟩)=mX I (Es s l k):=xA Aac (λi h1 h2=>by
   by_cases hik:i=k
   .subst hik;rw [aFi,ah HMZ]
   .rw [aFj Aaa])
  have hx:=dZ.ids HPT k hk2 b cc (jH mkInt 1 (m+2) ids ids.length) (by rw [aFi];exact CY) (by rw [aFi];exact fA mkInt 1 (m+2) ids ids.length (aEM _)) hW2 (by rw [aFi];exact hK2) (by rw [hcg];exact HNE) (by rw [hcg];exact HNI);rw [aFi,List.set_set] at hx;dsimp only at hx;rw [<-ah HMS,ah HSE] at hx;refine⟨hx,(HK.trans (HKK.mono (λx hx=>?_))).trans (hK2.mono (λx hx=>aFh _ (HIK x hx)))⟩;have:x=g:=Aag
  rw [this];exact aFc _ akP
 clear hW2 hK2 hc2 vU hI2;go_wp2_with fail;go_roundw
 case rel=>exact⟨k+1,m+2+ids.length,Aaa,Aaf,Aaf,BA.symm,zH.1,zH.2⟩
 case measure=>simp[intOf];omega):P:=h
theorem agE(h:P:=by
 have hp0:w1.cell? ⟨w.heap.size,0,none⟩=some (.string pk):=by rw [aEW w1 _ _ _ _ (0,0) (ah wu)];rfl
 exact AcO):P:=h
theorem asl.AcO(h:P:=by
 go_upto_region 7 with fail;go_cut [51] (λr wx=>r= .bool (found l pk)/\∃q,wx=w1.drewN q)
 case first=>
  by_cases hlt:place l pk < l.length
  .have hf:found l pk=(l[place l pk].k.toList == pk.toList):=by
    unfold found;rw [jG,aFy hlt]
   obtain⟨g1,o1,e1,hg1,s0,s1,s2,s3⟩:=aG.four (GR.At.below HA HB1) (place l pk) hlt;open avJ in exact aho
  .have hf:found l pk=false:=by
    unfold found;rw [jG,aF7 Aaa]
   have HF:=Hq hf;have hpos:decide (0 < l.length - place l pk)=false:=aEN Aaa;have aCK:l.length - place l pk=0:=Aaa
   clear hf;go_quiet (fail);go_wp2_with fail;go_meet
   case rel=>exact⟨by rw [ah HF],_,BU w1 _ _⟩
 case rest=>
  obtain⟨rfl,q2,rfl⟩:=hcut;go_upto_if 51 with fail;go_cut [9] (λr wx=>∃(ad':Addr) (cc:Nat),r= .slice (some ad') (kV l pk).length cc/\aG w1 (some ad') (kV l pk)/\∃q,wx=w1.drewN q)
  case first=>
   have HA1:=Hq (GR.At.below HA HB1);cases hf:found l pk
   .have Lj:=Hq (tail_not hf);have HAE:=Hq hAe;clear hAe hAd;go_wp2_with fail;go_meet
    case rel=>
     refine⟨ad,cap - place l pk,by rw [ah Lj,aFt],?_,_,rfl⟩;rw [ah Lj];by_cases hlt:place l pk < l.length
     .rw [ah HAE hlt];exact Vl HA1 (place l pk)
     .exact Vm (aF7 Aaa)
   .obtain⟨hlt,htl⟩:=tail_found hf;have Lj:=Hq htl;have hae:=hAe hlt;subst hae;clear htl hAe hAd
    obtain⟨ad2,aDA,aB3⟩:∃ad2:Addr,(if cap - place l pk=1 then some (⟨b,off+place l pk*4,none⟩:Addr) else some ⟨b,off+place l pk*4+4,none⟩)=some ad2/\(place l pk+1 < l.length->ad2=⟨b,off+place l pk*4+4,none⟩):=by
     by_cases h:cap - place l pk=1
     .rw [aE7 h];exact⟨_,rfl,λh2=>Aaa⟩
     .rw [aEX h];exact⟨_,rfl,λ_=>rfl⟩
    have hone:1<=l.length - place l pk:=Aaa
    go_wp2_with fail;go_meet
    case rel=>
     refine⟨ad2,cap - place l pk - 1,by rw [ah Lj,aFt,Nat.sub_sub],?_,_,rfl⟩;rw [ah Lj];by_cases hlt2:place l pk+1 < l.length
     .rw [aB3 hlt2];have:=Vl HA1 (place l pk+1);rwa [show off+(place l pk+1)*4=off+place l pk*4+4 by omega] at this
     .exact Vm (aF7 Aaa)
  case rest=>
   obtain⟨ad',cc,rfl,hta,q3,rfl⟩:=hcut;obtain⟨i0,hi,hz0,hz1,hz2⟩:=aFm FN;obtain⟨hpf,hpn⟩:=put_flat l ⟨pk,pm,pf,ps⟩;have htl:(l.take (place l pk)).length=place l pk:=Aah
   have hkt:∀q∈iY l ⟨pk,pm,pf,ps⟩,q.k.size<=maxLen:=λq hq=>by
    rcases put_mem' hq with rfl|hq
    .exact hpk
    .exact hk q hq
   go_upto_region 9 with fail;refine Fo.wp_at (λV hV=>?_);have Si:w.heap.size < V.heap.size:=by rw [hV];exact Fo.lt_of_blk wu
   have wY:=Hq (show aH w V by rw [hV];exact HB1.trans ⟨rfl,rfl,rfl,aEM _,λ_ _=>rfl⟩);have hblk:V.heap[w.heap.size]?=some (.cells (iR pk pm pf ps) 155 (0,0)):=by rw [hV];exact wu
   have HTA:=Hq (show aG V (some ad') (kV l pk) by rw [hV];exact hta);obtain⟨⟨c0,c1,c2,c3⟩,_⟩:=fP hblk;have HNW:=Hq (λX (hb:aH V X)=>aG.news (GR.At.below HTA hb));have NV:=Hq (λX (hb:aH V X)=>MI (some ⟨b,off,none⟩) cap (l.take (place l pk)) X Aaa (λh=>Abb) (GR.At.below (ad4 (GR.At.below HA wY) _) hb));have HCA:=Hq (λX (hb:aH w X)=>MI (some ⟨b,off,none⟩) cap l X Aaa (λh=>Abb) (GR.At.below HA hb));have HPF:=Hq hpf;have HPN:=Hq hpn;rw [htl] at NV;have hnw:w.heap.size≠V.heap.size:=Aaa
   have hmw:V.heap.size≠w.heap.size:=Aaa
   have aDw:(kV l pk).length<=20:=by
    have h3:=tail_len l pk;omega
   clear hV hblk hta hp0 mW wu htl hAd hAe hpf hpn
   go_region_held_law (λw'=>w'.cell? ⟨w.heap.size,0,none⟩=some (.string pk)/\w'.cell? ⟨w.heap.size,1,none⟩=some (.int .i64 pm)/\w'.cell? ⟨w.heap.size,2,none⟩=some (.int .i64 pf)/\w'.cell? ⟨w.heap.size,3,none⟩=some (.int .i64 ps)) (go_keep)
    (first
     |((go_at_call 81);(refine(NV _ (by exact⟨rfl,rfl,rfl,Aac,λk hk=>by first|rfl|exact aEZ _ _ _ hk⟩)).mono ?_);(rintro e w4 ⟨vc,rfl,hv4,Al,hb4⟩);(have hs4:=hb4.size);(try simp at hs4);(have mQ:=Hq (show aH V w4 from Below.trans (b:=_) (by exact⟨rfl,rfl,rfl,Aac,λk hk=>by first|rfl|exact aEZ _ _ _ hk⟩) (hb4.mono Aac)));(have HO4:=Hq (own_lower (b':=V.heap.size) Al Aac));(first|(guard_hyp hs4:V.heap.size+1<=w4.heap.size;have HN4:=Hq (Fo.one_block (show Below (V.alloc (.cells (iR pk pm pf ps) 155)).heap.size (V.alloc (.cells (iR pk pm pf ps) 155)) w4 from⟨hb4.os,hb4.tape,hb4.output,hb4.size,hb4.block⟩)).1)|skip);(have d0:=(mQ.cell (p:=⟨w.heap.size,0,none⟩) Si).trans c0);(have d1:=(mQ.cell (p:=⟨w.heap.size,1,none⟩) Si).trans c1);(have d2:=(mQ.cell (p:=⟨w.heap.size,2,none⟩) Si).trans c2);(have d3:=(mQ.cell (p:=⟨w.heap.size,3,none⟩) Si).trans c3);(have hn4:w.heap.size≠w4.heap.size:=by omega);(have hm4:w4.heap.size≠w.heap.size:=by omega);(clear hb4 Al hv4))
     |((guard_hyp hs4:V.heap.size+1<=w4.heap.size);(refine oZ _ rfl (.tmp 57) (.tmp 59) 34 rfl V.heap.size 155 i0 (.agg (iR ByteArray.empty 0 0 0)) 4 40 underlying34 hi hz0 hz1 hz2 rfl Aae vc (place l pk) (GR.flat fu (l.take (place l pk))) Aao HO4 ⟨V.heap.size,0,none⟩ 1 1 (fu ⟨pk,pm,pf,ps⟩) Aao rfl (aFA HN4) (JW ⟨pk,pm,pf,ps⟩) Aaj Aaa mQ.size ?_);(intro v5 w5 hown5 hgr5 Fz);(have JI:=Hq hown5);(have HV5:=Hq (show v5≠ .slice none 0 0 by first|exact Fz|exact λh=>absurd (Fz.1 h).2 Aae));(have gQ:=Hq (show aH V w5 from mQ.trans (uN hgr5 (λk e=>(HO4.lt k e).1) mQ.size)));(have e0:=(gQ.cell (p:=⟨w.heap.size,0,none⟩) Si).trans c0);(have e1:=(gQ.cell (p:=⟨w.heap.size,1,none⟩) Si).trans c1);(have e2:=(gQ.cell (p:=⟨w.heap.size,2,none⟩) Si).trans c2);(have e3:=(gQ.cell (p:=⟨w.heap.size,3,none⟩) Si).trans c3);(clear hown5 hgr5 Fz))
     |((guard_hyp hs4:V.heap.size<=w4.heap.size);(refine oZ _ rfl (.tmp 57) (.tmp 59) 34 rfl V.heap.size 155 i0 (.agg (iR ByteArray.empty 0 0 0)) 4 40 underlying34 hi hz0 hz1 hz2 rfl Aae vc (place l pk) (GR.flat fu (l.take (place l pk))) Aao (HO4.alloc _) ⟨w4.heap.size,0,none⟩ 1 1 (fu ⟨pk,pm,pf,ps⟩) Aao rfl (aFA (aEK w4 _)) (JW ⟨pk,pm,pf,ps⟩) Aaj Aaa (aEP mQ.size Aac) ?_);(intro v5 w5 hown5 hgr5 Fz);(have JI:=Hq hown5);(have HV5:=Hq (show v5≠ .slice none 0 0 by first|exact Fz|exact λh=>absurd (Fz.1 h).2 Aae));(have gQ:=Hq (show aH V w5 from(mQ.alloc mQ.size _).trans (uN hgr5 (λk e=>(HO4.lt k e).1) (aEP mQ.size Aac))));(have e0:=(gQ.cell (p:=⟨w.heap.size,0,none⟩) Si).trans c0);(have e1:=(gQ.cell (p:=⟨w.heap.size,1,none⟩) Si).trans c1);(have e2:=(gQ.cell (p:=⟨w.heap.size,2,none⟩) Si).trans c2);(have e3:=(gQ.cell (p:=⟨w.heap.size,3,none⟩) Si).trans c3);(clear hown5 hgr5 Fz))
     |((refine oZ _ rfl (.tmp 60) (.tmp 61) 34 rfl V.heap.size 155 i0 (.agg (iR ByteArray.empty 0 0 0)) 4 40 underlying34 hi hz0 hz1 hz2 rfl Aae v5 (place l pk+1) (GR.flat fu (l.take (place l pk))++fu ⟨pk,pm,pf,ps⟩) Abs JI ad' (kV l pk).length cc (GR.flat fu (kV l pk)) Abs (GR.flat_length fu 4 aP _) (HNW _ gQ) (Fe _) Aaj Aaa gQ.size ?_);(intro v6 w6 hown6 rD PI);(have yj:=Hq (show aH V w6 from gQ.trans (uN rD (λk e=>(JI.lt k e).1) gQ.size)));(have HV6:=Hq (show v6≠ .slice none 0 0 by first|exact λh=>HV5 (PI.1 h).1|exact λh=>HV5 (PI h).1));(rw [ah HPF,ah HPN] at hown6);(obtain⟨a6,cap6,rfl,ayy⟩:=GR.own_at aP hown6);(have HO6:=Hq hown6);(have HT6:=Hq ayy);(have f0:=(yj.cell (p:=⟨w.heap.size,0,none⟩) Si).trans c0);(have f1:=(yj.cell (p:=⟨w.heap.size,1,none⟩) Si).trans c1);(have f2:=(yj.cell (p:=⟨w.heap.size,2,none⟩) Si).trans c2);(have f3:=(yj.cell (p:=⟨w.heap.size,3,none⟩) Si).trans c3);(clear hown6 rD PI ayy))
     |fail)
   all_goals
    have ajb:(iY l ⟨pk,pm,pf,ps⟩).length<=1048600:=by have:=ah HPN;omega
    have al0:=Hq (wY.trans (yj.mono Aaa))
    have HSO:=Hq (pY a6 cap6 (iY l ⟨pk,pm,pf,ps⟩) w6 ajb hkt HT6)
    clear ajb d0 d1 d2 d3 e0 e1 e2 e3 f0 f1 f2 f3 c0 c1 c2 c3 HNW NV
    go_wp2_with fail
    refine HSO.mono ?_
    rintro e w7 ⟨rfl,vV⟩
    have Ht:=Hq (al0.trans (vV.mono al0.size))
    have HO7:=Hq (own_lower (b':=w.heap.size) (HO6.kept (row:=none) ⟨vV.os,vV.tape,vV.output,vV.size,λk hk _=>vV.block k hk⟩ (ada _)) Aaa)
    clear vV HSO
    cases hps:jm (iY l ⟨pk,pm,pf,ps⟩)
    .have HWF:=Hq (show rR l ⟨pk,pm,pf,ps⟩ n=(l,false) by rw [ah HW,hps];rfl);have HCX:=Hq (HCA _ Ht);clear hps HW HCA;go_wp2_with fail;refine HCX.mono ?_;rintro e w8 ⟨v8,rfl,hv8,PK,IE⟩;have HV8:=Hq hv8;have HO8:=Hq (own_lower (b':=w.heap.size) PK Ht.size);have Z0:=Hq (Ht.trans (IE.mono Ht.size));clear PK IE hv8;go_wp2_with fail;rw [ah HWF];exact aET (v:= .tuple #[v8,.bool false]) Acs rfl ⟨v8,rfl,HV8,HO8,Z0⟩
    .have HWF:=Hq (show rR l ⟨pk,pm,pf,ps⟩ n=(iY l ⟨pk,pm,pf,ps⟩,true) by rw [ah HW,hps];rfl);clear hps HW HCA;go_wp2_with fail;rw [ah HWF];exact aET (v:= .tuple #[.slice a6 (iY l ⟨pk,pm,pf,ps⟩).length cap6,.bool true]) Acs rfl ⟨_,rfl,HV6,HO7,Ht⟩):P:=h
theorem asn.AcO(h:P:=by
 by_cases hlt:k < l.length
 .obtain⟨g1,o1,e1,hg1,s0,s1,s2,s3⟩:=aG.four (GR.At.below HA HB1) k hlt;open avI in exact aho
 .open amY in exact uz):P:=h
theorem agF(h:P:=by
 refine tk [1] ?_;open aut in exact aaQ):P:=h
theorem aso.AdC(h:P:=by
 have y3:=kZ (r:=w.heap.size+2) (iD aem).2.2.2 Aaa;refine tk [2] ?_;open aus in exact aaQ):P:=h
theorem asq.AdC(h:P:=by
 have y3:=kZ (r:=w.heap.size+2) (iD amq).2.2.2 Aaa;refine tk [2] ?_;open aur in exact aaQ):P:=h
theorem aaD(h:P:=by
 obtain⟨hil,afj⟩:=(ou n.reqs o.no).1 hf;have hgd:n.reqs.getD (dW n.reqs o.no) default=n.reqs[dW n.reqs o.no]:=by rw [aFl,aEQ hil];rfl
 exact AcF):P:=h
theorem asr.AcF(h:P:=by
 rw [hgd] at hs ⊢;open auH in exact aaS):P:=h
theorem asu.AcF(h:P:=by
 have hR:fK n o.no o.k o.n=(n,if Gp n.reqs[dW n.reqs o.no] o.k o.n=true then 0 else 1):=by
  unfold fK;rw [aEX hc,aE7 hf,hgd]
 have HSQ:=Hq (show Gp n.reqs[dW n.reqs o.no] o.k o.n=((n.reqs[dW n.reqs o.no].k.toList == o.k.toList)&&decide (n.reqs[dW n.reqs o.no].n=o.n)&&decide (n.reqs[dW n.reqs o.no].s=0)) by unfold Gp;rw [Bool.and_assoc,Bool.and_comm]);have HAD:=Hq hR;generalize fK n o.no o.k o.n=RES at *;have hd:decide (o.no<=n.old)=false:=aEN hc;open auG in exact aaS):P:=h
theorem asv.AcF(h:P:=by
 rw [hgd] at hs;open auF in exact aaS):P:=h
theorem agG(h:P:=by
 open au8 in exact aaU):P:=h
theorem asw.AcV(h:P:=by
 exact axw):P:=h
theorem asx.AcV(h:P:=by
 exact Zk7):P:=h
theorem VL(h:P:=by
 have SE:=Hq (λp:Regrown=>hH.below (aFe w p.d p.os));have H:=Hq h;obtain⟨c0,c1,f0,f1⟩:=h.two;clear h hs hH hE f0 f1;exact AbL):P:=h
theorem asy.AbL(h:P:=by
 generalize iZ s i=E at *;generalize j6 s i=R at *;go_in
 exact axF):P:=h
theorem asz.AbL(h:P:=by
 generalize iZ s i=E at *;generalize j6 s i=R at *;go_in
 exact axI):P:=h
theorem asA.AbL(h:P:=by
 generalize jX s i=E at *;generalize vB s i=R at *;go_in
 exact axF):P:=h
theorem asB.AbL(h:P:=by
 generalize jX s i=E at *;generalize vB s i=R at *;go_in
 exact axI):P:=h
theorem agH(h:P:=by
 go_wp2_with fail;refine bodyPost_at (λW' hW'=>?_);obtain⟨⟨r0,r1,r2,r3,r4,r5,r6⟩,_⟩:=eD (show W'.heap[w.heap.size]?=some (.cells (bQ (s[0].toNat:Int) N1 N2 N3 N4 TX N5) 70 (0,0)) by rw [hW'];exact tY XC);have hbb:aH w W':=by rw [hW'];exact rQ gQ (aEM _)
 exact Ac7):P:=h
theorem asC.Ac7(h:P:=by
 exact aET (v:= .tuple #[.agg (bQ (s[0].toNat:Int) N1 N2 N3 N4 TX N5),.bool true]) Adc rfl ⟨Abj,hbb⟩):P:=h
theorem asD.Ac7(h:P:=by
 exact aET (v:= .tuple #[.agg (bQ (s[0].toNat:Int) N1 N2 N3 N4 TX N5),.bool true]) Adb rfl ⟨Abj,hbb⟩):P:=h
theorem aaE(h:P:=by
 obtain⟨c0,c1,c2,c3,c4,c5,c6,c7,c8⟩:=nine mU;obtain⟨⟨d0,d1,d2,d3,d4,d5,d6,d7,d8⟩,f0,f1,f2,f3,f4,f5,f6,f7,f8⟩:=iM sD;have hnl:=ay mU;have hrl:=ay sD;exact AcD):P:=h
theorem asE.AcD(h:P:=by
 clear q0 q1 q2 HST;dsimp only at e0;subst e0;open apk in exact awP):P:=h
theorem asF.AcD(h:P:=by
 first|dsimp only at e0|skip
 subst e0;have HQ3:=Hq q3;have HQS:=Hq (And.intro q0 (And.intro q1 (And.intro q2 q3)));generalize n.reqs[i].k=qk at *;generalize n.reqs[i].n=qn at *;go_upto_region 8 with fail;have y4:=aEL c4;have y8:=aEL c8;have z1:=aEL q1;have z2:=aEL q2;clear c0 c1 c2 c3 c4 c5 c6 c7 c8 d0 d1 d2 d3 d4 d5 d6 d7 d8 f0 f1 f2 f3 f4 f5 f6 f7 f8 q0 q1 q2 q3;exact Kk8):P:=h
theorem asG.AcD(h:P:=by
 open apl in exact awP):P:=h
theorem VN(h:P:=by
 have hb0:s[0].toNat < 256:=s[0].toNat_lt;have hw64:wrap64 (s[0].toNat:Int)=(s[0].toNat:Int):=IntWalk.wrap64_in _ ⟨Aaa,Aaa⟩;exact Aa9):P:=h
theorem asH.Aa9(h:P:=by
 clear h;go_in
 go_upto_region 1 with fail;go_quiet (fail);go_upto_region 4 with fail;refine wp_at (λV hV=>?_);have HRV:Hid (jK V g s 1):=by rw [hV];exact(show jK (w.drewN _) g s 0 from H).set 1
 have HKV:Hid (dJ g w V):=by rw [hV];exact(dJ.of_below (jv w _)).trans (dJ.set _)
 clear hV c0 c1 f0 f1;obtain⟨c0,c1,f0,f1⟩:=HRV.two;go_quiet (fail);go_wp2_with fail;go_ret;exact⟨rfl,aI HRV (jv V _),HKV.trans (dJ.of_below (jv V _))⟩):P:=h
theorem asI.Aa9(h:P:=by
 go_upto_region 8 with fail;go_region
 go_upto_region 9 with fail;refine wp_at (λV hV=>?_);have hM:V.heap[w5.heap.size+1]?=some (.cells (bJ (s[0].toNat:Int) N1 TX N2 mK mF mT mI mL mk mN) 73 (0,0)):=by rw [hV];exact(fU w5 (.cells (bQ mK mF mT mI mL mk mN) 70) _).2.1
 have hlt:=cK XC
 have hB:aH w V:=by
  rw [hV];have h1:=(gQ.alloc gQ.size (.cells (bQ mK mF mT mI mL mk mN) 70)).alloc (by have:=gQ.size;simp;omega) (.cells (bJ (s[0].toNat:Int) N1 TX N2 mK mF mT mI mL mk mN) 73);exact⟨h1.os,h1.tape,h1.output,h1.size,h1.block⟩
 have hR:V.heap[w.heap.size]?=some (.cells (bJ 0 0 ⟨#[]⟩ 0 0 0 0 0 0 ⟨#[]⟩ 0) 73 (0,0)):=by
  rw [hV];have h1:=aEZ (w5.alloc (.cells (bQ mK mF mT mI mL mk mN) 70)) (.cells (bJ (s[0].toNat:Int) N1 TX N2 mK mF mT mI mL mk mN) 73) w.heap.size Aah;have h2:=aEZ w5 (.cells (bQ mK mF mT mI mL mk mN) 70) w.heap.size hlt;exact h1.trans (h2.trans XC)
 clear hV XC gQ hw64 hb0 hlt;have hzM:=cK hM;have hzR:=cK hR;by_cases hE:0<=E
 case' neg=>
  have hO:OK=false:=by rw [ah HO,aEN hE,Bool.false_and,Bool.false_and]
  have xX:=Hq (HZ hO);have hE2:E < 0:=Aaa
  obtain⟨⟨d0,d1,d2,d3,d4,d5,d6,d7,d8,d9,d10⟩,f0,f1,f2,f3,f4,f5,f6,f7,f8,f9,f10⟩:=aJ hR;have HR:=Hq hR;have HB:=Hq hB;clear hO HO HZ HM HP hM hR hB hE;exact axP
 have hE2:¬(E < 0):=Aaa
 cases hbd:(decide (B.size=0)||mo)
 case' false=>
  have hO:OK=false:=by rw [ah HO,hbd,Bool.and_false,Bool.false_and]
  have xX:=Hq (HZ hO);simp only[Bool.or_eq_false_iff,aGM] at hbd;obtain⟨hb1,rfl⟩:=hbd;have hbe:=kJ B Aaa;obtain⟨⟨d0,d1,d2,d3,d4,d5,d6,d7,d8,d9,d10⟩,f0,f1,f2,f3,f4,f5,f6,f7,f8,f9,f10⟩:=aJ hR;have HR:=Hq hR;have HB:=Hq hB;clear hO HO HZ HM HP hM hR hB hE hb1;exact axP
 have HBD:=Hq hbd;obtain⟨q0,q1,q2,q3,q4,q5,q6,q7,q8,q9,q10⟩:=(aJ hM).1;have HR:=Hq hR;have HB:=Hq hB;have HMB:=Hq hM;clear hR hB hM
 have hcond:((!B.toList.isEmpty)&& !mo)=false:=by
  rcases Bool.or_eq_true_iff.1 hbd with h|h
  .have h1:=eq_empty B (aE5 h);subst h1;rw [aFB];rfl
  .rw [h];simp
 clear hbd
 have HQ:Hid ((B.toList.isEmpty=true)\/(B.toList.isEmpty=false/\mo=true)):=by
  cases h1:B.toList.isEmpty
  .rw [h1] at hcond;exact .inr ⟨rfl,by simpa using hcond⟩
  .exact .inl rfl
 clear hcond;have Xz:Hid (∀Q:Prop,(B.toList.isEmpty=true->Q)->(B.toList.isEmpty=false->mo=true->Q)->Q):=λQ h1 h2=>HQ.elim h1 (λh=>h2 h.1 h.2)
 clear HQ;refine Xz _ (λhbe=>?_) (λhbe hmo=>?_)
 all_goals
  clear Xz
  go_wp2_with fail
  refine(HP _).mono ?_
  rintro e w7 ⟨rfl,vV⟩
  have HR7:=Hq (aI HR vV)
  have HM7:=Hq (aI HMB vV)
  have Ht:=Hq (HB.trans (vV.mono HB.size))
  have aEl:=cK HM7
  have aEn:=cK HR7
  clear vV HR HMB HB q0 q1 q2 q3 q4 q5 q6 q7 q8 q9 q10 HP hzM hzR
  obtain⟨⟨d0,d1,d2,d3,d4,d5,d6,d7,d8,d9,d10⟩,f0,f1,f2,f3,f4,f5,f6,f7,f8,f9,f10⟩:=aJ HR7
  by_cases hp:wP ⟨s[0].toNat,N1,TX,N2,⟨mK,mF,mT,mI,mL,mk,mN⟩⟩=s
  case' neg=>
   have hO:OK=false:=by rw [ah HO,aEN hp,Bool.and_false]
   have xX:=Hq (HZ hO)
   have hq:((wP ⟨s[0].toNat,N1,TX,N2,⟨mK,mF,mT,mI,mL,mk,mN⟩⟩).toList == s.toList)=false:=by
    exact aiq
   clear hO HO HZ HM HBD hp;generalize wP ⟨s[0].toNat,N1,TX,N2,⟨mK,mF,mT,mI,mL,mk,mN⟩⟩=pm at *;go_wp2_with fail;refine iw (λW' hW'=>?_);obtain⟨⟨r0,r1,r2,r3,r4,r5,r6,r7,r8,r9,r10⟩,_⟩:=aJ (show W'.heap[w.heap.size]?=some (.cells (bJ 0 0 ⟨#[]⟩ 0 0 0 0 0 0 ⟨#[]⟩ 0) 73 (0,0)) by rw [hW'];exact lF HR7);have hbb:aH w W':=by rw [hW'];exact iF Ht (aEM _)
   exact aET (v:= .tuple #[.agg (bJ 0 0 ⟨#[]⟩ 0 0 0 0 0 0 ⟨#[]⟩ 0),.bool false]) Acr rfl ⟨Abj,hbb⟩
  have hO:OK=true:=by rw [ah HO,aEO hE,ah HBD,aEO hp];rfl
  have xX:=Hq (HM hO)
  have hq:((wP ⟨s[0].toNat,N1,TX,N2,⟨mK,mF,mT,mI,mL,mk,mN⟩⟩).toList == s.toList)=true:=by rw [hp];simp
  obtain⟨⟨q0,q1,q2,q3,q4,q5,q6,q7,q8,q9,q10⟩,_⟩:=aJ HM7
  clear hO HO HZ HM HBD
  have HPX:=Hq hp
  clear hp
  generalize wP ⟨s[0].toNat,N1,TX,N2,⟨mK,mF,mT,mI,mL,mk,mN⟩⟩=pm at *
  go_wp2_with fail
  refine iw (λW' hW'=>?_)
  obtain⟨⟨r0,r1,r2,r3,r4,r5,r6,r7,r8,r9,r10⟩,_⟩:=aJ (show W'.heap[w.heap.size]?=some (.cells (bJ (s[0].toNat:Int) N1 TX N2 mK mF mT mI mL mk mN) 73 (0,0)) by rw [hW'];exact lF HR7)
  have hbb:aH w W':=by rw [hW'];exact iF Ht (aEM _)
  exact aET (v:= .tuple #[.agg (bJ (s[0].toNat:Int) N1 TX N2 mK mF mT mI mL mk mN),.bool true]) Acr rfl ⟨Abj,hbb⟩):P:=h
end Go.Proofs.YtbolgdleijjgfaaGreatDoor
