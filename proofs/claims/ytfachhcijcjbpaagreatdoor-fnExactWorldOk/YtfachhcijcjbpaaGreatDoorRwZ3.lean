/-
  Parts of proofs that stand more than once, each said once.
-/
import Derived.Test.YtfachhcijcjbpaaGreatDoorRwZ2
namespace Go.Proofs.YtfachhcijcjbpaaGreatDoor
open Go.Proofs.Tryz
set_option maxRecDepth 100000
variable{P:Prop}
theorem aqh.Adh(h:P:=by
 go_upto_region 6 with fail;go_wp2_with fail;refine(HPT W1 vL.at.p).mono ?_;rintro e W2 ⟨v,rfl,hne,hrow,hb2⟩;obtain⟨av,cv,rfl,_⟩:=GR.own_at (enc:=fO) (sz:=4) aP hrow;have jV:=Hq (aj mq hb2);have mJ:=Hq (aj tV hb2);have HB2:=Hq (HB1.trans (hb2.mono HB1.size));have Dw:=Hq (vL.kc (k:=9) (KC.of_below hb2) Aaa);have mD:=Hq hrow;have hbs:w.heap.size+1 < W1.heap.size:=hrl;generalize W1.heap.size=bs at *;clear hb2 hne hrow c0 c1 c2 c3 c4 c5 c6 c7 c8 hnl hrl HPT mq tV HB1 vL;have f4n:=aA jV 4;have c4n:=(nine jV).2.2.2.2.1;have hn2:=ay jV;go_upto_region 7 with fail;refine wp_at (λZ6 hZ=>?_);have nM:Hid (Z6.heap[w.heap.size]?=some (.cells (vG n.id n.par a_k n.kids.length cZ n.next av RL.length cv iV n.out.length dW iM n.seen.length dw n.old jd n.reqs.length dG) 53 (0,0))):=by rw [hZ];exact Dg jV
 have qH:Hid (Z6.heap[w.heap.size+1]?=some (.cells kH 53 (0,0))):=by rw [hZ];exact iW mJ Aaa
 have HN6:Hid (NQ Z6 B n (⟨a_k,(some ⟨gp,0,none⟩),iV,iM,jd,cZ,fD,dW,dw,dG⟩:bg) G (newC w.heap.size 9 c)):=by rw [hZ];exact Dw.kc (k:=9) (KC.set (aY (aEx _))) Aaa
 have Tq:Hid (Z6.ownsRow bs 142 4 (.slice av RL.length cv) RL.length (GR.flat fO RL)):=by rw [hZ];exact dA mD (aC.set _) (λy hy=>by have:y=w.heap.size:=Aar;omega)
 have xQ:Hid (Below B w Z6):=by rw [hZ];exact(HB2.mono hB).setCell (p:=⟨w.heap.size,4,none⟩) hB _
 have HK6:Hid (Apart c w Z6):=by rw [hZ];exact(Apart.of_below HB2).keeps HB2.size (aC.set _) (λy hy=>by have:y=w.heap.size:=Aar;omega)
 clear hZ jV mJ Dw mD HB2 f4n c4n hn2;have c3n:=(nine nM).2.2.2.1;have hn6:=ay nM;go_upto_region 8 with fail;refine wp_at (λZ7 hZ=>?_)
 have HS7:Hid (Z7.heap[Z6.heap.size]?=some (.cells (gB n.next dst key gI) 129 (0,0))):=by
  rw [hZ];exact aEu Z6 _
 have vJ:aG Z6 Z7:=by
  rw [hZ];exact au Z6 _
 have rF:=Hq (aj nM vJ);have vP:=Hq (aj qH vJ);have HN7:=Hq (HN6.kc (k:=9) (KC.of_below vJ) Aaa);have HP7:=Hq (GR.own_below Tq vJ);have H6:=Hq (xQ.trans (vJ.mono (aEA hB xQ.size)));have HK7:=Hq (HK6.step xQ.size vJ);have hsb:w.heap.size+1 < Z6.heap.size:=ay qH;generalize Z6.heap.size=sb at *;clear hZ vJ nM qH HN6 Tq xQ HK6 c3n hn6;have c3n:=(nine rF).2.2.2.1;have f3n:=aA rF 3;have hn7:=ay rF;go_upto_region 9 with fail;refine wp_at (λZ8 hZ=>?_);have vD:Hid (Z8.heap[w.heap.size]?=some (.cells (vG n.id n.par a_k n.kids.length cZ (n.next+1) av RL.length cv iV n.out.length dW iM n.seen.length dw n.old jd n.reqs.length dG) 53 (0,0))):=by rw [hZ];exact Dg rF
 have IC:Hid (Z8.heap[w.heap.size+1]?=some (.cells kH 53 (0,0))):=by rw [hZ];exact iW vP Aaa
 have HS8:Hid (Z8.heap[sb]?=some (.cells (gB n.next dst key gI) 129 (0,0))):=by rw [hZ];exact iW HS7 Aaa
 have HN8:Hid (NQ Z8 B n (⟨a_k,(some ⟨gp,0,none⟩),iV,iM,jd,cZ,fD,dW,dw,dG⟩:bg) G (newC w.heap.size 9 c)):=by rw [hZ];exact HN7.kc (k:=9) (KC.set (aY (aEx _))) Aaa
 have HP8:Hid (Z8.ownsRow bs 142 4 (.slice av RL.length cv) RL.length (GR.flat fO RL)):=by rw [hZ];exact dA HP7 (aC.set _) (λy hy=>by have:y=w.heap.size:=Aar;omega)
 have HB8:Hid (Below B w Z8):=by rw [hZ];exact H6.setCell (p:=⟨w.heap.size,3,none⟩) hB _
 have HK8:Hid (Apart c w Z8):=by rw [hZ];exact HK7.keeps H6.size (aC.set _) (λy hy=>by have:y=w.heap.size:=Aar;omega)
 clear hZ HK7 rF vP HN7 HP7 H6 HS7 c3n f3n hn7
 obtain⟨a6,c6,W9,hrun,ab9,akT,ak4⟩:∃a6 c6 W9,(Builtin.append_ #[49,49] 49 #[.slice iV n.out.length dW,.slice (some ⟨Z8.heap.size,0,none⟩) 1 1]).run prog (Z8.alloc (.cells (gB n.next dst key gI) 129))= .ok (.slice a6 (n.out.length+1) c6) W9/\W9.ownsRow B 129 4 (.slice a6 (n.out.length+1) c6) (n.out.length+1) (GR.flat aN (n.out++[⟨n.next,dst,key,gI⟩]))/\(Z8.alloc (.cells (gB n.next dst key gI) 129)).grownBy W9 (Value.slice iV n.out.length dW).ownBlock/\∀x,(Value.slice a6 (n.out.length+1) c6).ownBlock=some x->(Value.slice iV n.out.length dW).ownBlock=some x\/(Z8.alloc (.cells (gB n.next dst key gI) 129)).heap.size<=x:=by
  obtain⟨hi,hz0,hz1,hz2⟩:=ah HI;obtain⟨v',w',hr,ho,hg,hw⟩:=kC (P:=prog) (Z8.alloc (.cells (gB n.next dst key gI) 129)) B 49 49 129 i0 (.agg (gB 0 0 ByteArray.empty 0)) 4 40 underlying49 hi hz0 hz1 hz2 rfl Aag (.slice iV n.out.length dW) n.out.length (GR.flat aN n.out) (GR.own_below HN8.o (au Z8 _)) ⟨Z8.heap.size,0,none⟩ 1 1 (aN ⟨n.next,dst,key,gI⟩) rfl (aFj (aEu Z8 _)) (yF _) Aai Aaa (aEA (aEA hB HB8.size) (au Z8 _).size);obtain⟨a6,c6,hv6,_⟩:=GR.own_at (enc:=aN) (sz:=4) (l:=n.out++[⟨n.next,dst,key,gI⟩]) aX (by rw [aEC,iX];exact ho);rw [aEC] at hv6;have hv7:v'= .slice a6 (n.out.length+1) c6:=hv6;subst hv7;exact⟨a6,c6,w',hr,by rw [iX];exact ho,hg,hw⟩
 have pU:=HN8.kc (k:=9) (KC.of_below (au Z8 (.cells (gB n.next dst key gI) 129))) Aaa;have k9:KC (newC w.heap.size 9 c) 3 (Z8.alloc (.cells (gB n.next dst key gI) 129)) W9:=KC.grown akT pU.co;have hn9:∀x,w.heap.size<=x->newC w.heap.size 9 c x≠3:=λx hx=>by rw [aY hx];omega
 have Dy:=Hq (k9.obj (aj vD (au Z8 (.cells (gB n.next dst key gI) 129))) (hn9 _ (aEx _)));have zB:=Hq (k9.obj (aj IC (au Z8 (.cells (gB n.next dst key gI) 129))) (hn9 _ Aaa));have aay:=Hq (k9.obj (aj HS8 (au Z8 (.cells (gB n.next dst key gI) 129))) (hn9 _ Aaa));have HB9:=Hq (k9.below (B:=B) (HB8.trans ((au Z8 (.cells (gB n.next dst key gI) 129)).mono (aEA hB HB8.size))) pU.lo Aaa (aEA (aEA hB HB8.size) (au Z8 _).size));have hZ8:w.heap.size+1 < Z8.heap.size:=ay IC
 have gu:Hid (∀W',(∃F,aC F W9 W'/\∀y∈F,(y=w.heap.size\/y=w.heap.size+1)\/(y < w.heap.size/\6 < c y))->RM W' ⟨a_k,av,a6,iM,jd,cZ,cv,c6,dw,dG⟩ ⟨n.id,n.par,n.kids,n.next+1,RL,n.out++[⟨n.next,dst,key,gI⟩],n.seen,n.old,n.reqs⟩):=λW' hkF=>by
  obtain⟨F,hk,hF⟩:=hkF
  have kF:KC (newC w.heap.size 9 c) 9 W9 W':=KC.keeps hk (λy hy=>by
   rcases hF y hy with h1|h1
   .exact aY Aaa
   .rw [eY h1.1];exact H9 y h1.2)
  have hr:=(kF.own (k9.own pU.r pU.cr Aaa) pU.cr Aaa)
  have hp:=(dA (k9.own (j:=9) (GR.own_below HP8 (au Z8 _)) (λx hx=>aY (by have:=uM HP8 hx;omega)) Aaa) hk (λy hy=>by
   have:=hF y hy
   omega))
  have ho:W'.ownsRow B 129 4 (.slice a6 (n.out++[(⟨n.next,dst,key,gI⟩:jI)]).length c6) (n.out++[(⟨n.next,dst,key,gI⟩:jI)]).length (GR.flat aN (n.out++[(⟨n.next,dst,key,gI⟩:jI)])):=(by
   rw [aEC]
   exact jf ab9 (λx hx=>by
    have hx9:=Cn ab9 hx
    refine hk.block x hx9 (λhm=>?_)
    have hm':=hF x hm
    rcases ak4 x hx with h1|h1
    .have h2:=pU.co x h1;rcases hm' with h3|h3
     .rw [aY Aaa] at h2;cases h2
     .rw [eY h3.1] at h2;omega
    .have:=(au Z8 (.cells (gB n.next dst key gI) 129)).size
     omega))
  have hp9:∀g,av.map (λy=>y.block)=some g->6 < newC w.heap.size 9 c g:=λg hg=>by
   have h1:=uM hp (sH hp hg)
   rw [aY Aaa]
   omega
  have ho9:∀x,(Value.slice a6 (n.out++[(⟨n.next,dst,key,gI⟩:jI)]).length c6).ownBlock=some x->(Value.slice iV n.out.length dW).ownBlock=some x\/(Z8.alloc (.cells (gB n.next dst key gI) 129)).heap.size<=x:=λx hx=>by
   rw [aEC] at hx
   exact ak4 x hx
  have hz9:(Z8.alloc (.cells (gB n.next dst key gI) 129)).heap.size=Z8.heap.size+1:=Aac
  exact RM.of (n:=⟨n.id,n.par,n.kids,n.next+1,RL,n.out++[⟨n.next,dst,key,gI⟩],n.seen,n.old,n.reqs⟩) (A:=⟨a_k,av,a6,iM,jd,cZ,cv,c6,dw,dG⟩) (c:=newC w.heap.size 9 c) (kF.w (k9.w pU.k pU.ck Aaa) pU.ck Aaa) pU.ck (kF.seenQ (k9.seenQ pU.sq pU.c4 pU.ci Aaa Aaa) pU.c4 pU.ci Aaa Aaa) pU.c4 pU.ci pU.ni
   (GR.own_ati aP hp) (λg hg _=> .inr (hp9 g hg)) ho (λx hx=>by
    rcases ho9 x hx with h1|h1
    .exact .inl (pU.co x h1)
    .refine .inr ?_;rw [aY Aaa]
     omega) hr (λx hx=> .inl (pU.cr x hx))
   (λg hg _ h6=>⟨λe=>by
    rcases ho9 g e with h1|h1
    .have:=pU.co g h1;omega
    .have h2:=Cn HP8 (sH HP8 hg)
     omega,λe=>by have:=pU.cr g e;omega⟩) (λx hx h6 e=>by have:=pU.cr x e;omega)
 have HK9:=Hq ((HK8.step HB8.size (au Z8 (.cells (gB n.next dst key gI) 129))).grown (aEA HB8.size (au Z8 _).size) akT (λx hx hlt=>by
  have h1:=pU.co x hx
  rw [eY hlt] at h1
  omega))
 have aas:=Hq hrun;clear hrun ab9 akT ak4 pU k9 hn9 HP8 HN8 HB8 HK8;have c5n:=(nine vD).2.2.2.2.2.1;obtain⟨s0,s1,s2,s3⟩:=iq HS8;have c5w:=(nine Dy).2.2.2.2.2.1;have f5w:=aA Dy 5;have hn8:=ay vD;have hs8:=ay HS8;go_upto_region 10 with(at_builtin;refine fK rfl _ _ 49 rfl _ _ rfl rfl _ _ aas ?_)
 refine wp_at (λZ9 hZ=>?_);have OM:Hid (Z9.heap[w.heap.size]?=some (.cells (vG n.id n.par a_k n.kids.length cZ (n.next+1) av RL.length cv a6 (n.out.length+1) c6 iM n.seen.length dw n.old jd n.reqs.length dG) 53 (0,0))):=by rw [hZ];exact Dg Dy
 have ajU:Hid (Z9.heap[w.heap.size+1]?=some (.cells kH 53 (0,0))):=by rw [hZ];exact iW zB Aaa
 have ajV:Hid (Z9.heap[sb]?=some (.cells (gB n.next dst key gI) 129 (0,0))):=by rw [hZ];exact iW aay Aaa
 have Ir:Hid (∀W' W'',aC [w.heap.size+1] Z9 W'->Out c w W' W''->RM W'' ⟨a_k,av,a6,iM,jd,cZ,cv,c6,dw,dG⟩ ⟨n.id,n.par,n.kids,n.next+1,RL,n.out++[⟨n.next,dst,key,gI⟩],n.seen,n.old,n.reqs⟩):=λW' W'' hk ho=>by
  obtain⟨F,hk2,hF⟩:=ho
  refine gu W'' ⟨w.heap.size::(w.heap.size+1)::F,aC.trans (b:=Z9) (by rw [hZ];exact(aC.set _).mono (λx hx=>Aba)) (aC.trans (hk.mono (λx hx=>Aba)) (hk2.mono (λx hx=>Aak))),λy hy=>?_⟩
  rcases aET.1 hy with h1|h1
  .exact .inl (.inl h1)
  .rcases aET.1 h1 with h2|h2
   .exact .inl (.inr h2)
   .exact .inr (hF y h2)
 have tZ:Hid (Below B w Z9):=by rw [hZ];exact HB9.setCell (p:=⟨w.heap.size,5,none⟩) hB _
 have SG:Hid (Apart c w Z9):=by rw [hZ];exact HK9.keeps HB9.size (aC.set _) (λy hy=>by have:y=w.heap.size:=Aar;omega)
 clear hZ HK9 gu aas Dy zB aay HB9 c5n s0 s1 s2 s3 c5w f5w hn8 hs8 vD IC HS8 hZ8;have HNV:Hid (gP ⟨n.id,n.par,n.kids,n.next+1,RL,n.out++[⟨n.next,dst,key,gI⟩],n.seen,n.old,n.reqs⟩ ⟨a_k,av,a6,iM,jd,cZ,cv,c6,dw,dG⟩= .agg (vG n.id n.par a_k n.kids.length cZ (n.next+1) av RL.length cv a6 (n.out.length+1) c6 iM n.seen.length dw n.old jd n.reqs.length dG)):=by unfold Hid;simp[gP,dR]
 have IB:Hid (∀x,Ge Z9 x->Calls prog 141 #[.agg (vG n.id n.par a_k n.kids.length cZ (n.next+1) av RL.length cv a6 (n.out.length+1) c6 iM n.seen.length dw n.old jd n.reqs.length dG),.agg (gB n.next dst key gI)] x (dK x (nT PM))):=λx hx=>by
  have h1:=Xv ⟨n.id,n.par,n.kids,n.next+1,RL,n.out++[⟨n.next,dst,key,gI⟩],n.seen,n.old,n.reqs⟩ ⟨a_k,av,a6,iM,jd,cZ,cv,c6,dw,dG⟩ ⟨n.next,dst,key,gI⟩ x Aae (GR.At.below (Ir Z9 Z9 (aC.refl _ _) Out.refl).at.o hx)
  rw [ah Ii,ah HNV] at h1
  exact h1
 obtain⟨qK,qF,qT,qI,qL,qk,qN⟩:=PM;unfold nT at IB
 have Ew:Hid (∀W' mb,aC [w.heap.size+1] Z9 W'->W'.heap[mb]?=some (.cells (bH qK qF qT qI qL qk qN) 104 (0,0))->w.heap.size<=mb->(∀W'',Out c w W' W''->RM W'' ⟨a_k,av,a6,iM,jd,cZ,cv,c6,dw,dG⟩ ⟨n.id,n.par,n.kids,n.next+1,RL,n.out++[⟨n.next,dst,key,gI⟩],n.seen,n.old,n.reqs⟩)/\(∀W'',Out c w W' W''->GR.At lQ 7 W'' (some ⟨mb,0,none⟩) [⟨qK,qF,qT,qI,qL,qk,qN⟩])/\Below B w W'/\Apart c w W'):=λW' mb hk hm hmb=>by
  refine⟨λW'' ho=>Ir W' W'' hk ho,λW'' ho i hi=>?_,tZ.trans (hk.below (λx hx=>by have:x=w.heap.size+1:=Aad;omega) (aEA hB tZ.size)),SG.keeps tZ.size hk (λx hx=>by have:x=w.heap.size+1:=Aad;omega)⟩
  obtain⟨F,hk2,hF⟩:=ho
  have hm2:=hk2.obj hm (λhx=>by have:=(hF mb hx).1;omega)
  refine⟨mb,0,rfl,ay hm2,λj hj=>?_⟩
  have hi0:i=0:=Abq
  subst hi0
  have h1:=aEz W'' mb (0+(0*7+j)) _ _ (0,0) hm2
  rw [h1]
  simp[lQ]
 clear Ir tZ SG Ii;obtain⟨c0,c1,c2,c3,c4,c5,c6,c7,c8⟩:=nine OM;obtain⟨s0,s1,s2,s3⟩:=iq ajV;open ank in exact XQ):P:=h
theorem aa3(h:P:=by
 have hke:k=out.length:=Aaa
 subst hke;have hnlt:decide ((out.length:Int) < (out.length:Int))=false:=Aac
 exact AaZ):P:=h
theorem aqi.AaZ(h:P:=by
 have HOF:Hid (TT=gL RQ RR reqs):=by
  have h:=ah kS;rw [aEW] at h;rw [ah HTT,h];rfl
 clear OI Ev xR HOT;go_wp2_with fail;go_loopw [5] (λi wr=>∃k:Nat,k<=reqs.length/\i= .int .i64 k/\gL RQ RR (reqs.take k)=true/\wr.heap[w.heap.size]?=some (.cells (dR ⟨id,par,kids,next,pu,out,seen,old,reqs⟩ ⟨ak,ap,ao,as',ar,ck,cp,co,cs,cr⟩) 53 (0,0))/\aG w wr) (λi _=>reqs.length - (intOf i).toNat)
 case atStart=>exact⟨0,aEN _,rfl,rfl,H7,aO⟩
 case round=>
  open aqW in exact aeH):P:=h
theorem aqj.AaZ(h:P:=by
 have HRS:Hid (L=(out.take out.length).map PM):=by
  rw [ah DC,aEW];cases hOK:OK
  .rcases Nat.eq_zero_or_pos out.length with h|h
   .rw [aEZ h];rfl
   .exact absurd (hpos h) (by rw [hOK];simp)
  .rfl
 clear hpos;go_wp2_with fail;go_ret;rw [ah HRS];exact Bz.of_own Aac HO Aaa HW):P:=h
theorem aqk.AaZ(h:P:=by
 have HF:=Hq (zy HN);go_wp2_with fail;go_ret;exact⟨Nt HF.symm,au w _⟩):P:=h
theorem aql.AaZ(h:P:=by
 have hyy:=ah zy HN;clear HLY zo zy;subst hyy;go_upto_region 8 with fail;refine wp_at (λW3 hW3=>?_);have hbw:aG wr W3:=by rw [hW3];exact aEK _ _
 open apj in exact awl):P:=h
theorem aqm.AaZ(h:P:=by
 exact akr):P:=h
theorem aa4(h:P:=by
 go_wp2_with fail;refine H.mono ?_;rintro e w1 ⟨v,rfl,hv,hown,hb⟩;have HV:=Hq hv;have HO:=Hq hown;have HB:=Hq hb;clear hown hb hv;go_wp2_with fail;exact AaW):P:=h
theorem aqn.AaW(h:P:=by
 exact aEE (v:= .tuple #[v,.bool r.2]) (by simp[results,results140,go_sem]) rfl ⟨v,rfl,HV,HO,HB⟩):P:=h
theorem aqo.AaW(h:P:=by
 exact aEE (v:= .tuple #[v,.bool r.2]) (by simp[results,results139,go_sem]) rfl ⟨v,rfl,HV,HO,HB⟩):P:=h
theorem aqp.AaW(h:P:=by
 exact aEE (v:= .tuple #[v,.bool r.2]) (by simp[results,results144,go_sem]) rfl ⟨v,rfl,HV,HO,HB⟩):P:=h
theorem aqr.AaW(h:P:=by
 exact aEE (v:= .tuple #[v,.bool r.2]) (by simp[results,results169,go_sem]) rfl ⟨v,rfl,HV,HO,HB⟩):P:=h
theorem aqs.AaW(h:P:=by
 exact aEE (v:= .tuple #[v,.bool r.2]) (by simp[results,results97,go_sem]) rfl ⟨v,rfl,HV,HO,HB⟩):P:=h
theorem IK(h:P:=by
 clear hr;go_in
 go_upto_region 11 with fail;refine wp_at (λV hV=>?_);exact AaO):P:=h
theorem aqt.AaO(h:P:=by
 have hblk:V.heap[w.heap.size]?=some (.cells (bH 2 F T I 0 ByteArray.empty 0) 104 (0,0)):=by rw [hV,aEI _ _ _ Aac];exact aEu w _
 open az9 in exact Yk2):P:=h
theorem aqu.AaO(h:P:=by
 have hblk:V.heap[w.heap.size]?=some (.cells (bH 2 F T I 0 ByteArray.empty N) 104 (0,0)):=by rw [hV,aEI _ _ _ Aac];exact aEu w _
 open aAa in exact Yk2):P:=h
theorem aqv.AaO(h:P:=by
 have hblk:V.heap[w.heap.size]?=some (.cells (bH 2 F T I L k N) 104 (0,0)):=by rw [hV,aEI _ _ _ Aac];exact aEu w _
 open aAc in exact Yk2):P:=h
theorem aqw.AaO(h:P:=by
 have hblk:V.heap[w.heap.size]?=some (.cells (bH 2 F T I L k N) 104 (0,0)):=by rw [hV,aEI _ _ _ Aac];exact aEu w _
 open aov in exact XR):P:=h
theorem aqx.AaO(h:P:=by
 have hblk:V.heap[w.heap.size]?=some (.cells (bH 1 F T I L k N) 104 (0,0)):=by rw [hV,aEI _ _ _ Aac];exact aEu w _
 open aow in exact XR):P:=h
theorem aqy.AaO(h:P:=by
 have hblk:V.heap[w.heap.size]?=some (.cells (bH 1 F T I L k N) 104 (0,0)):=by rw [hV,aEI _ _ _ Aac];exact aEu w _
 open aox in exact XR):P:=h
theorem aqz.AaO(h:P:=by
 have hblk:V.heap[w.heap.size]?=some (.cells (bH 0 F T 0 0 k N) 104 (0,0)):=by rw [hV,aEI _ _ _ Aac];exact aEu w _
 open aAo in exact Yk7):P:=h
theorem aqA.AaO(h:P:=by
 have hblk:V.heap[w.heap.size]?=some (.cells (bH 0 F T 0 L k N) 104 (0,0)):=by rw [hV,aEI _ _ _ Aac];exact aEu w _
 open aAp in exact Yk7):P:=h
theorem aqB.AaO(h:P:=by
 have hblk:V.heap[w.heap.size]?=some (.cells (bH 0 F T I L k N) 104 (0,0)):=by rw [hV,aEI _ _ _ Aac];exact aEu w _
 open aAq in exact Yk7):P:=h
theorem aqC.AaO(h:P:=by
 have hblk:V.heap[w.heap.size]?=some (.cells (bH 0 F T I L k N) 104 (0,0)):=by rw [hV,aEI _ _ _ Aac];exact aEu w _
 open aoy in exact XR):P:=h
theorem awz(h:P:=by
 obtain⟨i,hi,hcmp⟩:=Option.map_eq_some_iff.1 Is.comp;obtain⟨j,hj,hjs⟩:=Option.map_eq_some_iff.1 Is.size;have h8:= @aFl prog 305 _ Extern.ReflectliteType.typeOf func305 Aab Aab Aab Aab;have h32:= @aFl prog 358 _ Is.cmp func358 Aab Aab Aab Aab;have tT:=Is.typeOf;have cT:=Is.comparable;have mR:=Is.methodComparable;exact AdF):P:=h
theorem aqD.AdF(h:P:=by
 have nE:=Is.noIs;have uE:=Is.noUnwrap;have vE:=Is.noUnwraps;have heq:=run_eql_iface_ptr_other (P:=prog) w underlying284 underlying409 hi hcmp hj (by rw [hjs];decide) hne ha hb;exact aiH):P:=h
theorem aqE.AdF(h:P:=by
 have heq:=run_eql_iface_ptr_same (P:=prog) w a underlying284 underlying409 hi hcmp hj;exact aiH):P:=h
theorem akd(h:P:=by
 refine Dq 0 rfl Aab Aab Aab (λ_ _ _ _ h=>h) (λK hK=>?_);go_simp
 first
  |(refine hK _ ?_;clear hK K)
  |(apply Exists.intro
    refine⟨λ_=>rfl,hK _ ?_⟩
    clear hK K)
 exact AbJ):P:=h
theorem aqF.AbJ(h:P:=by
 refine rD 7 ?_;refine tk [1,2,3,4,5] ?_;iterate 5 (refine iy (λK hK=>?_);go_simp;refine hK _ ?_;clear hK K)
 refine jm ?_;clear y9 z0 z1 z2 z3 z4 z5 z6;refine dB 6 rfl Aab Aah (λx hx=>?_);go_simp;refine⟨au x _,?_⟩;have JU:=Hq ((HSW.step hx).step (au x (.cells (bH mK mF mT mI mL mk mN) 104)));have gu:=Hq (aEu x (.cells (bH mK mF mT mI mL mk mN) 104));have hbs:w0.heap.size<=x.heap.size:=(HSW.step hx).keep.size;clear hx HSW HXW gK HS;generalize x.alloc (.cells (bH mK mF mT mI mL mk mN) 104)=y at *;refine aS Aab (λz hz=>?_);have tX:=Hq (JU.step hz);have Ir:=Hq (aj gu hz);clear hz JU gu;refine an 7 ?_;refine oF z (.tmp 12) (.tmp 14) 54 rfl w0.heap.size 104 i0 (.agg (bH 0 0 0 0 0 ByteArray.empty 0)) 7 64 underlying54 hi hz0 hz1 hz2 rfl Aag (.slice va L.length vc) L.length (GR.flat lQ L) Aan tX.m ⟨x.heap.size,0,none⟩ 1 1 (lQ ⟨mK,mF,mT,mI,mL,mk,mN⟩) Aan rfl (aFj Ir) (PO _) Aai Aaa tX.keep.size ?_;intro v6 w6 hown6 qP Qb;obtain⟨va6,vc6,hv6,_⟩:=GR.own_at (enc:=lQ) (sz:=7) (l:=L++[⟨mK,mF,mT,mI,mL,mk,mN⟩]) qX (by rw [aEC,iX];exact hown6);rw [aEC] at hv6;have hv7:v6= .slice va6 (L.length+1) vc6:=hv6;subst hv7;clear hv6;obtain⟨hb6,hS6⟩:=tX.app ⟨mK,mF,mT,mI,mL,mk,mN⟩ hown6 qP Qb;have HS6:=Hq hS6;obtain⟨k0,k1,k2,k3,k4,k5,k6,k7,k8,k9⟩:=jB hb6;have kf:=aA hb6 9;clear hown6 qP Qb hb6 hS6 tX Ir;refine an 8 ?_;go_simp;refine an 9 ?_;go_simp;refine an 10 ?_;go_simp;refine ad ?_;go_simp;go_wp2_with fail;exact aGk (v:= .tuple #[]) (by simp[results,results225,go_sem]) rfl ⟨rfl,_,_,HS6⟩):P:=h
theorem aqG.AbJ(h:P:=by
 refine rD 9 ?_;refine tk [1,2,3,4,5,6,7] ?_;iterate 7 (refine iy (λK hK=>?_);go_simp;refine hK _ ?_;clear hK K)
 refine jm ?_;clear y8 z0 z1 z2 z3;refine dB 8 rfl Aab Aah (λx hx=>?_);go_simp;refine⟨au x _,?_⟩;have HX:=Hq ((HW1.step hx).step (au x (.cells (gJ q.no q.k q.n q.s) 133)));have HN:=Hq (aEu x (.cells (gJ q.no q.k q.n q.s) 133));have HRL:=Hq (show∀y,(Value.slice A.r n.reqs.length A.cr).ownBlock=some y->x.heap.size≠y from λy hy=>by have:=((HW1.step hx).no.r.lt y hy).2;omega);clear hx HW HW1 kU;generalize x.alloc (.cells (gJ q.no q.k q.n q.s) 133)=x1 at *;refine aS Aab (λu hu=>?_);have HU:=Hq (HX.step hu);have HNU:=Hq (aj HN hu);clear hu HX HN;refine an 9 ?_;go_simp;refine(ali w0.heap.size A.r A.cr i n.reqs q x.heap.size u Aaa hi HU.keep.size HU.no.r HNU HRL).mono ?_;rintro e w6 ⟨a6,c6,rfl,hown6,qP,Qb⟩;obtain⟨hb6,hW6⟩:=HU.reqPut hown6 qP Qb;have Wl:=Hq hW6;obtain⟨k0,k1,k2,k3,k4,k5,k6,k7,k8,k9⟩:=jB hb6;have kf:=aA hb6 8;have hw6:=ay hb6;clear hown6 qP Qb hb6 hW6 HU HNU HRL;rw [hlen] at Wl ⊢;refine an 10 ?_;go_simp;refine an 11 ?_;go_simp;refine an 12 ?_;go_simp;refine an 13 ?_;go_simp;refine ad ?_;go_simp;go_upto_region 2 with fail;refine wp_at (λV hV=>?_);have HV:Hid (WK w0 V wb (eD n (qd n.reqs i q)) ⟨A.k,A.p,A.o,A.s,a6,A.ck,A.cp,A.co,A.cs,c6⟩ G (newC u.heap.size 6 c) v L):=by rw [hV];exact Wl
 clear hV Wl k0 k1 k2 k3 k4 k5 k6 k7 k8 k9 kf hw6;have hl2:(eD n (qd n.reqs i q)).reqs.length=n.reqs.length+1:=hlen;obtain⟨d0,d1,d2,d3,d4,d5,d6,d7,d8,d9⟩:=jB HV.blk;rw [hl2] at d8;have hVl:=ay HV.blk;by_cases ajj:30 < n.reqs.length+1
 case' neg=>
  have hm2:¬((30:Int) < (n.reqs.length:Int)+1):=Aaa
  have HK:=Hq (show Db n q i=eD n (qd n.reqs i q) by unfold Db;rw [hlen,aEG ajj]);go_wp2_with fail;exact aGk (v:= .tuple #[]) (by simp[results,results223,go_sem]) rfl ⟨rfl,_,_,_,by rw [ah HK];exact HV⟩
 have hm2:(30:Int) < (n.reqs.length:Int)+1:=Aaa
 obtain⟨g,hAr,hgw,hgl,⟨q0,_,_,_⟩,_⟩:=HV.reqRow 0 Aaa;dsimp only at hAr;subst hAr;have hz8:(0:Int) < (n.reqs.length:Int)+1:=Aaa
 have HK:=Hq (show Db n q i=eD (oz n (eD n (qd n.reqs i q)).reqs[0].no) ((qd n.reqs i q).drop 1) by
  unfold Db
  rw [hlen,aER ajj]
  congr 2
  show((qd n.reqs i q).headD default).no=(qd n.reqs i q)[0].no
  rw [List.headD_eq_head?_getD,List.head?_eq_getElem?,aEB Aaa]
  rfl)
 generalize (eD n (qd n.reqs i q)).reqs[0].no=old at *;rw [Nat.zero_mul] at q0;have vf7:=aA HV.blk 7;have vf8:=aA HV.blk 8;have HO:=Hq (HV.oldPut old);go_upto_region 4 with fail;refine wp_at (λV2 hV2=>?_);have HV2:Hid (WK w0 V2 wb (oz (eD n (qd n.reqs i q)) old) ⟨A.k,A.p,A.o,A.s,some ⟨g,0,none⟩,A.ck,A.cp,A.co,A.cs,c6⟩ G (newC u.heap.size 6 c) v L):=by rw [hV2];exact HO
 clear hV2 HO HV d0 d1 d2 d3 d4 d5 d6 d7 d8 d9 q0 vf7 vf8 hVl;have hl3:(oz (eD n (qd n.reqs i q)) old).reqs.length=n.reqs.length+1:=hlen;obtain⟨d0,d1,d2,d3,d4,d5,d6,d7,d8,d9⟩:=jB HV2.blk;rw [hl3] at d8;have hVl:=ay HV2.blk;have HD:=Hq (akA w0.heap.size (some ⟨g,0,none⟩) c6 (qd n.reqs i q) V2 Aaa Aaa HV2.no.r);rw [hlen] at HD;go_wp2_with fail;refine HD.mono ?_;rintro e w7 ⟨a7,c7,rfl,Kh,ayi,ayF⟩;obtain⟨vJ,WY⟩:=HV2.reqPut Kh (by rw [hl3];exact ayi) (by rw [hl3];exact ayF);have hl7:((qd n.reqs i q).drop 1).length=n.reqs.length:=by rw [aE8,hlen];omega
 rw [hl7] at WY;have HW7:=Hq WY;obtain⟨k0,k1,k2,k3,k4,k5,k6,k7,k8,k9⟩:=jB vJ;have kf:=aA vJ 8;have hw7:=ay vJ;clear Kh ayi ayF vJ WY HV2 HD d0 d1 d2 d3 d4 d5 d6 d7 d8 d9;go_wp2_with fail;exact aGk (v:= .tuple #[]) (by simp[results,results223,go_sem]) rfl ⟨rfl,_,_,_,by rw [ah HK];exact HW7⟩):P:=h
theorem aqH.AbJ(h:P:=by
 refine rD 8 ?_;refine tk [1,2,3,4,5] ?_;iterate 5 (refine iy (λK hK=>?_);go_simp;refine hK _ ?_;clear hK K)
 refine jm ?_;clear y0;refine dB 6 rfl Aab Aah (λx hx=>?_);go_simp;refine(HO _ ((HH.keep1 (HF2.step hx).keep hfb hne))).mono ?_;rintro e y ⟨hcase,hby⟩;have HFX:=Hq (HF2.step hx);clear hx;rcases hcase with⟨hyes,rfl⟩|⟨hno,p,rfl⟩
 case' inr=>
  have HST:=Hq (HN hno);exact⟨rfl,.inr ⟨_,rfl⟩,HFX.found HS HST hby⟩
 have HST:=Hq (HY hyes);have HSN:=Hq (gu HST);obtain⟨hz5,hz6⟩:=ah HGT HST;clear hyes HY HN gu HGT HO HF2;refine⟨hby,?_⟩;have HFY:=Hq (HFX.step hby);clear hby HFX;refine dB 7 rfl Aab Aah (λx2 hx2=>?_);go_simp;refine⟨au x2 _,?_⟩;have HFZ:=Hq ((HFY.step hx2).step (au x2 (.cells (bE K no k n mK mF mT mI mL mk mN) 106)));have Ir:=Hq (aEu x2 (.cells (bE K no k n mK mF mT mI mL mk mN) 106));clear hx2 HFY;generalize x2.alloc (.cells (bE K no k n mK mF mT mI mL mk mN) 106)=y2 at *;refine aS Aab (λu hu=>?_);have HFU:=Hq (HFZ.step hu);have HNU:=Hq (aI Ir hu);clear hu HFZ Ir;have hLl:=ah HL;refine an 8 ?_;refine oF u (.tmp 37) (.tmp 40) 95 rfl (w.heap.size+1) 106 i0 (.agg (bE 0 0 ByteArray.empty 0 0 0 0 0 0 ByteArray.empty 0)) 11 104 underlying95 hi hz0 hz1 hz2 rfl Aag (.slice va L.length vc) L.length (GR.flat nQ L) Aan HFU.own ⟨x2.heap.size,0,none⟩ 1 1 (nQ ⟨K,no,k,n,⟨mK,mF,mT,mI,mL,mk,mN⟩⟩) Aan rfl (aFj HNU) (PU _) Aai Aaa (by have:=HFU.gl;omega) ?_;intro v6 w6 hown6 qP _;obtain⟨va6,vc6,hv6,_⟩:=GR.own_at (enc:=nQ) (sz:=11) (l:=L++[⟨K,no,k,n,⟨mK,mF,mT,mI,mL,mk,mN⟩⟩]) jO (by rw [aEC,yG];exact hown6);rw [aEC] at hv6;have hv7:v6= .slice va6 (L.length+1) vc6:=hv6;subst hv7;clear hv6;obtain⟨hb6,hF6⟩:=HFU.app ⟨K,no,k,n,⟨mK,mF,mT,mI,mL,mk,mN⟩⟩ hown6 qP;have HF6:=Hq (hF6 z);obtain⟨k0,k1⟩:=ZW hb6;have kf0:=ajg hb6 0;have kf1:=ajg hb6 1;clear hown6 qP hb6 hF6 HFU HNU;refine an 9 ?_;go_simp;refine an 10 ?_;go_simp;refine an 11 ?_;go_simp;refine ad ?_;go_simp;go_wp2_with fail;go_roundw
 case rel=>exact⟨z,_,_,HF6,HSN⟩
 case measure=>
  have h1:=ah HEA;have h2:=HF6.endOf;rw [h1,h2];omega):P:=h
theorem awC(h:P:=by
 clear hm hM;go_in
 go_wp2_with fail;refine(HN _).mono ?_;rintro e w1 ⟨rfl,hb1⟩;rw [hno];obtain⟨hA,hz,hbel⟩:=Fo.one_block hb1;obtain⟨⟨p0,p1,p2,p3⟩,_⟩:=fG hA;have hm1:w1.heap[mp]?=some (.cells #[v,.map (some mb)] 392 (0,0)):=by rw [hbel.block _ hmp];exact HM
 obtain⟨⟨m0,m1⟩,_⟩:=lY hm1;have hI1:iA w1.drew mb n G:=HI.kept (by rw [<-hbel.block _ hmb];rfl);exact Ac0):P:=h
theorem aqI.Ac0(h:P:=by
 obtain⟨w2,hrun,hI2,hK2⟩:=ah HST _ 0 hI1;have HI2:=Hq (hI2.mono (Nat.le_succ n));have qE:=Hq ((Keeps.of_below (g:=mb) hbel).trans (Keeps.trans (b:=w1.drew) (Keeps.of_below (aEK _ _).drew) hK2));clear hb1 hA hbel hm1 hI1 hI2 hK2 HST HN;go_wp2_with fail;go_region
 all_goals
  go_wp2_with fail
  exact aEE (v:= .tuple #[]) (by simp[results,results308,go_sem]) rfl ⟨rfl,HI2,qE⟩):P:=h
theorem aqJ.Ac0(h:P:=by
 obtain⟨w2,hrun,hI2,hK2⟩:=ah HST _ hI1;have HI2:=Hq hI2;have qE:=Hq ((Keeps.of_below (g:=mb) hbel).trans (Keeps.trans (b:=w1.drew) (Keeps.of_below (aEK _ _).drew) hK2));clear hb1 hA hbel hm1 hI1 hI2 hK2 HST HN;go_wp2_with fail;go_region
 all_goals
  go_wp2_with fail
  exact aGk (v:= .tuple #[]) (by simp[results,results308,go_sem]) rfl ⟨rfl,HI2,qE⟩):P:=h
theorem awD(h:P:=by
 go_simp;refine(aew A2 x5 (HS.step HG).nl.at).mono ?_;rintro e y5 ⟨A3,ma,mc,rfl,hat,hmt,hb5⟩;refine⟨hb5.mono HG.size,?_⟩;have hxs:=HG.size;have Ou:=Hq (show NL x5.heap.size y5 A3 m' from λF W'' hk hF=>(hat W'' ⟨F,hk,hF⟩).at);have HG2:=Hq (Ge.trans HG hb5);exact AcF):P:=h
theorem aqK.AcF(h:P:=by
 have HQ2:=Hq (aj HQ hb5);have hqd:qf < x5.heap.size\/y5.heap.size<=qf:= .inl (ay HQ);open ate in exact agW):P:=h
theorem aqL.AcF(h:P:=by
 open atd in exact agW):P:=h
theorem awE(h:P:=by
 have HUP:=Hq (show up[i]?=some up[i] from aEB hi);have aDF:(i:Int) < 1048600:=Aaa
 obtain⟨hT,hN,hbw⟩:=Pp w (.cells #[.slice (some ⟨g,off,none⟩) up.length ca] 33) (.cells (dR n A) 53);have q1:=(hbw.cell (p:=⟨g,off+i,none⟩) hgw).trans q0;generalize hW:(w.alloc (.cells #[.slice (some ⟨g,off,none⟩) up.length ca] 33)).alloc (.cells (dR n A) 53)=W at *;have gK:=Hq hbw;have hz:i < up.length:=hi;exact AdH):P:=h
theorem aqM.AdH(h:P:=by
 clear ha hn q0 hbw htb hl hk;open aBq in exact av8):P:=h
theorem aqN.AdH(h:P:=by
 clear ha hn q0 hbw hl hk;open aBr in exact av8):P:=h
theorem awF(h:P:=by
 go_wp2_with (at_builtin;refine aFf _ rfl _ _ 48 rfl w.heap.size 142 i0 (.agg (iK ByteArray.empty 0 0 0)) 4 40 underlying48 hi hz0 hz1 hz2 rfl Aag _ 0 [] rfl hlit x l.length cap (GR.flat fO l) rfl ?c0 ?c1 ?c2 ?c3 ?c4 ?c5 ?_)
 case c0=>exact GR.flat_length fO 4 aP l
 case c1=>exact HN
 case c2=>exact Fe l
 case c3=>unfold maxLen;omega
 case c4=>omega
 case c5=>simp
 exact Ada):P:=h
theorem aqO.Ada(h:P:=by
 intro v' w1 hown' hgrow _;open avq in exact ahu):P:=h
theorem aqP.Ada(h:P:=by
 intro v' w1 hown' hgrow hnil;have LC:=Hq (show v'≠ .slice none 0 0 from hnil);open avp in exact ahu):P:=h
theorem aeG(h:P:=by
 go_wp2_with fail;refine(Bq _).mono ?_;rintro e w5 ⟨rfl,hb5⟩;have fI:=Hq (GR.Blk.stepW HB hb5);have eO:=Hq (aO.trans (hb5.mono aO.size));exact Aa4):P:=h
theorem aqQ.Aa4(h:P:=by
 clear hb5 q0 q1 q2 q3 q4 q5 q6;obtain⟨s0,s1,s2,s3,s4,s5,s6⟩:=LK fI k Aaa;have f0:=GR.Blk.free fI (k*7);have f1:=GR.Blk.free fI (k*7+1);have f2:=GR.Blk.free fI (k*7+2);have f3:=GR.Blk.free fI (k*7+3);have f4:=GR.Blk.free fI (k*7+4);have f5:=GR.Blk.free fI (k*7+5);have f6:=GR.Blk.free fI (k*7+6);go_wp2_with fail;go_roundw
 case rel=>
  have h:=GR.Blk.set fI dM k Aaa ⟨mK,mF,mT,mI,mL,mk,mN⟩;rw [ah TS] at h;exact⟨k+1,Aaa,Aaf,h,GR.setW_below (o:=k*7) (aEx w.heap.size) (iE ⟨mK,mF,mT,mI,mL,mk,mN⟩) eO⟩
 case measure=>simp[intOf];omega):P:=h
theorem aqR.Aa4(h:P:=by
 clear hb5 q0 q1 q2 q3 q4 q5 q6 q7 q8 q9 QZ q11;obtain⟨s0,s1,s2,s3,s4,s5,s6,s7,s8,s9,s10,s11⟩:=Dr fI k Aaa;have f0:=GR.Blk.free fI (k*12);have f1:=GR.Blk.free fI (k*12+1);have f2:=GR.Blk.free fI (k*12+2);have f3:=GR.Blk.free fI (k*12+3);have f4:=GR.Blk.free fI (k*12+4);have f5:=GR.Blk.free fI (k*12+5);have f6:=GR.Blk.free fI (k*12+6);have f7:=GR.Blk.free fI (k*12+7);have f8:=GR.Blk.free fI (k*12+8);have f9:=GR.Blk.free fI (k*12+9);have f10:=GR.Blk.free fI (k*12+10);have f11:=GR.Blk.free fI (k*12+11);go_wp2_with fail;go_roundw
 case rel=>
  have h:=GR.Blk.set fI bY k Aaa ⟨⟨oK,oZ,ok,on,⟨mK,mF,mT,mI,mL,mk,mN⟩⟩,ac⟩;rw [ah TS] at h;exact⟨k+1,Aaa,Aaf,h,GR.setW_below (o:=k*12) (aEx w.heap.size) (gM ⟨⟨oK,oZ,ok,on,⟨mK,mF,mT,mI,mL,mk,mN⟩⟩,ac⟩) eO⟩
 case measure=>simp[intOf];omega):P:=h
theorem aqS.Aa4(h:P:=by
 clear hb5 q0 q1 q2 q3 q4 q5 q6 q7 q8 q9 QZ q11 q12;obtain⟨s0,s1,s2,s3,s4,s5,s6,s7,s8,s9,s10,s11,s12⟩:=IG fI k Aaa;have f0:=GR.Blk.free fI (k*13);have f1:=GR.Blk.free fI (k*13+1);have f2:=GR.Blk.free fI (k*13+2);have f3:=GR.Blk.free fI (k*13+3);have f4:=GR.Blk.free fI (k*13+4);have f5:=GR.Blk.free fI (k*13+5);have f6:=GR.Blk.free fI (k*13+6);have f7:=GR.Blk.free fI (k*13+7);have f8:=GR.Blk.free fI (k*13+8);have f9:=GR.Blk.free fI (k*13+9);have f10:=GR.Blk.free fI (k*13+10);have f11:=GR.Blk.free fI (k*13+11);have f12:=GR.Blk.free fI (k*13+12);go_wp2_with fail;go_roundw
 case rel=>
  have h:=GR.Blk.set fI dP k Aaa ⟨ta,⟨⟨oK,oZ,ok,on,⟨mK,mF,mT,mI,mL,mk,mN⟩⟩,ac⟩⟩;rw [ah TS] at h;exact⟨k+1,Aaa,Aaf,h,GR.setW_below (o:=k*13) (aEx w.heap.size) (nR ⟨ta,⟨⟨oK,oZ,ok,on,⟨mK,mF,mT,mI,mL,mk,mN⟩⟩,ac⟩⟩) eO⟩
 case measure=>simp[intOf];omega):P:=h
theorem aqT.Aa4(h:P:=by
 clear hb5 q0 q1;obtain⟨s0,s1⟩:=Es fI k Aaa;have f0:=GR.Blk.free fI (k*2);have f1:=GR.Blk.free fI (k*2+1);go_wp2_with fail;go_roundw
 case rel=>
  have h:=GR.Blk.set fI jX k Aaa ⟨ga,gn⟩;rw [ah TS] at h;exact⟨k+1,Aaa,Aaf,h,GR.setW_below (o:=k*2) (aEx w.heap.size) (oI ⟨ga,gn⟩) eO⟩
 case measure=>simp[intOf];omega):P:=h
theorem awG(h:P:=by
 rintro e W3 ⟨A1,ma,mc,rfl,hat,hmt,hb3,hap⟩;have pX:=Hq ((hap _ (ay mJ) (by rw [aY Aaa];omega)).trans mJ);have aaj:=Hq hat;have aeh:=Hq hmt;have HB3:=Hq ((HB2.mono hB).trans hb3);have VQ:Hid (Apart c w W3):=λx hx hc=>(hap x (aEH hx HB2.size) (by rw [eY hx];exact hc)).trans (HB2.block x hx)
 have h23:=hb3.size;have h02:=HB2.size;have h2r:=ay mJ;exact Ad9):P:=h
theorem aqU.Ad9(h:P:=by
 clear hat hmt hb3 hap c0 c1 c2 c3 c4 c5 c6 c7 c8 m0 m1 m2 m3 m4 m5 m6 hml hnl OZ jV BD mJ Dw;obtain⟨⟨d0,d1,d2,d3,d4,d5,d6,d7,d8⟩,f0,f1,f2,f3,f4,f5,f6,f7,f8⟩:=iG pX;have hrl:=ay pX;go_wp2_with fail;refine eB (u1:= .slice ma L1.length mc) (u2:= .int .i64 CW) results101 rfl rfl rfl rfl pX (λW' e4 eX=>?_)
 have HAT:=Hq (λW'' (ho:Out c w W' W'')=>(show RM W'' A1 N1 from(by
  obtain⟨F,hk,hF⟩:=ho
  exact aaj _ ⟨(w.heap.size+2)::F,aC.trans (b:=W') (eX.mono (λx hx=>Aba)) (hk.mono (λx hx=>Aak)),λy hy=>by
   rcases aET.1 hy with h1|h1
   .exact WB
   .exact⟨aEH (hF y h1).1 h02,by rw [eY (hF y h1).1];exact(hF y h1).2⟩⟩)))
 have HMT:=Hq (λW'' (ho:Out c w W' W'')=>(show GR.At lQ 7 W'' ma L1 from(by
  obtain⟨F,hk,hF⟩:=ho
  exact aeh _ ⟨(w.heap.size+2)::F,aC.trans (b:=W') (eX.mono (λx hx=>Aba)) (hk.mono (λx hx=>Aak)),λy hy=>by
   rcases aET.1 hy with h1|h1
   .exact WB
   .exact⟨aEH (hF y h1).1 h02,by rw [eY (hF y h1).1];exact(hF y h1).2⟩⟩)))
 have qG:Hid (Below B w W'):=HB3.trans (eX.below (λx hx=>by have:x=w.heap.size+2:=Aad;omega) (aEA hB HB3.size));have xA:=Hq (Apart.keeps (c:=c) VQ HB3.size eX (λx hx=>by have:x=w.heap.size+2:=Aad;omega));clear e4 eX;exact⟨A1,ma,mc,rfl,HAT,HMT,qG,xA⟩):P:=h
theorem aqV.Ad9(h:P:=by
 clear hat hmt hb3 hap c0 c1 c2 c3 c4 c5 c6 c7 c8 m0 m1 m2 m3 m4 m5 m6 hml hnl HGV jV BD mJ Dw;obtain⟨A1,hA1⟩:∃A2,A2=A1:=⟨_,rfl⟩;subst hA1;have Oq:=Hq (aEu W3 (.cells (dR N1 A1) 53));have xB:=Hq (aj pX (au W3 (.cells (dR N1 A1) 53)));have vI:=Hq (HB3.trans ((au W3 (.cells (dR N1 A1) 53)).mono (aEA hB HB3.size)));have HKA:=Hq (VQ.step HB3.size (au W3 (.cells (dR N1 A1) 53)));obtain⟨c0,c1,c2,c3,c4,c5,c6,c7,c8⟩:=nine Oq;obtain⟨⟨d0,d1,d2,d3,d4,d5,d6,d7,d8⟩,f0,f1,f2,f3,f4,f5,f6,f7,f8⟩:=iG xB;have hnl:=ay Oq;have hrl:=ay xB;go_wp2_with fail;refine eB results101 rfl rfl rfl rfl xB (λW' e4 eX=>?_)
 have HAT:=Hq (λW'' (ho:Out c w W' W'')=>(show RM W'' A1 N1 from(by
  obtain⟨F,hk,hF⟩:=ho
  exact aaj _ ⟨(w.heap.size+2)::F,aC.trans (b:=W') ((aC.of_below (au W3 (.cells (dR N1 A1) 53))).trans (eX.mono (λx hx=>Aba))) (hk.mono (λx hx=>Aak)),λy hy=>by
   rcases aET.1 hy with h1|h1
   .exact WB
   .exact⟨aEH (hF y h1).1 h02,by rw [eY (hF y h1).1];exact(hF y h1).2⟩⟩)))
 have HMT:=Hq (λW'' (ho:Out c w W' W'')=>(show GR.At lQ 7 W'' ma L1 from(by
  obtain⟨F,hk,hF⟩:=ho
  exact aeh _ ⟨(w.heap.size+2)::F,aC.trans (b:=W') ((aC.of_below (au W3 (.cells (dR N1 A1) 53))).trans (eX.mono (λx hx=>Aba))) (hk.mono (λx hx=>Aak)),λy hy=>by
   rcases aET.1 hy with h1|h1
   .exact WB
   .exact⟨aEH (hF y h1).1 h02,by rw [eY (hF y h1).1];exact(hF y h1).2⟩⟩)))
 open asX in exact agS):P:=h
theorem aeH(h:P:=by
 obtain⟨k,hk,rfl,hall,hblk,hbel⟩:=hrel;have kS:=Hq hall;have aO:=Hq hbel;have H7:=Hq hblk;exact AbD):P:=h
theorem aqW.AbD(h:P:=by
 clear c0 c1 c2 c3 c4 c5 c6 c7 c8;obtain⟨c0,c1,c2,c3,c4,c5,c6,c7,c8⟩:=nine hblk;clear hall hbel hblk;by_cases hlt:k < reqs.length
 case' neg=>
  have hke:k=reqs.length:=Aaa
  subst hke;have aDj:decide ((reqs.length:Int) < (reqs.length:Int))=false:=Aac
  have HF:Hid (TT=true):=by
   have h:=ah kS;rw [aEW] at h;exact HOF.trans h
  exact WG
 have HBAD:Hid (gL RQ RR (reqs.take (k+1))=false->TT=false):=λh=>HOF.trans (HDB _ h)
 obtain⟨g,off,e0,hgw,q0,q1,q2,q3⟩:=fJ.four (HA.below aO).r k hlt;(try dsimp only at e0 q0 q1 q2 q3)
 have hks:=HZ.rk _ (aEL hlt);(try dsimp only at hks)
 have XH:Hid (∃pv:Bool,gL RQ RR (reqs.take (k+1))=(RQ reqs[k]&&pv)/\((k=0/\pv=true)\/∃(j:Nat) (y:Int),k=j+1/\pv=decide (y < (reqs[k]).no)/\wr.cell? ⟨g,off+j*4,none⟩=some (.int .i64 y))):=by
  cases k with
  |zero=>
   refine⟨true,?_,.inl ⟨rfl,rfl⟩⟩;rw [Bool.and_true];exact HDF hlt
  |succ j=>
   obtain⟨g',off',e2,_,p0,_⟩:=fJ.four (HA.below aO).r j (show j < reqs.length by omega);(try dsimp only at e2 p0)
   rw [e0] at e2;injection e2 with e2
   injection e2 with e2 e3
   subst e2 e3;refine⟨_,?_,.inr ⟨j,_,rfl,rfl,p0⟩⟩;have h:=ah HDN j hlt;rw [ah kS] at h;exact h
 subst e0;have nD:=Hq (OO reqs[k]);generalize reqs[k]=sk at *;generalize RQ sk=OB at *;obtain⟨si,sx,sn,st⟩:=sk;dsimp only at q0 q1 q2 q3 hks XH nD;obtain⟨pv,hpv,hpk⟩:=ah XH;have gu:=Hq hpv;have zq:=Hq hpk;obtain⟨bb,hbb⟩:∃bb,(!(decide (old+1<=si/\si<=1000000000)&&keyOk sx.data.toList&&fC sn&&decide (0<=st/\st<=2)&&pv))=bb:=⟨_,rfl⟩;have eG:=Hq hbb;clear hpv hpk XH hbb HDF HDN HDB;go_upto_region 13 with fail;refine wp_at (λW1 hW1=>?_);have HW1:Hid (W1.heap[wr.heap.size]?=some (.cells (gJ si sx sn st) 133 (0,0))):=Abx
 open anI in exact aeF):P:=h
theorem aqX.AbD(h:P:=by
 obtain⟨c0,c1,c2,c3,c4,c5,c6,_⟩:=nine hblk;clear hall hbel hblk;by_cases hlt:k < seen.length
 case' neg=>
  have hke:k=seen.length:=Aaa
  subst hke;have hnlt:decide ((seen.length:Int) < (seen.length:Int))=false:=Aac
  exact akr
 have HBAD:Hid (gL PP RR (seen.take (k+1))=false->TT=false):=λh=>nD.trans (xR _ h)
 obtain⟨g,off,b,c,e0,hgw,q0,q1,q2,hI⟩:=gT.below HS aO k hlt;have I7:(seen[k]).ids.length<=1048600:=ah lu _ (aEL hlt);have HI:=Hq hI;have Du:=Hq I7;clear hI I7
 have XH:Hid (∃pv:Bool,gL PP RR (seen.take (k+1))=((NN (seen[k]).f&&vK seen[k])&&pv)/\((k=0/\pv=true)\/∃(j:Nat) (y:Int),k=j+1/\pv=decide (y < (seen[k]).f)/\wr.cell? ⟨g,off+j*3,none⟩=some (.int .i64 y))):=by
  cases k with
  |zero=>
   refine⟨true,?_,.inl ⟨rfl,rfl⟩⟩;have h:=ah OI hlt;rw [Bool.and_true];exact h
  |succ j=>
   obtain⟨g',off',_,_,e2,_,p0,_⟩:=gT.below HS aO j Aaa;exact ahN
 subst e0;generalize hsk:seen[k]=sk at *;clear hsk;obtain⟨fr,lo,ids⟩:=sk;dsimp only at q0 q1 q2 HI Du XH;obtain⟨pv,hpv,hpk⟩:=ah XH;have gu:=Hq hpv;have zq:=Hq hpk;obtain⟨bb,hbb⟩:∃bb,(!(NN fr&&pv&&fC lo&&decide (ids.length<=40)))=bb:=⟨_,rfl⟩;have eG:=Hq hbb;clear hpv hpk XH hbb OI Ev xR;go_upto_region 10 with fail;open au3 in exact ahl):P:=h
theorem aqY.AbD(h:P:=by
 obtain⟨c0,c1,c2,c3,c4,c5,c6,c7,c8⟩:=nine hblk;clear hall hbel hblk;by_cases hlt:k < out.length
 case' pos=>
  have HBAD:Hid (gL OT RO (out.take (k+1))=false->TT=false):=λh=>by rw [ah HTT,ah xR _ h];rfl
  obtain⟨g,off,e0,hgw,q0,q1,q2,q3⟩:=SentAt.four (HA.below aO).o k hlt
  (try dsimp only at e0 q0 q1 q2 q3)
  have hks:=HZ.ok _ (aEL hlt)
  (try dsimp only at hks)
  have XH:Hid (∃pv:Bool,gL OT RO (out.take (k+1))=(OT out[k]&&pv)/\((k=0/\pv=true)\/∃(j:Nat) (y:Int),k=j+1/\pv=decide (y < (out[k]).i)/\wr.cell? ⟨g,off+j*4,none⟩=some (.int .i64 y))):=by
   cases k with
   |zero=>
    refine⟨true,?_,.inl ⟨rfl,rfl⟩⟩;rw [Bool.and_true];exact OI hlt
   |succ j=>
    obtain⟨g',off',e2,_,p0,_⟩:=SentAt.four (HA.below aO).o j (show j < out.length by omega);(try dsimp only at e2 p0)
    exact ahN
  subst e0
  have nD:=Hq (HOT out[k])
  generalize out[k]=sk at *
  generalize OT sk=OB at *
  obtain⟨si,st,sx,sn⟩:=sk
  dsimp only at q0 q1 q2 q3 hks XH nD
  obtain⟨pv,hpv,hpk⟩:=ah XH
  have gu:=Hq hpv
  have zq:=Hq hpk
  obtain⟨bb,hbb⟩:∃bb,(!(decide (1<=si/\si<=next - 1)&&NN st&&keyOk sx.data.toList&&fC sn&&pv))=bb:=⟨_,rfl⟩
  have eG:=Hq hbb
  clear hpv hpk XH hbb OI Ev xR
  go_upto_region 7 with fail
  refine wp_at (λW1 hW1=>?_)
  have HW1:Hid (W1.heap[wr.heap.size]?=some (.cells (gB si st sx sn) 129 (0,0))):=Abx
  have hbw:aG wr W1:=by rw [hW1];exact au wr _
  have BA:=Hq (aj H7 hbw)
  have xu:=Hq (aO.trans (hbw.mono aO.size))
  have hgw1:=hbw.size
  have Dz:Hid ((k=0/\pv=true)\/∃(j:Nat) (y:Int),k=j+1/\pv=decide (y < si)/\W1.cell? ⟨g,off+j*4,none⟩=some (.int .i64 y)):=by
   exact air
  clear hW1 hbw q0 q1 q2 q3 c0 c1 c2 c3 c4 c5 c6 c7 c8 zq H7
  obtain⟨d0,d1,d2,d3⟩:=iq HW1
  obtain⟨c0,c1,c2,c3,c4,c5,c6,c7,c8⟩:=nine BA
  have k0:=cell_grown' c0
  have k1:=cell_grown' c1
  have k2:=cell_grown' c2
  have k3:=cell_grown' c3
  have k4:=cell_grown' c4
  have k5:=cell_grown' c5
  have k6:=cell_grown' c6
  have k7:=cell_grown' c7
  have k8:=cell_grown' c8
  have m0:=cell_grown' d0
  have m1:=cell_grown' d1
  have m2:=cell_grown' d2
  have m3:=cell_grown' d3
  have en:IntKind.i64.wrap (next - 1)=next - 1:=IntWalk.i64_in _ ⟨Aaa,Aaa⟩
  go_cut [98] (λr wx=>r= .bool bb/\aG W1 wx)
  case first=>
   rcases Dz with⟨rfl,rfl⟩|⟨j,y,rfl,rfl,q1⟩
   .have hgt:decide ((0:Int) < ((0:Nat):Int))=false:=rfl;open aAk in exact Yk5
   .have hgt:decide ((0:Int) < ((j+1:Nat):Int))=true:=aEy Aaa;have m9:=cell_grown' q1;open aAj in exact Yk5
  case rest=>
   obtain⟨rfl,hbx⟩:=hcut;open asK in exact Wt
 open aqi in exact aa3):P:=h
theorem aqZ.AbD(h:P:=by
 obtain⟨c0,c1,c2,_⟩:=nine hblk;clear hall hbel hblk;by_cases hlt:k < kids.length
 case' neg=>
  have hke:k=kids.length:=Aaa
  subst hke;have hnlt:decide ((kids.length:Int) < (kids.length:Int))=false:=Aac
  have HF:Hid (dX ⟨id,par,kids,next,pu,out,seen,old,reqs⟩=true):=by
   exact WE
  exact WG
 have HBAD:Hid (gL (jZ id par) iF (kids.take (k+1))=false->dX ⟨id,par,kids,next,pu,out,seen,old,reqs⟩=false):=λh=>nD.trans (xR _ h)
 cases k with
 |zero=>
  obtain⟨g,off,rfl,hgw,q0⟩:=aK.one (GR.At.below HA aO) 0 hlt;rw [aF2] at q0;have hgt:decide ((0:Int) < ((0:Nat):Int))=false:=rfl;have gu:Hid (gL (jZ id par) iF (kids.take 1)=jZ id par kids[0]):=ah OI hlt;clear OI Ev xR;generalize kids[0]=x at *;open atC in exact ag0
 |succ j=>
  obtain⟨g,off,e1,hgw,q0⟩:=aK.one (GR.At.below HA aO) (j+1) hlt;obtain⟨g',off',e2,aB1,q1⟩:=aK.one (GR.At.below HA aO) j Aaa;open au6 in exact ahm):P:=h
theorem awH(h:P:=by
 obtain⟨e1,e2,e3,e4⟩:=fP w (.cells (dR n A) 53) (.cells (bE K no k nn mK mF mT mI mL mk mN) 106) (.cells kH 53);have hsz:(((w.alloc (.cells (dR n A) 53)).alloc (.cells (bE K no k nn mK mF mT mI mL mk mN) 106)).alloc (.cells kH 53)).heap.size=w.heap.size+3:=Aac
 generalize hW0:((w.alloc (.cells (dR n A) 53)).alloc (.cells (bE K no k nn mK mF mT mI mL mk mN) 106)).alloc (.cells kH 53)=W0 at *;exact Adx):P:=h
theorem ara.Adx(h:P:=by
 open aBw in exact aj0):P:=h
theorem arb.Adx(h:P:=by
 open aBx in exact aj0):P:=h
theorem awI(h:P:=by
 obtain⟨e1,e2,e3,e4⟩:=fP w (.cells (dR n A) 53) (.cells (bE 4 no k nn mK mF mT mI mL mk mN) 106) (.cells kH 53);have hsz:(((w.alloc (.cells (dR n A) 53)).alloc (.cells (bE 4 no k nn mK mF mT mI mL mk mN) 106)).alloc (.cells kH 53)).heap.size=w.heap.size+3:=Aac
 generalize hW0:((w.alloc (.cells (dR n A) 53)).alloc (.cells (bE 4 no k nn mK mF mT mI mL mk mN) 106)).alloc (.cells kH 53)=W0 at *;exact Ade):P:=h
theorem ard.Ade(h:P:=by
 exact awU):P:=h
theorem arf.Ade(h:P:=by
 exact Zk8):P:=h
theorem awJ(h:P:=by
 obtain⟨e1,e2,e3,e4⟩:=fP w (.cells (dR n A) 53) (.cells (bE 3 no k nn mK mF mT mI mL mk mN) 106) (.cells kH 53);have hsz:(((w.alloc (.cells (dR n A) 53)).alloc (.cells (bE 3 no k nn mK mF mT mI mL mk mN) 106)).alloc (.cells kH 53)).heap.size=w.heap.size+3:=Aac
 generalize hW0:((w.alloc (.cells (dR n A) 53)).alloc (.cells (bE 3 no k nn mK mF mT mI mL mk mN) 106)).alloc (.cells kH 53)=W0 at *;exact AcU):P:=h
theorem arh.AcU(h:P:=by
 open Sk2 in exact Yk0):P:=h
theorem ari.AcU(h:P:=by
 exact awU):P:=h
theorem awK(h:P:=by
 obtain⟨e1,e2,e3,e4⟩:=fP w (.cells (dR n A) 53) (.cells (bE 0 no k nn mK mF mT mI mL mk mN) 106) (.cells kH 53);have hsz:(((w.alloc (.cells (dR n A) 53)).alloc (.cells (bE 0 no k nn mK mF mT mI mL mk mN) 106)).alloc (.cells kH 53)).heap.size=w.heap.size+3:=Aac
 generalize hW0:((w.alloc (.cells (dR n A) 53)).alloc (.cells (bE 0 no k nn mK mF mT mI mL mk mN) 106)).alloc (.cells kH 53)=W0 at *;exact AcO):P:=h
theorem arj.AcO(h:P:=by
 open Sk6 in exact Yk0):P:=h
theorem ark.AcO(h:P:=by
 open Sk0 in exact Yk0):P:=h
theorem awL(h:P:=by
 refine eu 3 rfl Aab Aah (λx hx=>?_);go_simp;refine⟨au x _,?_⟩;have jL:=Hq (Ge.trans (Ge.trans wJ hx) (au x (.cells #[.int .u8 K] 5)));have hcx:(x.alloc (.cells #[.int .u8 K] 5)).cell? ⟨x.heap.size,0,none⟩=some (.int .u8 K):=Aac
 have hcv:=λd os=>HCV (Sort.grow (redrawn (x.alloc (.cells #[.int .u8 K] 5)) d) os) x.heap.size (aEv hcx d os)
 exact AcI):P:=h
theorem arl.AcI(h:P:=by
 obtain⟨a1,a2,a3,a4,a5,a6⟩:=ah HA;clear hx wJ HCV HA hcx;generalize hy:x.alloc (.cells #[.int .u8 K] 5)=y at *;refine tk [4,8,12,16,20,24,28,29] ?_;iterate 8 (refine iy (λK hK=>?_);go_simp;refine hK _ ?_;clear hK K)
 refine jm ?_;refine dJ Aab (λz hz=>?_);have tZ:=Hq (Ge.trans jL hz);clear hz jL hcv a1 a2 a3 a4 a5 a6;go_simp;go_wp2_with fail;go_ret;exact⟨rfl,tZ⟩):P:=h
theorem arn.AcI(h:P:=by
 obtain⟨a1,a2,a3,a4⟩:=ah HA;clear hx wJ HCV HA hcx;generalize hy:x.alloc (.cells #[.int .u8 K] 5)=y at *;refine tk [4,8,12,16,21,22] ?_;iterate 6 (refine iy (λK hK=>?_);go_simp;refine hK _ ?_;clear hK K)
 refine jm ?_;refine dJ Aab (λz hz=>?_);have tZ:=Hq (Ge.trans jL hz);clear hz jL hcv a1 a2 a3 a4;go_simp;go_wp2_with fail;go_ret;exact⟨rfl,tZ⟩):P:=h
theorem awM(h:P:=by
 clear h hc;obtain⟨⟨p0,p1,p2,p3,p4,p5,p6,p7,p8,p9,nI⟩,_⟩:=aJ Tt;have hpl:=ay Tt;go_upto_region 3 with fail;have z1:=aEv p1;have z2:=aEv p2;have z3:=aEv p3;clear p0 p1 p2 p3 p4 p5 p6 p7 p8 p9 nI;refine rg 9 Ge 10 ?_;refine tk [0,1,2,3,5,6] ?_;iterate 6 (refine iy (λK hK=>?_);go_simp;refine hK _ ?_;clear hK K)
 refine jm ?_;clear z1 z2 z3;exact Ac5):P:=h
theorem aro.Ac5(h:P:=by
 refine zm 4 8 rfl rfl Aab Aah Aah (λx hx=>?c1) (λx hx=>?c2)
 case' c1=>
  go_simp
  refine(clone k x Aaa).mono ?_
  rintro e y ⟨rfl,hby⟩
  refine⟨hby,?_⟩
  have HY:=Hq (Ge.trans hx hby)
  clear hx hby
  refine tk [7] ?_
  (refine iy (λK hK=>?_);go_simp;refine hK _ ?_;clear hK K)
  refine jm ?_
  refine dB 8 rfl Aab Aah (λx2 hx2=>?_)
  go_simp
  refine⟨au x2 _,?_⟩
  have hgl:z.heap.size<=x2.heap.size:=(Ge.trans HY hx2).size
  have Ie:=Hq (aEu x2 (.cells (gJ 0 ⟨#[]⟩ 0 0) 133))
  have vI:=Hq (Ge.trans (Ge.trans HY hx2) (au x2 (.cells (gJ 0 ⟨#[]⟩ 0 0) 133)))
  clear hx2 HY
  generalize x2.alloc (.cells (gJ 0 ⟨#[]⟩ 0 0) 133)=y2 at *
  generalize x2.heap.size=g at *
  refine aS Aab (λz2 hz2=>?_)
  have kJ:=Hq (aj Ie hz2)
  have eG:=Hq (Ge.trans vI hz2)
  clear hz2 Ie vI
  have DV:=ay kJ
  obtain⟨g0,g1,g2,g3⟩:=iq kJ
  have f0:=aA kJ 0
  have f1:=aA kJ 1
  have f2:=aA kJ 2
  have f3:=aA kJ 3
  refine an 9 ?_
  go_simp
  refine ad ?_
  go_simp
  go_upto_region 4 with fail
  refine wp_at (λW hW=>?_)
  have VO:Hid (W.heap[g]?=some (.cells (gJ no k nn 0) 133 (0,0))):=Abr
  have gK:Hid (aG z W):=Abs
  clear hW kJ eG DV g0 g1 g2 g3 f0 f1 f2 f3
 case' c2=>
  go_simp
  refine⟨au x _,?_⟩
  have hgl:z.heap.size<=x.heap.size:=hx.size
  have Ie:=Hq (aEu x (.cells (gJ 0 ⟨#[]⟩ 0 0) 133))
  have vI:=Hq (Ge.trans hx (au x (.cells (gJ 0 ⟨#[]⟩ 0 0) 133)))
  clear hx
  generalize x.alloc (.cells (gJ 0 ⟨#[]⟩ 0 0) 133)=y2 at *
  generalize x.heap.size=g at *
  refine dB 4 rfl Aab Aah (λx2 hx2=>?_)
  go_simp
  refine(clone k x2 Aaa).mono ?_
  rintro e y3 ⟨rfl,hby⟩
  refine⟨hby,?_⟩
  have HGC:=Hq (aj Ie (Ge.trans hx2 hby))
  have HBC:=Hq (Ge.trans vI (Ge.trans hx2 hby))
  clear hx2 hby Ie vI
  refine tk [7] ?_
  (refine iy (λK hK=>?_);go_simp;refine hK _ ?_;clear hK K)
  refine jm ?_
  refine aS Aab (λz2 hz2=>?_)
  have kJ:=Hq (aj HGC hz2)
  have eG:=Hq (Ge.trans HBC hz2)
  clear hz2 HGC HBC
  have DV:=ay kJ
  obtain⟨g0,g1,g2,g3⟩:=iq kJ
  have f0:=aA kJ 0
  have f1:=aA kJ 1
  have f2:=aA kJ 2
  have f3:=aA kJ 3
  refine an 9 ?_
  go_simp
  refine ad ?_
  go_simp
  go_upto_region 4 with fail
  refine wp_at (λW hW=>?_)
  have VO:Hid (W.heap[g]?=some (.cells (gJ no k nn 0) 133 (0,0))):=Abr
  have gK:Hid (aG z W):=Abs
  clear hW kJ eG DV g0 g1 g2 g3 f0 f1 f2 f3
 all_goals
  have HWW:=Hq (HZ.step gK)
  have Ij:=Hq (aj Tt gK)
  clear HZ Tt gK
  obtain⟨⟨p0,p1,p2,p3,p4,p5,p6,p7,p8,p9,nI⟩,_⟩:=aJ Ij
  have hpw:=ay Ij
  go_wp2_with fail
  refine(xB W HWW).mono ?_
  rintro e w1 ⟨rfl,hb1⟩
  have HW2:=Hq (HWW.step hb1)
  have HG2:=Hq (aj VO hb1)
  clear hb1 xB p0 p1 p2 p3 p4 p5 p6 p7 p8 p9 nI HWW Ij VO
  go_upto_region 5 with fail
  refine wp_at (λV hV=>?_)
  obtain rfl:=hV
  obtain⟨g6,hAr,aDE,aDA,⟨q0,q1,q2,q3⟩,_⟩:=HW2.reqRow i hil
  obtain⟨d0,d1,d2,d3,d4,d5,d6,d7,d8,d9⟩:=jB HW2.blk
  rw [hAr] at d8
  obtain⟨s0,s1,s2,s3⟩:=iq HG2
  have hw2:=ay HW2.blk
  have hg2:=ay HG2
  have aB2:(i:Int) < (n.reqs.length:Int):=Aaa
  generalize n.reqs[i]=lm at *
  obtain⟨ln,lk,lx,ls⟩:=lm
  dsimp only at q0 q1 q2 q3 afl HSQ
  subst afl
  have heq:=aBB ln lk k lx nn ls 0
  have hB:=ah HSQ
  generalize (lk.toList == k.toList&&decide (lx=nn)&&decide (ls=0))=B at *
  subst hB
  have y8:=aEv d8
  have x0:=aEv q0
  have x1:=aEv q1
  have x2:=aEv q2
  have x3:=aEv q3
  have v0:=aEv s0
  have v1:=aEv s1
  have v2:=aEv s2
  have v3:=aEv s3
  clear d0 d1 d2 d3 d4 d5 d6 d7 d8 d9 q0 q1 q2 q3 s0 s1 s2 s3
  refine Ip 13 ?_
  refine tk [0,1,2,3,4,5,6,7,8,9,10,11,12] ?_
  iterate 13 (refine iy (λK hK=>?_);go_simp;refine hK _ ?_;clear hK K)
  refine jm ?_
  refine dJ Aab (λV hV=>?_)
  have HW3:=Hq (HW2.step hV)
  clear hV HW2 HG2 y8 x0 x1 x2 x3 v0 v1 v2 v3 heq
  go_simp
  cases SQ
  all_goals
   go_wp2_with fail
   go_ret
   rw [ah HAD]
   exact⟨rfl,A,G,c,HW3⟩):P:=h
theorem arp.Ac5(h:P:=by
 refine zm 4 8 rfl rfl Aab Aah Aah (λx hx=>?c1) (λx hx=>?c2)
 case' c1=>
  go_simp
  refine(clone k x Aaa).mono ?_
  rintro e y ⟨rfl,hby⟩
  refine⟨hby,?_⟩
  have HY:=Hq (Ge.trans hx hby)
  clear hx hby
  refine tk [7] ?_
  (refine iy (λK hK=>?_);go_simp;refine hK _ ?_;clear hK K)
  refine jm ?_
  refine dB 8 rfl Aab Aah (λx2 hx2=>?_)
  go_simp
  refine⟨au x2 _,?_⟩
  have hgl:z.heap.size<=x2.heap.size:=(Ge.trans HY hx2).size
  have Ie:=Hq (aEu x2 (.cells (gJ 0 ⟨#[]⟩ 0 0) 133))
  have vI:=Hq (Ge.trans (Ge.trans HY hx2) (au x2 (.cells (gJ 0 ⟨#[]⟩ 0 0) 133)))
  clear hx2 HY
  generalize x2.alloc (.cells (gJ 0 ⟨#[]⟩ 0 0) 133)=y2 at *
  generalize x2.heap.size=g at *
  refine aS Aab (λz2 hz2=>?_)
  have kJ:=Hq (aj Ie hz2)
  have eG:=Hq (Ge.trans vI hz2)
  clear hz2 Ie vI
  have DV:=ay kJ
  obtain⟨g0,g1,g2,g3⟩:=iq kJ
  have f0:=aA kJ 0
  have f1:=aA kJ 1
  have f2:=aA kJ 2
  have f3:=aA kJ 3
  refine an 9 ?_
  go_simp
  refine ad ?_
  go_simp
  go_upto_region 4 with fail
  refine wp_at (λW hW=>?_)
  have VO:Hid (W.heap[g]?=some (.cells (gJ no k nn 0) 133 (0,0))):=Abr
  have gK:Hid (aG z W):=Abs
  clear hW kJ eG DV g0 g1 g2 g3 f0 f1 f2 f3
 case' c2=>
  go_simp
  refine⟨au x _,?_⟩
  have hgl:z.heap.size<=x.heap.size:=hx.size
  have Ie:=Hq (aEu x (.cells (gJ 0 ⟨#[]⟩ 0 0) 133))
  have vI:=Hq (Ge.trans hx (au x (.cells (gJ 0 ⟨#[]⟩ 0 0) 133)))
  clear hx
  generalize x.alloc (.cells (gJ 0 ⟨#[]⟩ 0 0) 133)=y2 at *
  generalize x.heap.size=g at *
  refine dB 4 rfl Aab Aah (λx2 hx2=>?_)
  go_simp
  refine(clone k x2 Aaa).mono ?_
  rintro e y3 ⟨rfl,hby⟩
  refine⟨hby,?_⟩
  have HGC:=Hq (aj Ie (Ge.trans hx2 hby))
  have HBC:=Hq (Ge.trans vI (Ge.trans hx2 hby))
  clear hx2 hby Ie vI
  refine tk [7] ?_
  (refine iy (λK hK=>?_);go_simp;refine hK _ ?_;clear hK K)
  refine jm ?_
  refine aS Aab (λz2 hz2=>?_)
  have kJ:=Hq (aj HGC hz2)
  have eG:=Hq (Ge.trans HBC hz2)
  clear hz2 HGC HBC
  have DV:=ay kJ
  obtain⟨g0,g1,g2,g3⟩:=iq kJ
  have f0:=aA kJ 0
  have f1:=aA kJ 1
  have f2:=aA kJ 2
  have f3:=aA kJ 3
  refine an 9 ?_
  go_simp
  refine ad ?_
  go_simp
  go_upto_region 4 with fail
  refine wp_at (λW hW=>?_)
  have VO:Hid (W.heap[g]?=some (.cells (gJ no k nn 0) 133 (0,0))):=Abr
  have gK:Hid (aG z W):=Abs
  clear hW kJ eG DV g0 g1 g2 g3 f0 f1 f2 f3
 all_goals
  have HWW:=Hq ((HZ.recol (c':=newC z.heap.size 9 c) (λx hx=>eY hx)).step gK)
  have hcg:newC z.heap.size 9 c g=9:=aY hgl
  have Ij:=Hq (aj Tt gK)
  have hgw:=ay VO
  have aBZ:g≠wb:=by have:=ay HZ.blk;omega
  clear HZ Tt gK
  obtain⟨⟨p0,p1,p2,p3,p4,p5,p6,p7,p8,p9,nI⟩,_⟩:=aJ Ij
  have hpw:=ay Ij
  go_wp2_with fail
  refine(xB W _ HWW).mono ?_
  rintro e w1 ⟨rfl,hb1⟩
  have HW2:=Hq (HWW.step hb1)
  have mD:=Hq (aj Ij hb1)
  have HG2:=Hq (aj VO hb1)
  clear hb1 xB p0 p1 p2 p3 p4 p5 p6 p7 p8 p9 nI HWW Ij VO hgw
  go_upto_region 5 with fail
  refine wp_at (λV hV=>?_)
  obtain rfl:=hV
  refine Ip 13 ?_
  refine tk [0,1,2,3,4,5,6,7,8,9,10,11,12] ?_
  iterate 13 (refine iy (λK hK=>?_);go_simp;refine hK _ ?_;clear hK K)
  refine jm ?_
  refine dJ Aab (λV hV=>?_)
  have HW3:=Hq (HW2.step hV)
  have Ef:=Hq (aj mD hV)
  have Ey:=Hq (aj HG2 hV)
  clear hV HW2 mD HG2
  obtain⟨c0,c1,c2,c3,c4,c5,c6,c7,c8,c9⟩:=jB HW3.blk
  obtain⟨⟨p0,p1,p2,p3,p4,p5,p6,p7,p8,p9,nI⟩,_⟩:=aJ Ef
  have hw3:=ay HW3.blk
  have hp3:=ay Ef
  go_simp
  go_upto_region 10 with fail
  have y4:=aEv c4
  have z2:=aEv p2
  have z3:=aEv p3
  clear c0 c1 c2 c3 c4 c5 c6 c7 c8 c9 p0 p1 p2 p3 p4 p5 p6 p7 p8 p9 nI
  refine rg 13 Ge 15 ?_
  refine tk [0,1,2,3,4,5,6,7,8,9] ?_
  iterate 10 (refine iy (λK hK=>?_);go_simp;refine hK _ ?_;clear hK K)
  refine jm ?_
  clear y4 z2 z3
  refine dB 10 rfl Aab Aah (λx hx=>?_)
  go_simp
  have HX:=Hq (HW3.step hx)
  refine(SL x _ HX).mono ?_
  rintro e y ⟨a,cp,g5,hg5,rfl,hp,hby⟩
  refine⟨hby,?_⟩
  have hgx:g < x.heap.size:=aEH (ay Ey) hx.size
  have HGX:=Hq (aj Ey (Ge.trans hx hby))
  have HST:=Hq (λu (hu:Ge y u)=>Xr (cp:=cp) HX (hby.trans (hu.mono hby.size)) hg5 (hp.below hu))
  clear hby hg5 hp SL hx Ey Ef
  refine tk [11,12] ?_
  iterate 2 (refine iy (λK hK=>?_);go_simp;refine hK _ ?_;clear hK K)
  refine jm ?_
  refine aS Aab (λu hu=>?_)
  refine an 13 ?_
  go_simp
  refine(HST u hu).mono ?_
  rintro e z9 ⟨rfl,A',G',c',hZ9,Xb,Ml⟩
  have hc9:c' g=9:=(Ml g hgx).trans hcg
  have HZ9:=Hq hZ9
  have HG9:=Hq (Xb g _ aBZ (aj HGX hu))
  clear hZ9 HST hu Xb HGX HX HW3 Ml hcg hgx
  obtain⟨rl,rb⟩:=r
  dsimp only at HZ9 HAD HRL ⊢
  refine an 14 ?_
  go_simp
  refine ad ?_
  go_simp
  have h9l:=ay HG9
  obtain⟨s0,s1,s2,s3⟩:=iq HG9
  have sf3:=aA HG9 3
  cases rb
  .rw [aEG Aac] at HZ9;have hrl:=ah HRL rfl;subst hrl;rw [aEG Aac] at HAD;have amX:=Hq (HZ9.kc (k:=9) (KC.set (i:=3) (v:= .int .i64 1) hc9) Aaa);have amm:=Hq (azq (u:= .int .i64 1) HG9);clear HZ9;go_upto_region 12 with fail;refine wp_at (λY hY=>?_);have az2:Hid (WK w0 Y wb n A' G' c' v L):=by rw [hY];exact amX
   have amn:Hid (Y.heap[g]?=some (.cells (gJ no k nn 1) 133 (0,0))):=by rw [hY];exact amm
   clear hY amX amm HG9 s0 s1 s2 s3 sf3 h9l;have h9l:=ay amn;obtain⟨s0,s1,s2,s3⟩:=iq amn;have Om:=Hq (ad1 w0 Y wb n A' G' c' v L ⟨no,k,nn,1⟩ i hil hlen az2);rw [ah HKN] at Om;exact ahW
  .rw [aER rfl] at HZ9;rw [aER rfl] at HAD;have Om:=Hq (ad1 w0 z9 wb (setPu n rl) A' G' c' v L ⟨no,k,nn,0⟩ i hil hlen HZ9);have hki:Db (setPu n rl) ⟨no,k,nn,0⟩ i=qY (setPu n rl) ⟨no,k,nn,0⟩:=ah VT rl 0;rw [hki] at Om;clear hki;exact ahW):P:=h
theorem awN(h:P:=by
 open avK in exact ahz):P:=h
theorem arq.Adm(h:P:=by
 exact axj):P:=h
theorem ars.Adm(h:P:=by
 open atU in exact O7):P:=h
theorem awO(h:P:=by
 generalize DU s=RES at *;generalize jP s=OK at *;generalize uN s (fV s 0)=N1 at *;generalize uN s (fV s 1)=N2 at *;generalize uN s (fV s 2)=N3 at *;generalize uN s (fV s 3)=N4 at *;generalize uN s (iR s (fV s 4))=N5 at *;generalize jU s (fV s 4)=TX at *;generalize jR s (iR s (fV s 4))=E6 at *;generalize iR s (fV s 4)=E5 at *;generalize fV s 4=E4 at *;exact Ad7):P:=h
theorem aru.Ad7(h:P:=by
 go_in
 go_wp2_with fail;refine(HN _).mono ?_;rintro e w1 ⟨g,cap,rfl,hg1,hc1,hb1⟩;have hR1:=aI (aEu w _) hb1;have hB1:=(au w _).trans (hb1.mono Aac);have hC1:=Hq hc1;clear hb1 hc1;go_wp2_with fail;refine(HT _).mono ?_;rintro e w2 ⟨rfl,hb2⟩;have hR2:=aI hR1 hb2;have hB2:=hB1.trans (hb2.mono hB1.size);have hg2:=aEH hg1 hb2.size;have hC2:=Hq (show w2.cell? ⟨g,0,none⟩=some (.int .i64 N1)/\w2.cell? ⟨g,1,none⟩=some (.int .i64 N2)/\w2.cell? ⟨g,2,none⟩=some (.int .i64 N3)/\w2.cell? ⟨g,3,none⟩=some (.int .i64 N4) by simp only[(CV hb2).1 g _ hg1];exact hC1);clear hb2 hR1 hB1 hg1 hC1;go_wp2_with fail;refine(HG _).mono ?_;rintro e w3 ⟨rfl,hb3⟩;have hR3:=aI hR2 hb3;have hB3:=hB2.trans (hb3.mono hB2.size);have hg3:=aEH hg2 hb3.size;have hC3:w3.cell? ⟨g,0,none⟩=some (.int .i64 N1)/\w3.cell? ⟨g,1,none⟩=some (.int .i64 N2)/\w3.cell? ⟨g,2,none⟩=some (.int .i64 N3)/\w3.cell? ⟨g,3,none⟩=some (.int .i64 N4):=by simp only[(CV hb3).1 g _ hg2];exact hC2
 obtain⟨c0,c1,c2,c3⟩:=hC3;clear hb3 hR2 hB2 hg2 hC2;have HR3:=Hq hR3;have HB3:=Hq hB3;clear hR3 hB3;open asA in exact Ws):P:=h
theorem arv.Ad7(h:P:=by
 generalize fV s 3=E3 at *;generalize fV s 2=E2 at *;generalize fV s 1=E1 at *;rw [ez] at JM;clear ez hs;have HH:=Hq hH;clear hH;go_in
 go_upto_region 4 with fail;refine wp_at (λV0 hV=>?_)
 have hM0:V0.heap[w.heap.size+1]?=some (.cells (bH (s[0].toNat:Int) 0 0 0 0 ⟨#[]⟩ 0) 104 (0,0)):=by
  rw [hV];have h:=aEu (w.alloc (.cells (bH 0 0 0 0 0 ⟨#[]⟩ 0) 104)) (.cells (bH (s[0].toNat:Int) 0 0 0 0 ⟨#[]⟩ 0) 104);rwa [show(w.alloc (.cells (bH 0 0 0 0 0 ⟨#[]⟩ 0) 104)).heap.size=w.heap.size+1 by simp] at h
 have hR0:V0.heap[w.heap.size]?=some (.cells (bH 0 0 0 0 0 ⟨#[]⟩ 0) 104 (0,0)):=by rw [hV,aEI _ _ _ Aac];exact aEu w _
 have hB0:aG w V0:=by rw [hV];exact((aEK _ _).alloc (aEx _) _).alloc Aac _
 clear hV hw64 hb0;have HM0:=Hq hM0;have HR0:=Hq hR0;have HB0:=Hq hB0;clear hM0 hR0 hB0;go_wp2_with fail;refine(JM _ (HH.below HB0)).mono ?_;rintro e x1 ⟨rfl,hb1⟩;have gM1:=aI HM0 hb1;have gR1:=aI HR0 hb1;have gB1:=HB0.trans (hb1.mono HB0.size);obtain⟨⟨c0,c1,c2,c3,c4,c5,c6⟩,f0,f1,f2,f3,f4,f5,f6⟩:=dY gM1;have hz1:=cu gM1;have GM1:=Hq gM1;have GR1:=Hq gR1;have GB1:=Hq gB1;clear hb1 HM0 HR0 HB0 gM1 gR1 gB1 JM;go_upto_region 5 with fail;refine wp_at (λV1 hV=>?_);have hM1:V1.heap[w.heap.size+1]?=some (.cells (bH (s[0].toNat:Int) N1 0 0 0 ⟨#[]⟩ 0) 104 (0,0)):=by rw [hV];exact blk_set GM1 1 (.int .i64 N1)
 have hR1:V1.heap[w.heap.size]?=some (.cells (bH 0 0 0 0 0 ⟨#[]⟩ 0) 104 (0,0)):=by rw [hV];exact one_other GR1 Aaa
 have hB1:aG w V1:=by rw [hV];exact GB1.setCell (p:=⟨w.heap.size+1,1,none⟩) (Nat.le_succ _) (.int .i64 N1)
 clear hV GM1 GR1 GB1 c0 c1 c2 c3 c4 c5 c6 f0 f1 f2 f3 f4 f5 f6 hz1;have HM1:=Hq hM1;have HR1:=Hq hR1;have HB1:=Hq hB1;clear hM1 hR1 hB1;go_wp2_with fail;refine(HG2 _ (HH.below HB1)).mono ?_;rintro e x2 ⟨rfl,hb2⟩;have gM2:=aI HM1 hb2;have gR2:=aI HR1 hb2;have gB2:=HB1.trans (hb2.mono HB1.size);obtain⟨⟨c0,c1,c2,c3,c4,c5,c6⟩,f0,f1,f2,f3,f4,f5,f6⟩:=dY gM2;have hz2:=cu gM2;have GM2:=Hq gM2;have GR2:=Hq gR2;have GB2:=Hq gB2;clear hb2 HM1 HR1 HB1 gM2 gR2 gB2 HG2;go_upto_region 6 with fail;refine wp_at (λV2 hV=>?_);have hM2:V2.heap[w.heap.size+1]?=some (.cells (bH (s[0].toNat:Int) N1 N2 0 0 ⟨#[]⟩ 0) 104 (0,0)):=by rw [hV];exact blk_set GM2 2 (.int .i64 N2)
 have hR2:V2.heap[w.heap.size]?=some (.cells (bH 0 0 0 0 0 ⟨#[]⟩ 0) 104 (0,0)):=by rw [hV];exact one_other GR2 Aaa
 have hB2:aG w V2:=by rw [hV];exact GB2.setCell (p:=⟨w.heap.size+1,2,none⟩) (Nat.le_succ _) (.int .i64 N2)
 clear hV GM2 GR2 GB2 c0 c1 c2 c3 c4 c5 c6 f0 f1 f2 f3 f4 f5 f6 hz2;have HM2:=Hq hM2;have HR2:=Hq hR2;have HB2:=Hq hB2;clear hM2 hR2 hB2;go_wp2_with fail;refine(Ey _ (HH.below HB2)).mono ?_;rintro e x3 ⟨rfl,hb3⟩;have gM3:=aI HM2 hb3;have gR3:=aI HR2 hb3;have gB3:=HB2.trans (hb3.mono HB2.size);obtain⟨⟨c0,c1,c2,c3,c4,c5,c6⟩,f0,f1,f2,f3,f4,f5,f6⟩:=dY gM3;have hz3:=cu gM3;have GM3:=Hq gM3;have GR3:=Hq gR3;have GB3:=Hq gB3;clear hb3 HM2 HR2 HB2 gM3 gR3 gB3 Ey;go_upto_region 7 with fail;refine wp_at (λV3 hV=>?_);have hM3:V3.heap[w.heap.size+1]?=some (.cells (bH (s[0].toNat:Int) N1 N2 N3 0 ⟨#[]⟩ 0) 104 (0,0)):=by rw [hV];exact blk_set GM3 3 (.int .i64 N3)
 have hR3:V3.heap[w.heap.size]?=some (.cells (bH 0 0 0 0 0 ⟨#[]⟩ 0) 104 (0,0)):=by rw [hV];exact one_other GR3 Aaa
 have hB3:aG w V3:=by rw [hV];exact GB3.setCell (p:=⟨w.heap.size+1,3,none⟩) (Nat.le_succ _) (.int .i64 N3)
 clear hV GM3 GR3 GB3 c0 c1 c2 c3 c4 c5 c6 f0 f1 f2 f3 f4 f5 f6 hz3;have HM3:=Hq hM3;have HR3:=Hq hR3;have HB3:=Hq hB3;clear hM3 hR3 hB3;go_wp2_with fail;refine(HG4 _ (HH.below HB3)).mono ?_;rintro e x4 ⟨rfl,hb4⟩;have gM4:=aI HM3 hb4;have gR4:=aI HR3 hb4;have gB4:=HB3.trans (hb4.mono HB3.size);obtain⟨⟨c0,c1,c2,c3,c4,c5,c6⟩,f0,f1,f2,f3,f4,f5,f6⟩:=dY gM4;have Bv:=cu gM4;have GM4:=Hq gM4;have GR4:=Hq gR4;have GB4:=Hq gB4;clear hb4 HM3 HR3 HB3 gM4 gR4 gB4 HG4;go_upto_region 8 with fail;refine wp_at (λV4 hV=>?_);have hM4:V4.heap[w.heap.size+1]?=some (.cells (bH (s[0].toNat:Int) N1 N2 N3 N4 ⟨#[]⟩ 0) 104 (0,0)):=by rw [hV];exact blk_set GM4 4 (.int .i64 N4)
 have hR4:V4.heap[w.heap.size]?=some (.cells (bH 0 0 0 0 0 ⟨#[]⟩ 0) 104 (0,0)):=by rw [hV];exact one_other GR4 Aaa
 have hB4:aG w V4:=by rw [hV];exact GB4.setCell (p:=⟨w.heap.size+1,4,none⟩) (Nat.le_succ _) (.int .i64 N4)
 clear hV GM4 GR4 GB4 c0 c1 c2 c3 c4 c5 c6 f0 f1 f2 f3 f4 f5 f6 Bv;have HM4:=Hq hM4;have HR4:=Hq hR4;have mh:=Hq hB4;clear hM4 hR4 hB4;go_wp2_with fail;refine(tQ _ (HH.below mh)).mono ?_;rintro e x5 ⟨rfl,hb5⟩;have gM5:=aI HM4 hb5;have gR5:=aI HR4 hb5;have gB5:=mh.trans (hb5.mono mh.size);obtain⟨⟨c0,c1,c2,c3,c4,c5,c6⟩,f0,f1,f2,f3,f4,f5,f6⟩:=dY gM5;have hz5:=cu gM5;have GM5:=Hq gM5;have GR5:=Hq gR5;have GB5:=Hq gB5;clear hb5 HM4 HR4 mh gM5 gR5 gB5 tQ;go_upto_region 9 with fail;refine wp_at (λV5 hV=>?_);have hM5:V5.heap[w.heap.size+1]?=some (.cells (bH (s[0].toNat:Int) N1 N2 N3 N4 TX 0) 104 (0,0)):=by rw [hV];exact blk_set GM5 5 (.string TX)
 have hR5:V5.heap[w.heap.size]?=some (.cells (bH 0 0 0 0 0 ⟨#[]⟩ 0) 104 (0,0)):=by rw [hV];exact one_other GR5 Aaa
 have hB5:aG w V5:=by rw [hV];exact GB5.setCell (p:=⟨w.heap.size+1,5,none⟩) (Nat.le_succ _) (.string TX)
 clear hV GM5 GR5 GB5 c0 c1 c2 c3 c4 c5 c6 f0 f1 f2 f3 f4 f5 f6 hz5;have HM5:=Hq hM5;have HR5:=Hq hR5;have fI:=Hq hB5;clear hM5 hR5 hB5;go_wp2_with fail;refine(HG6 _ (HH.below fI)).mono ?_;rintro e x6 ⟨rfl,hb6⟩;have gM6:=aI HM5 hb6;have gR6:=aI HR5 hb6;have gB6:=fI.trans (hb6.mono fI.size);obtain⟨⟨c0,c1,c2,c3,c4,c5,c6⟩,f0,f1,f2,f3,f4,f5,f6⟩:=dY gM6;have hz6:=cu gM6;have GM6:=Hq gM6;have GR6:=Hq gR6;have GB6:=Hq gB6;clear hb6 HM5 HR5 fI gM6 gR6 gB6 HG6;go_upto_region 10 with fail;refine wp_at (λV6 hV=>?_);have hM6:V6.heap[w.heap.size+1]?=some (.cells (bH (s[0].toNat:Int) N1 N2 N3 N4 TX N5) 104 (0,0)):=by rw [hV];exact blk_set GM6 6 (.int .i64 N5)
 have hR6:V6.heap[w.heap.size]?=some (.cells (bH 0 0 0 0 0 ⟨#[]⟩ 0) 104 (0,0)):=by rw [hV];exact one_other GR6 Aaa
 have hB6:aG w V6:=by rw [hV];exact GB6.setCell (p:=⟨w.heap.size+1,6,none⟩) (Nat.le_succ _) (.int .i64 N5)
 clear hV GM6 GR6 GB6 c0 c1 c2 c3 c4 c5 c6 f0 f1 f2 f3 f4 f5 f6 hz6;have hzM:=cu hM6;have hzR:=cu hR6;by_cases hE:E6=(s.size:Int)
 case' neg=>
  have hO:OK=false:=by rw [ah HO,aEw hE];rfl
  have xK:=Hq (HZ hO)
  have hq:(E6 != (s.size:Int))=true:=by simpa using hE
  obtain⟨⟨d0,d1,d2,d3,d4,d5,d6⟩,f0,f1,f2,f3,f4,f5,f6⟩:=dY hR6
  have HR:=Hq hR6
  have HB:=Hq hB6
  have HE:=Hq hE
  clear hO HO HZ HM HP hM6 hR6 hB6 hE
  open asP in exact agP
 have hq:(E6 != (s.size:Int))=false:=by simpa using hE
 obtain⟨q0,q1,q2,q3,q4,q5,q6⟩:=uf hM6;have HR:=Hq hR6;have HB:=Hq hB6;have HMB:=Hq hM6;have HE:=Hq hE;clear hR6 hB6 hM6 hE;open arM in exact awT):P:=h
theorem awP(h:P:=by
 have hc:s[k].toNat < 256:=s[k].toNat_lt;have aDY:=hv2 hj;have HU:=Hq (hu2 hj);clear hv2 hu2 hv5 hu;obtain⟨hp0,hp1⟩:=afJ s[k].toNat v;exact Aea):P:=h
theorem arw.Aea(h:P:=by
 by_cases hb:128<=s[k].toNat
 .have HR:=Hq (Mth.get_more s k _ m _ _ hlt hj hb HG);clear HG;go_wp2
  go_round
  case rel=>exact⟨_,_,_,k+1,HU,KF m _ v hm,Aaf,Aaf,Aaf,by have:=ah HK;omega,HR⟩
  case measure=>simp[intOf];omega
 .by_cases hbig:(4000000000:Int) < (m:Int)+(s[k].toNat:Int) % 128*(v:Int)
  .have HR:=Hq (Mth.get_bad s k _ m _ _ hlt hj hb (.inl (QS m _ v hb hbig)) HG);clear HG;exact aeO
  .by_cases hz:(s[k].toNat:Int)<=0
   .by_cases hj0:0 < j
    .have HR:=Hq (Mth.get_bad s k _ m _ _ hlt hj hb (.inr ⟨Aaa,hj0⟩) HG);have hik:i < k:=by have:=ah HK;omega
     clear HG;exact aeO
    .have HR:=Hq (Mth.get_hit s k _ m _ _ hlt hj hb (yY m _ v hb hbig) (.inr Aaa) HG);have hik:k<=i:=by have:=ah HK;omega
     clear HG;go_wp2
     go_ret3
     exact⟨Rf HR (QT m _ v hz) (by have:=ah HK;omega),rfl⟩
   .have HR:=Hq (Mth.get_hit s k _ m _ _ hlt hj hb (yY m _ v hb hbig) (.inl Aaa) HG);have hz':0 < (s[k].toNat:Int):=Aaa
    clear HG;go_wp2
    go_ret3
    exact⟨Rf HR (QU m _ v hb) (by have:=ah HK;omega),rfl⟩):P:=h
theorem arx.Aea(h:P:=by
 by_cases hb:128<=s[k].toNat
 .have HR:=Hq (Mth.get_more s k _ m _ _ hlt hj hb HG);have HN:=Hq (Zf s i j k m v HK hlt O3 hb Eh);clear HG;go_wp2
  go_round
  case rel=>exact⟨_,_,_,k+1,HU,KF m _ v hm,Aaf,Aaf,Aaf,by have:=ah HK;omega,HN,HR⟩
  case measure=>simp[intOf];omega
 .go_wp2_with fail;generalize hx:((m:Int)+(s[k].toNat:Int) % 128*(v:Int))=x;have hx0:0<=x:=Aaa
  have hx1:x<=34359738368:=Aaa
  have HX:=Hq hx;clear hx hp0 hp1;have hA:(0:Int)<=(k:Int)+1:=Aaa
  have hB:(k:Int)+1<=(s.size:Int):=Aaa
  have hC:(i:Int)<=(k:Int)+1:=Aaa
  have hW:IntKind.i64.wrap ((k:Int)+1)=(k:Int)+1:=IntWalk.i64_in _ ⟨Aaa,Aaa⟩;by_cases hbig:4000000000 < x
  .have HR:=Hq (Mth.get_bad s k _ m _ _ hlt hj hb (.inl (QS m _ v hb (by rw [ah HX];exact hbig))) HG);have hne:(([]:List UInt8) == (s.extract i (k+1)).toList)=false:=Kq (by rw [zW s i j k (ah HK) hlt];simp);go_region_with (go_at_call 131;refine(vB _ _ (.inr hbig)).mono ?_;rintro e w' ⟨rfl,rfl⟩)
   all_goals
    go_wp2
    go_ret2
    exact⟨get_none HR,(aEK _ _).drew⟩
  .have hsm:x<=4000000000:=Aaa
   have HV:Hid (x.toNat=m+s[k].toNat*v):=by have h1:=QU m s[k].toNat v hb;rw [ah HX] at h1;rw [h1];rfl
   by_cases hbad:s[k].toNat=0/\0 < j
   .have HR:=Hq (Mth.get_bad s k _ m _ _ hlt hj hb (.inr hbad) HG);have hne:(Mth.put x.toNat == (s.extract i (k+1)).toList)=false:=Kq (by rw [ah HV];exact akz s i j k m v HK hlt O3 hj Eh hbad.1 hbad.2);clear hbad;go_region_with (go_at_call 131;refine(wF _ _ hx0 hsm).mono ?_;rintro e w' ⟨rfl,hbel⟩)
    all_goals
     go_wp2
     go_ret2
     exact⟨get_none HR,by first|exact hbel|exact((aEK _ _).drew).trans hbel⟩
   .have HR:=Hq (Mth.get_hit s k _ m _ _ hlt hj hb (yY m _ v hb (by rw [ah HX];omega)) Aaa HG);have heq:(Mth.put x.toNat == (s.extract i (k+1)).toList)=true:=X9 (by rw [ah HV];exact ae4 s i j k m v HK hlt O3 hj hb Eh (by omega));clear hbad;go_region_with (go_at_call 131;refine(wF _ _ hx0 hsm).mono ?_;rintro e w' ⟨rfl,hbel⟩)
    all_goals
     go_wp2
     go_ret2
     exact⟨get_some HR (by have:=ah HV;omega) (by have:=ah HK;omega),by first|exact hbel|exact((aEK _ _).drew).trans hbel⟩):P:=h
theorem awQ(h:P:=by
 have HAT:Hid (∀W'',Out c w W' W''->RM W'' (⟨a_k,(some ⟨gp,0,none⟩),iV,(some ⟨G.s,0,none⟩),jd,cZ,fD,dW,dw,dG⟩:bg) (dS n (n.seen.set i ⟨mF,fH s0 mL,bV s0 mL⟩))):=λW'' ho=>by
  obtain⟨F,hk,hF⟩:=ho
  have hold:=(HNF.kc (k:=9) (KC.keeps hk (λx hx=>HCO x (hF x hx).1 (hF x hx).2)) Aaa)
  have ho:Out c w W' W'':=⟨F,hk,hF⟩
  exact hold.rm
 exact Ac9):P:=h
theorem arz.Ac9(h:P:=by
 have Lv:Hid (∀W'',Out c w W' W''->GR.At lQ 7 W'' (some ⟨W8.heap.size,0,none⟩) []):=λW'' ho j hj=>(by simp at hj)
 have qG:Hid (Below B w W'):=aed.trans (eX.below (λx hx=>by have:x=w.heap.size+2:=Aad;omega) (by have h1:=ay zB;omega));have xA:=Hq (Apart.keeps (c:=c) aeg (by have h1:=ay zB;omega) eX (λx hx=>by have:x=w.heap.size+2:=Aad;omega));clear e4 eX;exact⟨(⟨a_k,(some ⟨gp,0,none⟩),iV,(some ⟨G.s,0,none⟩),jd,cZ,fD,dW,dw,dG⟩:bg),(some ⟨W8.heap.size,0,none⟩),⟨0,by simp[gP,dR,dS]⟩,HAT,Lv,qG,xA⟩):P:=h
theorem arA.Ac9(h:P:=by
 have Lv:Hid (∀W'',Out c w W' W''->GR.At lQ 7 W'' (some ⟨ab,0,none⟩) [⟨2,n.id,mF,mI,0,ByteArray.empty,0⟩]):=λW'' ho j hj=>TI (eX.obj aak (λhm=>Aaz)) ho Aaa j hj
 have qG:Hid (Below B w W'):=ajB.trans (eX.below (λx hx=>by have:x=w.heap.size+2:=Aad;omega) (by have h1:=ay vP;omega));have xA:=Hq (Apart.keeps (c:=c) ajJ (by have h1:=ay vP;omega) eX (λx hx=>by have:x=w.heap.size+2:=Aad;omega));clear e4 eX;exact⟨(⟨a_k,(some ⟨gp,0,none⟩),iV,(some ⟨G.s,0,none⟩),jd,cZ,fD,dW,dw,dG⟩:bg),(some ⟨ab,0,none⟩),⟨1,by simp[gP,dR,dS]⟩,HAT,Lv,qG,xA⟩):P:=h
theorem ake(h:P:=by
 have hwl:=ay h.blk;obtain⟨K,no,k,nn,⟨mK,mF,mT,mI,mL,mk,mN⟩⟩:=o;dsimp only at *;subst hK;have HW0:=Hq h;clear h;go_in
 go_upto_region 2 with fail;refine wp_at (λW hW=>?_);exact Ab8):P:=h
theorem arB.Ab8(h:P:=by
 obtain⟨_,e2,e3⟩:=gU w (.cells (bE K no k nn 2 mF mT mI mL mk mN) 106) (.cells (bH 2 mF mT mI mL mk mN) 104);open ap8 in exact akb):P:=h
theorem arC.Ab8(h:P:=by
 obtain⟨_,e2,e3⟩:=gU w (.cells (bE K no k nn 1 mF mT mI mL mk mN) 106) (.cells (bH 1 mF mT mI mL mk mN) 104);open ap9 in exact akb):P:=h
theorem arD.Ab8(h:P:=by
 obtain⟨_,e2,e3⟩:=gU w (.cells (bE K no k nn 0 mF mT mI mL mk mN) 106) (.cells (bH 0 mF mT mI mL mk mN) 104);open aqa in exact akb):P:=h
theorem awR(h:P:=by
 obtain⟨⟨p0,p1,p2,p3,p4,p5,p6,p7,p8,p9,nI⟩,_⟩:=aJ HO;obtain⟨c0,c1,c2,c3,c4,c5,c6,c7,c8⟩:=nine HN;have hol:=ay HO;have hnl:=ay HN;go_wp2_with fail;refine(OO W0 Oo.at.r).mono ?_;rintro e W1 ⟨rfl,hb1⟩;have mq:=Hq (aj HN hb1);have XG:=Hq (aj HO hb1);have BH:=Hq (aj HR hb1);have HB1:=Hq (HB0.trans (hb1.mono HB0.size));exact AcD):P:=h
theorem arE.AcD(h:P:=by
 clear hb1 c0 c1 c2 c3 c4 c5 c6 c7 c8 p0 p1 p2 p3 p4 p5 p6 p7 p8 p9 nI hnl hol OO HN HO HR Oo HB0;obtain⟨⟨p0,p1,p2,p3,p4,p5,p6,p7,p8,p9,nI⟩,_⟩:=aJ XG;obtain⟨c0,c1,c2,c3,c4,c5,c6,c7,c8⟩:=nine mq;have hol:=ay XG;have hnl:=ay mq;have hrl:=ay BH;go_upto_region 9 with fail;refine wp_at (λW2 hW2=>?_);have hbw2:=au W1 (.cells (gJ no k nn 1) 133);have hq2:=aEu W1 (.cells (gJ no k nn 1) 133);rw [<-hW2] at hbw2 hq2;have jV:=Hq (aj mq hbw2);have Iw:=Hq (aj XG hbw2);have mJ:=Hq (aj BH hbw2);have ajS:=Hq hq2;have HB2:=Hq (HB1.trans (hbw2.mono HB1.size));have hqb:w.heap.size+2 < W1.heap.size:=hrl;clear hW2 hbw2 hq2 c0 c1 c2 c3 c4 c5 c6 c7 c8 p0 p1 p2 p3 p4 p5 p6 p7 p8 p9 nI mq XG BH HB1 hnl hol hrl;obtain⟨⟨p0,p1,p2,p3,p4,p5,p6,p7,p8,p9,nI⟩,_⟩:=aJ Iw;obtain⟨c0,c1,c2,c3,c4,c5,c6,c7,c8⟩:=nine jV;have hol:=ay Iw;have hnl:=ay jV;have hql:=ay ajS;go_wp2_with fail;refine(SL W2 (jD.kc (k:=9) (KC.of_below HB2) Aaa).at.p).mono ?_;rintro e W3 ⟨v3,rfl,akW,hrow3,hb3⟩;obtain⟨av,cv,rfl,_⟩:=GR.own_at (enc:=fO) (sz:=4) aP hrow3;have HRW:=Hq (LO.own (en:=fO) hrow3);have rR:=Hq (aj jV hb3);have LD:=Hq (aj Iw hb3);have pX:=Hq (aj mJ hb3);have XI:=Hq (aj ajS hb3);have HB3:=Hq (HB2.trans (hb3.mono HB2.size));clear hb3 akW hrow3 SL jV Iw mJ ajS HB2 c0 c1 c2 c3 c4 c5 c6 c7 c8 p0 p1 p2 p3 p4 p5 p6 p7 p8 p9 nI hnl hol;obtain⟨c0,c1,c2,c3,c4,c5,c6,c7,c8⟩:=nine rR;obtain⟨q0,q1,q2,q3⟩:=iq XI;have cf:=aA rR 4;have qf:=aA XI 3;have hnl:=ay rR;have aDQ:=ay XI;go_upto_if 71 with fail;have hne1:w.heap.size≠W1.heap.size:=Aaa
 go_cut [5] (λz wx=>z= .int .i64 0/\∃pa pc,wx.heap[w.heap.size]?=some (.cells (vG n.id n.par a_k n.kids.length cZ n.next pa PL.length pc iV n.out.length dW iM n.seen.length dw n.old (some ⟨gr,0,none⟩) n.reqs.length dG) 53 (0,0))/\wx.heap[W1.heap.size]?=some (.cells (gJ no k nn st) 133 (0,0))/\wx.heap[w.heap.size+1]?=some (.cells (bE K no k nn mK mF mT mI mL mk mN) 106 (0,0))/\wx.heap[w.heap.size+2]?=some (.cells kH 53 (0,0))/\aG w wx/\PD gp n.pu (w.heap.size+3) wx pa pc PL)
 case first=>
  cases ok
  case' false=>
   simp at hPL hst
   subst hPL hst
   go_wp2_with fail
   go_meet
   case rel=>exact⟨rfl,_,_,rR,XI,LD,pX,HB3,.inr ⟨rfl,rfl⟩⟩
  simp at hPL hst;subst hPL hst;go_wp2_with fail;go_meet
  case rel=>
   have hk:aC [w.heap.size,W1.heap.size] W3 ((W3.setCell ⟨w.heap.size,4,none⟩ (.slice av RL.length cv)).setCell ⟨W1.heap.size,3,none⟩ (.int .i64 0)):=((aC.set _).mono Aac).trans ((aC.set _).mono Aac);exact⟨rfl,_,_,lU _ hne1 (aT rR 4 _),aT (lU _ hne1.symm XI) 3 _,hk.obj LD Aae,hk.obj pX Aae,(HB3.setCell (p:=⟨w.heap.size,4,none⟩) (aEx _) _).setCell (p:=⟨W1.heap.size,3,none⟩) Aae _,.inl ((HRW.keeps hk (λx hx=>Aaj)).lower Aaa)⟩
 case rest=>
 obtain⟨rfl,pa,pc,hN4,hQ4,hO4,hR4,hB4,hP4⟩:=hcut;clear c0 c1 c2 c3 c4 c5 c6 c7 c8 q0 q1 q2 q3 cf qf rR LD pX XI HB3 HRW hPL hst;obtain⟨W4,hW4⟩:∃x:World,x=wc:=⟨_,rfl⟩;subst hW4;have Dx:=Hq hN4;have amF:=Hq hQ4;have ajO:=Hq hO4;have Tv:=Hq hR4;have mh:=Hq hB4;have JQ:=Hq hP4;clear hN4 hQ4 hO4 hR4 hB4 hP4;have OA:=Hq (jD.kc (k:=9) (KC.of_below mh) Aaa).at.r;obtain⟨c0,c1,c2,c3,c4,c5,c6,c7,c8⟩:=nine Dx;obtain⟨⟨p0,p1,p2,p3,p4,p5,p6,p7,p8,p9,nI⟩,_⟩:=aJ ajO;have hnl:=ay Dx;have hol:=ay ajO;have hile:=wU n.reqs no;go_upto_block 0 with fail;go_cut [10] from 11 (λi wx=>i= .int .i64 (dV n.reqs no:Nat)/\Ge W4 wx)
 case first=>
  go_wp2_with fail;go_loopw [10] (λi wr=>∃j q:Nat,j<=n.reqs.length/\i= .int .i64 j/\(∀x (hx:x < n.reqs.length),x < j->n.reqs[x].no < no)/\wr=W4.drewN q) (λi _=>n.reqs.length - (intOf i).toNat)
  case atStart=>exact⟨0,0,aEN _,rfl,λx hx h=>Aaa,rfl⟩
  case round=>
   obtain⟨j,q,hj,rfl,hlo,rfl⟩:=hrel;have HLO:=Hq hlo;clear hlo;by_cases hlt:j < n.reqs.length
   .obtain⟨g',off',e0,hg',y0,_,_,_⟩:=fJ.four OA j hlt;cases e0
    rw [aFq] at y0
    have HUP:=Hq (fun(h:no<=n.reqs[j].no)=>Ns (l:=n.reqs) (no:=no) Ij (i:=j) hj HLO (λx hx hjx=>by
     rcases Nat.lt_or_eq_of_le hjx with h1|h1
     .have:=aFx.1 Ij j x hlt hx h1;omega
     .subst h1;exact h))
    have aan:=Hq (fun(h:n.reqs[j].no < no)=>show∀x (hx:x < n.reqs.length),x < j+1->n.reqs[x].no < no from λx hx h2=>by
     by_cases e:x=j
     .subst e;exact h
     .exact HLO x hx Aaa)
    generalize n.reqs[j].no=rn at *;by_cases hcmp:rn < no
    .go_wp2_with fail;go_quiet (fail);go_wp2_with fail;go_roundw
     case rel=>exact⟨j+1,_,Aaa,Aaf,aan hcmp,rfl⟩
     case measure=>simp[intOf];omega
    .have ab3:decide (rn < no)=false:=aEw hcmp;have HJ:=Hq (HUP Aaa);exact aia
   .have hje:j=n.reqs.length:=Aaa
    subst hje;have HJ:=Hq (Ns (l:=n.reqs) (no:=no) Ij (i:=n.reqs.length) (aEx _) HLO (λx hx hjx=>Aaa));have ab3:decide ((n.reqs.length:Int) < (n.reqs.length:Int))=false:=Aac
    exact aia
 case rest=>
  obtain⟨rfl,hge⟩:=hcut;have Iu:=Hq (aj Dx hge);have EJ:=Hq (aj Tv hge);have aes:=Hq (aj amF hge);have fI:=Hq (mh.trans (hge.mono mh.size));have HA5:=Hq (GR.At.below OA hge);have Iz:=Hq (JQ.below hge);clear JQ;clear hge c0 c1 c2 c3 c4 c5 c6 c7 c8 p0 p1 p2 p3 p4 p5 p6 p7 p8 p9 nI hnl hol Dx ajO Tv amF mh OA;obtain⟨c0,c1,c2,c3,c4,c5,c6,c7,c8⟩:=nine Iu;obtain⟨q0,q1,q2,q3⟩:=iq aes;have hnl:=ay Iu;have Yv:=ay aes;have HIQ:=Hq (show vX n.reqs ⟨no,k,nn,st⟩=n.reqs.take (dV n.reqs no)++⟨no,k,nn,st⟩::n.reqs.drop (dV n.reqs no) from rfl);generalize dV n.reqs no=pos at *;obtain⟨IQ,akK⟩:∃IQ,vX n.reqs ⟨no,k,nn,st⟩=IQ:=⟨_,rfl⟩;rw [akK] at HIQ;have HIN:=Hq akK;clear akK;go_upto_region 16 with fail;go_cut [10] from 11 (λi wx=>i= .int .i64 pos/\∃va vc,(∃g,va=some ⟨g,0,none⟩)/\n.reqs.length+1<=vc/\wx.heap[w.heap.size]?=some (.cells (vG n.id n.par a_k n.kids.length cZ n.next pa PL.length pc iV n.out.length dW iM n.seen.length dw n.old va (n.reqs.length+1) vc) 53 (0,0))/\wx.heap[w.heap.size+2]?=some (.cells kH 53 (0,0))/\wx.heap[W1.heap.size]?=some (.cells (gJ no k nn st) 133 (0,0))/\LO 133 aM 4 (w.heap.size+3) wx va vc IQ/\PD gp n.pu (w.heap.size+3) wx pa pc PL/\aG w wx)
  case first=>
   have hwb:wc.heap.size<=wc.heap.size:=aEx _;have y8:=bZ hnl c8;have z0:=bZ Yv q0;have z1:=bZ Yv q1;have z2:=bZ Yv q2;have z3:=bZ Yv q3;clear c0 c1 c2 c3 c4 c5 c6 c7 c8 q0 q1 q2 q3;have hpc:pos<=dG:=Aaa
   have LJ:=Hq (show fJ wc (some ⟨gr,0,none⟩) (n.reqs.take pos) from GR.At.take HA5 pos)
   obtain⟨AD,hAD,hDR⟩:∃AD,(if dG=pos then some (⟨gr,0,none⟩:Addr) else some ⟨gr,pos*4,none⟩)=AD/\fJ wc AD (n.reqs.drop pos):=by
    by_cases hcz:dG=pos
    .refine⟨_,rfl,?_⟩;rw [show n.reqs.drop pos=[] by apply aFM;omega];exact GR.at_nil _ _
    .refine⟨_,rfl,?_⟩;rw [aEG hcz];exact GR.At.drop HA5 pos
   have HDR:=Hq hDR;clear hDR;refine rg 15 (RB wc.heap.size) 16 ?_;refine tk [1,2,3,4,6,9,10,11,12] ?_;iterate 9 (refine tkB 20 (Rb _) (λK hK=>?_);go_simp;(first|refine hK _ ?_|(apply Exists.intro;refine⟨λ_=>?_,hK _ ?_⟩;rfl));clear hK K)
   refine jm ?_;clear y8 z0 z1 z2 z3;have hlt1:(n.reqs.take pos).length=pos:=Abi
   have akV:(n.reqs.drop pos).length=n.reqs.length - pos:=by rw [aE8]
   obtain⟨i0,hi,hz0,hz1,hz2⟩:=aEY Ai;have HE:=Hq (show n.reqs.take pos++[(⟨no,k,nn,st⟩:Rq)]++n.reqs.drop pos=IQ by rw [ah HIQ,aFa];rfl);have zy:=Hq (show IQ.length=n.reqs.length+1 by rw [<-ah HE];simp;omega);refine Hw (enc:=aM) (sz:=4) (e:=(⟨no,k,nn,st⟩:Rq)) (i:=i0) (ve:= .agg (gJ no k nn st)) 0 5 7 8 13 93 98 100 101 106 99 97 105 bQ Aaa (λx u hu=>by simp at hu;rcases hu with rfl|rfl|rfl|rfl<;>rfl) underlying51 hi hz0 hz1 hz2 rfl LJ HDR hlt1 akV Aaa Aag Aag rfl rfl rfl Aab ⟨rfl,rfl,rfl,rfl⟩ ⟨rfl,rfl,rfl,rfl⟩ ⟨rfl,rfl,rfl,rfl⟩ ⟨rfl,rfl,rfl,rfl⟩ ⟨rfl,rfl,rfl,rfl⟩ Aab (H:=λv0 v4 v7 v8 v12 y5 hG hV=>?_);have tQ:=Hq hG;rw [ah HE,ah zy] at hV
   obtain⟨g,cvT,rfl,hcv⟩:∃g cv,v12= .slice (some ⟨g,0,none⟩) (n.reqs.length+1) cv/\n.reqs.length+1<=cv:=by
    rcases hV.2 with⟨_,hn⟩|⟨g,cap,_,hv,_,_,hnc,_⟩
    .omega
    .exact⟨g,cap,hv,hnc⟩
   have HV5:=Hq hV;clear hG hV;have aCw:wc.heap.size<=y5.heap.size:=tQ.size;refine tk [14] ?_;open ar8 in exact agH
  case rest=>
   clear c0 c1 c2 c3 c4 c5 c6 c7 c8 q0 q1 q2 q3 hnl Yv Iu EJ aes fI HA5 Iz;obtain⟨rfl,va,vc,⟨gv,rfl⟩,hvc,hN6,hR6,hQ6,hL6,hP6,hB6⟩:=hcut;have HLQ:=Hq (show IQ.length=n.reqs.length+1 by rw [ah HIQ];simp;omega);have nM:=Hq hN6;have qH:=Hq hR6;have aeu:=Hq hQ6;have HL6:=Hq hL6;have Tq:=Hq hP6;have xQ:=Hq hB6;clear hN6 hR6 hQ6 hL6 hP6 hB6;rename_i wo _ _ _
   by_cases h30:30 < n.reqs.length+1
   .have HK:=Hq (show qY (setPu n PL) ⟨no,k,nn,st⟩=eD (oz (setPu n PL) (IQ.headD default).no) IQ.tail by unfold qY;rw [show((setPu n PL)).reqs=n.reqs from rfl,ah HIN,ah HLQ,aER h30])
    obtain⟨IH,IT,hIQ⟩:∃IH IT,IQ=IH::IT:=by
     cases hq:IQ with
     |nil=>have:=ah HLQ;rw [hq] at this;simp at this
     |cons a b=>exact⟨a,b,rfl⟩
    subst hIQ;have hIT:IT.length=n.reqs.length:=by have:=ah HLQ;simp at this;omega
    have y0:wc.cell? ⟨gv,0,none⟩=some (.int .i64 IH.no):=by
     obtain⟨g',off',e0,_,h0,_⟩:=fJ.four (HL6.lies bQ).1 0 Aac;cases e0
     simpa using h0
    have HTA:=Hq (show fJ wc (some ⟨gv,1*4,none⟩) IT from GR.At.drop (HL6.lies bQ).1 1);have aCv:=(HL6.lies bQ).2 gv 0 rfl;obtain⟨c0,c1,c2,c3,c4,c5,c6,c7,c8⟩:=nine nM;have cf:=aA nM 7;have hnl:=ay nM;have aBR:decide ((30:Int) < ((n.reqs.length+1:Nat):Int))=true:=aEy Aaa;go_upto_region 19 with fail;refine wp_at (λW7 WY=>?_);have aDZ:¬vc=1:=Aaa
    have aD0:1<=vc:=Aaa
    have rF:Hid (W7.heap[w.heap.size]?=some (.cells (vG n.id n.par a_k n.kids.length cZ n.next pa PL.length pc iV n.out.length dW iM n.seen.length dw IH.no (some ⟨gv,0,none⟩) (n.reqs.length+1) vc) 53 (0,0))):=by rw [WY];exact aT nM 7 _
    have vP:Hid (W7.heap[w.heap.size+2]?=some (.cells kH 53 (0,0))):=by rw [WY];exact lU _ Aaa qH
    have ajT:Hid (W7.heap[W1.heap.size]?=some (.cells (gJ no k nn st) 133 (0,0))):=by rw [WY];exact lU _ Aaa aeu
    have H6:Hid (aG w W7):=by rw [WY];exact xQ.setCell (p:=⟨w.heap.size,7,none⟩) (aEx _) _
    have amM:Hid (fJ W7 (some ⟨gv,1*4,none⟩) IT):=by
     rw [WY];exact((show zH aM 4 (w.heap.size+3) wc (some ⟨gv,1*4,none⟩) IT from⟨HTA,λg off e=>by cases e;exact aCv⟩).keeps (aC.set _) (λx hx=>Aaj)).1
    have HP7:Hid (PD gp n.pu (w.heap.size+3) W7 pa pc PL):=by rw [WY];exact Tq.keeps (aC.set _) (λx hx=>by simp at hx;omega)
    clear WY HTA y0 cf c0 c1 c2 c3 c4 c5 c6 c7 c8 hnl nM qH aeu xQ HL6 Tq;obtain⟨c0,c1,c2,c3,c4,c5,c6,c7,c8⟩:=nine rF;have cf:=aA rF 8;have hnl:=ay rF;obtain⟨i0,hi,hz0,hz1,hz2⟩:=aEY Ai;obtain⟨a8,c8',W8,hrun,Qa,IY,⟨g8,rfl⟩,hc8⟩:=run_copy_row (P:=prog) bQ Aaa W7 51 133 i0 (.agg (gJ 0 ByteArray.empty 0 0)) 40 underlying51 hi hz0 hz1 hz2 rfl (some ⟨gv,1*4,none⟩) IT (vc - 1) amM (mV _) Aai Aaa;rw [hIT,Nat.one_mul] at hrun;have aas:=Hq hrun;have vD:=Hq (aj rF IY);have IC:=Hq (aj vP IY);have amG:=Hq (aj ajT IY);have HB8:=Hq (H6.trans (IY.mono H6.size));have HL8:=Hq (LO.own (en:=aM) Qa);have hz7:w.heap.size+3<=W7.heap.size:=by have:=ay ajT;omega
    have HP8:=Hq (HP7.below IY);have k8:=(nine vD).2.2.2.2.2.2.2.2;have kf8:=aA vD 8;clear hrun IY Qa;go_upto_region 20 with(at_builtin;refine fK rfl (.tmp 118) (.tmp 121) 51 rfl _ _ rfl rfl _ _ (aas _) ?_)
    refine wp_at (λW9 hW9=>?_);have Dy:Hid (W9.heap[w.heap.size]?=some (.cells (vG n.id n.par a_k n.kids.length cZ n.next pa PL.length pc iV n.out.length dW iM n.seen.length dw IH.no (some ⟨g8,0,none⟩) n.reqs.length c8') 53 (0,0))):=by rw [hW9];exact aT vD 8 _
    have zB:Hid (W9.heap[w.heap.size+2]?=some (.cells kH 53 (0,0))):=by rw [hW9];exact lU _ Aaa IC
    have amH:Hid (W9.heap[W1.heap.size]?=some (.cells (gJ no k nn st) 133 (0,0))):=by rw [hW9];exact lU _ Aaa amG
    have HB9:Hid (aG w W9):=by rw [hW9];exact HB8.setCell (p:=⟨w.heap.size,8,none⟩) (aEx _) _
    have HL9:Hid (LO 133 aM 4 (w.heap.size+3) W9 (some ⟨g8,0,none⟩) c8' IT):=by rw [hW9];exact((HL8.lower hz7).keeps (aC.set _) (λx hx=>Aaj))
    have HP9:Hid (PD gp n.pu (w.heap.size+3) W9 pa pc PL):=by rw [hW9];exact HP8.keeps (aC.set _) (λx hx=>by simp at hx;omega)
    clear hW9 k8 kf8 vD IC amG HB8 HL8 rF vP ajT H6 amM aas c0 c1 c2 c3 c4 c5 c6 c7 c8 cf hnl HP8 HP7;have akL:IT.length=n.reqs.length:=hIT;clear hIT;obtain⟨c0,c1,c2,c3,c4,c5,c6,c7,c8⟩:=nine Dy;have hnl:=ay Dy;have hnr:=ay zB;have hnq:=ay amH;clear c0 c1 c2 c3 c4 c5 c6 c7 c8;refine rg 4 (aC [w.heap.size+2]) 5 ?_;refine Hy 0 20 rfl Aab Aab Aab Aab Aab (λ_ _ _ _ h=>h) Aah 53 _ rfl w.heap.size 0 rfl (vG n.id n.par a_k n.kids.length cZ n.next pa PL.length pc iV n.out.length dW iM n.seen.length dw IH.no (some ⟨g8,0,none⟩) n.reqs.length c8').toList _ (Gg Dy) ⟨hnl,Aaa⟩ underlying53 rfl Aab ?_;open asb in exact agI
   .have HK:=Hq (show qY (setPu n PL) ⟨no,k,nn,st⟩=eD (setPu n PL) IQ by unfold qY;rw [show((setPu n PL)).reqs=n.reqs from rfl,ah HIN,ah HLQ,aEG h30]);obtain⟨c0,c1,c2,c3,c4,c5,c6,c7,c8⟩:=nine nM;have hnl:=ay nM;have aBR:decide ((30:Int) < ((n.reqs.length+1:Nat):Int))=false:=aEw Aaa;have hIT:IQ.length=n.reqs.length+1:=ah HLQ;clear HLQ;have akL:=Hq hIT;clear hIT;go_upto_region 20 with fail;clear c0 c1 c2 c3 c4 c5 c6 c7 c8 hnl;obtain⟨c0,c1,c2,c3,c4,c5,c6,c7,c8⟩:=nine nM;have hnl:=ay nM;have hnr:=ay qH;have hnq:=ay aeu;clear c0 c1 c2 c3 c4 c5 c6 c7 c8;refine rg 4 (aC [w.heap.size+2]) 5 ?_;refine Hy 0 20 rfl Aab Aab Aab Aab Aab (λ_ _ _ _ h=>h) Aah 53 _ rfl w.heap.size 0 rfl (vG n.id n.par a_k n.kids.length cZ n.next pa PL.length pc iV n.out.length dW iM n.seen.length dw n.old (some ⟨gv,0,none⟩) (n.reqs.length+1) vc).toList _ (Gg nM) ⟨hnl,Aaa⟩ underlying53 rfl Aab ?_;open asa in exact agI):P:=h
theorem arF.AcD(h:P:=by
 have vL:=Hq (Oo.kc (k:=9) (KC.of_below hb1) Aaa);clear hb1 c0 c1 c2 c3 c4 c5 c6 c7 c8 p0 p1 p2 p3 p4 p5 p6 p7 p8 p9 nI hnl hol OO HN HO HR Oo HB0;obtain⟨g,off,e0,hg,q0,q1,q2,q3⟩:=fJ.four vL.at.r i hi;rw [ah amJ] at q0 q1 q2 q3;clear amJ;obtain⟨rno,rk,rn,rs⟩:=rq;exact Kk6):P:=h
theorem awS(h:P:=by
 have y0:=(hcell 0 Aaa).1;rw [Nat.mul_one,aF2] at y0;simp only[List.getElem?_cons_zero] at y0;clear hcell;exact Aeg):P:=h
theorem arG.Aeg(h:P:=by
 subst eb;have hlen:=Yx s0 mL k;by_cases hge:fH s0 mL<=s0.ids[k]
 .have HY:=Hq (Yy s0 mL k hlt hge);generalize s0.ids[k]=x at *;have hd:decide (fH s0 mL<=x)=true:=aEy hge;go_wp2_with fail;go_quiet (fail);go_wp2_with (at_builtin;refine aFf _ rfl _ _ 22 rfl W3.heap.size 3 i0 (.int .i64 0) 1 8 underlying22 hi0 hz0 hz1' hz2 rfl Aag _ _ _ rfl (D7 hown) ⟨wr.heap.size,0,none⟩ 1 1 [.int .i64 x] rfl rfl ?c1 ?c2 ?c3 ?c4 ?c5 ?_)
  case c1=>exact cell_one_new _ _ _
  case c2=>intro u hu;simp at hu;subst hu;rfl
  case c3=>unfold maxLen;omega
  case c4=>omega
  case c5=>have:=aO.size;simp;omega
  intro v' w2 hown' hgrow _;have azE:=Hq (GR.below_append (wr:=wr.drewN nq) (aO.trans ⟨rfl,rfl,rfl,aEx _,λ_ _=>rfl⟩) aO.size hown hgrow)
  obtain⟨g',cp',rfl⟩:∃g' cp',v'= .slice (some ⟨g',0,none⟩) ((oJ s0 mL k).length+1) cp':=by
   rcases hown'.2 with⟨_,hn⟩|⟨g',cap',cur,hv,_⟩
   .omega
   .exact⟨g',cap',hv⟩
  have rQ:=Hq hown';clear hown' hgrow;go_wp2_with fail;go_roundw
  case rel=>exact⟨k+1,g',cp',Aaa,Aaf,by rw [ah HY,aEC];rfl,by rw [ah HY,aEC,GR.flat_append,GR.flat_one];exact rQ,λe=>by rw [ah HY] at e;simp at e,azE⟩
  case measure=>simp[intOf];omega
 .have HY:=Hq (acj s0 mL k hlt hge);generalize s0.ids[k]=x at *;have hd:decide (fH s0 mL<=x)=false:=aEw hge;go_wp2_with fail;go_quiet (fail);go_wp2_with fail;go_roundw
  case rel=>exact⟨k+1,g,cp,Aaa,Aaf,by rw [ah HY],by rw [ah HY];exact hown,by rw [ah HY];exact ajG,aO.trans ⟨rfl,rfl,rfl,aEx _,λ_ _=>rfl⟩⟩
  case measure=>simp[intOf];omega):P:=h
theorem arH.Aeg(h:P:=by
 have HUP:=Hq (fun(h:¬(bV s0 mL)[x] < mI)=>adQ (l:=bV s0 mL) (x:=mI) hx HLO (λ_=>h))
 have aan:=Hq (fun(h:(bV s0 mL)[x] < mI)=>show∀y (hy:y < (bV s0 mL).length),y < x+1->(bV s0 mL)[y] < mI from λy hy h2=>by
  by_cases e:y=x
  .subst e;exact h
  .exact HLO y hy Aaa)
 generalize (bV s0 mL)[x]=rn at *;by_cases hcmp:rn < mI
 .go_wp2_with fail;go_quiet (fail);go_wp2_with fail;go_roundw
  case rel=>exact⟨x+1,_,Aaa,Aaf,aan hcmp,rfl⟩
  case measure=>simp[intOf];omega
 .have ab3:decide (rn < mI)=false:=aEw hcmp;have HJ:=Hq (HUP hcmp);exact ahR):P:=h
theorem aeI(h:P:=by
 clear HNk HYk;go_wp2_with fail;refine(HCk wr HB).mono ?_;rintro e w1 ⟨rfl,hb1⟩;have HB1:=Hq (HB.trans (hb1.mono HB.size));rw [hq];exact AbC):P:=h
theorem arI.AbC(h:P:=by
 clear hb1 q0 q1 q2;exact aiK):P:=h
theorem arJ.AbC(h:P:=by
 clear hb1 q0 q1 q2;exact WH):P:=h
theorem arK.AbC(h:P:=by
 clear hb1 q0 q1 q2 q3;exact aiK):P:=h
theorem arL.AbC(h:P:=by
 clear hb1 q0 q1 q2 q3;go_wp2_with fail;go_ret;exact⟨Aac,HB1⟩):P:=h
theorem awT(h:P:=by
 go_wp2_with fail;refine(HP _).mono ?_;rintro e w5 ⟨rfl,hb5⟩;have hR5:=aI HR hb5;have hM5:=aI HMB hb5;have hB5:=HB.trans (hb5.mono HB.size);have aD4:=cu hM5;have aD6:=cu hR5;obtain⟨⟨d0,d1,d2,d3,d4,d5,d6⟩,f0,f1,f2,f3,f4,f5,f6⟩:=dY hR5;have HR5:=Hq hR5;have fI:=Hq hB5;clear hb5 HR HMB HB q0 q1 q2 q3 q4 q5 q6 HP hzM hzR;exact Ad3):P:=h
theorem arM.Ad3(h:P:=by
 cases hp:bJ ⟨s[0].toNat,N1,N2,N3,N4,TX,N5⟩
 case' false=>
  have hO:OK=false:=by rw [ah HO,hp];simp
  have xK:=Hq (HZ hO)
  clear hO HO HZ HM hM5 hR5 hB5 hp
  open asD in exact agL
 have hO:OK=true:=by rw [ah HO,aEy (ah HE),hp];rfl
 have xK:=Hq (HM hO);obtain⟨q0,q1,q2,q3,q4,q5,q6⟩:=uf hM5;clear hO HO HZ HM hM5 hR5 hB5 hp;open asu in exact agK):P:=h
theorem arN.Ad3(h:P:=by
 by_cases hp:jy ⟨s[0].toNat,N1,N2,N3,N4,TX,N5⟩=s
 case' neg=>
  have hO:OK=false:=by rw [ah HO,aEw hp];simp
  have xK:=Hq (HZ hO)
  have hq:((jy ⟨s[0].toNat,N1,N2,N3,N4,TX,N5⟩).toList == s.toList)=false:=by
   exact aiy
  clear hO HO HZ HM hM5 hR5 hB5
  generalize jy ⟨s[0].toNat,N1,N2,N3,N4,TX,N5⟩=pm at *
  have HP:=Hq hp
  clear hp
  open asC in exact agL
 have hO:OK=true:=by rw [ah HO,aEy hE,aEy hp];rfl
 have xK:=Hq (HM hO);have hq:((jy ⟨s[0].toNat,N1,N2,N3,N4,TX,N5⟩).toList == s.toList)=true:=by rw [hp];simp
 obtain⟨q0,q1,q2,q3,q4,q5,q6⟩:=uf hM5;clear hO HO HZ HM hM5 hR5 hB5;have HP:=Hq hp;clear hp;generalize jy ⟨s[0].toNat,N1,N2,N3,N4,TX,N5⟩=pm at *;open asr in exact agK):P:=h
theorem O6(h:P:=by
 have hd:((l.length:Int) != (m.length:Int))=true:=Aae
 have HP:=Hq (show¬l=m from λh=>hn (congrArg List.length h));exact AaY):P:=h
theorem arO.AaY(h:P:=by
 clear hn ha hb;go_in
 exact Pf):P:=h
theorem arP.AaY(h:P:=by
 clear hn ha hb;go_in
 exact Pf):P:=h
theorem arQ.AaY(h:P:=by
 clear hn ha hb;go_in
 exact Pf):P:=h
theorem arR.AaY(h:P:=by
 clear hn ha hb;go_in
 exact Pf):P:=h
theorem arS.AaY(h:P:=by
 clear hn ha hb hi;go_in
 exact Pf):P:=h
theorem agB(h:P:=by
 obtain⟨g,off,rfl,hgw,c0,c1,c2,c3⟩:=aH.four (GR.At.below HA aO) 0 hlt;simp only[Nat.zero_mul,aF2] at c0 c1 c2 c3;have hgt:decide ((0:Int) < ((0:Nat):Int))=false:=rfl;have nO:=Hq hat;have gu:=Hq (qc (nU l) 0);clear hat;generalize l[0]=pu at *;exact AcY):P:=h
theorem arT.AcY(h:P:=by
 cases hpo:gZ pu
 .have HO:=Hq (λw1=>pV pu false w1 hpo);have HBAD:=Hq (nV hlt (show nU l 0=false by rw [ah nO,hpo];rfl));clear nO gu hpo;obtain⟨pk,pm,pf,ps⟩:=pu;dsimp only at c0 c1 c2 c3;open aBp in exact aaZ
 .have HO:=Hq (λw1=>pV pu true w1 hpo);have Ez:=Hq (show nU l 0=true by rw [ah nO,hpo];rfl);clear nO hpo;obtain⟨pk,pm,pf,ps⟩:=pu;dsimp only at c0 c1 c2 c3;open aBo in exact aaZ):P:=h
theorem arU.AcY(h:P:=by
 obtain⟨pk,pm,pf,ps⟩:=pu;dsimp only at c0 c1 c2 c3 hks;cases hkb:keyOk pk.data.toList
 .have HB:=Hq hkb;have HBAD:=Hq (nV hlt (show nU l 0=false by rw [ah nO];simp[gZ,ah HB]));clear nO gu;have hkb':=ah HB;exact Zk0
 have hkb':=hkb;by_cases h1:0<=pm/\pm<=1000000000
 case' neg=>
  have hA:qM pm=false:=aEw h1;have g1:decide (yB pm 0 1000000000)=false:=aEw h1;exact aeR
 have g1:decide (yB pm 0 1000000000)=true:=aEy h1;have hA1:qM pm=true:=aEy h1;by_cases h2:0<=pf/\pf<=1000000000
 case' neg=>
  have hA:qM pf=false:=aEw h2;have g2:decide (yB pf 0 1000000000)=false:=aEw h2;exact aeR
 have g2:decide (yB pf 0 1000000000)=true:=aEy h2;have hA2:qM pf=true:=aEy h2;by_cases h3:0<=ps/\ps<=1000000000
 case' neg=>
  have hA:qM ps=false:=aEw h3;have g3:decide (yB ps 0 1000000000)=false:=aEw h3;exact aeR
 open avr in exact ahv):P:=h
theorem agC(h:P:=by
 obtain⟨c0,c1,c2,c3,c4,c5,c6,c7,c8⟩:=nine BA;have k0:=cell_grown' c0;have k1:=cell_grown' c1;have k2:=cell_grown' c2;have k3:=cell_grown' c3;have k4:=cell_grown' c4;have k5:=cell_grown' c5;have k6:=cell_grown' c6;have k7:=cell_grown' c7;have k8:=cell_grown' c8;have m0:=cell_grown' d0;have m1:=cell_grown' d1;have m2:=cell_grown' d2;exact Aei):P:=h
theorem arV.Aei(h:P:=by
 have m3:=cell_grown' d3;have en:IntKind.i64.wrap (old+1)=old+1:=IntWalk.i64_in _ ⟨Aaa,Aaa⟩;go_cut [151] (λr wx=>r= .bool bb/\aG W1 wx)
 case first=>
  rcases Dz with⟨rfl,rfl⟩|⟨j,y,rfl,rfl,q1⟩
  .have hgt:decide ((0:Int) < ((0:Nat):Int))=false:=rfl;open aAi in exact Yk4
  .have hgt:decide ((0:Int) < ((j+1:Nat):Int))=true:=aEy Aaa;have m9:=cell_grown' q1;open aAh in exact Yk4
 case rest=>
  obtain⟨rfl,hbx⟩:=hcut;open asJ in exact Wt):P:=h
theorem arW.Aei(h:P:=by
 go_cut [64] (λr wx=>r= .bool bb/\aG W1 wx)
 case first=>
  rcases Dz with⟨rfl,rfl⟩|⟨j,y,rfl,rfl,q1⟩
  .have hgt:decide ((0:Int) < ((0:Nat):Int))=false:=rfl;open aps in exact awn
  .have hgt:decide ((0:Int) < ((j+1:Nat):Int))=true:=aEy Aaa;have m3:=cell_grown' q1;open apr in exact awn
 case rest=>
  obtain⟨rfl,hbx⟩:=hcut;have HW2:=Hq (aj HW1 hbx);open asI in exact Wt):P:=h
theorem agD(h:P:=by
 clear hr hc2 hc3;go_in
 go_wp2_with (first|(go_at_call_of 90 F;refine(H1 _).mono ?_;rintro e w1 ⟨rfl,rfl⟩)|(go_at_call_of 90 T;refine(H2 _).mono ?_;rintro e w1 ⟨rfl,rfl⟩)|(go_at_call_of 62 k;refine(Iq _).mono ?_;rintro e w1 ⟨rfl,rfl⟩)|(go_at_call_of 59 N;refine(HC3 _).mono ?_;rintro e w1 ⟨rfl,rfl⟩))
 exact AdI):P:=h
theorem arX.AdI(h:P:=by
 go_ret;exact⟨aF (by first|exact HP.symm|exact he.trans HP.symm),au w _⟩):P:=h
theorem arY.AdI(h:P:=by
 exact xH):P:=h
theorem agE(h:P:=by
 obtain⟨g,off,rfl,hgw,hrg⟩:=(HA.below aO).range k hlt;open avE in exact ahx):P:=h
theorem arZ.Aef(h:P:=by
 have Bq:=Hq (ZQ pu wr hkk hat);have HRG:=Hq hrg;have HI:Hid ((prog.info? 83).map (·.size)=some (mE pu).length):=ale;clear hkk hat hrg;generalize mE pu=V0 at Bq HRG HI;go_wp2_with (refine aF4 rfl 83 _ rfl g (off+k*22) rfl V0 _ HRG underlying83 rfl HI ?_)
 refine Bq.mono ?_;rintro e w5 ⟨V,rfl,hVl,hV1,A5,hVe,ayk,hb5⟩;have fI:=Hq (GR.Blk.stepW HB hb5);have eO:=Hq (aO.trans (hb5.mono aO.size));have azK:=Hq (λx hx=>(HIN x hx).below hb5);have HX5:=Hq (ayk.lower (lo':=w.heap.size+1) hsz);have hsz5:w.heap.size < w5.heap.size:=aEH hsz hb5.size;have XK:Hid (w5.there w.heap.size (k*22) V.toArray.size):=by rw [show V.toArray.size=22 from hVl];exact XZ fI k Abw
 have HI2:Hid ((prog.info? 57).map (·.size)=some V.toArray.size):=by rw [show V.toArray.size=22 from hVl];exact yL
 have Tn:Hid (V.toArray.all (·.oneCell')=true):=all_oneCell_toArray hV1;have HVE:=Hq hVe;clear hb5 ayk HRG Bq HI hVl hV1 hVe;go_wp2_with (refine aF8 rfl 57 _ _ rfl w.heap.size (k*22) V.toArray rfl rfl XK HI2 Tn ?_)
 go_roundw
 case rel=>
  have hVe:=ah HVE;rw [qp,hVe];have h:=GR.Blk.set fI jN k Abw (pu.1,A5);have hkp:aC [w.heap.size] w5 (GR.setW w5 w.heap.size (k*22) (mE (pu.1,A5))):=eP _ _ _;refine⟨k+1,M.set k (pu.1,A5),Aaa,Aaf,by rw [aGd];exact HML,?_,h,λx hx=>?_,aEH hsz5 hkp.size,GR.setW_below (o:=k*22) (aEx w.heap.size) (mE (pu.1,A5)) eO⟩
  .rw [Ld M _ k Abw,ah HT,List.map_append,List.map_append,ah HMM];rfl
  .rw [Ld M _ k Abw] at hx
   have hw:vF (w.heap.size+1) w5 x.2 x.1:=by
    rcases aE0.1 hx with hx|hx
    .exact azK x hx
    .rw [aEM.1 hx];exact HX5
   exact hw.keeps hkp (λy hy=>by have:=aEM.1 hy;omega)
 case measure=>simp[intOf];omega):P:=h
theorem ar0.Aef(h:P:=by
 have tX:=Hq (adK pu.1 pu.2 z wr hz0 hz1 hkk hat);have HRG:=Hq hrg;obtain⟨⟨B0,N0,lg,sf,wt,sk⟩,⟨AB,AN,wa,wc,aa,ac⟩⟩:=pu;dsimp only at tX;clear hkk hat hrg;go_wp2_with (refine aF4 rfl 83 _ rfl g (off+k*22) rfl [.int .i64 B0.id,.int .i64 B0.par,.slice AB.k B0.kids.length AB.ck,.int .i64 B0.next,.slice AB.p B0.pu.length AB.cp,.slice AB.o B0.out.length AB.co,.slice AB.s B0.seen.length AB.cs,.int .i64 B0.old,.slice AB.r B0.reqs.length AB.cr,.int .i64 N0.id,.int .i64 N0.par,.slice AN.k N0.kids.length AN.ck,.int .i64 N0.next,.slice AN.p N0.pu.length AN.cp,.slice AN.o N0.out.length AN.co,.slice AN.s N0.seen.length AN.cs,.int .i64 N0.old,.slice AN.r N0.reqs.length AN.cr,.string lg,.int .i64 sf,.slice wa wt.length wc,.slice aa sk.length ac] _ HRG underlying83 rfl Aab ?_)
 refine tX.mono ?_;rintro e w5 ⟨r,rfl,hcase,hb5⟩;have eO:=Hq (aO.trans (hb5.mono aO.size));clear hb5 HRG tX;exact aeK):P:=h
theorem agF(h:P:=by
 clear HR;clear ho hk hn;go_in
 go_wp2_with (first|(go_at_call_of 179 no;refine(HO _).mono ?_;rintro e w1 ⟨rfl,rfl⟩)|(go_at_call_of 195 k;refine(HK _).mono ?_;rintro e w1 ⟨rfl,rfl⟩)|(go_at_call_of 179 n;refine(HN _).mono ?_;rintro e w1 ⟨rfl,rfl⟩))
 exact AcW):P:=h
theorem ar1.AcW(h:P:=by
 go_region
 go_upto_region 23 with fail;open att in exact Wv):P:=h
theorem ar2.AcW(h:P:=by
 go_ret;exact⟨aF (by rw [ah HP];simp),by first|exact jo w _ _|exact Below.setNew (jo w _ _) Aaa⟩):P:=h
theorem agG(h:P:=by
 have hp0:w1.cell? ⟨w.heap.size,0,none⟩=some (.string pk):=by rw [aEz w1 _ _ _ _ (0,0) (ah kU)];rfl
 exact Aec):P:=h
theorem ar3.Aec(h:P:=by
 go_upto_region 7 with fail;go_cut [51] (λr wx=>r= .bool (found l pk)/\∃q,wx=w1.drewN q)
 case first=>
  by_cases hlt:place l pk < l.length
  .have hf:found l pk=(l[place l pk].k.toList == pk.toList):=by
    unfold found;rw [jq,aFw hlt]
   obtain⟨g1,o1,e1,hg1,s0,s1,s2,s3⟩:=aH.four (GR.At.below HA HB1) (place l pk) hlt;open avi in exact ahs
  .have hf:found l pk=false:=by
    unfold found;rw [jq,aFM Aaa]
   have HF:=Hq hf;have hpos:decide (0 < l.length - place l pk)=false:=aEw Aaa;have aCr:l.length - place l pk=0:=Aaa
   clear hf;go_quiet (fail);go_wp2_with fail;go_meet
   case rel=>exact⟨by rw [ah HF],_,BL w1 _ _⟩
 case rest=>
  obtain⟨rfl,q2,rfl⟩:=hcut;go_upto_if 51 with fail;go_cut [9] (λr wx=>∃(ad':Addr) (cc:Nat),r= .slice (some ad') (kK l pk).length cc/\aH w1 (some ad') (kK l pk)/\∃q,wx=w1.drewN q)
  case first=>
   have HA1:=Hq (GR.At.below HA HB1);cases hf:found l pk
   .have LJ:=Hq (tail_not hf);have HAE:=Hq hAe;clear hAe hAd;go_wp2_with fail;go_meet
    case rel=>
     refine⟨ad,cap - place l pk,by rw [ah LJ,aE8],?_,_,rfl⟩;rw [ah LJ];by_cases hlt:place l pk < l.length
     .rw [ah HAE hlt];exact VL HA1 (place l pk)
     .exact VN (aFM Aaa)
   .obtain⟨hlt,htl⟩:=tail_found hf;have LJ:=Hq htl;have hae:=hAe hlt;subst hae;clear htl hAe hAd
    obtain⟨ad2,aDp,aBJ⟩:∃ad2:Addr,(if cap - place l pk=1 then some (⟨b,off+place l pk*4,none⟩:Addr) else some ⟨b,off+place l pk*4+4,none⟩)=some ad2/\(place l pk+1 < l.length->ad2=⟨b,off+place l pk*4+4,none⟩):=by
     by_cases h:cap - place l pk=1
     .rw [aER h];exact⟨_,rfl,λh2=>Aaa⟩
     .rw [aEG h];exact⟨_,rfl,λ_=>rfl⟩
    have hone:1<=l.length - place l pk:=Aaa
    go_wp2_with fail;go_meet
    case rel=>
     refine⟨ad2,cap - place l pk - 1,by rw [ah LJ,aE8,Nat.sub_sub],?_,_,rfl⟩;rw [ah LJ];by_cases hlt2:place l pk+1 < l.length
     .rw [aBJ hlt2];have:=VL HA1 (place l pk+1);rwa [show off+(place l pk+1)*4=off+place l pk*4+4 by omega] at this
     .exact VN (aFM Aaa)
  case rest=>
   obtain⟨ad',cc,rfl,hta,q3,rfl⟩:=hcut;obtain⟨i0,hi,hz0,hz1,hz2⟩:=aEY FN;obtain⟨hpf,hpn⟩:=put_flat l ⟨pk,pm,pf,ps⟩;have htl:(l.take (place l pk)).length=place l pk:=Aae
   have hkt:∀q∈iQ l ⟨pk,pm,pf,ps⟩,q.k.size<=maxLen:=λq hq=>by
    rcases put_mem' hq with rfl|hq
    .exact hpk
    .exact hk q hq
   go_upto_region 9 with fail;refine Fo.wp_at (λV hV=>?_);have SY:w.heap.size < V.heap.size:=by rw [hV];exact Fo.lt_of_blk kU
   have wJ:=Hq (show aG w V by rw [hV];exact HB1.trans ⟨rfl,rfl,rfl,aEx _,λ_ _=>rfl⟩);have hblk:V.heap[w.heap.size]?=some (.cells (iK pk pm pf ps) 142 (0,0)):=by rw [hV];exact kU
   have HTA:=Hq (show aH V (some ad') (kK l pk) by rw [hV];exact hta);obtain⟨⟨c0,c1,c2,c3⟩,_⟩:=fG hblk;have HNW:=Hq (λX (hb:aG V X)=>aH.news (GR.At.below HTA hb));have Oj:=Hq (λX (hb:aG V X)=>M0 (some ⟨b,off,none⟩) cap (l.take (place l pk)) X Aaa (λh=>Abb) (GR.At.below (aea (GR.At.below HA wJ) _) hb));have HCA:=Hq (λX (hb:aG w X)=>M0 (some ⟨b,off,none⟩) cap l X Aaa (λh=>Abb) (GR.At.below HA hb));have HPF:=Hq hpf;have HPN:=Hq hpn;rw [htl] at Oj;have hnw:w.heap.size≠V.heap.size:=Aaa
   have hmw:V.heap.size≠w.heap.size:=Aaa
   have aDk:(kK l pk).length<=20:=by
    have h3:=tail_len l pk;omega
   clear hV hblk hta hp0 nD kU htl hAd hAe hpf hpn
   go_region_held_law (λw'=>w'.cell? ⟨w.heap.size,0,none⟩=some (.string pk)/\w'.cell? ⟨w.heap.size,1,none⟩=some (.int .i64 pm)/\w'.cell? ⟨w.heap.size,2,none⟩=some (.int .i64 pf)/\w'.cell? ⟨w.heap.size,3,none⟩=some (.int .i64 ps)) (go_keep)
    (first
     |((go_at_call 95);(refine(Oj _ (by exact⟨rfl,rfl,rfl,Aac,λk hk=>by first|rfl|exact aEI _ _ _ hk⟩)).mono ?_);(rintro e w4 ⟨vc,rfl,hv4,Ae,hb4⟩);(have hs4:=hb4.size);(try simp at hs4);(have mh:=Hq (show aG V w4 from Below.trans (b:=_) (by exact⟨rfl,rfl,rfl,Aac,λk hk=>by first|rfl|exact aEI _ _ _ hk⟩) (hb4.mono Aac)));(have HO4:=Hq (own_lower (b':=V.heap.size) Ae Aac));(first|(guard_hyp hs4:V.heap.size+1<=w4.heap.size;have HN4:=Hq (Fo.one_block (show Below (V.alloc (.cells (iK pk pm pf ps) 142)).heap.size (V.alloc (.cells (iK pk pm pf ps) 142)) w4 from⟨hb4.os,hb4.tape,hb4.output,hb4.size,hb4.block⟩)).1)|skip);(have d0:=(mh.cell (p:=⟨w.heap.size,0,none⟩) SY).trans c0);(have d1:=(mh.cell (p:=⟨w.heap.size,1,none⟩) SY).trans c1);(have d2:=(mh.cell (p:=⟨w.heap.size,2,none⟩) SY).trans c2);(have d3:=(mh.cell (p:=⟨w.heap.size,3,none⟩) SY).trans c3);(have hn4:w.heap.size≠w4.heap.size:=by omega);(have hm4:w4.heap.size≠w.heap.size:=by omega);(clear hb4 Ae hv4))
     |((guard_hyp hs4:V.heap.size+1<=w4.heap.size);(refine oC _ rfl (.tmp 57) (.tmp 59) 48 rfl V.heap.size 142 i0 (.agg (iK ByteArray.empty 0 0 0)) 4 40 underlying48 hi hz0 hz1 hz2 rfl Aag vc (place l pk) (GR.flat fO (l.take (place l pk))) Aan HO4 ⟨V.heap.size,0,none⟩ 1 1 (fO ⟨pk,pm,pf,ps⟩) Aan rfl (aFj HN4) (J6 ⟨pk,pm,pf,ps⟩) Aai Aaa mh.size ?_);(intro v5 w5 hown5 hgr5 FC);(have Ov:=Hq hown5);(have HV5:=Hq (show v5≠ .slice none 0 0 by first|exact FC|exact λh=>absurd (FC.1 h).2 Aag));(have fI:=Hq (show aG V w5 from mh.trans (uy hgr5 (λk e=>(HO4.lt k e).1) mh.size)));(have e0:=(fI.cell (p:=⟨w.heap.size,0,none⟩) SY).trans c0);(have e1:=(fI.cell (p:=⟨w.heap.size,1,none⟩) SY).trans c1);(have e2:=(fI.cell (p:=⟨w.heap.size,2,none⟩) SY).trans c2);(have e3:=(fI.cell (p:=⟨w.heap.size,3,none⟩) SY).trans c3);(clear hown5 hgr5 FC))
     |((guard_hyp hs4:V.heap.size<=w4.heap.size);(refine oC _ rfl (.tmp 57) (.tmp 59) 48 rfl V.heap.size 142 i0 (.agg (iK ByteArray.empty 0 0 0)) 4 40 underlying48 hi hz0 hz1 hz2 rfl Aag vc (place l pk) (GR.flat fO (l.take (place l pk))) Aan (HO4.alloc _) ⟨w4.heap.size,0,none⟩ 1 1 (fO ⟨pk,pm,pf,ps⟩) Aan rfl (aFj (aEu w4 _)) (J6 ⟨pk,pm,pf,ps⟩) Aai Aaa (aEA mh.size Aac) ?_);(intro v5 w5 hown5 hgr5 FC);(have Ov:=Hq hown5);(have HV5:=Hq (show v5≠ .slice none 0 0 by first|exact FC|exact λh=>absurd (FC.1 h).2 Aag));(have fI:=Hq (show aG V w5 from(mh.alloc mh.size _).trans (uy hgr5 (λk e=>(HO4.lt k e).1) (aEA mh.size Aac))));(have e0:=(fI.cell (p:=⟨w.heap.size,0,none⟩) SY).trans c0);(have e1:=(fI.cell (p:=⟨w.heap.size,1,none⟩) SY).trans c1);(have e2:=(fI.cell (p:=⟨w.heap.size,2,none⟩) SY).trans c2);(have e3:=(fI.cell (p:=⟨w.heap.size,3,none⟩) SY).trans c3);(clear hown5 hgr5 FC))
     |((refine oC _ rfl (.tmp 60) (.tmp 61) 48 rfl V.heap.size 142 i0 (.agg (iK ByteArray.empty 0 0 0)) 4 40 underlying48 hi hz0 hz1 hz2 rfl Aag v5 (place l pk+1) (GR.flat fO (l.take (place l pk))++fO ⟨pk,pm,pf,ps⟩) Abp Ov ad' (kK l pk).length cc (GR.flat fO (kK l pk)) Abp (GR.flat_length fO 4 aP _) (HNW _ fI) (Fe _) Aai Aaa fI.size ?_);(intro v6 w6 hown6 qP P9);(have xQ:=Hq (show aG V w6 from fI.trans (uy qP (λk e=>(Ov.lt k e).1) fI.size)));(have HV6:=Hq (show v6≠ .slice none 0 0 by first|exact λh=>HV5 (P9.1 h).1|exact λh=>HV5 (P9 h).1));(rw [ah HPF,ah HPN] at hown6);(obtain⟨a6,cap6,rfl,ayc⟩:=GR.own_at aP hown6);(have HO6:=Hq hown6);(have HT6:=Hq ayc);(have f0:=(xQ.cell (p:=⟨w.heap.size,0,none⟩) SY).trans c0);(have f1:=(xQ.cell (p:=⟨w.heap.size,1,none⟩) SY).trans c1);(have f2:=(xQ.cell (p:=⟨w.heap.size,2,none⟩) SY).trans c2);(have f3:=(xQ.cell (p:=⟨w.heap.size,3,none⟩) SY).trans c3);(clear hown6 qP P9 ayc))
     |fail)
   all_goals
    have ajk:(iQ l ⟨pk,pm,pf,ps⟩).length<=1048600:=by have:=ah HPN;omega
    have amh:=Hq (wJ.trans (xQ.mono Aaa))
    have HSO:=Hq (pE a6 cap6 (iQ l ⟨pk,pm,pf,ps⟩) w6 ajk hkt HT6)
    clear ajk d0 d1 d2 d3 e0 e1 e2 e3 f0 f1 f2 f3 c0 c1 c2 c3 HNW Oj
    go_wp2_with fail
    refine HSO.mono ?_
    rintro e w7 ⟨rfl,vJ⟩
    have H6:=Hq (amh.trans (vJ.mono amh.size))
    have HO7:=Hq (own_lower (b':=w.heap.size) (HO6.kept (row:=none) ⟨vJ.os,vJ.tape,vJ.output,vJ.size,λk hk _=>vJ.block k hk⟩ (adb _)) Aaa)
    clear vJ HSO
    cases hps:iZ (iQ l ⟨pk,pm,pf,ps⟩)
    .have HWF:=Hq (show rC l ⟨pk,pm,pf,ps⟩ n=(l,false) by rw [ah HW,hps];rfl);have HCX:=Hq (HCA _ H6);clear hps HW HCA;go_wp2_with fail;refine HCX.mono ?_;rintro e w8 ⟨v8,rfl,hv8,Qa,IY⟩;have HV8:=Hq hv8;have HO8:=Hq (own_lower (b':=w.heap.size) Qa H6.size);have HB8:=Hq (H6.trans (IY.mono H6.size));clear Qa IY hv8;go_wp2_with fail;rw [ah HWF];exact aEE (v:= .tuple #[v8,.bool false]) Acj rfl ⟨v8,rfl,HV8,HO8,HB8⟩
    .have HWF:=Hq (show rC l ⟨pk,pm,pf,ps⟩ n=(iQ l ⟨pk,pm,pf,ps⟩,true) by rw [ah HW,hps];rfl);clear hps HW HCA;go_wp2_with fail;rw [ah HWF];exact aEE (v:= .tuple #[.slice a6 (iQ l ⟨pk,pm,pf,ps⟩).length cap6,.bool true]) Acj rfl ⟨_,rfl,HV6,HO7,H6⟩):P:=h
theorem ar4.Aec(h:P:=by
 by_cases hlt:k < l.length
 .obtain⟨g1,o1,e1,hg1,s0,s1,s2,s3⟩:=aH.four (GR.At.below HA HB1) k hlt;open avh in exact ahs
 .open anz in exact xE):P:=h
theorem aaI(h:P:=by
 obtain⟨hil,afl⟩:=(nX n.reqs o.no).1 hf;have hgd:n.reqs.getD (dV n.reqs o.no) default=n.reqs[dV n.reqs o.no]:=by rw [aE7,aEB hil];rfl
 exact AcA):P:=h
theorem ar5.AcA(h:P:=by
 rw [hgd] at hs ⊢;open auc in exact aaS):P:=h
theorem ar6.AcA(h:P:=by
 have hR:fE n o.no o.k o.n=(n,if Gp n.reqs[dV n.reqs o.no] o.k o.n=true then 0 else 1):=by
  unfold fE;rw [aEG hc,aER hf,hgd]
 have HSQ:=Hq (show Gp n.reqs[dV n.reqs o.no] o.k o.n=((n.reqs[dV n.reqs o.no].k.toList == o.k.toList)&&decide (n.reqs[dV n.reqs o.no].n=o.n)&&decide (n.reqs[dV n.reqs o.no].s=0)) by unfold Gp;rw [Bool.and_assoc,Bool.and_comm]);have HAD:=Hq hR;generalize fE n o.no o.k o.n=RES at *;have hd:decide (o.no<=n.old)=false:=aEw hc;open aub in exact aaS):P:=h
theorem ar7.AcA(h:P:=by
 rw [hgd] at hs;open aua in exact aaS):P:=h
theorem agH(h:P:=by
 (refine tkB 20 (Rb _) (λK hK=>?_);go_simp;(first|refine hK _ ?_|(apply Exists.intro;refine⟨λ_=>?_,hK _ ?_⟩;rfl));clear hK K)
 refine jm ?_;refine pJ Aab (λz hz=>?_);have HGz:=Hq (tQ.trans (hz.mono tQ.size));have HVz:=Hq (GR.own_below HV5 hz);exact Ad6):P:=h
theorem ar8.Ad6(h:P:=by
 have hsz:wc.heap.size<=z.heap.size:=HGz.size;clear hz;have HNz:Hid (z.heap[w.heap.size]?=some (.cells (vG n.id n.par a_k n.kids.length cZ n.next pa PL.length pc iV n.out.length dW iM n.seen.length dw n.old (some ⟨gr,0,none⟩) n.reqs.length dG) 53 (0,0))):=by unfold Hid;rw [(ah HGz).block _ hnl];exact Iu
 have HRz:Hid (z.heap[w.heap.size+2]?=some (.cells kH 53 (0,0))):=by unfold Hid;rw [(ah HGz).block _ (ay (ah EJ))];exact EJ
 have HQz:Hid (z.heap[W1.heap.size]?=some (.cells (gJ no k nn st) 133 (0,0))):=by unfold Hid;rw [(ah HGz).block _ Yv];exact aes
 have kc:=(nine HNz).2.2.2.2.2.2.2.2;have kf:=aA HNz 8;refine an 15 ?_;go_simp;refine ad ?_;go_simp;go_wp2_with fail;go_meet
 case rel=>
  refine⟨rfl,some ⟨g,0,none⟩,cvT,⟨g,rfl⟩,hcv,aT HNz 8 _,lU _ Aaa HRz,lU _ Aaa HQz,?_,(Iz.below HGz).keeps (aC.set _) (λx hx=>Aaj),(fI.trans (HGz.mono fI.size)).setCell (p:=⟨w.heap.size,8,none⟩) (aEx _) _⟩;exact((LO.own (en:=aM) (cp:=cvT) (l:=IQ) (by rw [ah zy];exact HVz)).keeps (aC.set _) (λx hx=>Aaj)).lower Aaa):P:=h
theorem ar9.Ad6(h:P:=by
 clear hz;have HSz:=Hq (show z.heap[sb]?=some (.cells #[.int .i64 mF,.int .i64 (fH s0 mL),.slice (some ⟨gi,0,none⟩) (bV s0 mL).length Yc] 144 (0,0)) by rw [(ah HGz).block _ ayB];exact aav);obtain⟨_,_,kc⟩:=CP HSz;have kf:=aA HSz 2;refine an 14 ?_;go_simp;refine ad ?_;go_simp;go_wp2_with fail;go_meet
 case rel=>
  exact⟨g,cv,hbg,ada HVz (aC.set _) (λx hx hm=>by simp[Value.ownBlock] at hx;simp at hm;omega),aT HSz 2 _,(aC.of_below HGz).trans (aC.set _)⟩):P:=h
theorem agI(h:P:=by
 refine tk [1] ?_;open atP in exact aaQ):P:=h
theorem asa.Aed(h:P:=by
 have y3:=PE (r:=w.heap.size+2) (iq aeu).2.2.2 Aaa;refine tk [2] ?_;open atO in exact aaQ):P:=h
theorem asb.Aed(h:P:=by
 have y3:=PE (r:=w.heap.size+2) (iq amH).2.2.2 Aaa;refine tk [2] ?_;open atN in exact aaQ):P:=h
theorem Wp(h:P:=by
 have hlo:=h.o.lt;have jD:=Hq (h.nine hB);clear h;go_in
 go_upto_region 1 with fail;refine wp_at (λW0 hW=>?_);exact Aa9):P:=h
theorem ase.Aa9(h:P:=by
 obtain⟨e1,e2,e3⟩:=gU w (.cells (dR n A) 53) (.cells kH 53);open am8 in exact aj2):P:=h
theorem asf.Aa9(h:P:=by
 obtain⟨e1,e2,e3⟩:=gU w (.cells (dR n A) 53) (.cells kH 53);open at6 in exact ag4):P:=h
theorem asg.Aa9(h:P:=by
 obtain⟨e1,e2,e3⟩:=gU w (.cells (dR n (⟨a_k,(some ⟨gp,0,none⟩),iV,iM,jd,cZ,fD,dW,dw,dG⟩:bg)) 53) (.cells kH 53);open am9 in exact aj2):P:=h
theorem ash.Aa9(h:P:=by
 obtain⟨e1,e2,e3⟩:=gU w (.cells (dR n (⟨a_k,qV,iV,iM,jd,cZ,fD,dW,dw,dG⟩:bg)) 53) (.cells kH 53);open ana in exact aj2):P:=h
theorem agJ(h:P:=by
 open auG in exact aaU):P:=h
theorem asi.AdJ(h:P:=by
 exact aw8):P:=h
theorem asj.AdJ(h:P:=by
 exact Zk7):P:=h
theorem Wq(h:P:=by
 have Tw:=Hq (λp:Regrown=>hH.below (aEV w p.d p.os));have H:=Hq h;obtain⟨c0,c1,f0,f1⟩:=h.two;clear h hs hH hE f0 f1;exact Aa7):P:=h
theorem asl.Aa7(h:P:=by
 generalize iR s i=E at *;generalize jU s i=R at *;go_in
 exact axh):P:=h
theorem asn.Aa7(h:P:=by
 generalize iR s i=E at *;generalize jU s i=R at *;go_in
 exact axk):P:=h
theorem aso.Aa7(h:P:=by
 generalize jR s i=E at *;generalize uN s i=R at *;go_in
 exact axh):P:=h
theorem asq.Aa7(h:P:=by
 generalize jR s i=E at *;generalize uN s i=R at *;go_in
 exact axk):P:=h
theorem agK(h:P:=by
 go_wp2_with fail;refine bodyPost_at (λW' hW'=>?_);obtain⟨⟨r0,r1,r2,r3,r4,r5,r6⟩,_⟩:=dY (show W'.heap[w.heap.size]?=some (.cells (bH (s[0].toNat:Int) N1 N2 N3 N4 TX N5) 104 (0,0)) by rw [hW'];exact tH HR5);have hbb:aG w W':=by rw [hW'];exact rA fI (aEx _)
 exact AdE):P:=h
theorem asr.AdE(h:P:=by
 exact aEE (v:= .tuple #[.agg (bH (s[0].toNat:Int) N1 N2 N3 N4 TX N5),.bool true]) Acr rfl ⟨Abh,hbb⟩):P:=h
theorem asu.AdE(h:P:=by
 exact aEE (v:= .tuple #[.agg (bH (s[0].toNat:Int) N1 N2 N3 N4 TX N5),.bool true]) Acp rfl ⟨Abh,hbb⟩):P:=h
theorem aaJ(h:P:=by
 obtain⟨c0,c1,c2,c3,c4,c5,c6,c7,c8⟩:=nine mq;obtain⟨⟨d0,d1,d2,d3,d4,d5,d6,d7,d8⟩,f0,f1,f2,f3,f4,f5,f6,f7,f8⟩:=iG tV;have hnl:=ay mq;have hrl:=ay tV;exact AbU):P:=h
theorem asv.AbU(h:P:=by
 clear q0 q1 q2 HST;dsimp only at e0;subst e0;open apw in exact awo):P:=h
theorem asw.AbU(h:P:=by
 first|dsimp only at e0|skip
 subst e0;have HQ3:=Hq q3;have HQS:=Hq (And.intro q0 (And.intro q1 (And.intro q2 q3)));generalize n.reqs[i].k=qk at *;generalize n.reqs[i].n=qn at *;go_upto_region 8 with fail;have y4:=aEv c4;have y8:=aEv c8;have z1:=aEv q1;have z2:=aEv q2;clear c0 c1 c2 c3 c4 c5 c6 c7 c8 d0 d1 d2 d3 d4 d5 d6 d7 d8 f0 f1 f2 f3 f4 f5 f6 f7 f8 q0 q1 q2 q3;exact Kk8):P:=h
theorem asx.AbU(h:P:=by
 open apx in exact awo):P:=h
theorem Ws(h:P:=by
 have hb0:s[0].toNat < 256:=s[0].toNat_lt;have hw64:wrap64 (s[0].toNat:Int)=(s[0].toNat:Int):=IntWalk.wrap64_in _ ⟨Aaa,Aaa⟩;exact Aa5):P:=h
theorem asy.Aa5(h:P:=by
 clear h;go_in
 go_upto_region 1 with fail;go_quiet (fail);go_upto_region 4 with fail;refine wp_at (λV hV=>?_);have HRV:Hid (jv V g s 1):=by rw [hV];exact(show jv (w.drewN _) g s 0 from H).set 1
 have HKV:Hid (dD g w V):=by rw [hV];exact(dD.of_below (je w _)).trans (dD.set _)
 clear hV c0 c1 f0 f1;obtain⟨c0,c1,f0,f1⟩:=HRV.two;go_quiet (fail);go_wp2_with fail;go_ret;exact⟨rfl,aI HRV (je V _),HKV.trans (dD.of_below (je V _))⟩):P:=h
theorem asz.Aa5(h:P:=by
 go_upto_region 8 with fail;go_region
 go_upto_region 9 with fail;refine wp_at (λV hV=>?_);have hM:V.heap[w5.heap.size+1]?=some (.cells (bE (s[0].toNat:Int) N1 TX N2 mK mF mT mI mL mk mN) 106 (0,0)):=by rw [hV];exact(gU w5 (.cells (bH mK mF mT mI mL mk mN) 104) _).2.1
 have hlt:=cu HR5
 have hB:aG w V:=by
  rw [hV];have h1:=(fI.alloc fI.size (.cells (bH mK mF mT mI mL mk mN) 104)).alloc (by have:=fI.size;simp;omega) (.cells (bE (s[0].toNat:Int) N1 TX N2 mK mF mT mI mL mk mN) 106);exact⟨h1.os,h1.tape,h1.output,h1.size,h1.block⟩
 have hR:V.heap[w.heap.size]?=some (.cells (bE 0 0 ⟨#[]⟩ 0 0 0 0 0 0 ⟨#[]⟩ 0) 106 (0,0)):=by
  rw [hV];have h1:=aEI (w5.alloc (.cells (bH mK mF mT mI mL mk mN) 104)) (.cells (bE (s[0].toNat:Int) N1 TX N2 mK mF mT mI mL mk mN) 106) w.heap.size Aae;have h2:=aEI w5 (.cells (bH mK mF mT mI mL mk mN) 104) w.heap.size hlt;exact h1.trans (h2.trans HR5)
 clear hV HR5 fI hw64 hb0 hlt;have hzM:=cu hM;have hzR:=cu hR;by_cases hE:0<=E
 case' neg=>
  have hO:OK=false:=by rw [ah HO,aEw hE,Bool.false_and,Bool.false_and]
  have xK:=Hq (HZ hO);have hE2:E < 0:=Aaa
  obtain⟨⟨d0,d1,d2,d3,d4,d5,d6,d7,d8,d9,d10⟩,f0,f1,f2,f3,f4,f5,f6,f7,f8,f9,f10⟩:=aJ hR;have HR:=Hq hR;have HB:=Hq hB;clear hO HO HZ HM HP hM hR hB hE;exact axq
 have hE2:¬(E < 0):=Aaa
 cases hbd:(decide (B.size=0)||mo)
 case' false=>
  have hO:OK=false:=by rw [ah HO,hbd,Bool.and_false,Bool.false_and]
  have xK:=Hq (HZ hO);simp only[Bool.or_eq_false_iff,aGv] at hbd;obtain⟨hb1,rfl⟩:=hbd;have hbe:=ku B Aaa;obtain⟨⟨d0,d1,d2,d3,d4,d5,d6,d7,d8,d9,d10⟩,f0,f1,f2,f3,f4,f5,f6,f7,f8,f9,f10⟩:=aJ hR;have HR:=Hq hR;have HB:=Hq hB;clear hO HO HZ HM HP hM hR hB hE hb1;exact axq
 have HBD:=Hq hbd;obtain⟨q0,q1,q2,q3,q4,q5,q6,q7,q8,q9,QZ⟩:=(aJ hM).1;have HR:=Hq hR;have HB:=Hq hB;have HMB:=Hq hM;clear hR hB hM
 have hcond:((!B.toList.isEmpty)&& !mo)=false:=by
  rcases Bool.or_eq_true_iff.1 hbd with h|h
  .have h1:=eq_empty B (aEQ h);subst h1;rw [aFk];rfl
  .rw [h];simp
 clear hbd
 have HQ:Hid ((B.toList.isEmpty=true)\/(B.toList.isEmpty=false/\mo=true)):=by
  cases h1:B.toList.isEmpty
  .rw [h1] at hcond;exact .inr ⟨rfl,by simpa using hcond⟩
  .exact .inl rfl
 clear hcond;have HPP:Hid (∀Q:Prop,(B.toList.isEmpty=true->Q)->(B.toList.isEmpty=false->mo=true->Q)->Q):=λQ h1 h2=>HQ.elim h1 (λh=>h2 h.1 h.2)
 clear HQ;refine HPP _ (λhbe=>?_) (λhbe hmo=>?_)
 all_goals
  clear HPP
  go_wp2_with fail
  refine(HP _).mono ?_
  rintro e w7 ⟨rfl,vJ⟩
  have HR7:=Hq (aI HR vJ)
  have HM7:=Hq (aI HMB vJ)
  have H6:=Hq (HB.trans (vJ.mono HB.size))
  have aD5:=cu HM7
  have aD7:=cu HR7
  clear vJ HR HMB HB q0 q1 q2 q3 q4 q5 q6 q7 q8 q9 QZ HP hzM hzR
  obtain⟨⟨d0,d1,d2,d3,d4,d5,d6,d7,d8,d9,d10⟩,f0,f1,f2,f3,f4,f5,f6,f7,f8,f9,f10⟩:=aJ HR7
  by_cases hp:wB ⟨s[0].toNat,N1,TX,N2,⟨mK,mF,mT,mI,mL,mk,mN⟩⟩=s
  case' neg=>
   have hO:OK=false:=by rw [ah HO,aEw hp,Bool.and_false]
   have xK:=Hq (HZ hO)
   have hq:((wB ⟨s[0].toNat,N1,TX,N2,⟨mK,mF,mT,mI,mL,mk,mN⟩⟩).toList == s.toList)=false:=by
    exact aiy
   clear hO HO HZ HM HBD hp;generalize wB ⟨s[0].toNat,N1,TX,N2,⟨mK,mF,mT,mI,mL,mk,mN⟩⟩=pm at *;go_wp2_with fail;refine gY (λW' hW'=>?_);obtain⟨⟨r0,r1,r2,r3,r4,r5,r6,r7,r8,r9,Za⟩,_⟩:=aJ (show W'.heap[w.heap.size]?=some (.cells (bE 0 0 ⟨#[]⟩ 0 0 0 0 0 0 ⟨#[]⟩ 0) 106 (0,0)) by rw [hW'];exact lC HR7);have hbb:aG w W':=by rw [hW'];exact iw H6 (aEx _)
   exact aEE (v:= .tuple #[.agg (bE 0 0 ⟨#[]⟩ 0 0 0 0 0 0 ⟨#[]⟩ 0),.bool false]) Aci rfl ⟨Abh,hbb⟩
  have hO:OK=true:=by rw [ah HO,aEy hE,ah HBD,aEy hp];rfl
  have xK:=Hq (HM hO)
  have hq:((wB ⟨s[0].toNat,N1,TX,N2,⟨mK,mF,mT,mI,mL,mk,mN⟩⟩).toList == s.toList)=true:=by rw [hp];simp
  obtain⟨⟨q0,q1,q2,q3,q4,q5,q6,q7,q8,q9,QZ⟩,_⟩:=aJ HM7
  clear hO HO HZ HM HBD
  have HPX:=Hq hp
  clear hp
  generalize wB ⟨s[0].toNat,N1,TX,N2,⟨mK,mF,mT,mI,mL,mk,mN⟩⟩=pm at *
  go_wp2_with fail
  refine gY (λW' hW'=>?_)
  obtain⟨⟨r0,r1,r2,r3,r4,r5,r6,r7,r8,r9,Za⟩,_⟩:=aJ (show W'.heap[w.heap.size]?=some (.cells (bE (s[0].toNat:Int) N1 TX N2 mK mF mT mI mL mk mN) 106 (0,0)) by rw [hW'];exact lC HR7)
  have hbb:aG w W':=by rw [hW'];exact iw H6 (aEx _)
  exact aEE (v:= .tuple #[.agg (bE (s[0].toNat:Int) N1 TX N2 mK mF mT mI mL mk mN),.bool true]) Aci rfl ⟨Abh,hbb⟩):P:=h
theorem asA.Aa5(h:P:=by
 go_upto_region 6 with fail;go_region
 go_upto_region 7 with fail;refine wp_at (λV hV=>?_);have hM:V.heap[w3.heap.size]?=some (.cells (bH (s[0].toNat:Int) N1 N2 N3 N4 TX N5) 104 (0,0)):=by rw [hV];exact aEu w3 _
 have hlt:=cu HR3
 have hR:V.heap[w.heap.size]?=some (.cells (bH 0 0 0 0 0 ⟨#[]⟩ 0) 104 (0,0)):=by
  rw [hV];show(w3.alloc _).heap[w.heap.size]?=_
  rw [aEI _ _ _ hlt];exact HR3
 have hB:aG w V:=by
  rw [hV];have h1:=HB3.alloc HB3.size (.cells (bH (s[0].toNat:Int) N1 N2 N3 N4 TX N5) 104);exact⟨h1.os,h1.tape,h1.output,h1.size,h1.block⟩
 clear hV HR3 HB3 c0 c1 c2 c3 hg3 HN HT HG hw64 hb0;have hzM:=cu hM;have hzR:=cu hR;by_cases hE:0<=E6
 case' neg=>
  have hO:OK=false:=by rw [ah HO,aEw hE];rfl
  have xK:=Hq (HZ hO)
  have hE2:E6 < 0:=Aaa
  obtain⟨⟨d0,d1,d2,d3,d4,d5,d6⟩,f0,f1,f2,f3,f4,f5,f6⟩:=dY hR
  have HR:=Hq hR
  have HB:=Hq hB
  clear hO HO HZ HM HP hM hR hB hE
  open asO in exact agP
 have hE2:¬(E6 < 0):=Aaa
 obtain⟨q0,q1,q2,q3,q4,q5,q6⟩:=uf hM;have HR:=Hq hR;have HB:=Hq hB;have HMB:=Hq hM;clear hR hB hM;open arN in exact awT):P:=h
theorem asB.Aa5(h:P:=by
 open arv in exact awO):P:=h
theorem agL(h:P:=by
 go_wp2_with fail;refine bodyPost_at (λW' hW'=>?_);obtain⟨⟨r0,r1,r2,r3,r4,r5,r6⟩,_⟩:=dY (show W'.heap[w.heap.size]?=some (.cells (bH 0 0 0 0 0 ⟨#[]⟩ 0) 104 (0,0)) by rw [hW'];exact tH HR5);have hbb:aG w W':=by rw [hW'];exact rA fI (aEx _)
 exact Ad1):P:=h
theorem asC.Ad1(h:P:=by
 exact ah8):P:=h
theorem asD.Ad1(h:P:=by
 exact ah7):P:=h
theorem agM(h:P:=by
 have hn:=N8 (Ec (tl s a));have HS:=Hq (λw1=>adJ (Ec (tl s a)) (aEA (Gj _ _) Aai) w1);have HCV:=Hq (λw1 g=>J4 w1 g (kE (Ec (tl s a))) 4 hn);have HCC:=Hq (λw1 (hb:aG w w1)=>uj (hc.below hg hb) a 4 4 Aaa);exact AdB):P:=h
theorem asE.AdB(h:P:=by
 have hqq:((lZ (kE (Ec (tl s a)))).toList == (s.extract a (a+4)).toList)=false:=by
  rw [aF3];intro h;rw [aFk,aFk] at h;exact hq (aFP (Array.ext' h))
 open aA8 in exact av5):P:=h
theorem asF.AdB(h:P:=by
 have hqq:((lZ (kE (Ec (tl s a)))).toList == (s.extract a (a+4)).toList)=true:=by
  rw [hq];simp
 open aA7 in exact av5):P:=h
theorem agN(h:P:=by
 have HS:Hid ((s.data.toList.take (k+1)).all Mth.keyByte=((s.data.toList.take k).all Mth.keyByte&&Mth.keyByte s[k])):=by rw [Mth.take_snoc s k hlt];exact Mth.all_snoc _ _
 have hc:s[k].toNat < 256:=s[k].toNat_lt;exact AcK):P:=h
theorem asG.AcK(h:P:=by
 rcases Mth.byte_cases s[k] with h|h
 .have HK:=Hq (Mth.keyByte_yes _ h);rcases h with⟨h1,h2⟩|⟨h1,h2⟩
  all_goals
   go_wp2_with (go_at_call 33;first|(refine(j6 _ _ _ _ ?_ ?_).mono ?_;omega;omega;rintro e w' ⟨rfl,rfl⟩)|(refine(lT _ _ _ _ ?_).mono ?_;omega;rintro e w' ⟨rfl,rfl⟩))
   go_round
   case rel=>exact⟨k+1,Aaa,Aaf,Acg⟩
   case measure=>simp[intOf];omega
 .have HK:=Hq (Mth.keyByte_no _ h);have HF:Hid (Mth.keyOk s.data.toList=false):=Mth.keyOk_bad _ (k+1) Acg;rcases h with h1|⟨h1,h2⟩|h1
  all_goals
   go_wp2_with (go_at_call 33;first|(refine(j6 _ _ _ _ ?_ ?_).mono ?_;omega;omega;rintro e w' ⟨rfl,rfl⟩)|(refine(lT _ _ _ _ ?_).mono ?_;omega;rintro e w' ⟨rfl,rfl⟩))
   go_ret
   exact⟨aF HF.symm,rfl⟩):P:=h
theorem asH.AcK(h:P:=by
 rcases Mth.byte_cases s[k] with h|h
 .have HK:=Hq (Mth.keyByte_yes _ h);rcases h with⟨h1,h2⟩|⟨h1,h2⟩
  all_goals
   go_wp2_with (first|(go_at_call 212;first|(refine(KW _ _ ?_ ?_).mono ?_;omega;omega;rintro e w' ⟨rfl,rfl⟩)|(refine(Rn _ _ ?_).mono ?_;omega;rintro e w' ⟨rfl,rfl⟩))|(go_at_call 213;first|(refine(J5 _ _ ?_ ?_).mono ?_;omega;omega;rintro e w' ⟨rfl,rfl⟩)|(refine(PK _ _ ?_).mono ?_;omega;rintro e w' ⟨rfl,rfl⟩)))
   go_round
   case rel=>exact⟨k+1,Aaa,Aaf,Acg⟩
   case measure=>simp[intOf];omega
 .have HK:=Hq (Mth.keyByte_no _ h);have HF:Hid (Mth.keyOk s.data.toList=false):=Mth.keyOk_bad _ (k+1) Acg;rcases h with h1|⟨h1,h2⟩|h1
  all_goals
   go_wp2_with (first|(go_at_call 212;first|(refine(KW _ _ ?_ ?_).mono ?_;omega;omega;rintro e w' ⟨rfl,rfl⟩)|(refine(Rn _ _ ?_).mono ?_;omega;rintro e w' ⟨rfl,rfl⟩))|(go_at_call 213;first|(refine(J5 _ _ ?_ ?_).mono ?_;omega;omega;rintro e w' ⟨rfl,rfl⟩)|(refine(PK _ _ ?_).mono ?_;omega;rintro e w' ⟨rfl,rfl⟩)))
   go_ret
   exact⟨aF HF.symm,rfl⟩):P:=h
theorem Wt(h:P:=by
 have ajD:=Hq (aj BA hbx);have Dt:=Hq (xu.trans (hbx.mono xu.size));exact AbG):P:=h
theorem asI.AbG(h:P:=by
 have HI2:=Hq (GR.At.below HI1 hbx);clear hbx d0 d1 d2 c0 c1 c2 c3 c4 c5 c6 c7 c8 k0 k1 k2 k3 k4 k5 k6 k7 k8 m0 m1 m2 HW1 BA xu HI1 Dz VT;cases hbv:bb
 case' true=>
  have HP:Hid (TT=false):=ah HBAD (by
   rw [ah gu]
   have h:=ah eG
   rw [hbv] at h
   unfold vK
   dsimp only
   cases h1:NN fr<;>cases h2:pv<;>cases h3:fC lo<;>cases h4:decide (ids.length<=40)<;>simp_all)
  clear HBAD gu eG;subst hbv;go_wp2_with fail;go_ret;exact⟨aF HP.symm,Dt⟩
 have HGD:Hid (gL PP RR (seen.take (k+1))=gL (DW lo) iF ids):=by
  rw [ah gu];have h:=ah eG;rw [hbv] at h;unfold vK;dsimp only;cases h1:NN fr<;>cases h2:pv<;>cases h3:fC lo<;>cases h4:decide (ids.length<=40)<;>simp_all
 subst hbv;clear gu eG;obtain⟨d0,d1,d2⟩:=three HW2;have aDG:=ah Du;go_wp2_with fail;go_loopw [6] (λi wr2=>∃m:Nat,m<=ids.length/\i= .int .i64 m/\gL (DW lo) iF (ids.take m)=true/\aG wc wr2) (λi _=>ids.length - (intOf i).toNat)
 case atStart=>exact abm
 case round=>
  obtain⟨m,hm,rfl,hall,hbx⟩:=hrel;have jL:=Hq hbx;have ama:=Hq hall;have HW3:=Hq (aj HW2 hbx);obtain⟨d0,d1,d2⟩:=three HW3;clear hall;by_cases hlm:m < ids.length
  case' neg=>
   have hke:m=ids.length:=Aaa
   subst hke
   have hnlt:decide ((ids.length:Int) < (ids.length:Int))=false:=Aac
   have HF:Hid (gL PP RR (seen.take (k+1))=true):=by
    have h:=ah ama;rw [aEW] at h;exact HGD.trans h
   have HB9:=Hq (aj ajD hbx)
   have HL9:=Hq (Dt.trans (hbx.mono Dt.size))
   clear hbx
   go_wp2_with fail
   go_roundw
   case rel=>exact⟨k+1,Aaa,Aaf,HF,HB9,HL9⟩
   case measure=>simp[intOf];omega
  have HBM:Hid (gL (DW lo) iF (ids.take (m+1))=false->TT=false):=λh=>HBAD (HGD.trans (oV _ _ _ _ h))
  have HL9:=Hq (Dt.trans (hbx.mono Dt.size));have SV:=GR.At.below HI2 hbx;clear hbx;cases m with
  |zero=>
   obtain⟨g2,off2,rfl,hg2,q0⟩:=aK.one SV 0 hlm;rw [aF2] at q0;have hgt:decide ((0:Int) < ((0:Nat):Int))=false:=rfl;have gu:Hid (gL (DW lo) iF (ids.take (0+1))=DW lo ids[0]):=rV (DW lo) iF ids hlm;clear SV;generalize ids[0]=x at *;cases h1:decide (lo<=x/\x<=1000000000)
   case' false=>
    exact aje
   have HV:=Hq (show gL (DW lo) iF (ids.take (0+1))=true by rw [ah gu];simp[DW,h1]);open ape in exact aj5
  |succ j=>
   obtain⟨g2,off2,e1,hg2,q0⟩:=aK.one SV (j+1) hlm;obtain⟨g3,aD8,e2,hg3,q1⟩:=aK.one SV j Aaa;open au5 in exact ahm):P:=h
theorem asJ.AbG(h:P:=by
 clear hbx d0 d1 d2 d3 c0 c1 c2 c3 c4 c5 c6 c7 c8 k0 k1 k2 k3 k4 k5 k6 k7 k8 m0 m1 m2 m3 HW1 BA xu Dz
 have Bu:=Hq (show gL RQ RR (reqs.take (k+1))= !bb by
  rw [ah gu,<-ah eG,ah nD]
  simp only[Bool.not_not])
 cases hbv:bb
 .have HG:Hid (gL RQ RR (reqs.take (k+1))=true):=by rw [ah Bu,hbv];exact Hq rfl
  exact ahY
 .exact ahV):P:=h
theorem asK.AbG(h:P:=by
 clear hbx d0 d1 d2 d3 c0 c1 c2 c3 c4 c5 c6 c7 c8 k0 k1 k2 k3 k4 k5 k6 k7 k8 m0 m1 m2 m3 HW1 BA xu Dz
 have Bu:=Hq (show gL OT RO (out.take (k+1))= !bb by
  rw [ah gu,<-ah eG,ah nD]
  simp only[Bool.not_not])
 cases hbv:bb
 .have HG:Hid (gL OT RO (out.take (k+1))=true):=by rw [ah Bu,hbv];exact Hq rfl
  exact ahY
 .exact ahV):P:=h
theorem asL.AbG(h:P:=by
 have HW2:=Hq (aj HW1 hbx);clear hbx d0 d1 d2 d3 c0 c1 c2 c3 c4 c5 c6 c7 c8 HW1 BA xu eG;obtain⟨d0,d1,d2,d3⟩:=iq HW2;cases hbv:bb
 .have HG:=Hq (show gL KB RR (out.take (k+1))=true by rw [ah Bu,hbv];rfl);subst hbv;clear HBAD Bu;go_wp2_with fail;go_roundw
  case rel=>exact⟨k+1,si,Aaa,Aaf,rfl,zy.symm,HG,ajD,Dt⟩
  case measure=>simp[intOf];omega
 .have HP:=Hq (HBAD (by rw [ah Bu,hbv];rfl));subst hbv;clear HBAD Bu;go_wp2_with fail;go_ret;exact⟨aF HP.symm,Dt⟩):P:=h
theorem agO(h:P:=by
 obtain⟨mK,mF,mT,mI,mL,mk,mN⟩:=m;obtain⟨R,hR⟩:∃R,bC ⟨5,no,k,n,⟨mK,mF,mT,mI,mL,mk,mN⟩⟩=R:=⟨_,rfl⟩;rw [hR];have HR:=Hq hR;clear hR;have HP:=Hq (show R=(decide (k.toList=[])&&decide (n=0)&&decide (no=0)&&lK ⟨mK,mF,mT,mI,mL,mk,mN⟩) by rw [<-ah HR];simp[bC]);clear HR;exact AcP):P:=h
theorem asM.AcP(h:P:=by
 go_in
 go_upto_region 23 with fail;open atr in exact Wv):P:=h
theorem asN.AcP(h:P:=by
 go_in
 go_wp2_with fail
 all_goals
  go_ret
  refine⟨aF ?_,au w _⟩
  rw [ah HP]
  simp[lK, *]):P:=h
theorem agP(h:P:=by
 go_wp2_with fail;refine bodyPost_at (λW' hW'=>?_);obtain⟨⟨r0,r1,r2,r3,r4,r5,r6⟩,_⟩:=dY (show W'.heap[w.heap.size]?=some (.cells (bH 0 0 0 0 0 ⟨#[]⟩ 0) 104 (0,0)) by rw [hW'];exact tH HR);have hbb:aG w W':=by rw [hW'];exact rA HB (aEx _)
 exact AcB):P:=h
theorem asO.AcB(h:P:=by
 exact ah8):P:=h
theorem asP.AcB(h:P:=by
 exact ah7):P:=h
theorem aaK(h:P:=by
 unfold iO;have H9:=Hq h9;clear h9;have jD:=Hq (h.nine hB);clear h;go_in
 go_upto_region 1 with fail;refine wp_at (λW0 hW=>?_);exact AbV):P:=h
theorem asQ.AbV(h:P:=by
 obtain⟨e1,e2,e3,e4⟩:=fP w (.cells (dR n A) 53) (.cells (bE K no k nn mK mF mT mI mL mk mN) 106) (.cells kH 53);open atp in exact aaN):P:=h
theorem asR.AbV(h:P:=by
 obtain⟨e1,e2,e3,e4⟩:=fP w (.cells (dR n (⟨a_k,(some ⟨gp,0,none⟩),iV,iM,(some ⟨gr,0,none⟩),cZ,fD,dW,dw,dG⟩:bg)) 53) (.cells (bE K no k nn mK mF mT mI mL mk mN) 106) (.cells kH 53);open ato in exact aaN):P:=h
theorem asS.AbV(h:P:=by
 obtain⟨e1,e2,e3,e4⟩:=fP w (.cells (dR n (⟨a_k,qV,iV,iM,jd,cZ,fD,dW,dw,dG⟩:bg)) 53) (.cells (bE K no k nn mK mF mT mI mL mk mN) 106) (.cells kH 53);open atn in exact aaN):P:=h
theorem agQ(h:P:=by
 generalize Bw s=B at *;generalize M8 s=E at *;generalize KD s=X at *;generalize uN s (iR s (jR s 1))=N2 at *;generalize iR s (jR s 1)=E2 at *;generalize jU s (jR s 1)=TX at *;generalize uN s 1=N1 at *;generalize jR s 1=E1 at *;obtain⟨mK,mF,mT,mI,mL,mk,mN⟩:=m;exact AdS):P:=h
end Go.Proofs.YtfachhcijcjbpaaGreatDoor
