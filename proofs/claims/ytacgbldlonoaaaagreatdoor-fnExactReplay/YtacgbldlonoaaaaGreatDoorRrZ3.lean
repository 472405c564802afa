/-
  Parts of proofs that stand more than once, each said once.
-/
import Derived.Test.YtacgbldlonoaaaaGreatDoorRrZ2
namespace Go.Proofs.YtacgbldlonoaaaaGreatDoor
set_option maxRecDepth 100000
variable{P:Prop}
theorem arN(h:P:=by
 cases h1:NN fr
 case' false=>
  have cN:=ah OY fr false W1 HKI h1
  have HV:=Hq (show bb=true by rw [<-ah eY];simp[h1])
  clear eY
  refine wp_region_quiet_below Aab Aab ?_
  repeat (first|go_big_quiet_step ((first|(go_at_call 47;exact cN _ _)|(go_at_call 61;exact cS _ _)))|quiet_step ((first|(go_at_call 47;exact cN _ _)|(go_at_call 61;exact cS _ _))))
  refine wpQuiet_nil ?_
  intro _ hw'
  obtain⟨⟨dq,osq⟩,hw''⟩:=hw'
  subst hw''
  go_wp2_with fail
  go_meet
  case rel=>exact wB
 have cN:=ah OY fr true W1 HKI h1;exact Kr71):P:=h
theorem ake.Kr71(h:P:=by
 by_cases h2:y < fr
 case' neg=>
  have hy:decide (fr<=y)=true:=decide_eq_true Aaa
  have HV:=Hq (show bb=true by rw [<-ah eY];simp[h2])
  clear eY
  refine wp_region_quiet_below Aab Aab ?_
  repeat (first|go_big_quiet_step ((first|(go_at_call 47;exact cN _ _)|(go_at_call 61;exact cS _ _)))|quiet_step ((first|(go_at_call 47;exact cN _ _)|(go_at_call 61;exact cS _ _))))
  refine wpQuiet_nil ?_
  intro _ hw'
  obtain⟨⟨dq,osq⟩,hw''⟩:=hw'
  subst hw''
  go_wp2_with fail
  go_meet
  case rel=>exact wB
 have hy:decide (fr<=y)=false:=decide_eq_false Aaa;open ahV in exact arp):P:=h
theorem akf.Kr71(h:P:=by
 open ahW in exact arp):P:=h
theorem arO(h:P:=by
 have HN8:Hid (NQ Z8 B n (⟨a_k,(some ⟨gp,0,none⟩),dR,dY,fU,aJ,bq,aO,aK,aP⟩:bH) G (newC w.heap.size 9 c)):=by rw [hZ];exact HN7.kc (k:=9) (KC.set (aS (Nat.le_refl _))) Aaa
 have Vn:Hid (Z8.ownsRow bs 143 4 (.slice av RL.length cv) RL.length (GR.flat fE RL)):=by rw [hZ];exact dA HP7 (aC.set _) (λy hy=>by have:y=w.heap.size:=Aar;omega)
 have IE:Hid (Below B w Z8):=by rw [hZ];exact BU.setCell (p:=⟨w.heap.size,3,none⟩) hB _
 have HK8:Hid (Apart c w Z8):=by rw [hZ];exact HK7.keeps BU.size (aC.set _) (λy hy=>by have:y=w.heap.size:=Aar;omega)
 clear hZ HK7 ou lY HN7 HP7 BU HS7 c3n f3n hn7;exact Kr72):P:=h
theorem akg.Kr72(h:P:=by
 obtain⟨a6,c6,W9,hrun,GX,TP,T9⟩:∃a6 c6 W9,(Builtin.append_ #[26,26] 26 #[.slice dR n.out.length aO,.slice (some ⟨Z8.heap.size,0,none⟩) 1 1]).run Tryz.prog (Z8.alloc (.cells (eU n.next dst key pf) 95))= .ok (.slice a6 (n.out.length+1) c6) W9/\W9.ownsRow B 95 4 (.slice a6 (n.out.length+1) c6) (n.out.length+1) (GR.flat aR (n.out++[⟨n.next,dst,key,pf⟩]))/\(Z8.alloc (.cells (eU n.next dst key pf) 95)).grownBy W9 (Value.slice dR n.out.length aO).ownBlock/\∀x,(Value.slice a6 (n.out.length+1) c6).ownBlock=some x->(Value.slice dR n.out.length aO).ownBlock=some x\/(Z8.alloc (.cells (eU n.next dst key pf) 95)).heap.size<=x:=by
  obtain⟨hi,hz0,hz1,hz2⟩:=ah HI;obtain⟨v',w',hr,ho,hg,hw⟩:=fV (P:=Tryz.prog) (Z8.alloc (.cells (eU n.next dst key pf) 95)) B 26 26 95 i0 (.agg (eU 0 0 ByteArray.empty 0)) 4 40 Tryz.underlying26 hi hz0 hz1 hz2 rfl Aae (.slice dR n.out.length aO) n.out.length (GR.flat aR n.out) (GR.own_below HN8.o (aj Z8 _)) ⟨Z8.heap.size,0,none⟩ 1 1 (aR ⟨n.next,dst,key,pf⟩) rfl (World.news_of_block (heap_alloc_new Z8 _)) (rO _) Aah Aaa (Nat.le_trans (Nat.le_trans hB IE.size) (aj Z8 _).size);obtain⟨a6,c6,hv6,_⟩:=GR.own_at (enc:=aR) (sz:=4) (l:=n.out++[⟨n.next,dst,key,pf⟩]) cZ (by rw [List.length_append,ig];exact ho);exact adV
 have jy:=HN8.kc (k:=9) (KC.of_below (aj Z8 (.cells (eU n.next dst key pf) 95))) Aaa;have k9:KC (newC w.heap.size 9 c) 3 (Z8.alloc (.cells (eU n.next dst key pf) 95)) W9:=KC.grown TP jy.co;have hn9:∀x,w.heap.size<=x->newC w.heap.size 9 c x≠3:=λx hx=>by rw [aS hx];omega
 have vZ:=Hq (k9.obj (ay qp (aj Z8 (.cells (eU n.next dst key pf) 95))) (hn9 _ (Nat.le_refl _)));have kJ:=Hq (k9.obj (ay xG (aj Z8 (.cells (eU n.next dst key pf) 95))) (hn9 _ Aaa));have Pj:=Hq (k9.obj (ay Wn (aj Z8 (.cells (eU n.next dst key pf) 95))) (hn9 _ Aaa));have HB9:=Hq (k9.below (B:=B) (IE.trans ((aj Z8 (.cells (eU n.next dst key pf) 95)).mono (Nat.le_trans hB IE.size))) jy.lo Aaa (Nat.le_trans (Nat.le_trans hB IE.size) (aj Z8 _).size));have hZ8:w.heap.size+1 < Z8.heap.size:=aA xG
 have gG:Hid (∀W',(∃F,aC F W9 W'/\∀y∈F,(y=w.heap.size\/y=w.heap.size+1)\/(y < w.heap.size/\6 < c y))->RM W' ⟨a_k,av,a6,dY,fU,aJ,cv,c6,aK,aP⟩ ⟨n.id,n.par,n.kids,n.next+1,RL,n.out++[⟨n.next,dst,key,pf⟩],n.seen,n.old,n.reqs⟩):=λW' hkF=>by
  obtain⟨F,hk,hF⟩:=hkF
  have kF:KC (newC w.heap.size 9 c) 9 W9 W':=KC.keeps hk (λy hy=>by
   rcases hF y hy with h1|h1
   .exact aS Aaa
   .rw [dW h1.1];exact H9 y h1.2)
  have hr:=(kF.own (k9.own jy.r jy.cr Aaa) jy.cr Aaa)
  have hp:=(dA (k9.own (j:=9) (GR.own_below Vn (aj Z8 _)) (λx hx=>aS (by have:=sG Vn hx;omega)) Aaa) hk (λy hy=>by
   have:=hF y hy
   omega))
  have ho:W'.ownsRow B 95 4 (.slice a6 (n.out++[(⟨n.next,dst,key,pf⟩:kC)]).length c6) (n.out++[(⟨n.next,dst,key,pf⟩:kC)]).length (GR.flat aR (n.out++[(⟨n.next,dst,key,pf⟩:kC)])):=(by
   rw [List.length_append]
   exact jI GX (λx hx=>by
    have hx9:=JF GX hx
    refine hk.block x hx9 (λhm=>?_)
    have hm':=hF x hm
    rcases T9 x hx with h1|h1
    .exact adQ
    .have:=(aj Z8 (.cells (eU n.next dst key pf) 95)).size
     omega))
  have hp9:∀g,av.map (λy=>y.block)=some g->6 < newC w.heap.size 9 c g:=λg hg=>by
   have h1:=sG hp (nu hp hg)
   rw [aS Aaa]
   omega
  have ho9:∀x,(Value.slice a6 (n.out++[(⟨n.next,dst,key,pf⟩:kC)]).length c6).ownBlock=some x->(Value.slice dR n.out.length aO).ownBlock=some x\/(Z8.alloc (.cells (eU n.next dst key pf) 95)).heap.size<=x:=λx hx=>by
   rw [List.length_append] at hx
   exact T9 x hx
  have hz9:(Z8.alloc (.cells (eU n.next dst key pf) 95)).heap.size=Z8.heap.size+1:=Aac
  exact RM.of (n:=⟨n.id,n.par,n.kids,n.next+1,RL,n.out++[⟨n.next,dst,key,pf⟩],n.seen,n.old,n.reqs⟩) (A:=⟨a_k,av,a6,dY,fU,aJ,cv,c6,aK,aP⟩) (c:=newC w.heap.size 9 c) (kF.w (k9.w jy.k jy.ck Aaa) jy.ck Aaa) jy.ck (kF.seenQ (k9.seenQ jy.sq jy.c4 jy.ci Aaa Aaa) jy.c4 jy.ci Aaa Aaa) jy.c4 jy.ci jy.ni
   (GR.own_ati aZ hp) (λg hg _=> .inr (hp9 g hg)) ho (λx hx=>by
    rcases ho9 x hx with h1|h1
    .exact .inl (jy.co x h1)
    .refine .inr ?_;rw [aS Aaa]
     omega) hr (λx hx=> .inl (jy.cr x hx))
   (λg hg _ h6=>⟨λe=>by
    rcases ho9 g e with h1|h1
    .have:=jy.co g h1;omega
    .have h2:=JF Vn (nu Vn hg)
     omega,λe=>by have:=jy.cr g e;omega⟩) (λx hx h6 e=>by have:=jy.cr x e;omega)
 have HK9:=Hq ((HK8.step IE.size (aj Z8 (.cells (eU n.next dst key pf) 95))).grown (Nat.le_trans IE.size (aj Z8 _).size) TP (λx hx hlt=>by
  have h1:=jy.co x hx
  rw [dW hlt] at h1
  omega))
 open ajQ in exact arI):P:=h
theorem akh.Kr72(h:P:=by
 obtain⟨a6,c6,W9,hrun,GX,TP,T9⟩:∃a6 c6 W9,(Builtin.append_ #[26,26] 26 #[.slice dR n.out.length aO,.slice (some ⟨Z8.heap.size,0,none⟩) 1 1]).run Tryz.prog (Z8.alloc (.cells (eU n.next dst key most) 95))= .ok (.slice a6 (n.out.length+1) c6) W9/\W9.ownsRow B 95 4 (.slice a6 (n.out.length+1) c6) (n.out.length+1) (GR.flat aR (n.out++[⟨n.next,dst,key,most⟩]))/\(Z8.alloc (.cells (eU n.next dst key most) 95)).grownBy W9 (Value.slice dR n.out.length aO).ownBlock/\∀x,(Value.slice a6 (n.out.length+1) c6).ownBlock=some x->(Value.slice dR n.out.length aO).ownBlock=some x\/(Z8.alloc (.cells (eU n.next dst key most) 95)).heap.size<=x:=by
  obtain⟨hi,hz0,hz1,hz2⟩:=ah HI;obtain⟨v',w',hr,ho,hg,hw⟩:=fV (P:=Tryz.prog) (Z8.alloc (.cells (eU n.next dst key most) 95)) B 26 26 95 i0 (.agg (eU 0 0 ByteArray.empty 0)) 4 40 Tryz.underlying26 hi hz0 hz1 hz2 rfl Aae (.slice dR n.out.length aO) n.out.length (GR.flat aR n.out) (GR.own_below HN8.o (aj Z8 _)) ⟨Z8.heap.size,0,none⟩ 1 1 (aR ⟨n.next,dst,key,most⟩) rfl (World.news_of_block (heap_alloc_new Z8 _)) (rO _) Aah Aaa (Nat.le_trans (Nat.le_trans hB IE.size) (aj Z8 _).size);obtain⟨a6,c6,hv6,_⟩:=GR.own_at (enc:=aR) (sz:=4) (l:=n.out++[⟨n.next,dst,key,most⟩]) cZ (by rw [List.length_append,ig];exact ho);exact adV
 have jy:=HN8.kc (k:=9) (KC.of_below (aj Z8 (.cells (eU n.next dst key most) 95))) Aaa;have k9:KC (newC w.heap.size 9 c) 3 (Z8.alloc (.cells (eU n.next dst key most) 95)) W9:=KC.grown TP jy.co;have hn9:∀x,w.heap.size<=x->newC w.heap.size 9 c x≠3:=λx hx=>by rw [aS hx];omega
 have vZ:=Hq (k9.obj (ay qp (aj Z8 (.cells (eU n.next dst key most) 95))) (hn9 _ (Nat.le_refl _)));have kJ:=Hq (k9.obj (ay xG (aj Z8 (.cells (eU n.next dst key most) 95))) (hn9 _ Aaa));have Pj:=Hq (k9.obj (ay Wn (aj Z8 (.cells (eU n.next dst key most) 95))) (hn9 _ Aaa));have HB9:=Hq (k9.below (B:=B) (IE.trans ((aj Z8 (.cells (eU n.next dst key most) 95)).mono (Nat.le_trans hB IE.size))) jy.lo Aaa (Nat.le_trans (Nat.le_trans hB IE.size) (aj Z8 _).size));have hZ8:w.heap.size+1 < Z8.heap.size:=aA xG
 have gG:Hid (∀W',(∃F,aC F W9 W'/\∀y∈F,(y=w.heap.size\/y=w.heap.size+1)\/(y < w.heap.size/\6 < c y))->RM W' ⟨a_k,av,a6,dY,fU,aJ,cv,c6,aK,aP⟩ ⟨n.id,n.par,n.kids,n.next+1,RL,n.out++[⟨n.next,dst,key,most⟩],n.seen,n.old,n.reqs⟩):=λW' hkF=>by
  obtain⟨F,hk,hF⟩:=hkF
  have kF:KC (newC w.heap.size 9 c) 9 W9 W':=KC.keeps hk (λy hy=>by
   rcases hF y hy with h1|h1
   .exact aS Aaa
   .rw [dW h1.1];exact H9 y h1.2)
  have hr:=(kF.own (k9.own jy.r jy.cr Aaa) jy.cr Aaa)
  have hp:=(dA (k9.own (j:=9) (GR.own_below Vn (aj Z8 _)) (λx hx=>aS (by have:=sG Vn hx;omega)) Aaa) hk (λy hy=>by
   have:=hF y hy
   omega))
  have ho:W'.ownsRow B 95 4 (.slice a6 (n.out++[(⟨n.next,dst,key,most⟩:kC)]).length c6) (n.out++[(⟨n.next,dst,key,most⟩:kC)]).length (GR.flat aR (n.out++[(⟨n.next,dst,key,most⟩:kC)])):=(by
   rw [List.length_append]
   exact jI GX (λx hx=>by
    have hx9:=JF GX hx
    refine hk.block x hx9 (λhm=>?_)
    have hm':=hF x hm
    rcases T9 x hx with h1|h1
    .exact adQ
    .have:=(aj Z8 (.cells (eU n.next dst key most) 95)).size
     omega))
  have hp9:∀g,av.map (λy=>y.block)=some g->6 < newC w.heap.size 9 c g:=λg hg=>by
   have h1:=sG hp (nu hp hg)
   rw [aS Aaa]
   omega
  have ho9:∀x,(Value.slice a6 (n.out++[(⟨n.next,dst,key,most⟩:kC)]).length c6).ownBlock=some x->(Value.slice dR n.out.length aO).ownBlock=some x\/(Z8.alloc (.cells (eU n.next dst key most) 95)).heap.size<=x:=λx hx=>by
   rw [List.length_append] at hx
   exact T9 x hx
  have hz9:(Z8.alloc (.cells (eU n.next dst key most) 95)).heap.size=Z8.heap.size+1:=Aac
  exact RM.of (n:=⟨n.id,n.par,n.kids,n.next+1,RL,n.out++[⟨n.next,dst,key,most⟩],n.seen,n.old,n.reqs⟩) (A:=⟨a_k,av,a6,dY,fU,aJ,cv,c6,aK,aP⟩) (c:=newC w.heap.size 9 c) (kF.w (k9.w jy.k jy.ck Aaa) jy.ck Aaa) jy.ck (kF.seenQ (k9.seenQ jy.sq jy.c4 jy.ci Aaa Aaa) jy.c4 jy.ci Aaa Aaa) jy.c4 jy.ci jy.ni
   (GR.own_ati aZ hp) (λg hg _=> .inr (hp9 g hg)) ho (λx hx=>by
    rcases ho9 x hx with h1|h1
    .exact .inl (jy.co x h1)
    .refine .inr ?_;rw [aS Aaa]
     omega) hr (λx hx=> .inl (jy.cr x hx))
   (λg hg _ h6=>⟨λe=>by
    rcases ho9 g e with h1|h1
    .have:=jy.co g h1;omega
    .have h2:=JF Vn (nu Vn hg)
     omega,λe=>by have:=jy.cr g e;omega⟩) (λx hx h6 e=>by have:=jy.cr x e;omega)
 have HK9:=Hq ((HK8.step IE.size (aj Z8 (.cells (eU n.next dst key most) 95))).grown (Nat.le_trans IE.size (aj Z8 _).size) TP (λx hx hlt=>by
  have h1:=jy.co x hx
  rw [dW hlt] at h1
  omega))
 open ajR in exact arI):P:=h
theorem arP(h:P:=by
 rw [<-hW] at e1 e2 e3 e4;have aar:=Hq e1;have aak:=Hq e2;have ahc:=Hq e3;have HB0:=Hq e4;have aao:=Hq (jP.kc (k:=9) (KC.of_below e4) Aaa);clear hW e1 e2 e3 e4;obtain⟨bi,ci,eA,hgs0,⟨t0,t1,t2⟩,_,hWi⟩:=fP.three aao.s i hi;rw [hs0] at t0 t1 t2 hWi;rw [hfi] at t0;have axq:G.s < w.heap.size:=Zd HGS Aaa;have HWI:=Hq hWi;have HT:=Hq (And.intro t0 (And.intro t1 t2));clear hWi t0 t1 t2;dsimp only at eA;subst eA;obtain⟨c0,c1,c2,c3,c4,c5,c6,c7,c8⟩:=nine aar;obtain⟨m0,m1,m2,m3,m4,m5,m6⟩:=jr aak;have hnl:=aA aar;have hml:=aA aak;go_upto_block 0 with fail;exact Kr73):P:=h
theorem aki.Kr73(h:P:=by
 go_cut [7] from 15 (λj wx=>j= .int .i64 (i:Nat)/\Ge W0 wx)
 case first=>
  exact afA
 case rest=>
  open ahn in exact afg):P:=h
theorem akj.Kr73(h:P:=by
 exact Kr37):P:=h
theorem arQ(h:P:=by
 open an7 in exact WG):P:=h
theorem akk.Kr74(h:P:=by
 refine jM 5 7 rfl rfl Aab Aad Aad Aae Aae (λx2 hx2=>?_) (λx2 hx2=>?_)
 .open ahU in exact aro
 .go_simp;open aoJ in exact WJ):P:=h
theorem akl.Kr74(h:P:=by
 refine jM 5 7 rfl rfl Aab Aad Aad Aae Aae (λx2 hx2=>?_) (λx2 hx2=>?_)
 .open ahT in exact aro
 .go_simp;open aoI in exact WJ):P:=h
theorem IX(h:P:=by
 have hke:k=l.length:=Aaa
 subst hke;have hnlt:decide ((l.length:Int) < (l.length:Int))=false:=Aac
 exact Kr75):P:=h
theorem akm.Kr75(h:P:=by
 have HX:=Hq (show aG l key=⟨key,0,0,0⟩ by
  have h:=ah HN
  rw [List.take_length] at h
  unfold aG
  rw [h]
  rfl)
 go_wp2_with fail;refine bodyPost_ret (v:= .agg (iL key 0 0 0)) (by simp[results,Tryz.results120,go_sem]) rfl ⟨by rw [ah HX],?_⟩;exact(Below.refl _ _).alloc (Nat.le_refl _) _):P:=h
theorem akn.Kr75(h:P:=by
 have h:=ah HN;rw [List.take_length] at h;have HF:=Hq h;clear h;go_wp2_with fail;go_ret;exact⟨aD HF.symm,rfl⟩):P:=h
theorem ako.Kr75(h:P:=by
 have HX:=Hq (show aG l key=⟨key,0,0,0⟩ by
  have h:=ah HN
  rw [List.take_length] at h
  unfold aG
  rw [h]
  rfl)
 go_wp2_with fail;refine(jO _).mono ?_;rintro e w1 ⟨rfl,hb1⟩;have hB:w1.heap[w.heap.size]?=some (.cells (iL ⟨#[]⟩ 0 0 0) 143 (0,0)):=by rw [hb1.block _ aa5];exact Ey
 have HB:=Hq hB;have HB2:=Hq (fO.trans (hb1.mono fO.size));obtain⟨⟨r0,r1,r2,r3⟩,s0,s1,s2,s3⟩:=fJ hB;clear hB hb1;go_wp2_with fail;clear r0 r1 r2 r3;refine Fo.bodyPost_at (λW' hW'=>?_);obtain⟨⟨r0,r1,r2,r3⟩,_⟩:=fJ (show W'.heap[w.heap.size]?=some (.cells (iL key 0 0 0) 143 (0,0)) by rw [hW'];exact Fo.four_set HB);have hbb:aX w W':=by rw [hW'];exact Fo.four_below HB2 (Nat.le_refl _)
 refine bodyPost_ret (v:= .agg (iL key 0 0 0)) (by simp[results,Tryz.results136,go_sem,r0,r1,r2,r3]) rfl ⟨by rw [ah HX],hbb⟩):P:=h
theorem akp.Kr75(h:P:=by
 go_wp2_with fail;go_ret;exact⟨a',c',g,hg,rfl,HB,fO⟩):P:=h
theorem akq.Kr75(h:P:=by
 have h:=ah HN;rw [List.take_length] at h;have HF:=Hq h;clear h;go_wp2_with fail;go_ret;exact⟨⟨-1,rfl,by rw [ah HF];rfl⟩,rfl⟩):P:=h
theorem akr.Kr75(h:P:=by
 go_wp2_with fail;go_ret2
 have h:=ah HP;rw [List.take_length] at h;exact⟨_,_,_,rfl,h,fO⟩):P:=h
theorem aks.Kr75(h:P:=by
 go_wp2_with fail;go_ret;have h:=ah HB;rw [List.take_length,Nat.sub_self,List.replicate_zero,List.append_nil] at h;exact⟨rfl,h,fO⟩):P:=h
theorem akt.Kr75(h:P:=by
 have KV:=Hq (place_at l pk l.length (Nat.le_refl _) mV (λh=>absurd h (Nat.lt_irrefl _))).1;go_wp2_with fail;go_quiet (fail);go_wp2_with fail;go_meet
 case rel=>exact⟨by rw [ah KV],_,uU w1 _ _⟩):P:=h
theorem aku.Kr75(h:P:=by
 have HF:=Hq (Uu mV);go_wp2_with fail;go_ret;exact⟨aD (by rw [ah HF];simp<;>omega),fO⟩):P:=h
theorem arR(h:P:=by
 have HAT:=Hq (λW'' (ho:Out c w W' W'')=>(Vl.kc (k:=9) ((KC.keeps fH (λx hx=>by have:x=w.heap.size+2:=Aaf;rw [this];exact aS Aaa)).trans (KC.out H9 ho)) Aaa).rm);have lQ:Hid (Below B w W'):=(tZ.mono hB).trans (fH.below (λx hx=>by have:x=w.heap.size+2:=Aaf;omega) (Nat.le_trans hB (tZ.mono hB).size));have rG:=Hq (Apart.keeps (c:=c) (Apart.of_below tZ) (tZ.mono hB).size fH (λx hx=>by have:x=w.heap.size+2:=Aaf;omega));obtain⟨x0,x1,x2,x3,x4,x5,x6,x7,x8⟩:=nine e4;clear hW' e4 fH;exact Kr76):P:=h
theorem akv.Kr76(h:P:=by
 exact Kr23):P:=h
theorem akw.Kr76(h:P:=by
 exact bodyPost_ret (v:= .tuple #[(fI n A),.slice (some ⟨W1.heap.size,0,none⟩) 0 0,.int .i64 3]) Abt rfl ⟨A,some ⟨W1.heap.size,0,none⟩,0,rfl,HAT,λW'' _ i hi=>Aas,lQ,rG⟩):P:=h
theorem arS(h:P:=by
 go_wp2_with fail;refine(jO X A1 HPR.1 zo.at.p).mono ?_;rintro e W5 ⟨v,rfl,_,hown,hb5⟩;obtain⟨pa,pc,rfl,_⟩:=GR.own_at (enc:=fE) aZ hown;have lq:=Hq (ay gG hb5);have jl:=Hq (ay oZ hb5);have vI:=Hq (kE.trans (hb5.mono kE.size));have Pd:=Hq (zo.kc (k:=9) (KC.of_below hb5) Aaa);have Gq:=Hq hown;have hxr:=aA oZ;clear hown hb5 c0 c1 c2 c3 c4 c5 c6 c7 c8 p0 p1 p2 p3 p4 p5 p6 p7 p8 p9 mP hnl hol jO gG HOX oZ zo HPR kE;obtain⟨c0,c1,c2,c3,c4,c5,c6,c7,c8⟩:=nine lq;have hnl:=aA lq;exact Kr77):P:=h
theorem akx.Kr77(h:P:=by
 have f4:=au lq 4;go_upto_region 11 with fail;refine wp_at (λY hY=>?_)
 have hky:aC [w.heap.size] W5 Y:=by
  rw [hY];exact aC.set _
 have ou:Hid (Y.heap[w.heap.size]?=some (.cells (fK n.id n.par A1.k n.kids.length A1.ck n.next pa RL.length pc A1.o n.out.length A1.co A1.s n.seen.length A1.cs n.old A1.r n.reqs.length A1.cr) 30 (0,0))):=by
  rw [hY];exact bC lq 4 (.slice pa RL.length pc)
 have lY:=Hq (hky.obj jl Aac);have BU:=Hq (vI.trans (hky.below (B:=w.heap.size) (λx hx=>by have:x=w.heap.size:=Aaf;omega) vI.size));have auc:=Hq (Pd.kc (k:=9) (KC.keeps hky (λx hx=>by have:x=w.heap.size:=Aaf;rw [this];exact CB)) Aaa);have aug:=Hq (dA Gq hky (λx hx=>by have:x=w.heap.size:=Aaf;omega));clear hY hky f4 c0 c1 c2 c3 c4 c5 c6 c7 c8 hnl lq jl vI Pd Gq;obtain⟨c0,c1,c2,c3,c4,c5,c6,c7,c8⟩:=nine ou;have hnl:=aA ou;open aoa in exact acN):P:=h
theorem aky.Kr77(h:P:=by
 go_upto_region 9 with fail;open am2 in exact acp):P:=h
theorem zB(h:P:=by
 obtain⟨id,par,kids,next,pu,out,seen,old,reqs⟩:=n;obtain⟨ak,ap,ao,as',ar,ck,cp,co,cs,cr⟩:=A;exact Kr78):P:=h
theorem akz.Kr78(h:P:=by
 dsimp only at hl HA HD EH vM Bd BX ⊢;cases h1:rF id
 case' false=>
  have HP:=Hq (HD (by rw [h1];rfl))
  clear HD EH vM Bd BX
  go_enter Tryz.func58,Tryz.ntmps58
  go_wp2_with (first|(go_at_call 134;refine(l04Node _ false _ h1).mono ?_;rintro e w1 ⟨rfl,rfl⟩))
  go_ret
  exact⟨aD HP.symm,aj w _⟩
 cases h2:decide (-1<=par/\par<=29)
 case' false=>
  have HP:=Hq (HD (by rw [h2];simp))
  clear HD EH vM Bd BX
  go_enter Tryz.func58,Tryz.ntmps58
  go_wp2_with (first|(go_at_call 134;refine(l04Node _ true _ h1).mono ?_;rintro e w1 ⟨rfl,rfl⟩)|(go_at_call 63;refine(rW _ _ _ false _ h2).mono ?_;rintro e w1 ⟨rfl,rfl⟩))
  go_ret
  exact⟨aD HP.symm,aj w _⟩
 by_cases h3:par=id
 case' pos=>
  have hb3:(par == id)=true:=by simp[h3]
  have HP:=Hq (HD (by simp[h3]))
  clear h3 HD EH vM Bd BX
  go_enter Tryz.func58,Tryz.ntmps58
  go_wp2_with (first|(go_at_call 134;refine(l04Node _ true _ h1).mono ?_;rintro e w1 ⟨rfl,rfl⟩)|(go_at_call 63;refine(rW _ _ _ true _ h2).mono ?_;rintro e w1 ⟨rfl,rfl⟩))
  go_ret
  exact⟨aD HP.symm,aj w _⟩
 have hb3:(par == id)=false:=by simp[h3]
 by_cases h4:kids.length<=30
 case' neg=>
  have hb4:decide ((30:Int) < kids.length)=true:=decide_eq_true Aaa
  have HP:=Hq (HD (by simp[h4]))
  clear HD EH vM Bd BX
  go_enter Tryz.func58,Tryz.ntmps58
  go_wp2_with (first|(go_at_call 134;refine(l04Node _ true _ h1).mono ?_;rintro e w1 ⟨rfl,rfl⟩)|(go_at_call 63;refine(rW _ _ _ true _ h2).mono ?_;rintro e w1 ⟨rfl,rfl⟩))
  go_ret
  exact⟨aD HP.symm,aj w _⟩
 have hb4:decide ((30:Int) < kids.length)=false:=decide_eq_false Aaa;have lS:=Hq (EH h1 (of_decide_eq_true h2) h3 h4);clear HD EH;go_enter Tryz.func58,Tryz.ntmps58
 go_wp2_with (first|(go_at_call 134;refine(l04Node _ true _ h1).mono ?_;rintro e w1 ⟨rfl,rfl⟩)|(go_at_call 63;refine(rW _ _ _ true _ h2).mono ?_;rintro e w1 ⟨rfl,rfl⟩))
 go_loopw [3] (λi wr=>∃k:Nat,k<=kids.length/\i= .int .i64 k/\gQ (jo id par) iA (kids.take k)=true/\wr.heap[w.heap.size]?=some (.cells (dH ⟨id,par,kids,next,pu,out,seen,old,reqs⟩ ⟨ak,ap,ao,as',ar,ck,cp,co,cs,cr⟩) 30 (0,0))/\aX w wr) (λi _=>kids.length - (intOf i).toNat)
 case atStart=>exact⟨0,Nat.zero_le _,rfl,rfl,heap_alloc_new w _,aj w _⟩
 case round=>
  open amd in exact Ri):P:=h
theorem akA.Kr78(h:P:=by
 dsimp only at hl hl2 HA HS QZ HD vM Bd BX OY kE ⊢;go_enter Tryz.func60,Tryz.ntmps60
 go_upto_if 12 with fail;open alf in exact afs):P:=h
theorem akB.Kr78(h:P:=by
 dsimp only at KW HPU HTO OY HOT K7 HD kE ⊢;have hlo:=hz.o;have hlr:=hz.r;dsimp only at hlo hlr;clear ha hz;go_enter Tryz.func19,Tryz.ntmps19
 go_upto_region 1 with fail;open ale in exact afs):P:=h
theorem akC.Kr78(h:P:=by
 obtain⟨si,st,sx,sn⟩:=s;dsimp only at hl HA HLY wZ BZ HP HR HO HB ⊢;obtain⟨c0,c1,c2,c3,c4,c5,c6,c7,c8⟩:=nine HP;obtain⟨d0,d1,d2,d3⟩:=fQ HR;go_enter Tryz.func126,Tryz.ntmps126
 go_wp2_with fail;go_loopw [5,13] (λlv i wr=>∃k:Nat,k<=out.length/\i= .int .i64 k/\lv= .int .i64 si/\(out.take k).find? (λo=>decide (o.t=st))=none/\Below (((w.alloc (.cells (dH ⟨id,par,kids,next,pu,out,seen,old,reqs⟩ ⟨ak,ap,ao,as',ar,ck,cp,co,cs,cr⟩) 30)).alloc (.cells (eU si st sx sn) 95)).alloc (.cells zm7 32)).heap.size (((w.alloc (.cells (dH ⟨id,par,kids,next,pu,out,seen,old,reqs⟩ ⟨ak,ap,ao,as',ar,ck,cp,co,cs,cr⟩) 30)).alloc (.cells (eU si st sx sn) 95)).alloc (.cells zm7 32)) wr) (λ_ i _=>out.length - (intOf i).toNat)
 case atStart=>exact⟨0,Nat.zero_le _,rfl,rfl,rfl,Below.refl _ _⟩
 case round=>
  obtain⟨k,hk,rfl,rfl,hno,hbx⟩:=hrel;have HN:=Hq hno;have xD:=Hq (ay HP hbx);have HR1:=Hq (ay HR hbx);have HO1:=Hq (ay HO hbx);have HB1:=Hq (HB.trans (hbx.mono HB.size));have kE:=Hq hbx;clear hno hbx c0 c1 c2 c3 c4 c5 c6 c7 c8 d0 d1 d2 d3;obtain⟨c0,c1,c2,c3,c4,c5,c6,c7,c8⟩:=nine xD;obtain⟨d0,d1,d2,d3⟩:=fQ HR1;have hrz:=aA HO1;have axJ:w.heap.size+1 < wr.heap.size:=Aaa
  have axI:w.heap.size < wr.heap.size:=Aaa
  by_cases hlt:k < out.length
  .obtain⟨g,off,e0,hgw,q0,q1,q2,q3⟩:=SentAt.four (GR.At.below HA HB1) k hlt;(try dsimp only at e0 q0 q1 q2 q3)
   subst e0;by_cases ht:(out[k]).t=st
   .have HY:=Hq (HLY k hlt HN ht);have hb:((out[k]).t == st)=true:=by simp[ht]
    clear ht HLY wZ BZ;generalize out[k]=sk at *;obtain⟨ui,ut,ux,un⟩:=sk;dsimp only at q0 q1 q2 q3 hb HY;have hyy:=ah HY;subst hyy;go_upto_region 8 with fail;refine wp_at (λW3 hW3=>?_);have hbw:aX wr W3:=by rw [hW3];exact aj wr _
    open aj1 in exact arK
   .have HS:=Hq (wZ k hlt HN ht);have hb:((out[k]).t == st)=false:=by simp[ht]
    clear ht HLY wZ BZ;generalize out[k]=sk at *;obtain⟨ui,ut,ux,un⟩:=sk;dsimp only at q0 q1 q2 q3 hb;go_wp2_with fail;go_roundw
    case rel=>exact⟨k+1,Aaa,Aai,rfl,HS,kE.alloc kE.size _⟩
    case measure=>simp[intOf];omega
  .open al5 in exact Rh):P:=h
theorem akD.Kr78(h:P:=by
 dsimp only at hl HA HLY wZ BZ c0 c1 c2 c3 c4 c5 c6 c7 c8 ⊢;go_enter Tryz.func127,Tryz.ntmps127
 go_wp2_with fail;go_loop [7] (λi=>∃k:Nat,k<=out.length/\i= .int .i64 k/\(out.take k).find? (λo=>decide (o.t=t))=none) (λi=>out.length - (intOf i).toNat)
 case atStart=>exact⟨0,Nat.zero_le _,rfl,rfl⟩
 case round=>
  obtain⟨k,hk,rfl,hno⟩:=hrel;have HN:=Hq hno;clear hno;by_cases hlt:k < out.length
  .obtain⟨g,off,e0,hgw,q0,q1,q2,q3⟩:=SentAt.four HA k hlt;subst e0;by_cases ht:(out[k]).t=t
   .have HY:=Hq (HLY k hlt HN ht);have hb:((out[k]).t == t)=true:=by simp[ht]
    clear ht HLY wZ BZ;generalize out[k]=sk at *;obtain⟨si,st,sx,sn⟩:=sk;dsimp only at q0 q1 q2 q3 hb HY;go_wp2_with fail;go_ret;exact⟨JN HY.symm,aj w _⟩
   .have HS:=Hq (wZ k hlt HN ht);have hb:((out[k]).t == t)=false:=by simp[ht]
    clear ht HLY wZ BZ;generalize out[k]=sk at *;obtain⟨si,st,sx,sn⟩:=sk;dsimp only at q0 q1 q2 q3 hb;go_wp2_with fail;go_round
    case rel=>exact⟨k+1,Aaa,Aai,HS⟩
    case measure=>simp[intOf];omega
  .open al4 in exact Rh):P:=h
theorem akE.Kr78(h:P:=by
 obtain⟨si,st,sx,sn⟩:=s;dsimp only at hl HLW hP hR hO hB ⊢;have HP:=Hq hP;have HR:=Hq hR;have HO:=Hq hO;have HB:=Hq hB;clear ha hP hR hO hB Vo;go_enter Tryz.func51,Tryz.ntmps51
 go_upto_region 1 with fail;refine wp_at (λW hW=>?_);rw [<-hW] at HP HR HO HB;have atY:=Hq (HLW W HB);have hz2:w.heap.size+1+1 < W.heap.size:=aA HO;have hz1:w.heap.size+1 < W.heap.size:=Aaa
 have hz0:w.heap.size < W.heap.size:=Aaa
 have hne0:w.heap.size+1+1≠w.heap.size:=Aaa
 have hne1:w.heap.size+1+1≠w.heap.size+1:=Aaa
 clear hW HLW;obtain⟨c0,c1,c2,c3,c4,c5,c6,c7,c8⟩:=nine HP;obtain⟨d0,d1,d2,d3⟩:=fQ HR
 go_region_held (λw'=>(w'.cell? ⟨w.heap.size,0,none⟩=some (.int .i64 id)/\w'.cell? ⟨w.heap.size,1,none⟩=some (.int .i64 par)/\w'.cell? ⟨w.heap.size,2,none⟩=some (.slice ak kids.length ck)/\w'.cell? ⟨w.heap.size,3,none⟩=some (.int .i64 next)/\w'.cell? ⟨w.heap.size,4,none⟩=some (.slice ap pu.length cp)/\w'.cell? ⟨w.heap.size,5,none⟩=some (.slice ao out.length co)/\w'.cell? ⟨w.heap.size,6,none⟩=some (.slice as' seen.length cs)/\w'.cell? ⟨w.heap.size,7,none⟩=some (.int .i64 old)/\w'.cell? ⟨w.heap.size,8,none⟩=some (.slice ar reqs.length cr))/\w'.cell? ⟨w.heap.size+1,0,none⟩=some (.int .i64 si)/\w'.cell? ⟨w.heap.size+1,1,none⟩=some (.int .i64 st)/\w'.cell? ⟨w.heap.size+1,2,none⟩=some (.string sx)/\w'.cell? ⟨w.heap.size+1,3,none⟩=some (.int .i64 sn)) (first|go_keep|(refine⟨⟨?_,?_,?_,?_,?_,?_,?_,?_,?_⟩,?_,?_,?_,?_⟩<;>first|exact ate hne0 (by assumption)|exact ate hne1 (by assumption)))
  (first
   |(go_at_call 127;refine(atY W.drew rfl).mono ?_;rintro e w5 ⟨rfl,hb5⟩;have hb6:aX W w5:=⟨hb5.os,hb5.tape,hb5.output,hb5.size,hb5.block⟩;clear hb5;have Kv:=Hq (ay HP hb6);have Vq:=Hq (ay HR hb6);have Ku:=Hq (ay HO hb6);have jW:=Hq (HB.trans (hb6.mono HB.size));clear hb6;obtain⟨y0,y1,y2,y3,y4,y5,y6,y7,y8⟩:=nine Kv;obtain⟨z0,z1,z2,z3⟩:=fQ Vq;obtain⟨r0,r1,r2,r3,r4,r5,r6⟩:=jr Ku;have f0:=au Ku 0;have f1:=au Ku 1;have f2:=au Ku 2;have f3:=au Ku 3;have f4:=au Ku 4;have f5:=au Ku 5;have f6:=au Ku 6))
 all_goals
  go_wp2_with fail
  refine aN (λW' hW'=>?_)
  have hR:=wV (b0:= .int .i64 1) (b1:= .int .i64 id) (b2:= .int .i64 st) (b3:= .int .i64 si) (b4:= .int .i64 LO) (b5:= .string sx) (b6:= .int .i64 sn) Ku
  have hK:=sK (w:=w5) (g:=w.heap.size+1+1) (b0:= .int .i64 1) (b1:= .int .i64 id) (b2:= .int .i64 st) (b3:= .int .i64 si) (b4:= .int .i64 LO) (b5:= .string sx) (b6:= .int .i64 sn)
  rw [<-hW'] at hR hK
  obtain⟨x0,x1,x2,x3,x4,x5,x6⟩:=jr hR
  refine bodyPost_ret (v:= .agg (bJ 1 id st si LO sx sn)) (by simp[results,Tryz.results51,go_sem,x0,x1,x2,x3,x4,x5,x6]) rfl ⟨rfl,jW.trans (hK.below (λx hx=>by have:x=w.heap.size+1+1:=Aaf;omega) jW.size)⟩):P:=h
theorem akF.Kr78(h:P:=by
 dsimp only at hlo HAO IU lS CG KW ⊢;go_enter Tryz.func17,Tryz.ntmps17
 go_upto_region 1 with fail;refine wp_at (λW0 hW0=>?_);rw [<-hW0] at IU;have HB0:Hid (aX w W0):=by rw [hW0];exact aj w _
 have aa5:w.heap.size < W0.heap.size:=aA IU;have axF:w.heap.size≠W0.heap.size:=Aaa
 clear hW0;have ag1:Hid ((W0.alloc (.cells #[] 32)).ownsRow W0.heap.size 32 7 (.slice (some ⟨W0.heap.size,0,none⟩) 0 0) 0 []):=World.ownsRow_lit (base:=W0.heap.size) (e:=32) (size:=7) W0 #[] 0 (Nat.le_refl _) Aae rfl;go_wp2_with fail;go_loopw [3,4] (λov i wr=>∃(k:Nat) (va:Option Addr) (vc:Nat),k<=out.length/\i= .int .i64 k/\ov= .slice va k vc/\wr.ownsRow W0.heap.size 32 7 (.slice va k vc) k (GR.flat jF ((out.take k).map PM))/\aX W0 wr/\(0 < k->OK=true)) (λ_ i _=>out.length - (intOf i).toNat)
 case atStart=>exact⟨0,some ⟨W0.heap.size,0,none⟩,0,Nat.zero_le _,rfl,rfl,ag1,aj W0 _,λh=>Aaa⟩
 case round=>
  obtain⟨k,va,vc,hk,rfl,rfl,hown,hbel,hpos⟩:=hrel;have HO:=Hq hown;have fO:=Hq hbel;have HW:=Hq (HB0.trans (hbel.mono HB0.size));have xD:=Hq (ay IU hbel);clear hown hbel ag1;obtain⟨c0,c1,c2,c3,c4,c5,c6,c7,c8⟩:=nine xD;by_cases hlt:k < out.length
  .obtain⟨g,off,e0,hg,q0,q1,q2,q3⟩:=SentAt.four (GR.At.below HAO HB0) k hlt;subst e0;have ag7:=Hq (lS wr HW);go_wp2_with fail;refine ag7.mono ?_;rintro e w4 ⟨rfl,hb4⟩;have HO4:=Hq (GR.own_below HO hb4);have Cr:=Hq (fO.trans (hb4.mono fO.size));clear hb4 ag7 c0 c1 c2 c3 c4 c5 c6 c7 c8 xD fO HW HO;have SI:=Hq (ay IU Cr);have vJ:=Hq (HB0.trans (Cr.mono HB0.size));cases hOK:OK
   .have hk0:k=0:=by
     rcases Nat.eq_zero_or_pos k with h|h
     .exact h
     .exact absurd (hpos h) (by rw [hOK];simp)
    subst hk0;have HE:Hid (L=[]):=by rw [ah KW,hOK];rfl
    clear hpos hOK KW;go_wp2_with fail;go_ret;rw [ah HE];exact zk.of_own rfl HO4 Aaa vJ
   .clear hpos;have ae8:=Hq (CG out[k] w4 vJ);have HT:=Hq (show(out.take (k+1)).map PM=(out.take k).map PM++[PM out[k]] by rw [List.take_succ_eq_append_getElem hlt,List.map_append];rfl);generalize out[k]=sk at *;generalize PM sk=mk at *;obtain⟨si,st,sx,sn⟩:=sk;obtain⟨mK,mF,mT,mI,mL,mk,mN⟩:=mk;dsimp only at q0 q1 q2 q3;have HQ0:=Hq q0;have HQ1:=Hq q1;have HQ2:=Hq q2;have HQ3:=Hq q3;have x0:=(Cr.cell (p:=⟨g,off+k*4,none⟩) hg).trans q0;have x1:=(Cr.cell (p:=⟨g,off+k*4+1,none⟩) hg).trans q1;have x2:=(Cr.cell (p:=⟨g,off+k*4+2,none⟩) hg).trans q2;have x3:=(Cr.cell (p:=⟨g,off+k*4+3,none⟩) hg).trans q3;clear q0 q1 q2 q3;obtain⟨c0,c1,c2,c3,c4,c5,c6,c7,c8⟩:=nine SI;go_wp2_with fail
    go_region_held_law (λw'=>(w'.cell? ⟨w.heap.size,0,none⟩=some (.int .i64 id)/\w'.cell? ⟨w.heap.size,1,none⟩=some (.int .i64 par)/\w'.cell? ⟨w.heap.size,2,none⟩=some (.slice ak kids.length ck)/\w'.cell? ⟨w.heap.size,3,none⟩=some (.int .i64 next)/\w'.cell? ⟨w.heap.size,4,none⟩=some (.slice ap pu.length cp)/\w'.cell? ⟨w.heap.size,5,none⟩=some (.slice (some ⟨g,off,none⟩) out.length co)/\w'.cell? ⟨w.heap.size,6,none⟩=some (.slice as' seen.length cs)/\w'.cell? ⟨w.heap.size,7,none⟩=some (.int .i64 old)/\w'.cell? ⟨w.heap.size,8,none⟩=some (.slice ar reqs.length cr))/\w'.cell? ⟨g,off+k*4,none⟩=some (.int .i64 si)/\w'.cell? ⟨g,off+k*4+1,none⟩=some (.int .i64 st)/\w'.cell? ⟨g,off+k*4+2,none⟩=some (.string sx)/\w'.cell? ⟨g,off+k*4+3,none⟩=some (.int .i64 sn)) (go_keep)
     (first
      |((go_at_call 51);(refine(ae8 w4.drew rfl).mono ?_);(rintro e w5 ⟨rfl,hb5⟩);(have hb6:aX w4 w5:=⟨hb5.os,hb5.tape,hb5.output,hb5.size,hb5.block⟩);(clear hb5);(have Ku:=Hq (GR.own_below HO4 hb6));(have lT:=Hq (Cr.trans (hb6.mono Cr.size)));(clear hb6);(have Kv:=Hq (ay IU lT));(obtain⟨y0,y1,y2,y3,y4,y5,y6,y7,y8⟩:=nine Kv);(have u0:=(lT.cell (p:=⟨g,off+k*4,none⟩) hg).trans HQ0);(have u1:=(lT.cell (p:=⟨g,off+k*4+1,none⟩) hg).trans HQ1);(have u2:=(lT.cell (p:=⟨g,off+k*4+2,none⟩) hg).trans HQ2);(have u3:=(lT.cell (p:=⟨g,off+k*4+3,none⟩) hg).trans HQ3))
      |((refine Al _ rfl (.tmp 17) (.tmp 25) 37 rfl W0.heap.size 32 i0 (.agg (bJ 0 0 0 0 0 ByteArray.empty 0)) 7 64 Tryz.underlying37 hi hz0 hz1 hz2 rfl Aae (.slice va k vc) k (GR.flat jF ((out.take k).map PM)) Aak (Ku.alloc _) ⟨w5.heap.size,0,none⟩ 1 1 (jF ⟨mK,mF,mT,mI,mL,mk,mN⟩) Aak rfl (World.news_of_block (heap_alloc_new w5 _)) (LW _) Aah Aaa (Nat.le_trans lT.size Aac) ?_);(intro v6 w6 hown6 pO Mf);(have GU:w6.ownsRow W0.heap.size 32 7 v6 (k+1) (GR.flat jF ((out.take (k+1)).map PM)):=by rw [ah HT,ig];exact hown6);(obtain⟨va6,vc6,hv6,_⟩:=GR.own_at (enc:=jF) (sz:=7) (l:=(out.take (k+1)).map PM) mX (by rw [List.length_map,List.length_take,Nat.min_eq_left Aaa];exact GU));(rw [List.length_map,List.length_take,Nat.min_eq_left Aaa] at hv6);(subst hv6);(have HO6:=Hq GU);(have KD:=Hq (show aX W0 w6 from(lT.alloc lT.size _).trans (Je pO (λk e=>(Ku.lt k e).1) (Nat.le_trans lT.size Aac))));(clear hown6 pO Mf GU);(have V7:=Hq (ay IU KD));(obtain⟨z0,z1,z2,z3,z4,z5,z6,z7,z8⟩:=nine V7);(have t0:=(KD.cell (p:=⟨g,off+k*4,none⟩) hg).trans HQ0);(have t1:=(KD.cell (p:=⟨g,off+k*4+1,none⟩) hg).trans HQ1);(have t2:=(KD.cell (p:=⟨g,off+k*4+2,none⟩) hg).trans HQ2);(have t3:=(KD.cell (p:=⟨g,off+k*4+3,none⟩) hg).trans HQ3))
      |fail)
    all_goals
     go_wp2_with fail
     go_roundw
     case rel=>exact⟨k+1,va6,vc6,Aaa,Aai,rfl,HO6,KD,λ_=>hOK⟩
     case measure=>simp[intOf];omega
  .open al3 in exact Rh):P:=h
theorem akG.Kr78(h:P:=by
 dsimp only at hl HD HA vM jO wZ QY kE ⊢;clear ha;go_enter Tryz.func52,Tryz.ntmps52
 go_upto_region 1 with fail;refine wp_at (λW0 hW0=>?_);have hblk:W0.heap[w.heap.size]?=some (.cells (dH ⟨id,par,kids,next,pu,out,seen,old,reqs⟩ ⟨ak,ap,ao,as',ar,ck,cp,co,cs,cr⟩) 30 (0,0)):=by rw [hW0];exact kE
 have KN:Hid (aX w W0):=by rw [hW0];exact aj w _
 obtain⟨c0,c1,c2,c3,c4,c5,c6,c7,c8⟩:=nine hblk;clear hW0 kE hblk;obtain⟨bb,hbb⟩:∃bb,(!(rF id&&(decide (par= -1)||(rF par&&decide (par≠id)))))=bb:=⟨_,rfl⟩;have eY:=Hq hbb;clear hbb;go_cut [27] (λr wx=>r= .bool bb/\wx=W0)
 case first=>
  cases h1:rF id
  case' false=>
   have HV:=Hq (show bb=true by rw [<-ah eY];simp[h1])
   have H1:=Hq (λw1=>isNode id false w1 h1)
   clear eY h1
   go_wp2_with (go_at_call 128;refine(H1 _).mono ?_;rintro e w1 ⟨rfl,rfl⟩)
   go_meet
   case rel=>exact⟨Aam,rfl⟩
  have H1:=Hq (λw1=>isNode id true w1 h1);by_cases h2:par= -1
  case' pos=>
   have HV:=Hq (show bb=false by rw [<-ah eY];simp[h1,h2])
   have hb2:(par != -1)=false:=by simp[h2]
   clear eY h1 h2
   go_wp2_with (go_at_call 128;refine(H1 _).mono ?_;rintro e w1 ⟨rfl,rfl⟩)
   go_meet
   case rel=>exact⟨Aam,rfl⟩
  have hb2:(par != -1)=true:=by simp[h2]
  cases h3:rF par
  case' false=>
   have HV:=Hq (show bb=true by rw [<-ah eY];simp[h2,h3])
   have H3:=Hq (λw1=>isNode par false w1 h3)
   clear eY h1 h2 h3
   go_wp2_with (first|(go_at_call_of 128 id;refine(H1 _).mono ?_;rintro e w1 ⟨rfl,rfl⟩)|(go_at_call_of 128 par;refine(H3 _).mono ?_;rintro e w1 ⟨rfl,rfl⟩))
   go_meet
   case rel=>exact⟨Aam,rfl⟩
  have H3:=Hq (λw1=>isNode par true w1 h3);by_cases h4:par=id
  case' pos=>
   have HV:=Hq (show bb=true by rw [<-ah eY,decide_eq_false h2,decide_eq_false (show¬(par≠id) from λh=>h h4)];simp)
   have hb4:(par == id)=true:=by simp[h4]
   subst h4
   clear eY h1 h2 h3
   go_wp2_with (go_at_call 128;refine(H1 _).mono ?_;rintro e w1 ⟨rfl,rfl⟩)
   go_meet
   case rel=>exact⟨Aam,rfl⟩
  have HV:=Hq (show bb=false by rw [<-ah eY];simp[h1,h3,h4]);have hb4:(par == id)=false:=by simp[h4]
  clear eY h1 h2 h3;go_wp2_with (first|(go_at_call_of 128 id;refine(H1 _).mono ?_;rintro e w1 ⟨rfl,rfl⟩)|(go_at_call_of 128 par;refine(H3 _).mono ?_;rintro e w1 ⟨rfl,rfl⟩))
  go_meet
  case rel=>exact⟨Aam,rfl⟩
 case rest=>
  obtain⟨rfl,rfl⟩:=hcut;cases hbv:bb
  case' true=>
   have HP:Hid (TT=false):=by
    have h:=ah eY;rw [hbv] at h;rw [ah HD];generalize (rF id&&(decide (par= -1)||(rF par&&decide (par≠id))))=X at *;cases X
    .rfl
    .cases h
   clear eY HD
   subst hbv
   go_wp2_with fail
   go_ret
   exact⟨aD HP.symm,KN⟩
  have lS:Hid (TT=gQ KB iA kids):=by
   have h:=ah eY;rw [hbv] at h;rw [ah HD];generalize (rF id&&(decide (par= -1)||(rF par&&decide (par≠id))))=X at *;cases X
   .cases h
   .rfl
  clear eY HD;subst hbv;go_wp2_with fail;go_loop [3,31] (λlv i=>∃(k:Nat) (y:Int),k<=kids.length/\i= .int .i64 k/\lv= .int .i64 y/\y=vV (λx=>x) (-1) (kids.take k)/\gQ KB iA (kids.take k)=true) (λ_ i=>kids.length - (intOf i).toNat)
  case atStart=>exact⟨0,-1,Nat.zero_le _,rfl,rfl,rfl,rfl⟩
  case round=>
   obtain⟨k,y,hk,rfl,rfl,hy,hall⟩:=hrel;have mV:=Hq hall;have HY:=Hq hy;clear hall hy;by_cases hlt:k < kids.length
   case' neg=>
    have hke:k=kids.length:=Aaa
    subst hke
    have hnlt:decide ((kids.length:Int) < (kids.length:Int))=false:=Aac
    have HF:Hid (TT=true):=by
     exact Tk
    go_wp2_with fail
    go_ret
    exact⟨aD HF.symm,KN⟩
   obtain⟨g,off,rfl,hgw,q0⟩:=eu.one (GR.At.below HA KN) k hlt;have HBAD:Hid (gQ KB iA (kids.take (k+1))=false->TT=false):=λh=>lS.trans (vM _ h)
   have gG:Hid (gQ KB iA (kids.take (k+1))=(KB kids[k]&&decide (y < kids[k]))):=by
    exact adT
   have BZ:=Hq (wZ k hlt);have Bl:=Hq (QY kids[k]);clear jO wZ vM QY;generalize kids[k]=x at *;cases h1:rF x
   case' false=>
    have H1:=Hq (λw1=>isNode x false w1 h1)
    have HV:=Hq (HBAD (by rw [ah gG,ah Bl];simp[h1]))
    clear HBAD gG Bl h1
    go_wp2_with (go_at_call 128;refine(H1 _).mono ?_;rintro e w1 ⟨rfl,rfl⟩)
    go_ret
    exact⟨aD HV.symm,KN⟩
   have H1:=Hq (λw1=>isNode x true w1 h1);by_cases h2:y < x
   case' neg=>
    have hb2:decide (x<=y)=true:=decide_eq_true Aaa
    have HV:=Hq (HBAD (by rw [ah gG,ah Bl];simp[h2]))
    clear HBAD gG Bl h1
    go_wp2_with (go_at_call 128;refine(H1 _).mono ?_;rintro e w1 ⟨rfl,rfl⟩)
    go_ret
    exact⟨aD HV.symm,KN⟩
   have hb2:decide (x<=y)=false:=decide_eq_false Aaa;by_cases h3:x=id
   case' pos=>
    have hb3:(x == id)=true:=by simp[h3]
    have HV:=Hq (HBAD (by rw [ah gG,ah Bl];simp[h3]))
    clear HBAD gG Bl h1 h3
    go_wp2_with (go_at_call 128;refine(H1 _).mono ?_;rintro e w1 ⟨rfl,rfl⟩)
    go_ret
    exact⟨aD HV.symm,KN⟩
   have hb3:(x == id)=false:=by simp[h3]
   by_cases h4:x=par
   case' pos=>
    have hb4:(x == par)=true:=by simp[h4]
    have HV:=Hq (HBAD (by rw [ah gG,ah Bl];simp[h4]))
    clear HBAD gG Bl h1 h4
    go_wp2_with (go_at_call 128;refine(H1 _).mono ?_;rintro e w1 ⟨rfl,rfl⟩)
    go_ret
    exact⟨aD HV.symm,KN⟩
   have hb4:(x == par)=false:=by simp[h4]
   have HV:=Hq (show gQ KB iA (kids.take (k+1))=true by rw [ah gG,ah Bl];simp[h1,h2,h3,h4]);clear HBAD gG Bl h1;go_wp2_with (go_at_call 128;refine(H1 _).mono ?_;rintro e w1 ⟨rfl,rfl⟩)
   exact aed):P:=h
theorem akH.Kr78(h:P:=by
 dsimp only at hlo HD vM jO wZ Z5 QY kE ⊢;generalize (λs t:Rq=>iA s.no t.no)=RR at *;cases h1:pz old
 case' false=>
  have HP:=Hq (show TT=false by rw [ah HD,h1];rfl)
  have H1:=Hq (λw1=>jR old false w1 h1)
  clear h1 HD
  go_enter Tryz.func57,Tryz.ntmps57
  go_wp2_with (go_at_call 133;refine(H1 _).mono ?_;rintro e w9 ⟨rfl,rfl⟩)
  go_ret
  exact⟨aD HP.symm,aj w _⟩
 have H1:=Hq (λw1=>jR old true w1 h1);have hold:0<=old/\old<=1000000000:=of_decide_eq_true h1;obtain⟨ho1,ho2⟩:=hold;by_cases h0:reqs.length<=30
 case' neg=>
  have HP:=Hq (show TT=false by rw [ah HD,decide_eq_false h0];simp)
  have hb0:decide ((30:Int) < reqs.length)=true:=decide_eq_true Aaa
  clear h1 HD
  go_enter Tryz.func57,Tryz.ntmps57
  go_wp2_with (go_at_call 133;refine(H1 _).mono ?_;rintro e w9 ⟨rfl,rfl⟩)
  go_ret
  exact⟨aD HP.symm,aj w _⟩
 have hb0:decide ((30:Int) < reqs.length)=false:=decide_eq_false Aaa;have lS:Hid (TT=gQ KB RR reqs):=by rw [ah HD,h1,decide_eq_true h0];rfl
 clear HD h1;go_enter Tryz.func57,Tryz.ntmps57
 go_wp2_with (go_at_call 133;refine(H1 _).mono ?_;rintro e w9 ⟨rfl,rfl⟩)
 go_loopw [3,21] (λlv i wr=>∃(k:Nat) (y:Int),k<=reqs.length/\i= .int .i64 k/\lv= .int .i64 y/\y=vV (λs=>s.no) old (reqs.take k)/\gQ KB RR (reqs.take k)=true/\wr.heap[w.heap.size]?=some (.cells (dH ⟨id,par,kids,next,pu,out,seen,old,reqs⟩ ⟨ak,ap,ao,as',ar,ck,cp,co,cs,cr⟩) 30 (0,0))/\aX w wr) (λ_ i _=>reqs.length - (intOf i).toNat)
 case atStart=>exact⟨0,old,Nat.zero_le _,rfl,rfl,rfl,rfl,kE,aj w _⟩
 case round=>
  open apI in exact adf):P:=h
theorem akI.Kr78(h:P:=by
 dsimp only at hlo HD vM jO wZ Z5 QY OY kE ⊢;generalize (λs t:kC=>iA s.i t.i)=RR at *;by_cases h0:out.length<=40
 case' neg=>
  have HP:=Hq (show TT=false by rw [ah HD,decide_eq_false h0];rfl)
  have hb0:decide ((40:Int) < out.length)=true:=decide_eq_true Aaa
  go_enter Tryz.func55,Tryz.ntmps55
  go_wp2_with fail
  go_ret
  exact⟨aD HP.symm,aj w _⟩
 have hb0:decide ((40:Int) < out.length)=false:=decide_eq_false Aaa;have lS:Hid (TT=gQ KB RR out):=by rw [ah HD,decide_eq_true h0];rfl
 clear HD;go_enter Tryz.func55,Tryz.ntmps55
 go_wp2_with fail;go_loopw [3,13] (λlv i wr=>∃(k:Nat) (y:Int),k<=out.length/\i= .int .i64 k/\lv= .int .i64 y/\y=vV (λs=>s.i) 0 (out.take k)/\gQ KB RR (out.take k)=true/\wr.heap[w.heap.size]?=some (.cells (dH ⟨id,par,kids,next,pu,out,seen,old,reqs⟩ ⟨ak,ap,ao,as',ar,ck,cp,co,cs,cr⟩) 30 (0,0))/\aX w wr) (λ_ i _=>out.length - (intOf i).toNat)
 case atStart=>exact⟨0,0,Nat.zero_le _,rfl,rfl,rfl,rfl,kE,aj w _⟩
 case round=>
  open apH in exact adf):P:=h
theorem akJ.Kr78(h:P:=by
 dsimp only at hl HC kE HNB ⊢;clear ha;go_enter Tryz.func46,Tryz.ntmps46
 go_wp2_with fail;refine HC.mono ?_;rintro e w1 ⟨v,rfl,hown,hb1⟩;have HB1:=Hq ((aj w _).trans (hb1.mono Aac));have HO1:=Hq (GR.own_lower (b':=w.heap.size) hown Aac);obtain⟨c0,c1,_⟩:=nine (ay kE hb1);clear hown hb1 HC;go_upto_if 9 with fail;go_cut [3] (λr wx=>wx.ownsRow w.heap.size 3 1 r NB.length (GR.flat aW NB)/\aX w wx)
 case first=>
  by_cases hp:par= -1
  .have hb:(par != -1)=false:=by simp[hp]
   have HE:=Hq (HNB.1 hp);clear hp;go_wp2_with fail;go_meet
   case rel=>exact⟨by rw [ah HE];exact HO1,HB1⟩
  .have hb:(par != -1)=true:=by simp[hp]
   have HE:=Hq (HNB.2 hp);clear hp;have ho:=ah HO1;go_wp2_with (at_builtin;refine wpList_append_own _ rfl _ _ 24 rfl w.heap.size 3 i0 (.int .i64 0) 1 8 Tryz.underlying24 hi hz0 hz1 hz2 rfl Aae _ _ _ rfl (ho.alloc _) ⟨w1.heap.size,0,none⟩ 1 1 [.int .i64 par] rfl rfl ?c1 ?c2 ?c3 ?c4 ?c5 ?_)
   case c1=>exact cell_one_new _ _ _
   case c2=>intro u hu;simp at hu;subst hu;rfl
   case c3=>unfold maxLen;omega
   case c4=>omega
   case c5=>have:=HB1.size;simp;omega
   intro v' w6 hown' hgrow _;have vI:=Hq (GR.below_append HB1 HB1.size ho hgrow)
   have HO6:Hid (w6.ownsRow w.heap.size 3 1 v' NB.length (GR.flat aW NB)):=by
    rw [ah HE,GR.flat_append,List.length_append];exact hown'
   clear hgrow ho hown';go_wp2_with fail;go_meet
   case rel=>exact⟨HO6,vI⟩
 case rest=>
  obtain⟨ho,hb⟩:=hcut;have HS:=Hq (abx w.heap.size _ NB wc hln hb.size ho);have HB2:=Hq hb;clear ho hb c0 c1;go_wp2_with fail;refine HS.mono ?_;rintro e w3 ⟨rfl,ho3,hb3⟩;have Gj:=Hq ho3;have HB3:=Hq (HB2.trans hb3);clear ho3 hb3;go_wp2_with fail;go_ret;exact⟨_,rfl,Gj,HB3⟩):P:=h
theorem akK.Kr78(h:P:=by
 dsimp only at KW HPU HOT HSE HRE HD kE ⊢;go_enter Tryz.func18,Tryz.ntmps18
 go_upto_region 1 with fail;open ald in exact afs):P:=h
theorem akL.Kr78(h:P:=by
 dsimp only at hls HA HD HSK HNB kE ⊢;go_enter Tryz.func56,Tryz.ntmps56
 go_wp2_with fail;refine HNB.mono ?_;rintro e w1 ⟨v,rfl,hown,hb1⟩;have HB1:=Hq ((aj w _).trans (hb1.mono Aac));have zl:=Hq (ay kE hb1);have hFL:=ah wZ;subst hFL;obtain⟨fa,fc,rfl,hF⟩:=GR.own_at (enc:=aW) (sz:=1) aQ hown;have HF:=Hq hF;obtain⟨c0,c1,c2,c3,c4,c5,c6,c7,c8⟩:=nine zl;clear hown hb1 HNB kE wZ hF;by_cases hlen:seen.length=F.length
 case' neg=>
  have hbn:((seen.length:Int) != (F.length:Int))=true:=Aag
  have HP:=Hq (show TT=false by
   rw [ah HD,decide_eq_false (show¬seen.map (·.f)=F from λh=>hlen (by rw [<-h,List.length_map]))]
   rfl)
  clear HD
  go_wp2_with fail
  go_ret
  exact⟨aD HP.symm,HB1⟩
 have hbn:((seen.length:Int) != (F.length:Int))=false:=Aag
 have BZ:=Hq hlen;clear hlen;go_wp2_with fail;go_loopw [17] (λi wr=>∃k:Nat,k<=seen.length/\i= .int .i64 k/\(seen.take k).map (·.f)=F.take k/\(seen.take k).all uh=true/\aX w1 wr) (λi _=>seen.length - (intOf i).toNat)
 case atStart=>exact⟨0,Nat.zero_le _,rfl,rfl,rfl,Below.refl _ _⟩
 case round=>
  obtain⟨k,hk,rfl,hm,hall,hbx⟩:=hrel;have HM:=Hq hm;have mV:=Hq hall;have kE:=Hq hbx;have Ey:=Hq (ay zl hbx);have fO:=Hq (HB1.trans (hbx.mono HB1.size));clear hm hall hbx;by_cases hlt:k < seen.length
  case' neg=>
   have hke:k=seen.length:=Aaa
   subst hke
   have hnlt:decide ((seen.length:Int) < (seen.length:Int))=false:=Aac
   have HP:=Hq (show TT=true by
    have h1:=ah HM
    have h2:=ah mV
    rw [List.take_length] at h1 h2
    rw [ah BZ,List.take_length] at h1
    rw [ah HD,decide_eq_true h1,h2]
    rfl)
   go_wp2_with fail
   go_ret
   exact⟨aD HP.symm,fO⟩
  have awu:k < F.length:=by rw [<-ah BZ];exact hlt
  obtain⟨g,off,b,c,e0,hgw,q0,q1,q2,hI⟩:=lu.below (dK.s HA) fO k hlt;obtain⟨g2,off2,e2,af2,p0⟩:=eu.one (GR.At.below HF kE) k awu;(try dsimp only at e0 q0 q1 q2 hI)
  subst e0 e2;have EX:=ah HSK _ (List.getElem_mem hlt);have HI:=Hq hI;have HST:=Hq (λh3 h4=>UL hlt BZ.symm HM mV h3 h4);have EB:=Hq (λh3=>UJ (F:=F) hlt BZ.symm h3);have HX2:=Hq (λh4=>UK hlt h4);clear hI;generalize seen[k]=sk at *;generalize F[k]=y at *;obtain⟨fr,lo,ids⟩:=sk;dsimp only at q0 q1 q2 HI EX HST EB HX2;go_upto_region 7 with fail;open apC in exact ada):P:=h
theorem arT(h:P:=by
 have HAT:=Hq (λW'' (ho:Out c w W' W'')=>(xq.kc (k:=9) ((KC.keeps fH (λx hx=>by have:x=w.heap.size+1:=Aaf;rw [this];exact aS Aaa)).trans (KC.out H9 ho)) Aaa).rm);have lQ:Hid (Below B w W'):=(HB1.mono hB).trans (fH.below (λx hx=>by have:x=w.heap.size+1:=Aaf;omega) (Nat.le_trans hB (HB1.mono hB).size));have rG:=Hq (Apart.keeps (c:=c) (Apart.of_below (HB1)) (HB1.mono hB).size fH (λx hx=>by have:x=w.heap.size+1:=Aaf;omega));obtain⟨x0,x1,x2,x3,x4,x5,x6,x7,x8⟩:=nine e4;exact Kr79):P:=h
theorem akM.Kr79(h:P:=by
 clear hW' e4 fH;exact bodyPost_ret (v:= .tuple #[(fI n A),.int .i64 1]) Abs rfl ⟨A,rfl,HAT,lQ,rG⟩):P:=h
theorem akN.Kr79(h:P:=by
 exact Kr10):P:=h
theorem arU(h:P:=by
 go_enter Tryz.func225,Tryz.ntmps225
 go_wp2_with fail;refine HOF.mono ?_;rintro e w1 ⟨mp,mb,v,rfl,zO,hb1⟩;obtain⟨hblk,hlt1,hbw⟩:=Fo.one_block hb1;have HB1:=Hq hbw;have c0:w1.cell? ⟨w.heap.size,0,none⟩=some (.int .i64 dm):=by rw [cell_of_row w1 _ _ _ _ (0,0) hblk];rfl
 have c1:w1.cell? ⟨w.heap.size,1,none⟩=some (.int .i64 df):=by rw [cell_of_row w1 _ _ _ _ (0,0) hblk];rfl
 have c2:w1.cell? ⟨w.heap.size,2,none⟩=some (.int .i64 ds):=by rw [cell_of_row w1 _ _ _ _ (0,0) hblk];rfl
 exact Kr80):P:=h
theorem akO.Kr80(h:P:=by
 have HMX:=Hq (Vk _ mp mb _ v w1 hb1.size Aah zO (HE.below hbw));clear hb1 zO HOF hblk hbw Vk;go_wp2_with (first|(go_at_call 131;refine(HK _).mono ?_;rintro e w2 ⟨rfl,rfl⟩)|(go_at_call 54;refine(Ew _).mono ?_;rintro e w2 ⟨rfl,rfl⟩))
 refine HMX.mono ?_;rintro e w3 ⟨hb3,hcase⟩;have HB3:=Hq (HB1.trans (Below.mono hb3 Aac));clear hb3 HMX;rcases hcase with⟨hf,h20,rfl⟩|⟨hf,rfl,v',ath⟩
 .have HAD:=Hq (VI hf h20);clear hf h20 VI Wj;go_wp2_with fail;go_ret2
  exact⟨HB3,.inl ⟨HAD,_,Aaa,rfl⟩⟩
 .obtain⟨hadd,hlen⟩:=ah Wj hf;have aad:=Hq hadd;have wZ:=Hq (Yw _ mp mb _ v' PL G2 w3 hlen HPA KV ath);clear hf VI Wj hadd ath;go_wp2_with fail;refine wZ.mono ?_;rintro e w4 ⟨rfl,aeJ,hb4⟩;have pE:=Hq (HB3.trans (hb4.mono HB3.size));have HK4:=Hq aeJ;clear hb4 aeJ;go_wp2_with fail;go_ret2
  rw [ah aad];exact⟨pE,.inr ⟨rfl,_,HB3.size,rfl,HK4⟩⟩):P:=h
theorem akP.Kr80(h:P:=by
 have HMX:=Hq (Vk _ mp mb _ v w1 zO (HE.below hbw));clear hb1 zO HOF hblk hbw Vk;go_wp2_with (first|(go_at_call 131;refine(HK _).mono ?_;rintro e w2 ⟨rfl,rfl⟩)|(go_at_call 54;refine(Ew _).mono ?_;rintro e w2 ⟨rfl,rfl⟩)|(go_at_call 248;refine HMX.mono ?_;rintro e w3 ⟨i,hi,rfl,hb3⟩))
 go_ret2
 exact⟨HB1.trans (hb3.mono HB1.size),.inl ⟨HAD,i,hi,rfl⟩⟩):P:=h
theorem arV(h:P:=by
 open ao7 in exact ac3):P:=h
theorem akQ.Kr81(h:P:=by
 have r1:=cell_regrown q1;have r2:=cell_regrown q2;have r3:=cell_regrown q3;have e4:=cell_regrown d4;refine bE 23 Aab ?_;show eF _ _ _ _ _ 25 (Array.replicate 25 false) _ _
 refine tk [0,1,2,3,4,5,6,7,8,9,10,11,12,13,14,15,16,17,18,19] ?_;iterate 20 (refine qA (λK hK=>?_);go_simp;refine hK _ ?_;clear hK K)
 refine iN ?_;clear r1 r2 r3 e4;refine dz 20 rfl Aab Aad (λx hx=>?_);go_simp;have HX:=Hq (HZ1.step hx);refine(HUN x HX).mono ?_;rintro e y ⟨a,cp,g5,hg5,rfl,hp,hby⟩;refine⟨hby,?_⟩;have HST:=Hq (λu (hu:Ge y u)=>abw (cp:=cp) HX (hby.trans (hu.mono hby.size)) hg5 (hp.below hu));clear hby hg5 hp HUN hx;refine tk [21,22] ?_;iterate 2 (refine qA (λK hK=>?_);go_simp;refine hK _ ?_;clear hK K)
 refine iN ?_;refine aT Aab (λu hu=>?_);refine aF 23 rfl Aab Aad ?_;go_simp;refine(HST u hu).mono ?_;rintro e z2 ⟨rfl,A',G',c',hZ2,hA2⟩;have HZ2:=Hq hZ2;have HA2:=Hq (hA2.trans hAr);clear hZ2 HST hu hA2 d0 d1 d2 d3 d4 d5 d6 d7 d8 d9 q0 q1 q2 q3 qf;obtain⟨rl,rb⟩:=r;dsimp only at HZ2 ⊢;refine aF 24 rfl Aab Aad ?_;go_simp;refine wpAny_done Aab ?_;go_simp;cases rb
 .rw [if_neg Aac] at HZ2;obtain⟨g6,hA6,_,hg6,⟨s0,s1,s2,s3⟩,sf⟩:=HZ2.reqRow i hil;rw [ah HA2] at hA6;cases hA6
  rw [hs] at s3;go_wp2_with fail;go_ret;exact⟨rfl,A',G',c',HZ2⟩
 .rw [if_pos rfl] at HZ2;obtain⟨g6,hA6,_,hg6,⟨s0,s1,s2,s3⟩,sf⟩:=HZ2.reqRow i hil;rw [ah HA2] at hA6;cases hA6
  have Bg:=Hq (HZ2.reqSet i hil g HA2);clear HZ2 HZ1 HX HW;go_wp2_with fail;go_ret;exact⟨rfl,A',G',c',Bg⟩):P:=h
theorem akR.Kr81(h:P:=by
 have r3:=cell_regrown q3;refine dw Aab ?_;show gX _ _ _ _ 25 (Array.replicate 25 false) _ _
 refine tk [0,1,2,3,4,5,6,7,8,9,10,11,12,13,14,15,16,17,18,19,20,21,22,23,24] ?_;iterate 25 (refine tY (λK hK=>?_);go_simp;refine hK _ ?_;clear hK K)
 refine iN ?_;refine eX Aab (λx hx=>?_);have HX:=Hq (HZ1.step hx);have x3:=(Ar hx).1 g (i*4+3) hgl;clear hx r3;go_simp;go_wp2_with fail;go_ret;exact⟨rfl,A,G,c,HX⟩):P:=h
theorem arW(h:P:=by
 rw [<-hW] at e1 e2 e3;have HN:=Hq e1;have HR:=Hq e2;have HB0:=Hq e3;have Kt:=Hq (jP.kc (k:=9) (KC.of_below e3) Aaa);clear hW e1 e2 e3 jP hbw0;obtain⟨c0,c1,c2,c3,c4,c5,c6,c7,c8⟩:=nine HN;have hnl:=aA HN;go_wp2_with fail;refine(Gq W0 Kt.at.p).mono ?_;open aqs in exact ady):P:=h
theorem akS.Kr82(h:P:=by
 have HI:=Hq (And.intro hi (And.intro hz0 (And.intro hz1 hz2)));clear hi hz0 hz1 hz2;obtain⟨c0,c1,c2,c3,c4,c5,c6,c7,c8⟩:=nine jZ;have hnl:=aA jZ;have hrl:=aA oZ;go_wp2_with fail;rw [zF];go_upto_region 6 with fail;go_wp2_with fail;refine(HPT W1 xq.at.p).mono ?_;rintro e W2 ⟨v,rfl,hne,hrow,hb2⟩;obtain⟨av,cv,rfl,_⟩:=GR.own_at (enc:=fE) (sz:=4) aZ hrow;have jE:=Hq (ay jZ hb2);have jk:=Hq (ay oZ hb2);have HB2:=Hq (HB1.trans (hb2.mono HB1.size));have KP:=Hq (xq.kc (k:=9) (KC.of_below hb2) Aaa);have yZ:=Hq hrow;have hbs:w.heap.size+1 < W1.heap.size:=hrl;generalize W1.heap.size=bs at *;clear hb2 hne hrow c0 c1 c2 c3 c4 c5 c6 c7 c8 hnl hrl HPT jZ oZ HB1 xq;have f4n:=au jE 4;have c4n:=(nine jE).2.2.2.2.1;have hn2:=aA jE;go_upto_region 7 with fail;refine wp_at (λZ6 hZ=>?_);have lq:Hid (Z6.heap[w.heap.size]?=some (.cells (fK n.id n.par a_k n.kids.length aJ n.next av RL.length cv dR n.out.length aO dY n.seen.length aK n.old fU n.reqs.length aP) 30 (0,0))):=by rw [hZ];exact nP jE
 have jl:Hid (Z6.heap[w.heap.size+1]?=some (.cells gu 30 (0,0))):=by rw [hZ];exact jU jk Aaa
 have HN6:Hid (NQ Z6 B n (⟨a_k,(some ⟨gp,0,none⟩),dR,dY,fU,aJ,bq,aO,aK,aP⟩:bH) G (newC w.heap.size 9 c)):=by rw [hZ];exact KP.kc (k:=9) (KC.set (aS (Nat.le_refl _))) Aaa
 have V7:Hid (Z6.ownsRow bs 143 4 (.slice av RL.length cv) RL.length (GR.flat fE RL)):=by rw [hZ];exact dA yZ (aC.set _) (λy hy=>by have:y=w.heap.size:=Aar;omega)
 have vI:Hid (Below B w Z6):=by rw [hZ];exact(HB2.mono hB).setCell (p:=⟨w.heap.size,4,none⟩) hB _
 have HK6:Hid (Apart c w Z6):=by rw [hZ];exact(Apart.of_below HB2).keeps HB2.size (aC.set _) (λy hy=>by have:y=w.heap.size:=Aar;omega)
 clear hZ jE jk KP yZ HB2 f4n c4n hn2;have c3n:=(nine lq).2.2.2.1;exact Kr9):P:=h
theorem akT.Kr82(h:P:=by
 have tO:=Hq (ay oZ (aj W1 (.cells #[] 32)));obtain⟨c0,c1,c2,c3,c4,c5,c6,c7,c8⟩:=nine jZ;open aio in exact Tg):P:=h
theorem afn(h:P:=by
 have hr:(convert 22 9 (.slice (some ⟨g,a+4,none⟩) (s.size - (a+4)) (s.size - (a+4)))).run Tryz.prog w= .ok (.string (iD (tl s a))) w:=by
  exact avU
 have h1:(s.size:Int)<=(a:Int)+1006:=Aaa
 have h2:¬((s.size:Int) - (a:Int) < 4):=Aaa
 have h3:(a:Int)+4 < (s.size:Int):=Aaa
 exact Kr83):P:=h
theorem akU.Kr83(h:P:=by
 exact ash):P:=h
theorem akV.Kr83(h:P:=by
 exact asg):P:=h
theorem akW.Kr83(h:P:=by
 exact asB):P:=h
theorem afo(h:P:=by
 have EJ:=Hq (GR.own_below EI EU);have IJ:=Hq (show∀b,((.slice (some ⟨x1.heap.size,0,none⟩) 0 0:Value)).ownBlock=some b->b≠x2.heap.size from λb hb=>by have:=(EI.lt b hb).2;omega);have IK:=Hq (uj.trans (EU.mono uj.size));clear EU;exact Kr84):P:=h
theorem akX.Kr84(h:P:=by
 generalize Uc:x2.alloc (.cells (dX no k nn 0) 97)=y2 at *;open ah4 in exact ars):P:=h
theorem akY.Kr84(h:P:=by
 generalize Uc:x2.alloc (.cells (dX no k nn 1) 97)=y2 at *;open ah5 in exact ars):P:=h
theorem akZ.Kr84(h:P:=by
 generalize Uc:x2.alloc (.cells #[.int .i64 mI] 3)=y2 at *;open aof in exact acP):P:=h
theorem arX(h:P:=by
 have Yc:cand s=⟨s[0].toNat,sH s (gI s 0),sH s (gI s 1),sH s (gI s 2),sH s (gI s 3),jc s (gI s 4),sH s (iO s (gI s 4))⟩:=by unfold cand;rw [Jg h0];rfl
 have HM:=Hq (show jH s=true->Bz s= .tuple #[nS (cand s),.bool true] from λh=>by unfold Bz lW;rw [h,if_pos rfl]);have HZ:=Hq (show jH s=false->Bz s= .tuple #[.agg (bJ 0 0 0 0 0 ⟨#[]⟩ 0),.bool false] from Ch);have hE:vT s=jK s (iO s (gI s 4)):=rfl;rw [hE] at HO;rw [Yc] at HP HM HO;exact Kr85):P:=h
theorem ak0.Kr85(h:P:=by
 clear Yc hE e1 e2 e3 e4;have hne:=jS s h0;have hi0:(0:Int) < (s.size:Int):=Aaa
 open anW in exact Ro):P:=h
theorem ak1.Kr85(h:P:=by
 clear hcs Yc hE;have hne:=jS s h0;have hi0:(0:Int) < (s.size:Int):=Aaa
 open amw in exact ab9):P:=h
theorem arY(h:P:=by
 have hTi:∀j,j < 3->∃u,wc.cell? ⟨G.s,i*3+j,none⟩=some u/\wc.frozen? ⟨G.s,i*3+j,none⟩=false:=λj hj=>⟨_,(hcT j hj).1.trans (List.getElem?_eq_getElem (by rw [bZ];exact hj)),(hcT j hj).2⟩
 obtain⟨v0,y0,x0⟩:=hTi 0 Aaa;obtain⟨v1,y1,x1⟩:=hTi 1 Aaa;obtain⟨v2,y2,x2⟩:=hTi 2 Aaa;rw [Nat.add_zero] at y0 x0;exact Kr86):P:=h
theorem ak2.Kr86(h:P:=by
 clear hTi hcT hrT hT hlT T atD Jh hown2 abN VU abQ Wo abC QX abM abE abH aat;have aw7:G.s < wc.heap.size:=Aaa
 obtain⟨c0,c1,c2,c3,c4,c5,c6,c7,c8⟩:=nine Q0;obtain⟨s40,s41,s42⟩:=Ao Wp;have hnl:=aA Q0;have atF:=aA Wp;have atg:Hid ((kW (aY s0 mL) mI).length=(aY s0 mL).length+1):=XV;clear XV;go_upto_region 27 with fail;refine wp_at (λW12 afW=>?_)
 have ag6:Hid (NQ W12 B (dB (dB n (n.seen.set i ⟨mF,eH s0 mL,aY s0 mL⟩)) ((n.seen.set i ⟨mF,eH s0 mL,aY s0 mL⟩).set i ⟨mF,eH s0 mL,kW (aY s0 mL) mI⟩)) (⟨a_k,(some ⟨gp,0,none⟩),dR,(some ⟨G.s,0,none⟩),fU,aJ,bq,aO,aK,aP⟩:bH) ⟨G.k,G.p,G.o,G.s,G.r,qZ (qZ G.i i gi) i g2⟩ (tQ g2 (kW (aY s0 mL) mI) (tQ gi (aY s0 mL) (newC w.heap.size 9 c)))):=by
  rw [afW,<-ah atg];exact HNP
 have P7:aC [G.s] wc W12:=by
  rw [afW];exact aL [.int .i64 mF,.int .i64 (eH s0 mL),.slice (some ⟨g2,0,none⟩) ((aY s0 mL).length+1) cq2] wc (i*3)
 have abO:=Hq (P7.obj Q0 (λhx=>Aaj));have pU:=Hq (P7.obj abR (λhx=>Aaj));have agK:=Hq (P7.obj abD (λhx=>Aaj));have agN:=Hq (abF.trans (P7.below (B:=B) (λx hx=>Aaj) Aaa));have agZ:=Hq (Apart.keeps (c:=c) abI Aaa P7 (λx hx=>by have:x=G.s:=Aaf;rw [this];right;omega));have aue:=Hq (ag9.keeps P7 (λx hx=>Aaj));have atU:Hid (∀x,x < w.heap.size->6 < c x->tQ g2 (kW (aY s0 mL) mI) (tQ gi (aY s0 mL) (newC w.heap.size 9 c)) x=9):=λx hx h=>by rw [uq (λhm=>by have:=(gH hm).1;omega)];exact HCO x hx h
 have agT:Hid (∀x,w.heap.size<=x->x≠gi->x≠g2->tQ g2 (kW (aY s0 mL) mI) (tQ gi (aY s0 mL) (newC w.heap.size 9 c)) x=9):=λx hx h h'=>by rw [uq (λhm=>h' (gH hm).1)];exact BX x hx h
 clear afW P7 HNP y0 y1 y2 x0 x1 x2 s40 s41 s42 c0 c1 c2 c3 c4 c5 c6 c7 c8 hnl atF Q0 abR abD abF abI ag9 Wp VY HW2;obtain⟨c0,c1,c2,c3,c4,c5,c6,c7,c8⟩:=nine abO;obtain⟨d0,d1,d2,d3,d4,d5,d6,d7,d8⟩:=nine pU;have f0:=au pU 0;have f1:=au pU 1;have f2:=au pU 2;have f3:=au pU 3;have f4:=au pU 4;have f5:=au pU 5;have f6:=au pU 6;have f7:=au pU 7;have f8:=au pU 8;have hnl:=aA abO;have hrl:=aA pU;go_wp2_with fail;refine aN (λW' hW'=>?_)
 have e4:W'.heap[w.heap.size+2]?=some (.cells (fK n.id n.par a_k n.kids.length aJ n.next av RL.length cv dR n.out.length aO (some ⟨G.s,0,none⟩) n.seen.length aK n.old fU n.reqs.length aP) 30 (0,0)):=by
  rw [hW'];exact GR.setW_blk (fK n.id n.par a_k n.kids.length aJ n.next av RL.length cv dR n.out.length aO (some ⟨G.s,0,none⟩) n.seen.length aK n.old fU n.reqs.length aP).toList (o:=0) (xs:=gu.toList) pU
 have fH:aC [w.heap.size+2] W12 W':=by
  rw [hW'];exact aL (fK n.id n.par a_k n.kids.length aJ n.next av RL.length cv dR n.out.length aO (some ⟨G.s,0,none⟩) n.seen.length aK n.old fU n.reqs.length aP).toList W12 0
 have Yl:w.heap.size+2≠gi:=Aaa
 have SE:=Hq (ag6.kc (k:=9) (KC.keeps fH (λx hx=>by have:x=w.heap.size+2:=Aaf;rw [this];exact agT _ Aaa Yl Aaa)) Aaa)
 have HAT:Hid (∀W'',Out c w W' W''->RM W'' (⟨a_k,av,dR,(some ⟨G.s,0,none⟩),fU,aJ,cv,aO,aK,aP⟩:bH) (dB (setPu n RL) (n.seen.set i ⟨mF,eH s0 mL,kW (aY s0 mL) mI⟩))):=λW'' ho=>by
  obtain⟨F,hk,hF⟩:=ho
  have hold:=(SE.kc (k:=9) (KC.keeps hk (λx hx=>atU x (hF x hx).1 (hF x hx).2)) Aaa)
  have ho:Out c w W' W'':=⟨F,hk,hF⟩
  have hc9:∀g,av.map (λy=>y.block)=some g->0 < RL.length->tQ g2 (kW (aY s0 mL) mI) (tQ gi (aY s0 mL) (newC w.heap.size 9 c)) g=9:=λg hg hp=>by
   have h1:=ah KW g hg hp
   exact agT g Aaa Aaa Aaa
  refine NQ.put hold hold (dB (setPu n RL) (n.seen.set i ⟨mF,eH s0 mL,kW (aY s0 mL) mI⟩)) (⟨a_k,av,dR,(some ⟨G.s,0,none⟩),fU,aJ,cv,aO,aK,aP⟩:bH) rfl (by simp only[dB,List.set_set]) rfl rfl ((aue.keeps fH (λx hx=>Aaj)).out Aaa ho) (λg hg hp=> .inr (by have h3:=hc9 g hg hp;omega)) hold.o (λy hy=> .inl (hold.co y hy)) hold.r (λy hy=> .inl (hold.cr y hy)) (λg hg hp _=>⟨λe=>?_,λe=>?_⟩) (λx hx h6=>by have:=hold.co x hx;omega)
  .have h1:=hold.co g e;have h2:=hc9 g hg hp;omega
  .have h1:=hold.cr g e;have h2:=hc9 g hg hp;omega
 have Ew:Hid (∀W'',Out c w W' W''->GR.At jF 7 W'' (some ⟨ab,0,none⟩) [⟨2,n.id,mF,mI,0,ByteArray.empty,0⟩]):=λW'' ho j hj=>Pw (fH.obj agK (λhm=>by simp at hm;omega)) ho Aaa j hj
 have lQ:Hid (Below B w W'):=agN.trans (fH.below (λx hx=>by have:x=w.heap.size+2:=Aaf;omega) (by have h1:=aA pU;omega));have rG:=Hq (Apart.keeps (c:=c) agZ (by have h1:=aA pU;omega) fH (λx hx=>by have:x=w.heap.size+2:=Aaf;omega));obtain⟨x0,x1,x2,x3,x4,x5,x6,x7,x8⟩:=nine e4;clear hW' e4 fH
 first
  |exact bodyPost_ret (v:= .tuple #[.agg (fK n.id n.par a_k n.kids.length aJ n.next av RL.length cv dR n.out.length aO (some ⟨G.s,0,none⟩) n.seen.length aK n.old fU n.reqs.length aP),.slice (some ⟨ab,0,none⟩) 1 1,.int .i64 0]) Abr rfl ⟨(⟨a_k,av,dR,(some ⟨G.s,0,none⟩),fU,aJ,cv,aO,aK,aP⟩:bH),(some ⟨ab,0,none⟩),⟨1,by simp[fI,dH,dB,setPu]⟩,HAT,Ew,lQ,rG⟩
  |exact bodyPost_ret (v:= .tuple #[.agg (fK n.id n.par a_k n.kids.length aJ n.next av RL.length cv dR n.out.length aO (some ⟨G.s,0,none⟩) n.seen.length aK n.old fU n.reqs.length aP),.slice (some ⟨ab,0,none⟩) 1 1,.int .i64 0]) Abr rfl ⟨(⟨a_k,av,dR,(some ⟨G.s,0,none⟩),fU,aJ,cv,aO,aK,aP⟩:bH),(some ⟨ab,0,none⟩),1,by simp[fI,dH,dB,setPu],HAT,Ew,lQ,rG⟩):P:=h
theorem ak3.Kr86(h:P:=by
 clear hTi hcT hrT hT hlT T xX hb4 ae3 kS SA kU HB3 ag5 ahi aaz;have aw6:G.s < wc.heap.size:=Aaa
 obtain⟨c0,c1,c2,c3,c4,c5,c6,c7,c8⟩:=nine zq;obtain⟨s40,s41,s42⟩:=Ao Wq;have sf:=au Wq 2;have hnl:=aA zq;have hne1:sb≠G.s:=Aaa
 have hne2:G.s≠sb:=Aaa
 go_upto_region 15 with fail;refine wp_at (λW6 Vx=>?_);exact Kr12):P:=h
theorem afp(h:P:=by
 have hr:(convert 22 9 (.slice (some ⟨g,a+4,none⟩) 1002 1002)).run Tryz.prog w= .ok (.string (iD (tl s a))) w:=by
  exact avX
 have h1:¬((s.size:Int)<=(a:Int)+1006):=Aaa
 have h3:(a:Int)+1006 < (s.size:Int):=Aaa
 have h31:¬((a:Int)+1006 - (a:Int) < 4):=Aaa
 exact Kr87):P:=h
theorem ak4.Kr87(h:P:=by
 exact ash):P:=h
theorem ak5.Kr87(h:P:=by
 exact asg):P:=h
theorem ak6.Kr87(h:P:=by
 exact asB):P:=h
theorem afq(h:P:=by
 (refine tkB agb (λK hK=>?_);go_simp;first|refine hK _ ?_|(apply Exists.intro;refine⟨λ_=>?_,hK _ ?_⟩;rfl);clear hK K)
 refine iN ?_;refine nW Aab (λz hz=>?_);have QW:=Hq (Sz.trans (hz.mono Sz.size));have HVz:=Hq (GR.own_below Te hz);exact Kr88):P:=h
theorem ak7.Kr88(h:P:=by
 have hsz:tq.heap.size<=z.heap.size:=QW.size;clear hz;have HSz:=Hq (show z.heap[sb]?=some (.cells #[.int .i64 mF,.int .i64 (eH s0 mL),.slice (some ⟨gi,0,none⟩) (aY s0 mL).length LJ] 90 (0,0)) by rw [(ah QW).block _ atE];exact Wo);obtain⟨_,_,kc⟩:=Ao HSz;have kf:=au HSz 2;refine aF 14 rfl Aab Aad ?_;go_simp;refine wpAny_done Aab ?_;go_simp;go_wp2_with fail;go_meet
 case rel=>
  rcases HVz.2 with⟨_,hn⟩|⟨g,cap,cur,hv,hbg,_⟩
  .omega
  .simp only[Value.slice.injEq] at hv;obtain⟨rfl,_,_⟩:=hv;have h2:=ah HVz;rw [show pos+1+((aY s0 mL).length - pos)=(aY s0 mL).length+1 by omega] at h2;refine⟨g,cvT,hbg,?_,?_,(aC.of_below QW).trans (aC.set _)⟩
   .rw [ah VO];rw [List.append_assoc] at h2;refine Zf h2 (aC.set _) (λx hx hm=>?_);simp[Value.ownBlock] at hx;simp at hm;omega
   .have h:=bC HSz 2 (.slice (some ⟨g,0,none⟩) (pos+1+((aY s0 mL).length - pos)) cvT);rw [show pos+1+((aY s0 mL).length - pos)=(aY s0 mL).length+1 by omega] at h ⊢;exact h):P:=h
theorem ak8.Kr88(h:P:=by
 have hsz:wc.heap.size<=z.heap.size:=QW.size;clear hz;have HNz:Hid (z.heap[w.heap.size]?=some (.cells (fK n.id n.par a_k n.kids.length aJ n.next (some ⟨gp,0,none⟩) n.pu.length bq dR n.out.length aO dY n.seen.length aK n.old (some ⟨gr,0,none⟩) n.reqs.length aP) 30 (0,0))):=by unfold Hid;rw [(ah QW).block _ hnl];exact Bp
 have HRz:Hid (z.heap[w.heap.size+2]?=some (.cells gu 30 (0,0))):=by unfold Hid;rw [(ah QW).block _ (aA (ah xE))];exact xE
 have HQz:Hid (z.heap[W1.heap.size]?=some (.cells (dX no k nn 1) 97 (0,0))):=by unfold Hid;rw [(ah QW).block _ Mi];exact SL
 open aqI in exact adC):P:=h
theorem ak9.Kr88(h:P:=by
 have hsz:wc.heap.size<=z.heap.size:=QW.size;clear hz;have HNz:Hid (z.heap[w.heap.size]?=some (.cells (fK n.id n.par a_k n.kids.length aJ n.next av RL.length cv dR n.out.length aO dY n.seen.length aK n.old (some ⟨gr,0,none⟩) n.reqs.length aP) 30 (0,0))):=by unfold Hid;rw [(ah QW).block _ hnl];exact Bp
 have HRz:Hid (z.heap[w.heap.size+2]?=some (.cells gu 30 (0,0))):=by unfold Hid;rw [(ah QW).block _ (aA (ah xE))];exact xE
 have HQz:Hid (z.heap[W1.heap.size]?=some (.cells (dX no k nn 0) 97 (0,0))):=by unfold Hid;rw [(ah QW).block _ Mi];exact SL
 open aqH in exact adC):P:=h
theorem afr(h:P:=by
 rw [<-hW] at e2 e3;have IU:=Hq e2;have HW1:=Hq (HW0.step e3);clear hW e2 e3;generalize w.heap.size+1=B at *;obtain⟨c0,c1,c2,c3,c4,c5,c6,c7,c8,c9⟩:=iQ HW1.blk;obtain⟨⟨p0,p1,p2,p3,p4,p5,p6⟩,_⟩:=dG IU;have hBl:=aA IU;have awV:=aA HW1.blk;exact Kr89):P:=h
theorem ala.Kr89(h:P:=by
 go_upto_region 12 with fail;go_wp2_with fail;refine(HDL W B IU HW1.no.o).mono ?_;rintro e y ⟨a2,cp2,rfl,hrow,hgr,hx2⟩;have HY:=Hq (HW1.setOut hgr hrow hx2);clear hrow hgr hx2 HDL c0 c1 c2 c3 c4 c5 c6 c7 c8 c9 p0 p1 p2 p3 p4 p5 p6;obtain⟨c0,c1,c2,c3,c4,c5,c6,c7,c8,c9⟩:=iQ HY.1;have f5:=au HY.1 5;have agc:=aA HY.1;go_wp2_with fail;go_ret;exact⟨rfl,_,G,c,v,by rw [List.append_nil];exact HY.2⟩):P:=h
theorem alb.Kr89(h:P:=by
 go_wp2_with fail;refine(Q8 W HW1).mono ?_;rintro e y ⟨rfl,⟨A',G',c',hY⟩,hJ⟩;have HY:=Hq hY;have CG:=Hq (hJ B ⟨1,mF,mT,mI,mL,mk,mN⟩ IU);clear hY hJ Q8 p0 p1 p2 p3 p4 p5 p6 c0 c1 c2 c3 c4 c5 c6 c7 c8 c9;exact Kr50):P:=h
theorem alc.Kr89(h:P:=by
 have Pk:=Hq (λp:Regrown=>HW1.no.at.below (below_regrown _ p.d p.os));go_upto_region 4 with fail;open ahs in exact EK):P:=h
theorem afs(h:P:=by
 refine wp_at (λW0 hW0=>?_);have HB0:Hid (W0.heap[w.heap.size]?=some (.cells (dH ⟨id,par,kids,next,pu,out,seen,old,reqs⟩ ⟨ak,ap,ao,as',ar,ck,cp,co,cs,cr⟩) 30 (0,0))):=by rw [hW0];exact kE
 have KN:Hid (aX w W0):=by rw [hW0];exact aj w _
 clear hW0 kE;exact Kr90):P:=h
theorem ald.Kr90(h:P:=by
 obtain⟨c0,c1,c2,c3,c4,c5,c6,c7,c8⟩:=nine HB0;open apK in exact adg):P:=h
theorem ale.Kr90(h:P:=by
 obtain⟨bb,hbb⟩:∃bb,(!(PL&&PS&&TD&&fD next&&decide (out.length<=40)&&pz old&&decide (reqs.length<=30)))=bb:=⟨_,rfl⟩;have eY:=Hq hbb;clear hbb;obtain⟨c0,c1,c2,c3,c4,c5,c6,c7,c8⟩:=nine HB0;go_cut [44] (λr wx=>r= .bool bb/\wx.heap[w.heap.size]?=some (.cells (dH ⟨id,par,kids,next,pu,out,seen,old,reqs⟩ ⟨ak,ap,ao,as',ar,ck,cp,co,cs,cr⟩) 30 (0,0))/\aX w wx)
 case first=>
  open apJ in exact adg
 case rest=>
  obtain⟨rfl,hblk,hbel⟩:=hcut;have HB1:=Hq hblk;have VP:=Hq hbel;clear hblk hbel c0 c1 c2 c3 c4 c5 c6 c7 c8 KW HPU HTO HB0 KN;cases hbv:bb
  case' true=>
   have HP:Hid (TT=false):=by
    have h:=ah eY;rw [hbv] at h;rw [ah HD];generalize (PL&&PS&&TD&&fD next&&decide (out.length<=40)&&pz old&&decide (reqs.length<=30))=X at *;cases X
    .rfl
    .cases h
   clear eY HD
   subst hbv
   go_wp2_with fail
   go_ret
   exact⟨aD HP.symm,VP⟩
  have HF:Hid (fD next=true/\pz old=true/\TT=(gQ OT (λs t=>iA s.i t.i) out&&gQ RQ (λs t=>iA s.no t.no) reqs)):=by
   have h:=ah eY;rw [hbv] at h;rw [ah HD];cases h4:fD next<;>cases h6:pz old<;>rw [h4,h6] at h
   all_goals first
    |(simp at h;done)
    |skip
   refine⟨rfl,rfl,?_⟩;generalize (PL&&PS&&TD&&true&&decide (out.length<=40)&&true&&decide (reqs.length<=30))=X at *;cases X
   .cases h
   .rfl
  clear eY HD;subst hbv;obtain⟨hn1,ho1,hTT⟩:=ah HF;have HTT:=Hq hTT;have hn2:1<=next/\next<=1000000000:=of_decide_eq_true hn1;have ho2:0<=old/\old<=1000000000:=of_decide_eq_true ho1;obtain⟨hn3,hn4⟩:=hn2;obtain⟨ho3,ho4⟩:=ho2;clear hn1 ho1 hTT HF;have vM:=Hq (λk h=>nR OT (λs t=>iA s.i t.i) out k h);have Bd:=Hq (qE OT (λs t=>iA s.i t.i) out);have BX:=Hq (uo OT (λs t=>iA s.i t.i) out);have HDB:=Hq (λk h=>nR RQ (λs t=>iA s.no t.no) reqs k h);have HDF:=Hq (qE RQ (λs t=>iA s.no t.no) reqs);have HDN:=Hq (uo RQ (λs t=>iA s.no t.no) reqs);generalize (λs t:kC=>iA s.i t.i)=RO at *;generalize (λs t:Rq=>iA s.no t.no)=RR at *;go_wp2_with fail;go_loopw [3] (λi wr=>∃k:Nat,k<=out.length/\i= .int .i64 k/\gQ OT RO (out.take k)=true/\wr.heap[w.heap.size]?=some (.cells (dH ⟨id,par,kids,next,pu,out,seen,old,reqs⟩ ⟨ak,ap,ao,as',ar,ck,cp,co,cs,cr⟩) 30 (0,0))/\aX w wr) (λi _=>out.length - (intOf i).toNat)
  case atStart=>exact⟨0,Nat.zero_le _,rfl,rfl,HB1,VP⟩
  case round=>
   open amc in exact Ri):P:=h
theorem alf.Kr90(h:P:=by
 obtain⟨al,hal⟩:∃al:Int,(kids.length:Int)+(if 0<=par then 1 else 0)=al:=⟨_,rfl⟩;rw [hal] at HD;go_cut [3] (λr wx=>r= .int .i64 al/\wx=W0)
 case first=>
  by_cases hp:0<=par
  .rw [if_pos hp] at hal;have HAL:=Hq hal;clear hal;go_wp2_with fail;go_meet
   case rel=>exact⟨by rw [<-ah HAL],rfl⟩
  .rw [if_neg hp] at hal;have HAL:=Hq hal;clear hal;go_wp2_with fail;go_meet
   case rel=>exact⟨by rw [<-ah HAL,Int.add_zero],rfl⟩
 case rest=>
  obtain⟨rfl,rfl⟩:=hcut;clear hal;obtain⟨c0,c1,c2,c3,c4,c5,c6,_⟩:=nine HB0;by_cases hlen:(seen.length:Int)=al
  case' neg=>
   have hbn:((seen.length:Int) != al)=true:=by simpa using hlen
   have HP:Hid (TT=false):=by rw [ah HD,decide_eq_false hlen];rfl
   clear hlen HD vM Bd BX OY HPP HRR
   go_wp2_with fail
   go_ret
   exact⟨aD HP.symm,KN⟩
  have hbn:((seen.length:Int) != al)=false:=by simpa using hlen
  have lS:Hid (TT=gQ PP RR seen):=by rw [ah HD,decide_eq_true hlen];rfl
  clear hlen HD;go_wp2_with fail;go_loopw [4] (λi wr=>∃k:Nat,k<=seen.length/\i= .int .i64 k/\gQ PP RR (seen.take k)=true/\wr.heap[w.heap.size]?=some (.cells (dH ⟨id,par,kids,next,pu,out,seen,old,reqs⟩ ⟨ak,ap,ao,as',ar,ck,cp,co,cs,cr⟩) 30 (0,0))/\aX w wr) (λi _=>seen.length - (intOf i).toNat)
  case atStart=>exact⟨0,Nat.zero_le _,rfl,rfl,HB0,KN⟩
  case round=>
   open amb in exact Ri):P:=h
theorem arZ(h:P:=by
 clear h hc;obtain⟨⟨p0,p1,p2,p3,p4,p5,p6,p7,p8,p9,mP⟩,_⟩:=aU Pe;have hpl:=aA Pe;go_upto_region 3 with fail;have z1:=cell_regrown p1;have z2:=cell_regrown p2;have z3:=cell_regrown p3;clear p0 p1 p2 p3 p4 p5 p6 p7 p8 p9 mP;refine bE 9 Aab ?_;show eF _ _ _ _ _ 10 (Array.replicate 10 false) _ _
 refine tk [0,1,2,3,5,6] ?_;iterate 6 (refine qA (λK hK=>?_);go_simp;refine hK _ ?_;clear hK K)
 refine iN ?_;clear z1 z2 z3;exact Kr91):P:=h
theorem alg.Kr91(h:P:=by
 refine wX 4 8 rfl rfl Aab Aad Aad (λx hx=>?c1) (λx hx=>?c2)
 case' c1=>
  go_simp
  refine(clone k x Aaa).mono ?_
  rintro e y ⟨rfl,hby⟩
  refine⟨hby,?_⟩
  have HY:=Hq (Ge.trans hx hby)
  clear hx hby
  refine tk [7] ?_
  (refine qA (λK hK=>?_);go_simp;refine hK _ ?_;clear hK K)
  refine iN ?_
  refine dz 8 rfl Aab Aad (λx2 hx2=>?_)
  go_simp
  refine⟨aj x2 _,?_⟩
  have hgl:z.heap.size<=x2.heap.size:=(Ge.trans HY hx2).size
  have Bh:=Hq (heap_alloc_new x2 (.cells (dX 0 ⟨#[]⟩ 0 0) 97))
  have tZ:=Hq (Ge.trans (Ge.trans HY hx2) (aj x2 (.cells (dX 0 ⟨#[]⟩ 0 0) 97)))
  clear hx2 HY
  generalize x2.alloc (.cells (dX 0 ⟨#[]⟩ 0 0) 97)=y2 at *
  generalize x2.heap.size=g at *
  refine aT Aab (λz2 hz2=>?_)
  have jX:=Hq (ay Bh hz2)
  have eY:=Hq (Ge.trans tZ hz2)
  clear hz2 Bh tZ
  have BD:=aA jX
  obtain⟨g0,g1,g2,g3⟩:=fQ jX
  have f0:=au jX 0
  have f1:=au jX 1
  have f2:=au jX 2
  have f3:=au jX 3
  refine aF 9 rfl Aab Aad ?_
  go_simp
  refine wpAny_done Aab ?_
  go_simp
  go_upto_region 4 with fail
  refine wp_at (λW hW=>?_)
  have QV:Hid (W.heap[g]?=some (.cells (dX no k nn 0) 97 (0,0))):=Abx
  have gZ:Hid (aX z W):=Aby
  clear hW jX eY BD g0 g1 g2 g3 f0 f1 f2 f3
 case' c2=>
  go_simp
  refine⟨aj x _,?_⟩
  have hgl:z.heap.size<=x.heap.size:=hx.size
  have Bh:=Hq (heap_alloc_new x (.cells (dX 0 ⟨#[]⟩ 0 0) 97))
  have tZ:=Hq (Ge.trans hx (aj x (.cells (dX 0 ⟨#[]⟩ 0 0) 97)))
  clear hx
  generalize x.alloc (.cells (dX 0 ⟨#[]⟩ 0 0) 97)=y2 at *
  generalize x.heap.size=g at *
  refine dz 4 rfl Aab Aad (λx2 hx2=>?_)
  go_simp
  refine(clone k x2 Aaa).mono ?_
  rintro e y3 ⟨rfl,hby⟩
  refine⟨hby,?_⟩
  have HGC:=Hq (ay Bh (Ge.trans hx2 hby))
  have HBC:=Hq (Ge.trans tZ (Ge.trans hx2 hby))
  clear hx2 hby Bh tZ
  refine tk [7] ?_
  (refine qA (λK hK=>?_);go_simp;refine hK _ ?_;clear hK K)
  refine iN ?_
  refine aT Aab (λz2 hz2=>?_)
  have jX:=Hq (ay HGC hz2)
  have eY:=Hq (Ge.trans HBC hz2)
  clear hz2 HGC HBC
  have BD:=aA jX
  obtain⟨g0,g1,g2,g3⟩:=fQ jX
  have f0:=au jX 0
  have f1:=au jX 1
  have f2:=au jX 2
  have f3:=au jX 3
  refine aF 9 rfl Aab Aad ?_
  go_simp
  refine wpAny_done Aab ?_
  go_simp
  go_upto_region 4 with fail
  refine wp_at (λW hW=>?_)
  have QV:Hid (W.heap[g]?=some (.cells (dX no k nn 0) 97 (0,0))):=Abx
  have gZ:Hid (aX z W):=Aby
  clear hW jX eY BD g0 g1 g2 g3 f0 f1 f2 f3
 all_goals
  have Wu:=Hq (HZ.step gZ)
  have EA:=Hq (ay Pe gZ)
  clear HZ Pe gZ
  obtain⟨⟨p0,p1,p2,p3,p4,p5,p6,p7,p8,p9,mP⟩,_⟩:=aU EA
  have hpw:=aA EA
  go_wp2_with fail
  refine(tO W Wu).mono ?_
  rintro e w1 ⟨rfl,hb1⟩
  have HW2:=Hq (Wu.step hb1)
  have HG2:=Hq (ay QV hb1)
  clear hb1 tO p0 p1 p2 p3 p4 p5 p6 p7 p8 p9 mP Wu EA QV
  go_upto_region 5 with fail
  refine wp_at (λV hV=>?_)
  obtain rfl:=hV
  obtain⟨g6,hAr,axv,axp,⟨q0,q1,q2,q3⟩,_⟩:=HW2.reqRow i hil
  obtain⟨d0,d1,d2,d3,d4,d5,d6,d7,d8,d9⟩:=iQ HW2.blk
  rw [hAr] at d8
  obtain⟨s0,s1,s2,s3⟩:=fQ HG2
  have hw2:=aA HW2.blk
  have hg2:=aA HG2
  have awp:(i:Int) < (n.reqs.length:Int):=Aaa
  generalize n.reqs[i]=lm at *
  obtain⟨ln,lk,lx,ls⟩:=lm
  dsimp only at q0 q1 q2 q3 aa4 HSQ
  subst aa4
  have heq:=av2 ln lk k lx nn ls 0
  have hB:=ah HSQ
  generalize (lk.toList == k.toList&&decide (lx=nn)&&decide (ls=0))=B at *
  subst hB
  have y8:=cell_regrown d8
  have x0:=cell_regrown q0
  have x1:=cell_regrown q1
  have x2:=cell_regrown q2
  have x3:=cell_regrown q3
  have v0:=cell_regrown s0
  have v1:=cell_regrown s1
  have v2:=cell_regrown s2
  have v3:=cell_regrown s3
  clear d0 d1 d2 d3 d4 d5 d6 d7 d8 d9 q0 q1 q2 q3 s0 s1 s2 s3
  refine dw Aab ?_
  show gX _ _ _ _ 13 (Array.replicate 13 false) _ _
  refine tk [0,1,2,3,4,5,6,7,8,9,10,11,12] ?_
  iterate 13 (refine tY (λK hK=>?_);go_simp;refine hK _ ?_;clear hK K)
  refine iN ?_
  refine eX Aab (λV hV=>?_)
  have HW3:=Hq (HW2.step hV)
  clear hV HW2 HG2 y8 x0 x1 x2 x3 v0 v1 v2 v3 heq
  go_simp
  cases SQ
  all_goals
   go_wp2_with fail
   go_ret
   rw [ah HAD]
   exact⟨rfl,A,G,c,HW3⟩):P:=h
theorem alh.Kr91(h:P:=by
 refine wX 4 8 rfl rfl Aab Aad Aad (λx hx=>?c1) (λx hx=>?c2)
 case' c1=>
  go_simp
  refine(clone k x Aaa).mono ?_
  rintro e y ⟨rfl,hby⟩
  refine⟨hby,?_⟩
  have HY:=Hq (Ge.trans hx hby)
  clear hx hby
  refine tk [7] ?_
  (refine qA (λK hK=>?_);go_simp;refine hK _ ?_;clear hK K)
  refine iN ?_
  refine dz 8 rfl Aab Aad (λx2 hx2=>?_)
  go_simp
  refine⟨aj x2 _,?_⟩
  have hgl:z.heap.size<=x2.heap.size:=(Ge.trans HY hx2).size
  have Bh:=Hq (heap_alloc_new x2 (.cells (dX 0 ⟨#[]⟩ 0 0) 97))
  have tZ:=Hq (Ge.trans (Ge.trans HY hx2) (aj x2 (.cells (dX 0 ⟨#[]⟩ 0 0) 97)))
  clear hx2 HY
  generalize x2.alloc (.cells (dX 0 ⟨#[]⟩ 0 0) 97)=y2 at *
  generalize x2.heap.size=g at *
  refine aT Aab (λz2 hz2=>?_)
  have jX:=Hq (ay Bh hz2)
  have eY:=Hq (Ge.trans tZ hz2)
  clear hz2 Bh tZ
  have BD:=aA jX
  obtain⟨g0,g1,g2,g3⟩:=fQ jX
  have f0:=au jX 0
  have f1:=au jX 1
  have f2:=au jX 2
  have f3:=au jX 3
  refine aF 9 rfl Aab Aad ?_
  go_simp
  refine wpAny_done Aab ?_
  go_simp
  go_upto_region 4 with fail
  refine wp_at (λW hW=>?_)
  have QV:Hid (W.heap[g]?=some (.cells (dX no k nn 0) 97 (0,0))):=Abx
  have gZ:Hid (aX z W):=Aby
  clear hW jX eY BD g0 g1 g2 g3 f0 f1 f2 f3
 case' c2=>
  go_simp
  refine⟨aj x _,?_⟩
  have hgl:z.heap.size<=x.heap.size:=hx.size
  have Bh:=Hq (heap_alloc_new x (.cells (dX 0 ⟨#[]⟩ 0 0) 97))
  have tZ:=Hq (Ge.trans hx (aj x (.cells (dX 0 ⟨#[]⟩ 0 0) 97)))
  clear hx
  generalize x.alloc (.cells (dX 0 ⟨#[]⟩ 0 0) 97)=y2 at *
  generalize x.heap.size=g at *
  refine dz 4 rfl Aab Aad (λx2 hx2=>?_)
  go_simp
  refine(clone k x2 Aaa).mono ?_
  rintro e y3 ⟨rfl,hby⟩
  refine⟨hby,?_⟩
  have HGC:=Hq (ay Bh (Ge.trans hx2 hby))
  have HBC:=Hq (Ge.trans tZ (Ge.trans hx2 hby))
  clear hx2 hby Bh tZ
  refine tk [7] ?_
  (refine qA (λK hK=>?_);go_simp;refine hK _ ?_;clear hK K)
  refine iN ?_
  refine aT Aab (λz2 hz2=>?_)
  have jX:=Hq (ay HGC hz2)
  have eY:=Hq (Ge.trans HBC hz2)
  clear hz2 HGC HBC
  have BD:=aA jX
  obtain⟨g0,g1,g2,g3⟩:=fQ jX
  have f0:=au jX 0
  have f1:=au jX 1
  have f2:=au jX 2
  have f3:=au jX 3
  refine aF 9 rfl Aab Aad ?_
  go_simp
  refine wpAny_done Aab ?_
  go_simp
  go_upto_region 4 with fail
  refine wp_at (λW hW=>?_)
  have QV:Hid (W.heap[g]?=some (.cells (dX no k nn 0) 97 (0,0))):=Abx
  have gZ:Hid (aX z W):=Aby
  clear hW jX eY BD g0 g1 g2 g3 f0 f1 f2 f3
 all_goals
  have Wu:=Hq ((HZ.recol (c':=newC z.heap.size 9 c) (λx hx=>dW hx)).step gZ)
  have hcg:newC z.heap.size 9 c g=9:=aS hgl
  have EA:=Hq (ay Pe gZ)
  have hgw:=aA QV
  have awn:g≠wb:=by have:=aA HZ.blk;omega
  clear HZ Pe gZ
  obtain⟨⟨p0,p1,p2,p3,p4,p5,p6,p7,p8,p9,mP⟩,_⟩:=aU EA
  have hpw:=aA EA
  go_wp2_with fail
  refine(tO W _ Wu).mono ?_
  rintro e w1 ⟨rfl,hb1⟩
  have HW2:=Hq (Wu.step hb1)
  have yZ:=Hq (ay EA hb1)
  have HG2:=Hq (ay QV hb1)
  clear hb1 tO p0 p1 p2 p3 p4 p5 p6 p7 p8 p9 mP Wu EA QV hgw
  go_upto_region 5 with fail
  refine wp_at (λV hV=>?_)
  obtain rfl:=hV
  refine dw Aab ?_
  show gX _ _ _ _ 13 (Array.replicate 13 false) _ _
  refine tk [0,1,2,3,4,5,6,7,8,9,10,11,12] ?_
  iterate 13 (refine tY (λK hK=>?_);go_simp;refine hK _ ?_;clear hK K)
  refine iN ?_
  refine eX Aab (λV hV=>?_)
  have HW3:=Hq (HW2.step hV)
  have Vm:=Hq (ay yZ hV)
  have KG:=Hq (ay HG2 hV)
  clear hV HW2 yZ HG2
  obtain⟨c0,c1,c2,c3,c4,c5,c6,c7,c8,c9⟩:=iQ HW3.blk
  obtain⟨⟨p0,p1,p2,p3,p4,p5,p6,p7,p8,p9,mP⟩,_⟩:=aU Vm
  have hw3:=aA HW3.blk
  have hp3:=aA Vm
  go_simp
  go_upto_region 10 with fail
  have y4:=cell_regrown c4
  have z2:=cell_regrown p2
  have z3:=cell_regrown p3
  clear c0 c1 c2 c3 c4 c5 c6 c7 c8 c9 p0 p1 p2 p3 p4 p5 p6 p7 p8 p9 mP
  refine bE 13 Aab ?_
  show eF _ _ _ _ _ 15 (Array.replicate 15 false) _ _
  refine tk [0,1,2,3,4,5,6,7,8,9] ?_
  iterate 10 (refine qA (λK hK=>?_);go_simp;refine hK _ ?_;clear hK K)
  refine iN ?_
  clear y4 z2 z3
  refine dz 10 rfl Aab Aad (λx hx=>?_)
  go_simp
  have HX:=Hq (HW3.step hx)
  refine(SS x _ HX).mono ?_
  rintro e y ⟨a,cp,g5,hg5,rfl,hp,hby⟩
  refine⟨hby,?_⟩
  have hgx:g < x.heap.size:=Nat.lt_of_lt_of_le (aA KG) hx.size
  have HGX:=Hq (ay KG (Ge.trans hx hby))
  have HST:=Hq (λu (hu:Ge y u)=>Sl (cp:=cp) HX (hby.trans (hu.mono hby.size)) hg5 (hp.below hu))
  clear hby hg5 hp SS hx KG Vm
  refine tk [11,12] ?_
  iterate 2 (refine qA (λK hK=>?_);go_simp;refine hK _ ?_;clear hK K)
  refine iN ?_
  refine aT Aab (λu hu=>?_)
  refine aF 13 rfl Aab Aad ?_
  go_simp
  refine(HST u hu).mono ?_
  rintro e z9 ⟨rfl,A',G',c',hZ9,RI,TL⟩
  have hc9:c' g=9:=(TL g hgx).trans hcg
  have HZ9:=Hq hZ9
  have HG9:=Hq (RI g _ awn (ay HGX hu))
  clear hZ9 HST hu RI HGX HX HW3 TL hcg hgx
  obtain⟨rl,rb⟩:=r
  dsimp only at HZ9 HAD HRL ⊢
  refine aF 14 rfl Aab Aad ?_
  go_simp
  refine wpAny_done Aab ?_
  go_simp
  have h9l:=aA HG9
  obtain⟨s0,s1,s2,s3⟩:=fQ HG9
  have sf3:=au HG9 3
  cases rb
  .rw [if_neg Aac] at HZ9;have hrl:=ah HRL rfl;subst hrl;rw [if_neg Aac] at HAD;have ahj:=Hq (HZ9.kc (k:=9) (KC.set (i:=3) (v:= .int .i64 1) hc9) Aaa);have agW:=Hq (atM (u:= .int .i64 1) HG9);clear HZ9;go_upto_region 12 with fail;refine wp_at (λY hY=>?_);have aul:Hid (WK w0 Y wb n A' G' c' v L):=by rw [hY];exact ahj
   have agX:Hid (Y.heap[g]?=some (.cells (dX no k nn 1) 97 (0,0))):=by rw [hY];exact agW
   clear hY ahj agW HG9 s0 s1 s2 s3 sf3 h9l;have h9l:=aA agX;obtain⟨s0,s1,s2,s3⟩:=fQ agX;have HKP:=Hq (ZW w0 Y wb n A' G' c' v L ⟨no,k,nn,1⟩ i hil hlen aul);rw [ah HKN] at HKP;exact asT
  .rw [if_pos rfl] at HZ9;rw [if_pos rfl] at HAD;have HKP:=Hq (ZW w0 z9 wb (setPu n rl) A' G' c' v L ⟨no,k,nn,0⟩ i hil hlen HZ9);have hki:AP (setPu n rl) ⟨no,k,nn,0⟩ i=lF (setPu n rl) ⟨no,k,nn,0⟩:=ah HKI rl 0;rw [hki] at HKP;clear hki;exact asT):P:=h
theorem ar0(h:P:=by
 have HF:=Hq hf;have ae7:=Hq (RJ mp mb n0 _ G ⟨pk,qm,qf,qs⟩ w6 hkey hn0 zO.blk zO.map);have V7:=Hq zO;obtain⟨⟨p0,p1,p2,p3⟩,_⟩:=fJ af9;clear hf zO af9;go_wp2_with fail;refine ae7.mono ?_;rintro e w7 ⟨rfl,hm7,hk7⟩;have HP7:=Hq (V7.turned hk7 hm7);have BU:=Hq (vI.trans (AQ hk7 V7.lom (Nat.le_trans hB vI.size)));clear hm7 hk7 p0 p1 p2 p3;go_wp2_with fail;go_ret;exact Kr92):P:=h
theorem ali.Kr92(h:P:=by
 exact⟨BU,.inr ⟨.inr h20,rfl,_,HP7⟩⟩):P:=h
theorem alj.Kr92(h:P:=by
 exact⟨BU,.inr ⟨.inl HF,rfl,_,HP7⟩⟩):P:=h
theorem Xh(h:P:=by
 go_wp2_with fail;refine H.mono ?_;rintro e w1 ⟨v,rfl,hv,hown,hb⟩;have HV:=Hq hv;have HO:=Hq hown;have HB:=Hq hb;clear hown hb hv;go_wp2_with fail;exact Kr93):P:=h
theorem alk.Kr93(h:P:=by
 exact bodyPost_ret (v:= .tuple #[v,.bool r.2]) (by simp[results,Tryz.results118,go_sem]) rfl ⟨v,rfl,HV,HO,HB⟩):P:=h
theorem alm.Kr93(h:P:=by
 exact bodyPost_ret (v:= .tuple #[v,.bool r.2]) (by simp[results,Tryz.results117,go_sem]) rfl ⟨v,rfl,HV,HO,HB⟩):P:=h
theorem aln.Kr93(h:P:=by
 exact bodyPost_ret (v:= .tuple #[v,.bool r.2]) (by simp[results,Tryz.results121,go_sem]) rfl ⟨v,rfl,HV,HO,HB⟩):P:=h
theorem alo.Kr93(h:P:=by
 exact bodyPost_ret (v:= .tuple #[v,.bool r.2]) (by simp[results,Tryz.results98,go_sem]) rfl ⟨v,rfl,HV,HO,HB⟩):P:=h
theorem alp.Kr93(h:P:=by
 exact bodyPost_ret (v:= .tuple #[v,.bool r.2]) (by simp[results,Tryz.results38,go_sem]) rfl ⟨v,rfl,HV,HO,HB⟩):P:=h
theorem ar1(h:P:=by
 obtain⟨i,hi,hcmp⟩:=Option.map_eq_some_iff.1 Is.comp;obtain⟨j,hj,hjs⟩:=Option.map_eq_some_iff.1 Is.size;have h8:= @run_callFunc_extern Tryz.prog 263 _ Extern.ReflectliteType.typeOf Tryz.func263 Aab Aab Aab Aab;have h32:= @run_callFunc_extern Tryz.prog 309 _ Is.cmp Tryz.func309 Aab Aab Aab Aab;have tT:=Is.typeOf;have cT:=Is.comparable;have mR:=Is.methodComparable;exact Kr94):P:=h
theorem alq.Kr94(h:P:=by
 have nE:=Is.noIs;have uE:=Is.noUnwrap;have vE:=Is.noUnwraps;have heq:=run_eql_iface_ptr_other (P:=Tryz.prog) w Tryz.underlying248 Tryz.underlying338 hi hcmp hj (by rw [hjs];decide) hne ha hb;exact ad9):P:=h
theorem alr.Kr94(h:P:=by
 have heq:=run_eql_iface_ptr_same (P:=Tryz.prog) w a Tryz.underlying248 Tryz.underlying338 hi hcmp hj;exact ad9):P:=h
theorem afu(h:P:=by
 refine nD 0 rfl Aab Aab Aab (λ_ _ _ _ h=>h) (λK hK=>?_);go_simp
 first
  |(refine hK _ ?_;clear hK K)
  |(apply Exists.intro
    refine⟨λ_=>rfl,hK _ ?_⟩
    clear hK K)
 exact Kr95):P:=h
theorem als.Kr95(h:P:=by
 refine ql 7 ?_;refine tk [1,2,3,4,5] ?_;iterate 5 (refine qA (λK hK=>?_);go_simp;refine hK _ ?_;clear hK K)
 refine iN ?_;clear y9 z0 z1 z2 z3 z4 z5 z6;refine dz 6 rfl Aab Aad (λx hx=>?_);go_simp;refine⟨aj x _,?_⟩;have Gu:=Hq ((HSW.step hx).step (aj x (.cells (bJ mK mF mT mI mL mk mN) 32)));have gG:=Hq (heap_alloc_new x (.cells (bJ mK mF mT mI mL mk mN) 32));have hbs:w0.heap.size<=x.heap.size:=(HSW.step hx).keep.size;clear hx HSW HXW gZ HS;generalize x.alloc (.cells (bJ mK mF mT mI mL mk mN) 32)=y at *;refine aT Aab (λz hz=>?_);have Gw:=Hq (Gu.step hz);have Cb:=Hq (ay gG hz);clear hz Gu gG;refine aF 7 rfl Aab Aad ?_;refine nM z (.tmp 12) (.tmp 14) 37 rfl w0.heap.size 32 i0 (.agg (bJ 0 0 0 0 0 ByteArray.empty 0)) 7 64 Tryz.underlying37 hi hz0 hz1 hz2 rfl Aae (.slice va L.length vc) L.length (GR.flat jF L) Aak Gw.m ⟨x.heap.size,0,none⟩ 1 1 (jF ⟨mK,mF,mT,mI,mL,mk,mN⟩) Aak rfl (World.news_of_block Cb) (LW _) Aah Aaa Gw.keep.size ?_;intro v6 w6 hown6 pO Mq;obtain⟨va6,vc6,hv6,_⟩:=GR.own_at (enc:=jF) (sz:=7) (l:=L++[⟨mK,mF,mT,mI,mL,mk,mN⟩]) mX (by rw [List.length_append,ig];exact hown6);rw [List.length_append] at hv6;have hv7:v6= .slice va6 (L.length+1) vc6:=hv6;subst hv7;clear hv6;obtain⟨hb6,hS6⟩:=Gw.app ⟨mK,mF,mT,mI,mL,mk,mN⟩ hown6 pO Mq;have HS6:=Hq hS6;obtain⟨k0,k1,k2,k3,k4,k5,k6,k7,k8,k9⟩:=iQ hb6;have kf:=au hb6 9;clear hown6 pO Mq hb6 hS6 Gw Cb;refine aF 8 rfl Aab Aad ?_;go_simp;refine aF 9 rfl Aab Aad ?_;go_simp;refine aF 10 rfl Aab Aad ?_;go_simp;refine wpAny_done Aab ?_;go_simp;go_wp2_with fail;exact bodyPost_end (v:= .tuple #[]) (by simp[results,Tryz.results125,go_sem]) rfl ⟨rfl,_,_,HS6⟩):P:=h
theorem alu.Kr95(h:P:=by
 refine ql 9 ?_;refine tk [1,2,3,4,5,6,7] ?_;iterate 7 (refine qA (λK hK=>?_);go_simp;refine hK _ ?_;clear hK K)
 refine iN ?_;clear y8 z0 z1 z2 z3;refine dz 8 rfl Aab Aad (λx hx=>?_);go_simp;refine⟨aj x _,?_⟩;have HX:=Hq ((HW1.step hx).step (aj x (.cells (dX q.no q.k q.n q.s) 97)));have HN:=Hq (heap_alloc_new x (.cells (dX q.no q.k q.n q.s) 97));have HRL:=Hq (show∀y,(Value.slice A.r n.reqs.length A.cr).ownBlock=some y->x.heap.size≠y from λy hy=>by have:=((HW1.step hx).no.r.lt y hy).2;omega);clear hx HW HW1 xD;generalize x.alloc (.cells (dX q.no q.k q.n q.s) 97)=x1 at *;refine aT Aab (λu hu=>?_);have HU:=Hq (HX.step hu);have HNU:=Hq (ay HN hu);clear hu HX HN;refine aF 9 rfl Aab Aad ?_;go_simp;refine(agj w0.heap.size A.r A.cr i n.reqs q x.heap.size u Aaa hi HU.keep.size HU.no.r HNU HRL).mono ?_;rintro e w6 ⟨a6,c6,rfl,hown6,pO,Mq⟩;obtain⟨hb6,Vx⟩:=HU.reqPut hown6 pO Mq;have Rb:=Hq Vx;obtain⟨k0,k1,k2,k3,k4,k5,k6,k7,k8,k9⟩:=iQ hb6;have kf:=au hb6 8;have hw6:=aA hb6;clear hown6 pO Mq hb6 Vx HU HNU HRL;rw [hlen] at Rb ⊢;refine aF 10 rfl Aab Aad ?_;go_simp;refine aF 11 rfl Aab Aad ?_;go_simp;refine aF 12 rfl Aab Aad ?_;go_simp;refine aF 13 rfl Aab Aad ?_;go_simp;refine wpAny_done Aab ?_;go_simp;go_upto_region 2 with fail;refine wp_at (λV hV=>?_);have HV:Hid (WK w0 V wb (dS n (oD n.reqs i q)) ⟨A.k,A.p,A.o,A.s,a6,A.ck,A.cp,A.co,A.cs,c6⟩ G (newC u.heap.size 6 c) v L):=by rw [hV];exact Rb
 clear hV Rb k0 k1 k2 k3 k4 k5 k6 k7 k8 k9 kf hw6;have hl2:(dS n (oD n.reqs i q)).reqs.length=n.reqs.length+1:=hlen;obtain⟨d0,d1,d2,d3,d4,d5,d6,d7,d8,d9⟩:=iQ HV.blk;rw [hl2] at d8;have hVl:=aA HV.blk;by_cases aeL:30 < n.reqs.length+1
 case' neg=>
  have hm2:¬((30:Int) < (n.reqs.length:Int)+1):=Aaa
  have HK:=Hq (show AP n q i=dS n (oD n.reqs i q) by unfold AP;rw [hlen,if_neg aeL])
  go_wp2_with fail
  exact bodyPost_end (v:= .tuple #[]) (by simp[results,Tryz.results166,go_sem]) rfl ⟨rfl,_,_,_,by rw [ah HK];exact HV⟩
 have hm2:(30:Int) < (n.reqs.length:Int)+1:=Aaa
 obtain⟨g,hAr,hgw,hgl,⟨q0,_,_,_⟩,_⟩:=HV.reqRow 0 Aaa;dsimp only at hAr;subst hAr;have hz8:(0:Int) < (n.reqs.length:Int)+1:=Aaa
 have HK:=Hq (show AP n q i=dS (lJ n (dS n (oD n.reqs i q)).reqs[0].no) ((oD n.reqs i q).drop 1) by
  unfold AP
  rw [hlen,if_pos aeL]
  congr 2
  show((oD n.reqs i q).headD default).no=(oD n.reqs i q)[0].no
  rw [List.headD_eq_head?_getD,List.head?_eq_getElem?,List.getElem?_eq_getElem Aaa]
  rfl)
 generalize (dS n (oD n.reqs i q)).reqs[0].no=old at *;rw [Nat.zero_mul] at q0;have vf7:=au HV.blk 7;have vf8:=au HV.blk 8;have HO:=Hq (HV.oldPut old);go_upto_region 4 with fail;refine wp_at (λV2 hV2=>?_);have HV2:Hid (WK w0 V2 wb (lJ (dS n (oD n.reqs i q)) old) ⟨A.k,A.p,A.o,A.s,some ⟨g,0,none⟩,A.ck,A.cp,A.co,A.cs,c6⟩ G (newC u.heap.size 6 c) v L):=by rw [hV2];exact HO
 clear hV2 HO HV d0 d1 d2 d3 d4 d5 d6 d7 d8 d9 q0 vf7 vf8 hVl;have hl3:(lJ (dS n (oD n.reqs i q)) old).reqs.length=n.reqs.length+1:=hlen;obtain⟨d0,d1,d2,d3,d4,d5,d6,d7,d8,d9⟩:=iQ HV2.blk;rw [hl3] at d8;have hVl:=aA HV2.blk;have HD:=Hq (afR w0.heap.size (some ⟨g,0,none⟩) c6 (oD n.reqs i q) V2 Aaa Aaa HV2.no.r);rw [hlen] at HD;go_wp2_with fail;refine HD.mono ?_;rintro e w7 ⟨a7,c7,rfl,GU,atq,atH⟩;obtain⟨uf,Jf⟩:=HV2.reqPut GU (by rw [hl3];exact atq) (by rw [hl3];exact atH);have hl7:((oD n.reqs i q).drop 1).length=n.reqs.length:=by rw [List.length_drop,hlen];omega
 rw [hl7] at Jf;have HW7:=Hq Jf;obtain⟨k0,k1,k2,k3,k4,k5,k6,k7,k8,k9⟩:=iQ uf;have kf:=au uf 8;have hw7:=aA uf;clear GU atq atH uf Jf HV2 HD d0 d1 d2 d3 d4 d5 d6 d7 d8 d9;go_wp2_with fail;exact bodyPost_end (v:= .tuple #[]) (by simp[results,Tryz.results166,go_sem]) rfl ⟨rfl,_,_,_,by rw [ah HK];exact HW7⟩):P:=h
theorem alv.Kr95(h:P:=by
 refine ql 8 ?_;refine tk [1,2,3,4,5] ?_;iterate 5 (refine qA (λK hK=>?_);go_simp;refine hK _ ?_;clear hK K)
 refine iN ?_;clear y0;refine dz 6 rfl Aab Aad (λx hx=>?_);go_simp;refine(HO _ ((HH.keep1 (Z4.step hx).keep hfb hne))).mono ?_;rintro e y ⟨hcase,hby⟩;have HFX:=Hq (Z4.step hx);clear hx;rcases hcase with⟨hyes,rfl⟩|⟨hno,p,rfl⟩
 case' inr=>
  have HST:=Hq (HN hno)
  exact⟨rfl,.inr ⟨_,rfl⟩,HFX.found HS HST hby⟩
 have HST:=Hq (HY hyes);have HSN:=Hq (gG HST);obtain⟨hz5,hz6⟩:=ah HGT HST;clear hyes HY HN gG HGT HO Z4;refine⟨hby,?_⟩;have HFY:=Hq (HFX.step hby);clear hby HFX;refine dz 7 rfl Aab Aad (λx2 hx2=>?_);go_simp;refine⟨aj x2 _,?_⟩;have HFZ:=Hq ((HFY.step hx2).step (aj x2 (.cells (bY K no k n mK mF mT mI mL mk mN) 34)));have Cb:=Hq (heap_alloc_new x2 (.cells (bY K no k n mK mF mT mI mL mk mN) 34));clear hx2 HFY;generalize x2.alloc (.cells (bY K no k n mK mF mT mI mL mk mN) 34)=y2 at *;refine aT Aab (λu hu=>?_);have HFU:=Hq (HFZ.step hu);have HNU:=Hq (aI Cb hu);clear hu HFZ Cb;have hLl:=ah HL;refine aF 8 rfl Aab Aad ?_;refine nM u (.tmp 37) (.tmp 40) 55 rfl (w.heap.size+1) 34 i0 (.agg (bY 0 0 ByteArray.empty 0 0 0 0 0 0 ByteArray.empty 0)) 11 104 Tryz.underlying55 hi hz0 hz1 hz2 rfl Aae (.slice va L.length vc) L.length (GR.flat mY L) Aak HFU.own ⟨x2.heap.size,0,none⟩ 1 1 (mY ⟨K,no,k,n,⟨mK,mF,mT,mI,mL,mk,mN⟩⟩) Aak rfl (World.news_of_block HNU) (LX _) Aah Aaa (by have:=HFU.gl;omega) ?_;intro v6 w6 hown6 pO _;obtain⟨va6,vc6,hv6,_⟩:=GR.own_at (enc:=mY) (sz:=11) (l:=L++[⟨K,no,k,n,⟨mK,mF,mT,mI,mL,mk,mN⟩⟩]) jG (by rw [List.length_append,wE];exact hown6);rw [List.length_append] at hv6;have hv7:v6= .slice va6 (L.length+1) vc6:=hv6;subst hv7;clear hv6;obtain⟨hb6,hF6⟩:=HFU.app ⟨K,no,k,n,⟨mK,mF,mT,mI,mL,mk,mN⟩⟩ hown6 pO;have HF6:=Hq (hF6 z);obtain⟨k0,k1⟩:=Va hb6;have kf0:=aeI hb6 0;have kf1:=aeI hb6 1;clear hown6 pO hb6 hF6 HFU HNU;refine aF 9 rfl Aab Aad ?_;go_simp;refine aF 10 rfl Aab Aad ?_;go_simp;refine aF 11 rfl Aab Aad ?_;go_simp;refine wpAny_done Aab ?_;go_simp;go_wp2_with fail;go_roundw
 case rel=>exact⟨z,_,_,HF6,HSN⟩
 case measure=>
  have h1:=ah HEA;have h2:=HF6.endOf;rw [h1,h2];omega):P:=h
theorem ar2(h:P:=by
 rw [hlt1] at Jk Jj;refine Lib.wp_append_run x3 (.tmp 127) (.tmp 130) 24 24 rfl _ _ Aak Aak v3 y3 Jk ?_;refine⟨(Below.refl _ _).grown wF zP (λb hb=>(zw.lt b hb).1),?_⟩;go_simp;have Sy:=Hq (xu.grown wF zP (λb hb=>(zw.lt b hb).1));have SY:Hid (y3.ownsRow tq.heap.size 3 1 v3 (pos) (GR.flat aW ((aY s0 mL).take pos))):=Hq (by simpa [GR.flat_nil] using Jj);exact Kr96):P:=h
theorem alx.Kr96(h:P:=by
 have EG:=Hq (show y3.heap[x2.heap.size]?=some (.cells #[.int .i64 mI] 3 (0,0)) from by rw [wF.block _ (aA (ah wm)) (λhm=>ah IJ _ hm.symm rfl)];exact wm);open ao4 in exact WU):P:=h
theorem aly.Kr96(h:P:=by
 have EG:=Hq (show y3.heap[x1.heap.size]?=some (.cells #[.int .i64 mI] 3 (0,0)) from by rw [wF.block _ (aA (ah wm)) (λhm=>ah IJ _ hm.symm rfl)];exact wm);open ao1 in exact WR):P:=h
theorem ar3(h:P:=by
 clear hm hM;go_enter Tryz.func259,Tryz.ntmps259
 go_wp2_with fail;refine(HN _).mono ?_;rintro e w1 ⟨rfl,hb1⟩;rw [hno];obtain⟨hA,hz,hbel⟩:=Fo.one_block hb1;obtain⟨⟨p0,p1,p2,p3⟩,_⟩:=fJ hA;have hm1:w1.heap[mp]?=some (.cells #[v,.map (some mb)] 306 (0,0)):=by rw [hbel.block _ hmp];exact HM
 obtain⟨⟨m0,m1⟩,_⟩:=lM hm1;have hI1:iq w1.drew mb n G:=HI.kept (by rw [<-hbel.block _ hmb];rfl);exact Kr97):P:=h
theorem alz.Kr97(h:P:=by
 obtain⟨w2,hrun,hI2,hK2⟩:=ah HST _ 0 hI1;have HI2:=Hq (hI2.mono (Nat.le_succ n));have xA:=Hq ((Keeps.of_below (g:=mb) hbel).trans (Keeps.trans (b:=w1.drew) (Keeps.of_below (Below.refl _ _).drew) hK2));clear hb1 hA hbel hm1 hI1 hI2 hK2 HST HN;go_wp2_with fail;go_region
 all_goals
  go_wp2_with fail
  exact bodyPost_ret (v:= .tuple #[]) (by simp[results,Tryz.results259,go_sem]) rfl ⟨rfl,HI2,xA⟩):P:=h
theorem alA.Kr97(h:P:=by
 obtain⟨w2,hrun,hI2,hK2⟩:=ah HST _ hI1;have HI2:=Hq hI2;have xA:=Hq ((Keeps.of_below (g:=mb) hbel).trans (Keeps.trans (b:=w1.drew) (Keeps.of_below (Below.refl _ _).drew) hK2));clear hb1 hA hbel hm1 hI1 hI2 hK2 HST HN;go_wp2_with fail;go_region
 all_goals
  go_wp2_with fail
  exact bodyPost_end (v:= .tuple #[]) (by simp[results,Tryz.results259,go_sem]) rfl ⟨rfl,HI2,xA⟩):P:=h
theorem afv(h:P:=by
 have SY:=Hq (GR.own_below zw Yb);have Sw:=Hq (show∀b,((.slice avR (pos) cvR:Value)).ownBlock=some b->b≠x3.heap.size from λb hb=>by have:=(zw.lt b hb).2;omega);have Sy:=Hq (xu.trans (Yb.mono xu.size));clear Yb;exact Kr98):P:=h
theorem alB.Kr98(h:P:=by
 generalize Yr:x3.alloc (.cells #[.int .i64 mI] 3)=y3 at *;clear Yr;generalize x3.heap.size=rb at *;exact Zr3):P:=h
theorem alC.Kr98(h:P:=by
 generalize Yr:x3.alloc (.cells (dX no k nn 1) 97)=y3 at *;clear Yr;generalize x3.heap.size=rb at *;exact Zr2):P:=h
theorem alD.Kr98(h:P:=by
 generalize Yr:x3.alloc (.cells (dX no k nn 0) 97)=y3 at *;clear Yr;generalize x3.heap.size=rb at *;exact Zr1):P:=h
theorem EL(h:P:=by
 clear hr;go_enter Tryz.func65,Tryz.ntmps65
 go_upto_region 11 with fail;refine wp_at (λV hV=>?_);exact Kr99):P:=h
theorem alE.Kr99(h:P:=by
 have hblk:V.heap[w.heap.size]?=some (.cells (bJ 2 F T I 0 ByteArray.empty 0) 32 (0,0)):=by rw [hV,Below.heap_alloc _ _ _ Aac];exact heap_alloc_new w _
 open auO in exact Yr6):P:=h
theorem alF.Kr99(h:P:=by
 have hblk:V.heap[w.heap.size]?=some (.cells (bJ 2 F T I 0 ByteArray.empty N) 32 (0,0)):=by rw [hV,Below.heap_alloc _ _ _ Aac];exact heap_alloc_new w _
 open auP in exact Yr6):P:=h
theorem alG.Kr99(h:P:=by
 have hblk:V.heap[w.heap.size]?=some (.cells (bJ 2 F T I L k N) 32 (0,0)):=by rw [hV,Below.heap_alloc _ _ _ Aac];exact heap_alloc_new w _
 open auR in exact Yr6):P:=h
theorem alH.Kr99(h:P:=by
 have hblk:V.heap[w.heap.size]?=some (.cells (bJ 2 F T I L k N) 32 (0,0)):=by rw [hV,Below.heap_alloc _ _ _ Aac];exact heap_alloc_new w _
 open ajK in exact Ti):P:=h
theorem alI.Kr99(h:P:=by
 have hblk:V.heap[w.heap.size]?=some (.cells (bJ 1 F T I L k N) 32 (0,0)):=by rw [hV,Below.heap_alloc _ _ _ Aac];exact heap_alloc_new w _
 open ajL in exact Ti):P:=h
theorem alJ.Kr99(h:P:=by
 have hblk:V.heap[w.heap.size]?=some (.cells (bJ 1 F T I L k N) 32 (0,0)):=by rw [hV,Below.heap_alloc _ _ _ Aac];exact heap_alloc_new w _
 open ajM in exact Ti):P:=h
theorem alK.Kr99(h:P:=by
 have hblk:V.heap[w.heap.size]?=some (.cells (bJ 0 F T 0 0 k N) 32 (0,0)):=by rw [hV,Below.heap_alloc _ _ _ Aac];exact heap_alloc_new w _
 open au0 in exact afe):P:=h
theorem alL.Kr99(h:P:=by
 have hblk:V.heap[w.heap.size]?=some (.cells (bJ 0 F T 0 L k N) 32 (0,0)):=by rw [hV,Below.heap_alloc _ _ _ Aac];exact heap_alloc_new w _
 open au1 in exact afe):P:=h
theorem alM.Kr99(h:P:=by
 have hblk:V.heap[w.heap.size]?=some (.cells (bJ 0 F T I L k N) 32 (0,0)):=by rw [hV,Below.heap_alloc _ _ _ Aac];exact heap_alloc_new w _
 open au2 in exact afe):P:=h
theorem alN.Kr99(h:P:=by
 have hblk:V.heap[w.heap.size]?=some (.cells (bJ 0 F T I L k N) 32 (0,0)):=by rw [hV,Below.heap_alloc _ _ _ Aac];exact heap_alloc_new w _
 open ajN in exact Ti):P:=h
theorem abW(h:P:=by
 go_simp;refine(aax A2 x5 (HS.step HG).nl.at).mono ?_;rintro e y5 ⟨A3,ma,mc,rfl,hat,hmt,hb5⟩;refine⟨hb5.mono HG.size,?_⟩;have hxs:=HG.size;have HNL:=Hq (show NL x5.heap.size y5 A3 m' from λF W'' hk hF=>(hat W'' ⟨F,hk,hF⟩).at);have HG2:=Hq (Ge.trans HG hb5);exact Kr100):P:=h
theorem alO.Kr100(h:P:=by
 have HQ2:=Hq (ay HQ hb5);have hqd:qf < x5.heap.size\/y5.heap.size<=qf:= .inl (aA HQ);open aoS in exact ac0):P:=h
theorem alP.Kr100(h:P:=by
 open aoR in exact ac0):P:=h
theorem Rc(h:P:=by
 refine aF 3 rfl Aab Aad ?_;go_simp;refine aF 4 rfl Aab Aad ?_;go_simp;refine wpAny_done Aab ?_;go_simp;go_wp2_with fail;exact Kr101):P:=h
theorem alQ.Kr101(h:P:=by
 go_meet
 case rel=>exact⟨rfl,GR.setW_blk (fK n.id n.par a_k n.kids.length aJ n.next av RL.length cv dR n.out.length aO dY n.seen.length aK IH.no (some ⟨g8,0,none⟩) n.reqs.length CV).toList (o:=0) (xs:=gu.toList) uS,(aC.of_below hg3).trans (aL (fK n.id n.par a_k n.kids.length aJ n.next av RL.length cv dR n.out.length aO dY n.seen.length aK IH.no (some ⟨g8,0,none⟩) n.reqs.length CV).toList x3 0)⟩):P:=h
theorem alR.Kr101(h:P:=by
 go_meet
 case rel=>exact⟨rfl,GR.setW_blk (fK n.id n.par a_k n.kids.length aJ n.next av RL.length cv dR n.out.length aO dY n.seen.length aK n.old (some ⟨gv,0,none⟩) (n.reqs.length+1) vc).toList (o:=0) (xs:=gu.toList) uS,(aC.of_below hg3).trans (aL (fK n.id n.par a_k n.kids.length aJ n.next av RL.length cv dR n.out.length aO dY n.seen.length aK n.old (some ⟨gv,0,none⟩) (n.reqs.length+1) vc).toList x3 0)⟩):P:=h
theorem alS.Kr101(h:P:=by
 go_meet
 case rel=>exact⟨rfl,GR.setW_blk (fK n.id n.par a_k n.kids.length aJ n.next (some ⟨gp,0,none⟩) n.pu.length bq dR n.out.length aO dY n.seen.length aK IH.no (some ⟨g8,0,none⟩) n.reqs.length CV).toList (o:=0) (xs:=gu.toList) uS,(aC.of_below hg3).trans (aL (fK n.id n.par a_k n.kids.length aJ n.next (some ⟨gp,0,none⟩) n.pu.length bq dR n.out.length aO dY n.seen.length aK IH.no (some ⟨g8,0,none⟩) n.reqs.length CV).toList x3 0)⟩):P:=h
theorem alT.Kr101(h:P:=by
 go_meet
 case rel=>exact⟨rfl,GR.setW_blk (fK n.id n.par a_k n.kids.length aJ n.next (some ⟨gp,0,none⟩) n.pu.length bq dR n.out.length aO dY n.seen.length aK n.old (some ⟨gv,0,none⟩) (n.reqs.length+1) vc).toList (o:=0) (xs:=gu.toList) uS,(aC.of_below hg3).trans (aL (fK n.id n.par a_k n.kids.length aJ n.next (some ⟨gp,0,none⟩) n.pu.length bq dR n.out.length aO dY n.seen.length aK n.old (some ⟨gv,0,none⟩) (n.reqs.length+1) vc).toList x3 0)⟩):P:=h
theorem abX(h:P:=by
 obtain⟨c0,c1,c2,c3,c4,c5,c6,c7,c8⟩:=nine lq;have hnl:=aA lq;have awh:decide ((30:Int) < ((n.reqs.length+1:Nat):Int))=false:=decide_eq_false Aaa;have hIT:IQ.length=n.reqs.length+1:=ah HLQ;clear HLQ;have TI:=Hq hIT;clear hIT;go_upto_region 20 with fail;clear c0 c1 c2 c3 c4 c5 c6 c7 c8 hnl;obtain⟨c0,c1,c2,c3,c4,c5,c6,c7,c8⟩:=nine lq;exact Kr102):P:=h
theorem alU.Kr102(h:P:=by
 open aht in exact EK):P:=h
theorem alV.Kr102(h:P:=by
 open ahv in exact EK):P:=h
theorem abY(h:P:=by
 rw [hlt1] at Jk Jj;refine Lib.wp_append_run x3 (.tmp 93) (.tmp 97) 28 28 rfl _ _ Aak Aak v3 y3 Jk ?_;refine⟨(Below.refl _ _).grown wF zP (λb hb=>(zw.lt b hb).1),?_⟩;go_simp;have Sy:=Hq (xu.grown wF zP (λb hb=>(zw.lt b hb).1));have SY:Hid (y3.ownsRow wc.heap.size 97 4 v3 (pos) (GR.flat aM (n.reqs.take pos))):=Hq (by simpa [GR.flat_nil] using Jj);exact Kr103):P:=h
theorem alW.Kr103(h:P:=by
 exact Kr34):P:=h
theorem alX.Kr103(h:P:=by
 exact Kr27):P:=h
theorem Rf(h:P:=by
 obtain⟨avR,cvR,Mj,_⟩:=GR.own_at (enc:=aM) (sz:=4) (l:=n.reqs.take pos) bg (by rw [hlt1];exact SY);rw [hlt1] at Mj;subst Mj;clear Jk Jj wF Qb;exact Kr104):P:=h
theorem alY.Kr104(h:P:=by
 generalize x2.heap.size=rb at *;exact Zr2):P:=h
theorem alZ.Kr104(h:P:=by
 generalize x2.heap.size=rb at *;exact Zr1):P:=h
theorem al0.Kr104(h:P:=by
 generalize x1.heap.size=rb at *;exact Zr2):P:=h
theorem al1.Kr104(h:P:=by
 generalize x1.heap.size=rb at *;exact Zr1):P:=h
theorem Rh(h:P:=by
 have hke:k=out.length:=Aaa
 subst hke;have hnlt:decide ((out.length:Int) < (out.length:Int))=false:=Aac
 exact Kr105):P:=h
theorem al2.Kr105(h:P:=by
 have HOF:Hid (TT=gQ RQ RR reqs):=by
  have h:=ah mV;rw [List.take_length] at h;rw [ah HTT,h];rfl
 clear Bd BX vM HOT;go_wp2_with fail;go_loopw [5] (λi wr=>∃k:Nat,k<=reqs.length/\i= .int .i64 k/\gQ RQ RR (reqs.take k)=true/\wr.heap[w.heap.size]?=some (.cells (dH ⟨id,par,kids,next,pu,out,seen,old,reqs⟩ ⟨ak,ap,ao,as',ar,ck,cp,co,cs,cr⟩) 30 (0,0))/\aX w wr) (λi _=>reqs.length - (intOf i).toNat)
 case atStart=>exact⟨0,Nat.zero_le _,rfl,rfl,Ey,fO⟩
 case round=>
  open ama in exact Ri):P:=h
theorem al3.Kr105(h:P:=by
 have HRS:Hid (L=(out.take out.length).map PM):=by
  rw [ah KW,List.take_length];cases hOK:OK
  .rcases Nat.eq_zero_or_pos out.length with h|h
   .rw [List.eq_nil_of_length_eq_zero h];rfl
   .exact absurd (hpos h) (by rw [hOK];simp)
  .rfl
 clear hpos;go_wp2_with fail;go_ret;rw [ah HRS];exact zk.of_own Aac HO Aaa HW):P:=h
theorem al4.Kr105(h:P:=by
 have HF:=Hq (BZ HN);go_wp2_with fail;go_ret;exact⟨JN HF.symm,aj w _⟩):P:=h
theorem al5.Kr105(h:P:=by
 have hyy:=ah BZ HN;clear HLY wZ BZ;subst hyy;go_upto_region 8 with fail;refine wp_at (λW3 hW3=>?_);have hbw:aX wr W3:=by rw [hW3];exact Below.refl _ _
 open aj0 in exact arK):P:=h
theorem abZ(h:P:=by
 rintro e W3 ⟨A1,ma,mc,rfl,hat,hmt,hb3,hap⟩;have kU:=Hq ((hap _ (aA jk) (by rw [aS Aaa];omega)).trans jk);have Vz:=Hq hat;have aaj:=Hq hmt;have HB3:=Hq ((HB2.mono hB).trans hb3);have HK3:Hid (Apart c w W3):=λx hx hc=>(hap x (Nat.lt_of_lt_of_le hx HB2.size) (by rw [dW hx];exact hc)).trans (HB2.block x hx)
 have h23:=hb3.size;have h02:=HB2.size;have h2r:=aA jk;exact Kr106):P:=h
theorem al6.Kr106(h:P:=by
 clear hat hmt hb3 hap c0 c1 c2 c3 c4 c5 c6 c7 c8 m0 m1 m2 m3 m4 m5 m6 hml hnl Q8 jE xB jk KP;open am0 in exact aco):P:=h
theorem al7.Kr106(h:P:=by
 clear hat hmt hb3 hap c0 c1 c2 c3 c4 c5 c6 c7 c8 m0 m1 m2 m3 m4 m5 m6 hml hnl HGV jE xB jk KP;obtain⟨A1,hA1⟩:∃A2,A2=A1:=⟨_,rfl⟩;subst hA1;have Vl:=Hq (heap_alloc_new W3 (.cells (dH N1 A1) 30));have tO:=Hq (ay kU (aj W3 (.cells (dH N1 A1) 30)));have tZ:=Hq (HB3.trans ((aj W3 (.cells (dH N1 A1) 30)).mono (Nat.le_trans hB HB3.size)));have HKA:=Hq (HK3.step HB3.size (aj W3 (.cells (dH N1 A1) 30)));obtain⟨c0,c1,c2,c3,c4,c5,c6,c7,c8⟩:=nine Vl;open ain in exact Tg):P:=h
theorem ab0(h:P:=by
 obtain⟨e1,e2,e3,e4⟩:=fC w (.cells (dH n A) 30) (.cells (bY K no k nn mK mF mT mI mL mk mN) 34) (.cells gu 30);have hsz:(((w.alloc (.cells (dH n A) 30)).alloc (.cells (bY K no k nn mK mF mT mI mL mk mN) 34)).alloc (.cells gu 30)).heap.size=w.heap.size+3:=Aac
 generalize hW0:((w.alloc (.cells (dH n A) 30)).alloc (.cells (bY K no k nn mK mF mT mI mL mk mN) 34)).alloc (.cells gu 30)=W0 at *;exact Kr107):P:=h
theorem al8.Kr107(h:P:=by
 open au7 in exact IW):P:=h
theorem al9.Kr107(h:P:=by
 open au6 in exact IW):P:=h
theorem Ri(h:P:=by
 obtain⟨k,hk,rfl,hall,hblk,hbel⟩:=hrel;have mV:=Hq hall;have fO:=Hq hbel;have Ey:=Hq hblk;exact Kr108):P:=h
theorem ama.Kr108(h:P:=by
 clear c0 c1 c2 c3 c4 c5 c6 c7 c8;obtain⟨c0,c1,c2,c3,c4,c5,c6,c7,c8⟩:=nine hblk;clear hall hbel hblk;by_cases hlt:k < reqs.length
 case' neg=>
  have hke:k=reqs.length:=Aaa
  subst hke
  have aw8:decide ((reqs.length:Int) < (reqs.length:Int))=false:=Aac
  have HF:Hid (TT=true):=by
   have h:=ah mV;rw [List.take_length] at h;exact HOF.trans h
  go_wp2_with fail
  go_ret
  exact⟨aD HF.symm,fO⟩
 have HBAD:Hid (gQ RQ RR (reqs.take (k+1))=false->TT=false):=λh=>HOF.trans (HDB _ h)
 obtain⟨g,off,e0,hgw,q0,q1,q2,q3⟩:=iU.four (HA.below fO).r k hlt;(try dsimp only at e0 q0 q1 q2 q3)
 have hks:=HZ.rk _ (List.getElem_mem hlt);(try dsimp only at hks)
 have SK:Hid (∃pv:Bool,gQ RQ RR (reqs.take (k+1))=(RQ reqs[k]&&pv)/\((k=0/\pv=true)\/∃(j:Nat) (y:Int),k=j+1/\pv=decide (y < (reqs[k]).no)/\wr.cell? ⟨g,off+j*4,none⟩=some (.int .i64 y))):=by
  cases k with
  |zero=>
   refine⟨true,?_,.inl ⟨rfl,rfl⟩⟩
   rw [Bool.and_true]
   exact HDF hlt
  |succ j=>
   obtain⟨g',off',e2,_,p0,_⟩:=iU.four (HA.below fO).r j (show j < reqs.length by omega)
   (try dsimp only at e2 p0)
   rw [e0] at e2
   injection e2 with e2
   injection e2 with e2 e3
   subst e2 e3
   refine⟨_,?_,.inr ⟨j,_,rfl,rfl,p0⟩⟩
   have h:=ah HDN j hlt
   rw [ah mV] at h
   exact h
 subst e0;have lS:=Hq (K7 reqs[k]);generalize reqs[k]=sk at *;generalize RQ sk=OB at *;obtain⟨si,sx,sn,st⟩:=sk;dsimp only at q0 q1 q2 q3 hks SK lS;obtain⟨pv,hpv,hpk⟩:=ah SK;have gG:=Hq hpv;have KV:=Hq hpk;obtain⟨bb,hbb⟩:∃bb,(!(decide (old+1<=si/\si<=1000000000)&&keyOk sx.data.toList&&fD sn&&decide (0<=st/\st<=2)&&pv))=bb:=⟨_,rfl⟩;have eY:=Hq hbb;clear hpv hpk SK hbb HDF HDN HDB;go_upto_region 13 with fail;refine wp_at (λW1 hW1=>?_);have HW1:Hid (W1.heap[wr.heap.size]?=some (.cells (dX si sx sn st) 97 (0,0))):=Acd
 open aiF in exact aaI):P:=h
theorem amb.Kr108(h:P:=by
 obtain⟨c0,c1,c2,c3,c4,c5,c6,_⟩:=nine hblk;clear hall hbel hblk;by_cases hlt:k < seen.length
 case' neg=>
  have hke:k=seen.length:=Aaa
  subst hke
  have hnlt:decide ((seen.length:Int) < (seen.length:Int))=false:=Aac
  have HF:Hid (TT=true):=by
   exact Tk
  go_wp2_with fail
  go_ret
  exact⟨aD HF.symm,fO⟩
 have HBAD:Hid (gQ PP RR (seen.take (k+1))=false->TT=false):=λh=>lS.trans (vM _ h)
 obtain⟨g,off,b,c,e0,hgw,q0,q1,q2,hI⟩:=lu.below HS fO k hlt;have EX:(seen[k]).ids.length<=1048600:=ah QZ _ (List.getElem_mem hlt);have HI:=Hq hI;have Bj:=Hq EX;clear hI EX
 have SK:Hid (∃pv:Bool,gQ PP RR (seen.take (k+1))=((NN (seen[k]).f&&uh seen[k])&&pv)/\((k=0/\pv=true)\/∃(j:Nat) (y:Int),k=j+1/\pv=decide (y < (seen[k]).f)/\wr.cell? ⟨g,off+j*3,none⟩=some (.int .i64 y))):=by
  cases k with
  |zero=>
   refine⟨true,?_,.inl ⟨rfl,rfl⟩⟩
   have h:=ah Bd hlt
   rw [Bool.and_true]
   exact h
  |succ j=>
   obtain⟨g',off',_,_,e2,_,p0,_⟩:=lu.below HS fO j Aaa
   rw [e0] at e2
   injection e2 with e2
   injection e2 with e2 e3
   subst e2 e3
   refine⟨_,?_,.inr ⟨j,_,rfl,rfl,p0⟩⟩
   have h:=ah BX j hlt
   rw [ah mV] at h
   exact h
 subst e0;generalize hsk:seen[k]=sk at *;clear hsk;obtain⟨fr,lo,ids⟩:=sk;dsimp only at q0 q1 q2 HI Bj SK;obtain⟨pv,hpv,hpk⟩:=ah SK;have gG:=Hq hpv;have KV:=Hq hpk;obtain⟨bb,hbb⟩:∃bb,(!(NN fr&&pv&&fD lo&&decide (ids.length<=40)))=bb:=⟨_,rfl⟩;have eY:=Hq hbb;clear hpv hpk SK hbb Bd BX vM;go_upto_region 10 with fail;open apB in exact ada):P:=h
theorem amc.Kr108(h:P:=by
 obtain⟨c0,c1,c2,c3,c4,c5,c6,c7,c8⟩:=nine hblk;clear hall hbel hblk;by_cases hlt:k < out.length
 case' pos=>
  have HBAD:Hid (gQ OT RO (out.take (k+1))=false->TT=false):=λh=>by rw [ah HTT,ah vM _ h];rfl
  obtain⟨g,off,e0,hgw,q0,q1,q2,q3⟩:=SentAt.four (HA.below fO).o k hlt
  (try dsimp only at e0 q0 q1 q2 q3)
  have hks:=HZ.ok _ (List.getElem_mem hlt)
  (try dsimp only at hks)
  have SK:Hid (∃pv:Bool,gQ OT RO (out.take (k+1))=(OT out[k]&&pv)/\((k=0/\pv=true)\/∃(j:Nat) (y:Int),k=j+1/\pv=decide (y < (out[k]).i)/\wr.cell? ⟨g,off+j*4,none⟩=some (.int .i64 y))):=by
   cases k with
   |zero=>
    refine⟨true,?_,.inl ⟨rfl,rfl⟩⟩
    rw [Bool.and_true]
    exact Bd hlt
   |succ j=>
    obtain⟨g',off',e2,_,p0,_⟩:=SentAt.four (HA.below fO).o j (show j < out.length by omega)
    (try dsimp only at e2 p0)
    rw [e0] at e2
    injection e2 with e2
    injection e2 with e2 e3
    subst e2 e3
    refine⟨_,?_,.inr ⟨j,_,rfl,rfl,p0⟩⟩
    have h:=ah BX j hlt
    rw [ah mV] at h
    exact h
  subst e0
  have lS:=Hq (HOT out[k])
  generalize out[k]=sk at *
  generalize OT sk=OB at *
  obtain⟨si,st,sx,sn⟩:=sk
  dsimp only at q0 q1 q2 q3 hks SK lS
  obtain⟨pv,hpv,hpk⟩:=ah SK
  have gG:=Hq hpv
  have KV:=Hq hpk
  obtain⟨bb,hbb⟩:∃bb,(!(decide (1<=si/\si<=next - 1)&&NN st&&keyOk sx.data.toList&&fD sn&&pv))=bb:=⟨_,rfl⟩
  have eY:=Hq hbb
  clear hpv hpk SK hbb Bd BX vM
  go_upto_region 7 with fail
  refine wp_at (λW1 hW1=>?_)
  have HW1:Hid (W1.heap[wr.heap.size]?=some (.cells (eU si st sx sn) 95 (0,0))):=Acd
  have hbw:aX wr W1:=by rw [hW1];exact aj wr _
  have zl:=Hq (ay Ey hbw)
  have tN:=Hq (fO.trans (hbw.mono fO.size))
  have hgw1:=hbw.size
  have Bq:Hid ((k=0/\pv=true)\/∃(j:Nat) (y:Int),k=j+1/\pv=decide (y < si)/\W1.cell? ⟨g,off+j*4,none⟩=some (.int .i64 y)):=by
   exact adX
  clear hW1 hbw q0 q1 q2 q3 c0 c1 c2 c3 c4 c5 c6 c7 c8 KV Ey
  obtain⟨d0,d1,d2,d3⟩:=fQ HW1
  obtain⟨c0,c1,c2,c3,c4,c5,c6,c7,c8⟩:=nine zl
  have k0:=cell_grown' c0
  have k1:=cell_grown' c1
  have k2:=cell_grown' c2
  have k3:=cell_grown' c3
  have k4:=cell_grown' c4
  have k5:=cell_grown' c5
  have k6:=cell_grown' c6
  have k7:=cell_grown' c7
  have k8:=cell_grown' c8
  have m0:=cell_grown' d0
  have m1:=cell_grown' d1
  have m2:=cell_grown' d2
  have m3:=cell_grown' d3
  have en:IntKind.i64.wrap (next - 1)=next - 1:=IntWalk.i64_in _ ⟨Aaa,Aaa⟩
  go_cut [98] (λr wx=>r= .bool bb/\aX W1 wx)
  case first=>
   rcases Bq with⟨rfl,rfl⟩|⟨j,y,rfl,rfl,q1⟩
   .have hgt:decide ((0:Int) < ((0:Nat):Int))=false:=rfl;open auV in exact Yr8
   .have hgt:decide ((0:Int) < ((j+1:Nat):Int))=true:=decide_eq_true Aaa;have m9:=cell_grown' q1;open auU in exact Yr8
  case rest=>
   obtain⟨rfl,hbx⟩:=hcut;open anF in exact Rm
 open al2 in exact Rh):P:=h
end Go.Proofs.YtacgbldlonoaaaaGreatDoor
