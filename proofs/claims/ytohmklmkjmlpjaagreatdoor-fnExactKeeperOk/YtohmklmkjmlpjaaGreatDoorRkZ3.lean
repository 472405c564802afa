/-
  Parts of proofs that stand more than once, each said once.
-/
import Derived.Test.YtohmklmkjmlpjaaGreatDoorRkZ2
namespace Go.Proofs.YtohmklmkjmlpjaaGreatDoor
open Go.Proofs.Tryz
set_option maxRecDepth 100000
variable{P:Prop}
theorem aAF(h:P:=by
 have HN8:Hid (NQ Z8 B n (⟨a_k,(some ⟨gp,0,none⟩),dW,eH,gH,aK,bJ,aQ,aL,aU⟩:bV) G (newC w.heap.size 9 c)):=by rw [hZ];exact HN7.kc (k:=9) (KC.set (bq (Nat.le_refl _))) Aaa
 have Zh:Hid (Z8.ownsRow bs 108 4 (.slice av RL.length cv) RL.length (GR.flat gB RL)):=by rw [hZ];exact dM HP7 (aC.set _) (λy hy=>by have:y=w.heap.size:=Aas;omega)
 have J7:Hid (Below B w Z8):=by rw [hZ];exact Dx.setCell (p:=⟨w.heap.size,3,none⟩) hB _
 have HK8:Hid (Apart c w Z8):=by rw [hZ];exact HK7.keeps Dx.size (aC.set _) (λy hy=>by have:y=w.heap.size:=Aas;omega)
 clear hZ HK7 pE mP HN7 HP7 Dx HS7 c3n f3n hn7;exact Ae4):P:=h
theorem aqX.Ae4(h:P:=by
 obtain⟨a6,c6,W9,hrun,Jq,Xy,XG⟩:∃a6 c6 W9,(Builtin.append_ #[36,36] 36 #[.slice dW n.out.length aQ,.slice (some ⟨Z8.heap.size,0,none⟩) 1 1]).run prog (Z8.alloc (.cells (fA n.next dst key pf) 91))= .ok (.slice a6 (n.out.length+1) c6) W9/\W9.ownsRow B 91 4 (.slice a6 (n.out.length+1) c6) (n.out.length+1) (GR.flat aV (n.out++[⟨n.next,dst,key,pf⟩]))/\(Z8.alloc (.cells (fA n.next dst key pf) 91)).grownBy W9 (Value.slice dW n.out.length aQ).ownBlock/\∀x,(Value.slice a6 (n.out.length+1) c6).ownBlock=some x->(Value.slice dW n.out.length aQ).ownBlock=some x\/(Z8.alloc (.cells (fA n.next dst key pf) 91)).heap.size<=x:=by
  obtain⟨hi,hz0,hz1,hz2⟩:=ah HI;obtain⟨v',w',hr,ho,hg,hw⟩:=gJ (P:=prog) (Z8.alloc (.cells (fA n.next dst key pf) 91)) B 36 36 91 i0 (.agg (fA 0 0 ByteArray.empty 0)) 4 40 underlying36 hi hz0 hz1 hz2 rfl Aae (.slice dW n.out.length aQ) n.out.length (GR.flat aV n.out) (GR.own_below HN8.o (ay Z8 _)) ⟨Z8.heap.size,0,none⟩ 1 1 (aV ⟨n.next,dst,key,pf⟩) rfl (World.news_of_block (heap_alloc_new Z8 _)) (tK _) Aai Aaa (Nat.le_trans (Nat.le_trans hB J7.size) (ay Z8 _).size);obtain⟨a6,c6,hv6,_⟩:=GR.own_at (enc:=aV) (sz:=4) (l:=n.out++[⟨n.next,dst,key,pf⟩]) bQ (by rw [List.length_append,iW];exact ho);exact ai7
 have jM:=HN8.kc (k:=9) (KC.of_below (ay Z8 (.cells (fA n.next dst key pf) 91))) Aaa;have k9:KC (newC w.heap.size 9 c) 3 (Z8.alloc (.cells (fA n.next dst key pf) 91)) W9:=KC.grown Xy jM.co;have hn9:∀x,w.heap.size<=x->newC w.heap.size 9 c x≠3:=λx hx=>by rw [bq hx];omega
 have xJ:=Hq (k9.obj (au ru (ay Z8 (.cells (fA n.next dst key pf) 91))) (hn9 _ (Nat.le_refl _)));have kZ:=Hq (k9.obj (au yS (ay Z8 (.cells (fA n.next dst key pf) 91))) (hn9 _ Aaa));have R6:=Hq (k9.obj (au Z0 (ay Z8 (.cells (fA n.next dst key pf) 91))) (hn9 _ Aaa));have HB9:=Hq (k9.below (B:=B) (J7.trans ((ay Z8 (.cells (fA n.next dst key pf) 91)).mono (Nat.le_trans hB J7.size))) jM.lo Aaa (Nat.le_trans (Nat.le_trans hB J7.size) (ay Z8 _).size));have hZ8:w.heap.size+1 < Z8.heap.size:=aA yS
 have iG:Hid (∀W',(∃F,aC F W9 W'/\∀y∈F,(y=w.heap.size\/y=w.heap.size+1)\/(y < w.heap.size/\6 < c y))->RM W' ⟨a_k,av,a6,eH,gH,aK,cv,c6,aL,aU⟩ ⟨n.id,n.par,n.kids,n.next+1,RL,n.out++[⟨n.next,dst,key,pf⟩],n.seen,n.old,n.reqs⟩):=λW' hkF=>by
  obtain⟨F,hk,hF⟩:=hkF
  have kF:KC (newC w.heap.size 9 c) 9 W9 W':=KC.keeps hk (λy hy=>by
   rcases hF y hy with h1|h1
   .exact bq Aaa
   .rw [fq h1.1];exact H9 y h1.2)
  have hr:=(kF.own (k9.own jM.r jM.cr Aaa) jM.cr Aaa)
  have hp:=(dM (k9.own (j:=9) (GR.own_below Zh (ay Z8 _)) (λx hx=>bq (by have:=qb Zh hx;omega)) Aaa) hk (λy hy=>by
   have:=hF y hy
   omega))
  have ho:W'.ownsRow B 91 4 (.slice a6 (n.out++[(⟨n.next,dst,key,pf⟩:jw)]).length c6) (n.out++[(⟨n.next,dst,key,pf⟩:jw)]).length (GR.flat aV (n.out++[(⟨n.next,dst,key,pf⟩:jw)])):=(by
   rw [List.length_append]
   exact jd Jq (λx hx=>by
    have hx9:=vK Jq hx
    refine hk.block x hx9 (λhm=>?_)
    have hm':=hF x hm
    rcases XG x hx with h1|h1
    .exact ai0
    .have:=(ay Z8 (.cells (fA n.next dst key pf) 91)).size
     omega))
  have hp9:∀g,av.map (λy=>y.block)=some g->6 < newC w.heap.size 9 c g:=λg hg=>by
   have h1:=qb hp (nR hp hg)
   rw [bq Aaa]
   omega
  have ho9:∀x,(Value.slice a6 (n.out++[(⟨n.next,dst,key,pf⟩:jw)]).length c6).ownBlock=some x->(Value.slice dW n.out.length aQ).ownBlock=some x\/(Z8.alloc (.cells (fA n.next dst key pf) 91)).heap.size<=x:=λx hx=>by
   rw [List.length_append] at hx
   exact XG x hx
  have hz9:(Z8.alloc (.cells (fA n.next dst key pf) 91)).heap.size=Z8.heap.size+1:=Aac
  exact RM.of (n:=⟨n.id,n.par,n.kids,n.next+1,RL,n.out++[⟨n.next,dst,key,pf⟩],n.seen,n.old,n.reqs⟩) (A:=⟨a_k,av,a6,eH,gH,aK,cv,c6,aL,aU⟩) (c:=newC w.heap.size 9 c) (kF.w (k9.w jM.k jM.ck Aaa) jM.ck Aaa) jM.ck (kF.seenQ (k9.seenQ jM.sq jM.c4 jM.ci Aaa Aaa) jM.c4 jM.ci Aaa Aaa) jM.c4 jM.ci jM.ni
   (GR.own_ati aZ hp) (λg hg _=> .inr (hp9 g hg)) ho (λx hx=>by
    rcases ho9 x hx with h1|h1
    .exact .inl (jM.co x h1)
    .refine .inr ?_;rw [bq Aaa]
     omega) hr (λx hx=> .inl (jM.cr x hx))
   (λg hg _ h6=>⟨λe=>by
    rcases ho9 g e with h1|h1
    .have:=jM.co g h1;omega
    .have h2:=vK Zh (nR Zh hg)
     omega,λe=>by have:=jM.cr g e;omega⟩) (λx hx h6 e=>by have:=jM.cr x e;omega)
 have HK9:=Hq ((HK8.step J7.size (ay Z8 (.cells (fA n.next dst key pf) 91))).grown (Nat.le_trans J7.size (ay Z8 _).size) Xy (λx hx hlt=>by
  have h1:=jM.co x hx
  rw [fq hlt] at h1
  omega))
 open aqt in exact aAD):P:=h
theorem aqY.Ae4(h:P:=by
 obtain⟨a6,c6,W9,hrun,Jq,Xy,XG⟩:∃a6 c6 W9,(Builtin.append_ #[36,36] 36 #[.slice dW n.out.length aQ,.slice (some ⟨Z8.heap.size,0,none⟩) 1 1]).run prog (Z8.alloc (.cells (fA n.next dst key most) 91))= .ok (.slice a6 (n.out.length+1) c6) W9/\W9.ownsRow B 91 4 (.slice a6 (n.out.length+1) c6) (n.out.length+1) (GR.flat aV (n.out++[⟨n.next,dst,key,most⟩]))/\(Z8.alloc (.cells (fA n.next dst key most) 91)).grownBy W9 (Value.slice dW n.out.length aQ).ownBlock/\∀x,(Value.slice a6 (n.out.length+1) c6).ownBlock=some x->(Value.slice dW n.out.length aQ).ownBlock=some x\/(Z8.alloc (.cells (fA n.next dst key most) 91)).heap.size<=x:=by
  obtain⟨hi,hz0,hz1,hz2⟩:=ah HI;obtain⟨v',w',hr,ho,hg,hw⟩:=gJ (P:=prog) (Z8.alloc (.cells (fA n.next dst key most) 91)) B 36 36 91 i0 (.agg (fA 0 0 ByteArray.empty 0)) 4 40 underlying36 hi hz0 hz1 hz2 rfl Aae (.slice dW n.out.length aQ) n.out.length (GR.flat aV n.out) (GR.own_below HN8.o (ay Z8 _)) ⟨Z8.heap.size,0,none⟩ 1 1 (aV ⟨n.next,dst,key,most⟩) rfl (World.news_of_block (heap_alloc_new Z8 _)) (tK _) Aai Aaa (Nat.le_trans (Nat.le_trans hB J7.size) (ay Z8 _).size);obtain⟨a6,c6,hv6,_⟩:=GR.own_at (enc:=aV) (sz:=4) (l:=n.out++[⟨n.next,dst,key,most⟩]) bQ (by rw [List.length_append,iW];exact ho);exact ai7
 have jM:=HN8.kc (k:=9) (KC.of_below (ay Z8 (.cells (fA n.next dst key most) 91))) Aaa;have k9:KC (newC w.heap.size 9 c) 3 (Z8.alloc (.cells (fA n.next dst key most) 91)) W9:=KC.grown Xy jM.co;have hn9:∀x,w.heap.size<=x->newC w.heap.size 9 c x≠3:=λx hx=>by rw [bq hx];omega
 have xJ:=Hq (k9.obj (au ru (ay Z8 (.cells (fA n.next dst key most) 91))) (hn9 _ (Nat.le_refl _)));have kZ:=Hq (k9.obj (au yS (ay Z8 (.cells (fA n.next dst key most) 91))) (hn9 _ Aaa));have R6:=Hq (k9.obj (au Z0 (ay Z8 (.cells (fA n.next dst key most) 91))) (hn9 _ Aaa));have HB9:=Hq (k9.below (B:=B) (J7.trans ((ay Z8 (.cells (fA n.next dst key most) 91)).mono (Nat.le_trans hB J7.size))) jM.lo Aaa (Nat.le_trans (Nat.le_trans hB J7.size) (ay Z8 _).size));have hZ8:w.heap.size+1 < Z8.heap.size:=aA yS
 have iG:Hid (∀W',(∃F,aC F W9 W'/\∀y∈F,(y=w.heap.size\/y=w.heap.size+1)\/(y < w.heap.size/\6 < c y))->RM W' ⟨a_k,av,a6,eH,gH,aK,cv,c6,aL,aU⟩ ⟨n.id,n.par,n.kids,n.next+1,RL,n.out++[⟨n.next,dst,key,most⟩],n.seen,n.old,n.reqs⟩):=λW' hkF=>by
  obtain⟨F,hk,hF⟩:=hkF
  have kF:KC (newC w.heap.size 9 c) 9 W9 W':=KC.keeps hk (λy hy=>by
   rcases hF y hy with h1|h1
   .exact bq Aaa
   .rw [fq h1.1];exact H9 y h1.2)
  have hr:=(kF.own (k9.own jM.r jM.cr Aaa) jM.cr Aaa)
  have hp:=(dM (k9.own (j:=9) (GR.own_below Zh (ay Z8 _)) (λx hx=>bq (by have:=qb Zh hx;omega)) Aaa) hk (λy hy=>by
   have:=hF y hy
   omega))
  have ho:W'.ownsRow B 91 4 (.slice a6 (n.out++[(⟨n.next,dst,key,most⟩:jw)]).length c6) (n.out++[(⟨n.next,dst,key,most⟩:jw)]).length (GR.flat aV (n.out++[(⟨n.next,dst,key,most⟩:jw)])):=(by
   rw [List.length_append]
   exact jd Jq (λx hx=>by
    have hx9:=vK Jq hx
    refine hk.block x hx9 (λhm=>?_)
    have hm':=hF x hm
    rcases XG x hx with h1|h1
    .exact ai0
    .have:=(ay Z8 (.cells (fA n.next dst key most) 91)).size
     omega))
  have hp9:∀g,av.map (λy=>y.block)=some g->6 < newC w.heap.size 9 c g:=λg hg=>by
   have h1:=qb hp (nR hp hg)
   rw [bq Aaa]
   omega
  have ho9:∀x,(Value.slice a6 (n.out++[(⟨n.next,dst,key,most⟩:jw)]).length c6).ownBlock=some x->(Value.slice dW n.out.length aQ).ownBlock=some x\/(Z8.alloc (.cells (fA n.next dst key most) 91)).heap.size<=x:=λx hx=>by
   rw [List.length_append] at hx
   exact XG x hx
  have hz9:(Z8.alloc (.cells (fA n.next dst key most) 91)).heap.size=Z8.heap.size+1:=Aac
  exact RM.of (n:=⟨n.id,n.par,n.kids,n.next+1,RL,n.out++[⟨n.next,dst,key,most⟩],n.seen,n.old,n.reqs⟩) (A:=⟨a_k,av,a6,eH,gH,aK,cv,c6,aL,aU⟩) (c:=newC w.heap.size 9 c) (kF.w (k9.w jM.k jM.ck Aaa) jM.ck Aaa) jM.ck (kF.seenQ (k9.seenQ jM.sq jM.c4 jM.ci Aaa Aaa) jM.c4 jM.ci Aaa Aaa) jM.c4 jM.ci jM.ni
   (GR.own_ati aZ hp) (λg hg _=> .inr (hp9 g hg)) ho (λx hx=>by
    rcases ho9 x hx with h1|h1
    .exact .inl (jM.co x h1)
    .refine .inr ?_;rw [bq Aaa]
     omega) hr (λx hx=> .inl (jM.cr x hx))
   (λg hg _ h6=>⟨λe=>by
    rcases ho9 g e with h1|h1
    .have:=jM.co g h1;omega
    .have h2:=vK Zh (nR Zh hg)
     omega,λe=>by have:=jM.cr g e;omega⟩) (λx hx h6 e=>by have:=jM.cr x e;omega)
 have HK9:=Hq ((HK8.step J7.size (ay Z8 (.cells (fA n.next dst key most) 91))).grown (Nat.le_trans J7.size (ay Z8 _).size) Xy (λx hx hlt=>by
  have h1:=jM.co x hx
  rw [fq hlt] at h1
  omega))
 open aqu in exact aAD):P:=h
theorem akN(h:P:=by
 clear iG HBM;go_wp2_with fail;refine wp_region_quiet_lit Aab Aab ?_;repeat (first|go_big_quiet_step ((first|(go_at_call 18;exact qIn _ _ _ _ h1 _ _)))|quiet_step ((first|(go_at_call 18;exact qIn _ _ _ _ h1 _ _))))
 refine wpQuiet_nil ?_;intro _ hw';obtain⟨nq,hw''⟩:=hw';subst hw'';go_wp2_with fail;exact AcX):P:=h
theorem aqZ.AcX(h:P:=by
 go_roundw
 case rel=>exact⟨j+1+1,Aaa,Aah,HV,jP.trans ⟨rfl,rfl,rfl,Nat.le_refl _,λ_ _=>rfl⟩⟩
 case measure=>simp[intOf];omega):P:=h
theorem ara.AcX(h:P:=by
 go_roundw
 case rel=>exact⟨0+1,Aaa,Aah,HV,jP.trans ⟨rfl,rfl,rfl,Nat.le_refl _,λ_ _=>rfl⟩⟩
 case measure=>simp[intOf];omega):P:=h
theorem arb.AcX(h:P:=by
 go_ret;exact⟨aF HV.symm,HL9.trans ⟨rfl,rfl,rfl,Nat.le_refl _,λ_ _=>rfl⟩⟩):P:=h
theorem aAG(h:P:=by
 go_in
 go_upto_region 1 with fail;refine Fo.wp_at (λV hV=>?_);have hbV:aI w V:=by rw [hV];exact dU w _
 have hblk:V.heap[w.heap.size]?=some (.cells #[.int .i64 dm,.int .i64 df,.int .i64 ds] 258 (0,0)):=by rw [hV];exact heap_alloc_new w _
 have hlt:=Fo.lt_of_blk hblk;have c0:V.cell? ⟨w.heap.size,0,none⟩=some (.int .i64 dm):=by rw [cell_of_row V _ _ _ _ (0,0) hblk];rfl
 have c1:V.cell? ⟨w.heap.size,1,none⟩=some (.int .i64 df):=by rw [cell_of_row V _ _ _ _ (0,0) hblk];rfl
 have c2:V.cell? ⟨w.heap.size,2,none⟩=some (.int .i64 ds):=by rw [cell_of_row V _ _ _ _ (0,0) hblk];rfl
 have vW:=Hq hbV;clear hblk hV hbV;exact Afk):P:=h
theorem ard.Afk(h:P:=by
 go_cut [9,10] (λp9 nX wx=>∃pb:Nat,p9= .pointer (some ⟨pb,0,none⟩)/\nX= .nilIface/\aI w wx/\wx.heap[pb]?=some (.cells (iZ pk qm qf qs) 108 (0,0))/\w.heap.size<=pb)
 case first=>
  have hnV:w.heap.size≠V.heap.size:=Aaa
  have hmV:V.heap.size≠w.heap.size:=Aaa
  go_region_held (λw'=>w'.cell? ⟨w.heap.size,0,none⟩=some (.int .i64 dm)/\w'.cell? ⟨w.heap.size,1,none⟩=some (.int .i64 df)/\w'.cell? ⟨w.heap.size,2,none⟩=some (.int .i64 ds)) (go_keep)
   (first
    |((go_at_call 302);(refine(Nu _ (by exact vW.trans (by exact⟨rfl,rfl,rfl,Aac,λk hk=>by first|rfl|exact Below.heap_alloc _ _ _ Aaa⟩))).mono ?_);(rintro e w4 ⟨rfl,hb4⟩);(have hs4:=hb4.size);(simp at hs4);(have nK:=Hq (vW.trans (Below.trans (b:=_) (by exact⟨rfl,rfl,rfl,Aac,λk hk=>by first|rfl|exact Below.heap_alloc _ _ _ Aaa⟩) (hb4.mono (by first|omega|(simp<;>omega))))));(obtain⟨hc4,hf4⟩:=Cg hb4);(have d0:w4.cell? ⟨w.heap.size,0,none⟩=some (.int .i64 dm):=by rw [hc4 _ _ (by first|omega|(simp<;>omega))];first|exact c0|exact(World.cell?_alloc_lt _ _ _ hlt).trans c0);(have d1:w4.cell? ⟨w.heap.size,1,none⟩=some (.int .i64 df):=by rw [hc4 _ _ (by first|omega|(simp<;>omega))];first|exact c1|exact(World.cell?_alloc_lt _ _ _ hlt).trans c1);(have d2:w4.cell? ⟨w.heap.size,2,none⟩=some (.int .i64 ds):=by rw [hc4 _ _ (by first|omega|(simp<;>omega))];first|exact c2|exact(World.cell?_alloc_lt _ _ _ hlt).trans c2);(first|(guard_hyp hs4:V.heap.size+1<=w4.heap.size;obtain⟨⟨z0,z1,z2,z3⟩,x0,x1,x2,x3⟩:=gD (Fo.one_block (show Below (V.alloc (.cells (iZ ⟨#[]⟩ 0 0 0) 108)).heap.size (V.alloc (.cells (iZ ⟨#[]⟩ 0 0 0) 108)) w4 from⟨hb4.os,hb4.tape,hb4.output,hb4.size,hb4.block⟩)).1;have xW:V.heap.size < w4.heap.size:=World.block_lt_of_cell? _ _ z0;have HZ:=Hq (Fo.one_block (show Below (V.alloc (.cells (iZ ⟨#[]⟩ 0 0 0) 108)).heap.size (V.alloc (.cells (iZ ⟨#[]⟩ 0 0 0) 108)) w4 from⟨hb4.os,hb4.tape,hb4.output,hb4.size,hb4.block⟩)).1)|skip);(have Tk:w.heap.size < w4.heap.size:=by omega);(have hn4:w.heap.size≠w4.heap.size:=by omega);(have hm4:w4.heap.size≠w.heap.size:=by omega);(clear hb4 hc4 hf4))
    |((go_at_call 303);(refine(HSH _ (by exact nK.trans (by exact⟨rfl,rfl,rfl,Aac,λk hk=>by first|rfl|exact Below.heap_alloc _ _ _ Aaa⟩))).mono ?_);(rintro e w5 ⟨rfl,hb5⟩);(have hs5:=hb5.size);(try simp at hs5);(have gY:=Hq (nK.trans (Below.trans (b:=_) (by exact⟨rfl,rfl,rfl,Aac,λk hk=>by first|rfl|exact Below.heap_alloc _ _ _ Aaa⟩) (hb5.mono (by first|omega|(simp<;>omega))))));(obtain⟨EH,Xx⟩:=Cg hb5);(have e0:w5.cell? ⟨w.heap.size,0,none⟩=some (.int .i64 dm):=by rw [EH _ _ (by first|omega|(simp<;>omega))];first|exact d0|exact(World.cell?_alloc_lt _ _ _ Tk).trans d0);(have e1:w5.cell? ⟨w.heap.size,1,none⟩=some (.int .i64 df):=by rw [EH _ _ (by first|omega|(simp<;>omega))];first|exact d1|exact(World.cell?_alloc_lt _ _ _ Tk).trans d1);(have e2:w5.cell? ⟨w.heap.size,2,none⟩=some (.int .i64 ds):=by rw [EH _ _ (by first|omega|(simp<;>omega))];first|exact d2|exact(World.cell?_alloc_lt _ _ _ Tk).trans d2);(first|(guard_hyp xW:V.heap.size < w4.heap.size;have HY:=Hq ((hb5.block _ xW).trans HZ);have y0:=(EH _ 0 xW).trans z0;have y1:=(EH _ 1 xW).trans z1;have y2:=(EH _ 2 xW).trans z2;have y3:=(EH _ 3 xW).trans z3;have v0:=(Xx _ 0 xW).trans x0;have v1:=(Xx _ 1 xW).trans x1;have v2:=(Xx _ 2 xW).trans x2;have v3:=(Xx _ 3 xW).trans x3)|(guard_hyp hs5:w4.heap.size+1<=w5.heap.size;have HY:=Hq (Fo.one_block hb5).1;obtain⟨⟨y0,y1,y2,y3⟩,v0,v1,v2,v3⟩:=gD (Fo.one_block hb5).1)|skip);(have aFR:w.heap.size < w5.heap.size:=by omega);(have hn5:w.heap.size≠w5.heap.size:=by omega);(have hm5:w5.heap.size≠w.heap.size:=by omega);(clear hb5 EH Xx)))
  all_goals
   go_wp2_with fail
   go_meet
   case rel=>
    first
     |exact⟨_,rfl,rfl,Fo.four_below gY Aaa,Fo.four_set HY,Aaa⟩
     |exact⟨_,rfl,rfl,gY.alloc gY.size _,heap_alloc_new w5 _,Aaa⟩
 case rest=>
  obtain⟨pb,rfl,rfl,hbx,hpb,hge⟩:=hcut;obtain⟨⟨p0,p1,p2,p3⟩,_⟩:=gD hpb;have amw:=Hq (adN _ hbx);have jP:=Hq hbx;have Ki:=Hq hpb;have aFT:=Fo.lt_of_blk hpb
  have HNE:=Hq (show pb≠mp/\v.ownBlock≠some pb from⟨λe=>by
   have:=(Zi _ hbx).blk
   rw [<-e,hpb] at this
   injection this with this
   injection this with h1 h2 h3
   exact absurd h2 Aae,own_ne (Zi _ hbx).row hpb Aae⟩)
  clear hbx hpb adN Nu HSH vW c0 c1 c2 hlt;go_wp2_with fail;refine amw.mono ?_;rintro e w6 ⟨hb6,aCn,hcase⟩;have wL:=Hq (Below.trans (jP.mono hB) hb6);have alG:=(aCn pb aFT HNE.1 HNE.2).trans Ki;clear aCn hb6 p0 p1 p2 p3 amw;rcases hcase with⟨hf,rfl,Cj⟩|⟨hf,h20,rfl⟩|⟨hf,h20,rfl,v',Cj⟩
  .rw [ah tq hf] at Cj;open asI in exact agj
  .have HF:=Hq hf;have H20:=Hq h20;clear hf h20 alG;go_wp2_with fail;go_ret;exact⟨wL,.inl ⟨HF,H20,rfl⟩⟩
  .rw [ah HKN hf] at Cj;open asH in exact agj):P:=h
theorem arf.Afk(h:P:=by
 have hnV:w.heap.size≠V.heap.size:=Aaa
 have hmV:V.heap.size≠w.heap.size:=Aaa
 go_region_held (λw'=>w'.cell? ⟨w.heap.size,0,none⟩=some (.int .i64 dm)/\w'.cell? ⟨w.heap.size,1,none⟩=some (.int .i64 df)/\w'.cell? ⟨w.heap.size,2,none⟩=some (.int .i64 ds)) (go_keep)
  (first
   |((go_at_call 302);(refine(Nu _ (by exact vW.trans (by exact⟨rfl,rfl,rfl,Aac,λk hk=>by first|rfl|exact Below.heap_alloc _ _ _ Aaa⟩))).mono ?_);(rintro e w4 ⟨rfl,hb4⟩);(have hs4:=hb4.size);(simp at hs4);(have nK:=Hq (vW.trans (Below.trans (b:=_) (by exact⟨rfl,rfl,rfl,Aac,λk hk=>by first|rfl|exact Below.heap_alloc _ _ _ Aaa⟩) (hb4.mono (by first|omega|(simp<;>omega))))));(obtain⟨hc4,hf4⟩:=Cg hb4);(have d0:w4.cell? ⟨w.heap.size,0,none⟩=some (.int .i64 dm):=by rw [hc4 _ _ (by first|omega|(simp<;>omega))];first|exact c0|exact(World.cell?_alloc_lt _ _ _ hlt).trans c0);(have d1:w4.cell? ⟨w.heap.size,1,none⟩=some (.int .i64 df):=by rw [hc4 _ _ (by first|omega|(simp<;>omega))];first|exact c1|exact(World.cell?_alloc_lt _ _ _ hlt).trans c1);(have d2:w4.cell? ⟨w.heap.size,2,none⟩=some (.int .i64 ds):=by rw [hc4 _ _ (by first|omega|(simp<;>omega))];first|exact c2|exact(World.cell?_alloc_lt _ _ _ hlt).trans c2);(first|(guard_hyp hs4:V.heap.size+1<=w4.heap.size;obtain⟨⟨z0,z1,z2,z3⟩,x0,x1,x2,x3⟩:=gD (Fo.one_block (show Below (V.alloc (.cells (iZ ⟨#[]⟩ 0 0 0) 108)).heap.size (V.alloc (.cells (iZ ⟨#[]⟩ 0 0 0) 108)) w4 from⟨hb4.os,hb4.tape,hb4.output,hb4.size,hb4.block⟩)).1;have xW:V.heap.size < w4.heap.size:=World.block_lt_of_cell? _ _ z0)|skip);(have Tk:w.heap.size < w4.heap.size:=by omega);(have hn4:w.heap.size≠w4.heap.size:=by omega);(have hm4:w4.heap.size≠w.heap.size:=by omega);(clear hb4 hc4 hf4))
   |((go_at_call 303);(refine(HSH _ (by exact nK.trans (by exact⟨rfl,rfl,rfl,Aac,λk hk=>by first|rfl|exact Below.heap_alloc _ _ _ Aaa⟩))).mono ?_);(rintro e w5 ⟨ix,hix,rfl,hb5⟩);(have hs5:=hb5.size);(try simp at hs5);(have gY:=Hq (nK.trans (Below.trans (b:=_) (by exact⟨rfl,rfl,rfl,Aac,λk hk=>by first|rfl|exact Below.heap_alloc _ _ _ Aaa⟩) (hb5.mono (by first|omega|(simp<;>omega))))));(obtain⟨EH,Xx⟩:=Cg hb5);(have e0:w5.cell? ⟨w.heap.size,0,none⟩=some (.int .i64 dm):=by rw [EH _ _ (by first|omega|(simp<;>omega))];first|exact d0|exact(World.cell?_alloc_lt _ _ _ Tk).trans d0);(have e1:w5.cell? ⟨w.heap.size,1,none⟩=some (.int .i64 df):=by rw [EH _ _ (by first|omega|(simp<;>omega))];first|exact d1|exact(World.cell?_alloc_lt _ _ _ Tk).trans d1);(have e2:w5.cell? ⟨w.heap.size,2,none⟩=some (.int .i64 ds):=by rw [EH _ _ (by first|omega|(simp<;>omega))];first|exact d2|exact(World.cell?_alloc_lt _ _ _ Tk).trans d2);(first|(guard_hyp xW:V.heap.size < w4.heap.size;have y0:=(EH _ 0 xW).trans z0;have y1:=(EH _ 1 xW).trans z1;have y2:=(EH _ 2 xW).trans z2;have y3:=(EH _ 3 xW).trans z3;have v0:=(Xx _ 0 xW).trans x0;have v1:=(Xx _ 1 xW).trans x1;have v2:=(Xx _ 2 xW).trans x2;have v3:=(Xx _ 3 xW).trans x3)|(guard_hyp hs5:w4.heap.size+1<=w5.heap.size;obtain⟨⟨y0,y1,y2,y3⟩,v0,v1,v2,v3⟩:=gD (Fo.one_block hb5).1)|skip);(have aFR:w.heap.size < w5.heap.size:=by omega);(have hn5:w.heap.size≠w5.heap.size:=by omega);(have hm5:w5.heap.size≠w.heap.size:=by omega);(clear hb5 EH Xx)))
 all_goals
  go_wp2_with fail
  go_ret
  refine⟨ix,hix,rfl,?_⟩
  first|exact gY.alloc gY.size _|exact Fo.four_below gY Aaa):P:=h
theorem akO(h:P:=by
 refine wp_region_quiet_below Aab Aab ?_;repeat (first|go_big_quiet_step (first|exact cO _ _|exact cM _ _)|quiet_step (first|exact cO _ _|exact cM _ _))
 refine wpQuiet_nil ?_;intro _ hw';obtain⟨⟨dq,osq⟩,hw''⟩:=hw';subst hw'';have fO:=Hq (vW.trans ((below_regrown _ dq osq).mono vW.size));clear cO cM y0 y1 y2 y3 y4 y5 y6;exact AcG):P:=h
theorem arh.AcG(h:P:=by
 exact Kk6):P:=h
theorem ari.AcG(h:P:=by
 exact AaM):P:=h
theorem arj.AcG(h:P:=by
 go_wp2_with fail;exact bodyPost_ret (v:= .tuple #[wB ⟨1,F,T,I,L,k,N⟩,.bool true]) Aax rfl ⟨Aaw,fO⟩):P:=h
theorem aAH(h:P:=by
 rw [<-hW] at e1 e2 e3 e4;have HN:=Hq e1;have HM:=Hq e2;have HR:=Hq e3;have HB0:=Hq e4;have Nh:=Hq (lI.kc (k:=9) (KC.of_below e4) Aaa);clear hW e1 e2 e3 e4 lI;obtain⟨m0,m1,m2,m3,m4,m5,m6⟩:=jG HM;have hml:=aA HM;have hnl:=aA HN;go_wp2_with fail;refine(ZJ W0).mono ?_;rintro e W1 ⟨rfl,hb1⟩;have kK:=Hq (au HN hb1);have Nz:=Hq (au HM hb1);have pJ:=Hq (au HR hb1);have HB1:=Hq (HB0.trans (hb1.mono HB0.size));have yO:=Hq (Nh.kc (k:=9) (KC.of_below hb1) Aaa);clear hb1 HM HR HN HB0 Nh;clear m0 m1 m2 m3 m4 m5 m6 hml hnl ZJ;obtain⟨m0,m1,m2,m3,m4,m5,m6⟩:=jG Nz;exact AeT):P:=h
theorem ark.AeT(h:P:=by
 have hml:=aA Nz;have uP:=Hq (au pJ (ay W1 (.cells #[] 98)));have Ni:=Hq (yO.kc (k:=9) (KC.of_below (ay W1 (.cells #[] 98))) Aaa);have uT:=Hq (HB1.trans ((ay W1 (.cells #[] 98)).mono HB1.size));obtain⟨c0,c1,c2,c3,c4,c5,c6,c7,c8⟩:=nine kK;open aoN in exact WW):P:=h
theorem arl.AeT(h:P:=by
 obtain⟨c0,c1,c2,c3,c4,c5,c6,c7,c8⟩:=nine kK;have hml:=aA Nz;have hnl:=aA kK;go_wp2_with fail;refine(Ro W1 yO.at.k).mono ?_;rintro e W2 ⟨rfl,hb2⟩;have jQ:=Hq (au kK hb2);have yN:=Hq (au Nz hb2);have jC:=Hq (au pJ hb2);have HB2:=Hq (HB1.trans (hb2.mono HB1.size));have Ke:=Hq (yO.kc (k:=9) (KC.of_below hb2) Aaa);clear hb2 Nz pJ kK HB1 yO;clear m0 m1 m2 m3 m4 m5 m6 c0 c1 c2 c3 c4 c5 c6 c7 c8 hml hnl Ro;obtain⟨m0,m1,m2,m3,m4,m5,m6⟩:=jG yN;exact Kk3):P:=h
theorem aew(h:P:=by
 refine vV 3 Aab ?_;show jI _ _ _ _ _ 5 (Array.replicate 5 false) _ _
 refine tk [0] ?_;(refine tkF (λK hK=>?_);go_simp;refine hK _ ?_;clear hK K)
 refine jK ?_;clear y0 y1 y2 y3 y4 y5 y6 y7 y8;exact AbM):P:=h
theorem arn.AbM(h:P:=by
 refine jq 1 rfl rfl Aab Aad Aad Aae (λx hx=>?_) (λx hx=>?_)
 .go_simp;refine⟨Below.refl _ _,?_⟩;refine jq 2 rfl rfl Aab Aad Aad Aae (λx2 hx2=>?_) (λx2 hx2=>?_)
  .have Ry:=(gG (au Kj (Ge.trans hx hx2))).2.2.2;open auY in exact Vi
  .have hg3:=Ge.trans hx hx2;have Ry:=(gG (au Kj hg3)).2.2.2;have vY:=Hq (au kZ hg3);open aEb in exact Zl
 .have Ry:=(gG (au Kj hx)).2.2.2;have vY:=Hq (au kZ hx);open aEa in exact Zl):P:=h
theorem aro.AbM(h:P:=by
 refine jq 1 rfl rfl Aab Aad Aad Aae (λx hx=>?_) (λx hx=>?_)
 .go_simp;refine⟨Below.refl _ _,?_⟩;refine jq 2 rfl rfl Aab Aad Aad Aae (λx2 hx2=>?_) (λx2 hx2=>?_)
  .have Ry:=(gG (au C9 (Ge.trans hx hx2))).2.2.2;open auX in exact Vi
  .have hg3:=Ge.trans hx hx2;have Ry:=(gG (au C9 hg3)).2.2.2;have vY:=Hq (au jD hg3);open aD8 in exact Zl
 .have Ry:=(gG (au C9 hx)).2.2.2;have vY:=Hq (au jD hx);open aD7 in exact Zl):P:=h
theorem arp.AbM(h:P:=by
 refine jq 1 rfl rfl Aab Aad Aad Aae (λx hx=>?_) (λx hx=>?_)
 .go_simp;refine⟨Below.refl _ _,?_⟩;refine jq 2 rfl rfl Aab Aad Aad Aae (λx2 hx2=>?_) (λx2 hx2=>?_)
  .have Ry:=(gG (au Kj (Ge.trans hx hx2))).2.2.2;open auW in exact Vi
  .have hg3:=Ge.trans hx hx2;have Ry:=(gG (au Kj hg3)).2.2.2;have vY:=Hq (au kZ hg3);open aEh in exact Zl
 .have Ry:=(gG (au Kj hx)).2.2.2;have vY:=Hq (au kZ hx);open aEg in exact Zl):P:=h
theorem arq.AbM(h:P:=by
 refine jq 1 rfl rfl Aab Aad Aad Aae (λx hx=>?_) (λx hx=>?_)
 .go_simp;refine⟨Below.refl _ _,?_⟩;refine jq 2 rfl rfl Aab Aad Aad Aae (λx2 hx2=>?_) (λx2 hx2=>?_)
  .have Ry:=(gG (au C9 (Ge.trans hx hx2))).2.2.2;open auV in exact Vi
  .have hg3:=Ge.trans hx hx2;have Ry:=(gG (au C9 hg3)).2.2.2;have vY:=Hq (au jD hg3);open aEe in exact Zl
 .have Ry:=(gG (au C9 hx)).2.2.2;have vY:=Hq (au jD hx);open aEd in exact Zl):P:=h
theorem aAI(h:P:=by
 cases h1:NN fr
 case' false=>
  have cN:=ah Ro fr false W1 HKI h1
  have HV:=Hq (show bb=true by rw [<-ah eZ];simp[h1])
  clear eZ
  refine wp_region_quiet_below Aab Aab ?_
  repeat (first|go_big_quiet_step ((first|(go_at_call 51;exact cN _ _)|(go_at_call 49;exact cS _ _)))|quiet_step ((first|(go_at_call 51;exact cN _ _)|(go_at_call 49;exact cS _ _))))
  refine wpQuiet_nil ?_
  intro _ hw'
  obtain⟨⟨dq,osq⟩,hw''⟩:=hw'
  subst hw''
  go_wp2_with fail
  go_meet
  case rel=>exact xQ
 have cN:=ah Ro fr true W1 HKI h1;exact Afm):P:=h
theorem ars.Afm(h:P:=by
 by_cases h2:y < fr
 case' neg=>
  have hy:decide (fr<=y)=true:=decide_eq_true Aaa
  have HV:=Hq (show bb=true by rw [<-ah eZ];simp[h2])
  clear eZ
  refine wp_region_quiet_below Aab Aab ?_
  repeat (first|go_big_quiet_step ((first|(go_at_call 51;exact cN _ _)|(go_at_call 49;exact cS _ _)))|quiet_step ((first|(go_at_call 51;exact cN _ _)|(go_at_call 49;exact cS _ _))))
  refine wpQuiet_nil ?_
  intro _ hw'
  obtain⟨⟨dq,osq⟩,hw''⟩:=hw'
  subst hw''
  go_wp2_with fail
  go_meet
  case rel=>exact xQ
 have hy:decide (fr<=y)=false:=decide_eq_false Aaa;open an4 in exact aAo):P:=h
theorem aru.Afm(h:P:=by
 open an5 in exact aAo):P:=h
theorem aAJ(h:P:=by
 rw [<-hW] at e1 e2 e3 e4;have ad4:=Hq e1;have adV:=Hq e2;have am1:=Hq e3;have HB0:=Hq e4;have adZ:=Hq (lI.kc (k:=9) (KC.of_below e4) Aaa);clear hW e1 e2 e3 e4;obtain⟨bi,ci,eA,hgs0,⟨t0,t1,t2⟩,_,hWi⟩:=iL.three adZ.s i hi;rw [hs0] at t0 t1 t2 hWi;rw [hfi] at t0;have aHf:G.s < w.heap.size:=acV HGS Aaa;have HWI:=Hq hWi;have HT:=Hq (And.intro t0 (And.intro t1 t2));clear hWi t0 t1 t2;dsimp only at eA;subst eA;obtain⟨c0,c1,c2,c3,c4,c5,c6,c7,c8⟩:=nine ad4;obtain⟨m0,m1,m2,m3,m4,m5,m6⟩:=jG adV;have hnl:=aA ad4;have hml:=aA adV;go_upto_block 0 with fail;exact AeI):P:=h
theorem arv.AeI(h:P:=by
 go_cut [7] from 15 (λj wx=>j= .int .i64 (i:Nat)/\Ge W0 wx)
 case first=>
  exact akX
 case rest=>
  open anh in exact akG):P:=h
theorem arw.AeI(h:P:=by
 exact Aef):P:=h
theorem aex(h:P:=by
 open asM in exact Va):P:=h
theorem arx.Ab6(h:P:=by
 refine aP 9 rfl Aab Aab Aab (λ_ _ _ _ h=>h) (λK hK=>?_);open aqv in exact aev):P:=h
theorem arz.Ab6(h:P:=by
 refine aP 9 rfl Aab Aab Aab (λ_ _ _ _ h=>h) (λK hK=>?_);open aqw in exact aev):P:=h
theorem arA.Ab6(h:P:=by
 refine aP 4 rfl Aab Aab Aab (λ_ _ _ _ h=>h) (λK hK=>?_);open aqx in exact aev):P:=h
theorem arB.Ab6(h:P:=by
 exact AbT):P:=h
theorem aAK(h:P:=by
 have Zg:=Hq (au yQ hbw);have HR3:=Hq (au HR1 hbw);have IZ:=Hq (au Kg hbw);have HB3:=Hq (HB1.trans (hbw.mono HB1.size));clear hW3 hbw c0 c1 c2 c3 c4 c5 c6 c7 c8 d0 d1 d2 d3;obtain⟨c0,c1,c2,c3,c4,c5,c6,c7,c8⟩:=nine Zg;obtain⟨d0,d1,d2,d3⟩:=gG HR3;obtain⟨r0,r1,r2,r3,r4,r5,r6⟩:=jG IZ;have f0:=aj IZ 0;have f1:=aj IZ 1;have f2:=aj IZ 2;have f3:=aj IZ 3;have f4:=aj IZ 4;have f5:=aj IZ 5;have f6:=aj IZ 6;go_wp2_with fail;refine aW (λW' hW'=>?_);exact Aeu):P:=h
theorem arC.Aeu(h:P:=by
 have hR:=yG (b0:= .int .i64 1) (b1:= .int .i64 id) (b2:= .int .i64 st) (b3:= .int .i64 LO) (b4:= .int .i64 LO) (b5:= .string sx) (b6:= .int .i64 sn) IZ;have hK:=uD (w:=W3) (g:=w.heap.size+1+1) (b0:= .int .i64 1) (b1:= .int .i64 id) (b2:= .int .i64 st) (b3:= .int .i64 LO) (b4:= .int .i64 LO) (b5:= .string sx) (b6:= .int .i64 sn);rw [<-hW'] at hR hK;obtain⟨x0,x1,x2,x3,x4,x5,x6⟩:=jG hR;refine bodyPost_ret (v:= .agg (bX 1 id st LO LO sx sn)) Adm rfl ⟨rfl,HB3.trans (hK.below (λx hx=>by have:x=w.heap.size+1+1:=Aaf;omega) HB3.size)⟩):P:=h
theorem arD.Aeu(h:P:=by
 have hR:=yG (b0:= .int .i64 1) (b1:= .int .i64 id) (b2:= .int .i64 st) (b3:= .int .i64 si) (b4:= .int .i64 LO) (b5:= .string sx) (b6:= .int .i64 sn) IZ;have hK:=uD (w:=W3) (g:=w.heap.size+1+1) (b0:= .int .i64 1) (b1:= .int .i64 id) (b2:= .int .i64 st) (b3:= .int .i64 si) (b4:= .int .i64 LO) (b5:= .string sx) (b6:= .int .i64 sn);rw [<-hW'] at hR hK;obtain⟨x0,x1,x2,x3,x4,x5,x6⟩:=jG hR;refine bodyPost_ret (v:= .agg (bX 1 id st si LO sx sn)) Adm rfl ⟨rfl,HB3.trans (hK.below (λx hx=>by have:x=w.heap.size+1+1:=Aaf;omega) HB3.size)⟩):P:=h
theorem akP(h:P:=by
 have hr:(convert 162 9 (.slice (some ⟨g,a+4,none⟩) (s.size - (a+4)) (s.size - (a+4)))).run prog w= .ok (.string (iP (tl s a))) w:=by
  exact aFm
 have h1:(s.size:Int)<=(a:Int)+1006:=Aaa
 have h2:¬((s.size:Int) - (a:Int) < 4):=Aaa
 have h3:(a:Int)+4 < (s.size:Int):=Aaa
 have hcap2:(s.size:Int)<=(cap:Int):=Aaa
 exact AcY):P:=h
theorem arE.AcY(h:P:=by
 rw [Cc s a 0 4 Aaa] at hq;have hmn:min (s.size:Int) ((a:Int)+1006)=(s.size:Int):=Int.min_eq_left Aaa;exact aBf):P:=h
theorem arF.AcY(h:P:=by
 rw [Cc s a 0 4 Aaa] at hq;have hmn:min (s.size:Int) ((a:Int)+1006)=(s.size:Int):=Int.min_eq_left Aaa;exact aBa):P:=h
theorem arG.AcY(h:P:=by
 have hmn:min (s.size:Int) ((a:Int)+1006)=(s.size:Int):=Int.min_eq_left Aaa;exact aBz):P:=h
theorem aAL(h:P:=by
 open awn in exact aaw):P:=h
theorem arH.AfK(h:P:=by
 refine jY 5 7 rfl rfl Aab Aad Aad Aae Aae (λx2 hx2=>?_) (λx2 hx2=>?_)
 .open anW in exact aAl
 .go_simp;open aw6 in exact aaA):P:=h
theorem arI.AfK(h:P:=by
 refine jY 5 7 rfl rfl Aab Aad Aad Aae Aae (λx2 hx2=>?_) (λx2 hx2=>?_)
 .open anV in exact aAl
 .go_simp;open aw5 in exact aaA):P:=h
theorem akQ(h:P:=by
 go_wp2_with fail;refine wp_region_quiet_lit Aab Aab ?_;repeat (first|go_big_quiet_step ((first|(go_at_call 100;exact akb _ _ hx1 _ _)))|quiet_step ((first|(go_at_call 100;exact akb _ _ hx1 _ _))))
 refine wpQuiet_nil ?_;intro _ hw';obtain⟨nq,hw''⟩:=hw';subst hw'';go_wp2_with fail;exact AcS):P:=h
theorem arJ.AcS(h:P:=by
 go_roundw
 case rel=>exact⟨j+1+1,Aaa,Aah,HG,Gf,cZ.trans ⟨rfl,rfl,rfl,Nat.le_refl _,λ_ _=>rfl⟩⟩
 case measure=>simp[intOf];omega):P:=h
theorem arK.AcS(h:P:=by
 go_roundw
 case rel=>exact⟨0+1,Aaa,Aah,HG,Gf,cZ.trans ⟨rfl,rfl,rfl,Nat.le_refl _,λ_ _=>rfl⟩⟩
 case measure=>simp[intOf];omega):P:=h
theorem arL.AcS(h:P:=by
 go_ret;exact⟨aF HP.symm,cZ.trans ⟨rfl,rfl,rfl,Nat.le_refl _,λ_ _=>rfl⟩⟩):P:=h
theorem akR(h:P:=by
 have hr:(convert 162 9 (.slice (some ⟨g,a+4,none⟩) 1002 1002)).run prog w= .ok (.string (iP (tl s a))) w:=by
  exact aAV
 have h1:¬((s.size:Int)<=(a:Int)+1006):=Aaa
 have h3:(a:Int)+1006 < (s.size:Int):=Aaa
 have h31:¬((a:Int)+1006 - (a:Int) < 4):=Aaa
 have hcap2:(s.size:Int)<=(cap:Int):=Aaa
 exact AcN):P:=h
theorem arM.AcN(h:P:=by
 rw [Cc s a 0 4 Aaa] at hq;have hmn:min (s.size:Int) ((a:Int)+1006)=(a:Int)+1006:=Int.min_eq_right Aaa;exact aBf):P:=h
theorem arN.AcN(h:P:=by
 rw [Cc s a 0 4 Aaa] at hq;have hmn:min (s.size:Int) ((a:Int)+1006)=(a:Int)+1006:=Int.min_eq_right Aaa;exact aBa):P:=h
theorem arO.AcN(h:P:=by
 have hmn:min (s.size:Int) ((a:Int)+1006)=(a:Int)+1006:=Int.min_eq_right Aaa;exact aBz):P:=h
theorem Xa(h:P:=by
 have hkk:=hks l[k] (List.getElem_mem hlt);have HT:=Hq (List.take_succ_eq_append_getElem hlt);generalize l[k]=pu at *;exact Aa2):P:=h
theorem arP.Aa2(h:P:=by
 have uX:=Hq (λw1=>afK pu z w1 hz0 hz1 hkk);obtain⟨pk,pm,pf,ps⟩:=pu;exact akW):P:=h
theorem arQ.Aa2(h:P:=by
 have uX:=Hq (λw1=>al8 pu z w1 hz0 hz1 hkk);obtain⟨pi,pt,pk,pn⟩:=pu;exact akW):P:=h
theorem arR.Aa2(h:P:=by
 have uX:=Hq (λw1=>aDl pu z w1 hz0 hz1 hkk);obtain⟨pno,pk,pn,ps⟩:=pu;exact akW):P:=h
theorem arS.Aa2(h:P:=by
 have uX:=Hq (λw1=>al7 pu b c z w1 hz0 hz1 hkk);obtain⟨fr,lo,ids⟩:=pu;dsimp only at q0 q1 q2 hkk;unfold maxLen at hkk;go_wp2_with fail;refine(uX _).mono ?_;rintro e w5 ⟨rfl,hb5⟩;have fO:=Hq (cZ.trans (hb5.mono cZ.size));clear hb5 q0 q1 q2;dsimp only;by_cases hc:(ids.length:Int)<=z
 .rw [if_pos hc];have hn2:decide (z - (ids.length:Int) < 0)=false:=decide_eq_false Aaa;go_wp2_with fail;go_roundw
  case rel=>
   refine⟨k+1,z - ids.length,Aaa,Aah,rfl,Aaa,Aaa,?_,fO⟩;intro p hp;rw [ah HT] at hp;rcases List.mem_append.1 hp with h|h
   .exact kX p h
   .rw [List.mem_singleton] at h;subst h;show ids.length<=1048576
    omega
  case measure=>simp[intOf];omega
 .rw [if_neg hc];go_wp2_with fail;go_ret;exact⟨-1,rfl,fO,.inl rfl⟩):P:=h
theorem arT.Aa2(h:P:=by
 have uX:=Hq (fun(w1:World)=>YQ pu z w1 hz0 Aaa hkk);obtain⟨⟨oK,Qe,ok,on,⟨mK,mF,mT,mI,mL,mk,mN⟩⟩,ac⟩:=pu;dsimp only at q0 q1 q2 q3 q4 q5 q6 q7 q8 q9 q10 q11 uX;clear hkk;go_wp2_with fail;refine(uX wr).mono ?_;rintro e w5 ⟨r,rfl,hcase,hb5⟩;have fO:=Hq (cZ.trans (hb5.mono cZ.size));clear hb5 q0 q1 q2 q3 q4 q5 q6 q7 q8 q9 q10 q11;exact aBx):P:=h
theorem arU.Aa2(h:P:=by
 have uX:=Hq (fun(w1:World)=>al5 pu z w1 hz0 Aaa hkk);obtain⟨mK,mF,mT,mI,mL,mk,mN⟩:=pu;dsimp only at q0 q1 q2 q3 q4 q5 q6 uX;clear hkk;go_wp2_with fail;refine(uX wr).mono ?_;rintro e w5 ⟨r,rfl,hcase,hb5⟩;have fO:=Hq (cZ.trans (hb5.mono cZ.size));clear hb5 q0 q1 q2 q3 q4 q5 q6;exact aBx):P:=h
theorem aAM(h:P:=by
 have HAT:=Hq (λW'' (ho:Out c w W' W'')=>(Ni.kc (k:=9) ((KC.keeps gu (λx hx=>by have:x=w.heap.size+2:=Aaf;rw [this];exact bq Aaa)).trans (KC.out H9 ho)) Aaa).rm);have ow:Hid (Below B w W'):=(uT.mono hB).trans (gu.below (λx hx=>by have:x=w.heap.size+2:=Aaf;omega) (Nat.le_trans hB (uT.mono hB).size));have tq:=Hq (Apart.keeps (c:=c) (Apart.of_below uT) (uT.mono hB).size gu (λx hx=>by have:x=w.heap.size+2:=Aaf;omega));obtain⟨x0,x1,x2,x3,x4,x5,x6,x7,x8⟩:=nine e4;clear hW' e4 gu;exact Ad9):P:=h
theorem arV.Ad9(h:P:=by
 exact Afw):P:=h
theorem arW.Ad9(h:P:=by
 exact bodyPost_ret (v:= .tuple #[(fQ n A),.slice (some ⟨W1.heap.size,0,none⟩) 0 0,.int .i64 3]) Abt rfl ⟨A,some ⟨W1.heap.size,0,none⟩,0,rfl,HAT,λW'' _ i hi=>Aat,ow,tq⟩):P:=h
theorem aaR(h:P:=by
 have hk2:k < m.length:=(ah HN)▸hlt;have HE:=Hq (λe=>jk HN hlt HT e);have HD:=Hq (λe=>JA hlt hk2 e);exact AbC):P:=h
theorem arX.AbC(h:P:=by
 obtain⟨g1,o1,rfl,hg1,s0,s1,s2,s3⟩:=gF.four (GR.At.below HA cZ) k hlt;obtain⟨g2,o2,rfl,hg2,t0,t1,t2,t3⟩:=gF.four (GR.At.below HB cZ) k hk2;open axj in exact ahr):P:=h
theorem arY.AbC(h:P:=by
 obtain⟨g1,o1,rfl,hg1,s0,s1,s2,s3⟩:=SentAt.four (GR.At.below HA cZ) k hlt;obtain⟨g2,o2,rfl,hg2,t0,t1,t2,t3⟩:=SentAt.four (GR.At.below HB cZ) k hk2;open axi in exact ahr):P:=h
theorem arZ.AbC(h:P:=by
 obtain⟨g1,o1,rfl,hg1,s0,s1,s2,s3⟩:=aG.four (GR.At.below HA cZ) k hlt;obtain⟨g2,o2,rfl,hg2,t0,t1,t2,t3⟩:=aG.four (GR.At.below HB cZ) k hk2;generalize l[k]=x at *;generalize m[k]=y at *;obtain⟨x0,x1,x2,x3⟩:=x;obtain⟨y0,y1,y2,y3⟩:=y;dsimp only at s0 s1 s2 s3 t0 t1 t2 t3;clear hk2;by_cases hx:x0=y0
 case' neg=>
  have hq:(x0.toList == y0.toList)=false:=BZ hx;have hr:¬x0.toList=y0.toList:=Abn
  exact ak8
 subst hx;by_cases hx:x1=y1
 case' neg=>
  have hq:(x1 == y1)=false:=Aaf
  exact abh
 exact ajm):P:=h
theorem ar0.AbC(h:P:=by
 obtain⟨g1,o1,rfl,hg1,s0⟩:=bZ.one (GR.At.below HA cZ) k hlt;obtain⟨g2,o2,rfl,hg2,t0⟩:=bZ.one (GR.At.below HB cZ) k hk2;generalize l[k]=x at *;generalize m[k]=y at *;clear hk2;by_cases hxy:x=y
 case' neg=>
  have hq:(x != y)=true:=by simpa using hxy
  have HP:=Hq (HD hxy);clear HD HE hxy;go_upto_region 6 with fail;go_quiet (fail);go_wp2_with fail;go_ret;exact .no HP (fI _ cZ)
 subst hxy;have HT2:=Hq (HE rfl);clear HE HD;go_upto_region 6 with fail;go_quiet (fail);go_wp2_with fail;go_roundw
 case rel=>exact⟨k+1,Aaa,Aah,fI _ cZ,HT2⟩
 case measure=>simp[intOf];omega):P:=h
theorem ar1.AbC(h:P:=by
 obtain⟨g1,o1,b1,c1,rfl,hg1,s0,s1,s2,i1⟩:=HA.below cZ k hlt;obtain⟨g2,o2,b2,c2,rfl,hg2,t0,t1,t2,i2⟩:=HB.below cZ k hk2;have hil:=ah HI l[k] (List.getElem_mem hlt);generalize l[k]=x at *;generalize m[k]=y at *;have HC:=Hq (λW (h:aI wr W)=>adg x y b1 b2 c1 c2 W hil (i1.below h) (i2.below h));clear i1 i2 hil hk2;have hbz:=Hq (zf wr (.cells #[.int .i64 x.f,.int .i64 x.l,.slice b1 x.ids.length c1] 110) (.cells #[.int .i64 y.f,.int .i64 y.l,.slice b2 y.ids.length c2] 110));go_wp2_with fail;refine(HC _ hbz).mono ?_;rintro e w1 ⟨⟨r,rfl,hr⟩,hb1⟩;have CU:=Hq (cZ.trans ((Below.trans hbz (hb1.mono hbz.size)).mono cZ.size));clear hb1 hbz HC cZ;cases r
 .have HP:=Hq (HD (λe=>by have:=hr.2 e;cases this));clear hr HE HD;go_wp2_with fail;go_ret;exact .no HP CU
 .have HT2:=Hq (HE (hr.1 rfl));clear hr HE HD;go_wp2_with fail;go_roundw
  case rel=>exact⟨k+1,Aaa,Aah,CU,HT2⟩
  case measure=>simp[intOf];omega):P:=h
theorem aAN(h:P:=by
 go_wp2_with fail;refine(jB X A1 HPR.1 AQ.at.p).mono ?_;rintro e W5 ⟨v,rfl,_,hown,hb5⟩;obtain⟨pa,pc,rfl,_⟩:=GR.own_at (enc:=gB) aZ hown;have lT:=Hq (au iG hb5);have jD:=Hq (au qD hb5);have wL:=Hq (jP.trans (hb5.mono jP.size));have RV:=Hq (AQ.kc (k:=9) (KC.of_below hb5) Aaa);have Jb:=Hq hown;have hxr:=aA qD;clear hown hb5 c0 c1 c2 c3 c4 c5 c6 c7 c8 p0 p1 p2 p3 p4 p5 p6 p7 p8 p9 nX hnl hol jB iG HOX qD AQ HPR jP;obtain⟨c0,c1,c2,c3,c4,c5,c6,c7,c8⟩:=nine lT;have hnl:=aA lT;exact AdQ):P:=h
theorem ar2.AdQ(h:P:=by
 have f4:=aj lT 4;go_upto_region 11 with fail;refine wp_at (λY hY=>?_)
 have hky:aC [w.heap.size] W5 Y:=by
  rw [hY];exact aC.set _
 have pE:Hid (Y.heap[w.heap.size]?=some (.cells (fP n.id n.par A1.k n.kids.length A1.ck n.next pa RL.length pc A1.o n.out.length A1.co A1.s n.seen.length A1.cs n.old A1.r n.reqs.length A1.cr) 40 (0,0))):=by
  rw [hY];exact aR lT 4 (.slice pa RL.length pc)
 have mP:=Hq (hky.obj jD Aac);have Dx:=Hq (wL.trans (hky.below (B:=w.heap.size) (λx hx=>by have:x=w.heap.size:=Aaf;omega) wL.size));have aDE:=Hq (RV.kc (k:=9) (KC.keeps hky (λx hx=>by have:x=w.heap.size:=Aaf;rw [this];exact Nf)) Aaa);have aDI:=Hq (dM Jb hky (λx hx=>by have:x=w.heap.size:=Aaf;omega));clear hY hky f4 c0 c1 c2 c3 c4 c5 c6 c7 c8 hnl lT jD wL RV Jb;obtain⟨c0,c1,c2,c3,c4,c5,c6,c7,c8⟩:=nine pE;have hnl:=aA pE;open awq in exact ahb):P:=h
theorem ar3.AdQ(h:P:=by
 go_upto_region 9 with fail;open ava in exact agN):P:=h
theorem aAO(h:P:=by
 have HAT:=Hq (λW'' (ho:Out c w W' W'')=>(yO.kc (k:=9) ((KC.keeps gu (λx hx=>by have:x=w.heap.size+1:=Aaf;rw [this];exact bq Aaa)).trans (KC.out H9 ho)) Aaa).rm);have ow:Hid (Below B w W'):=(HB1.mono hB).trans (gu.below (λx hx=>by have:x=w.heap.size+1:=Aaf;omega) (Nat.le_trans hB (HB1.mono hB).size));have tq:=Hq (Apart.keeps (c:=c) (Apart.of_below (HB1)) (HB1.mono hB).size gu (λx hx=>by have:x=w.heap.size+1:=Aaf;omega));obtain⟨x0,x1,x2,x3,x4,x5,x6,x7,x8⟩:=nine e4;exact AdO):P:=h
theorem ar4.AdO(h:P:=by
 clear hW' e4 gu;exact bodyPost_ret (v:= .tuple #[(fQ n A),.int .i64 1]) Abs rfl ⟨A,rfl,HAT,ow,tq⟩):P:=h
theorem ar5.AdO(h:P:=by
 exact AaA):P:=h
theorem aAP(h:P:=by
 go_in
 go_wp2_with fail;refine HOF.mono ?_;rintro e w1 ⟨mp,mb,v,rfl,Cj,hb1⟩;obtain⟨hblk,hlt1,hbw⟩:=Fo.one_block hb1;have HB1:=Hq hbw;have c0:w1.cell? ⟨w.heap.size,0,none⟩=some (.int .i64 dm):=by rw [cell_of_row w1 _ _ _ _ (0,0) hblk];rfl
 have c1:w1.cell? ⟨w.heap.size,1,none⟩=some (.int .i64 df):=by rw [cell_of_row w1 _ _ _ _ (0,0) hblk];rfl
 have c2:w1.cell? ⟨w.heap.size,2,none⟩=some (.int .i64 ds):=by rw [cell_of_row w1 _ _ _ _ (0,0) hblk];rfl
 exact Ae1):P:=h
theorem ar6.Ae1(h:P:=by
 have HMX:=Hq (Zf _ mp mb _ v w1 hb1.size Aai Cj (HE.below hbw));clear hb1 Cj HOF hblk hbw Zf;go_wp2_with (first|(go_at_call 204;refine(HK _).mono ?_;rintro e w2 ⟨rfl,rfl⟩)|(go_at_call 169;refine(Gd _).mono ?_;rintro e w2 ⟨rfl,rfl⟩))
 refine HMX.mono ?_;rintro e w3 ⟨hb3,hcase⟩;have HB3:=Hq (HB1.trans (Below.mono hb3 Aac));clear hb3 HMX;rcases hcase with⟨hf,h20,rfl⟩|⟨hf,rfl,v',aCi⟩
 .have HAD:=Hq (ZA hf h20);clear hf h20 ZA ZV;go_wp2_with fail;go_ret2
  exact⟨HB3,.inl ⟨HAD,_,Aaa,rfl⟩⟩
 .obtain⟨hadd,hlen⟩:=ah ZV hf;have adN:=Hq hadd;have yJ:=Hq (ace _ mp mb _ v' PL G2 w3 hlen HPA Rs aCi);clear hf ZA ZV hadd aCi;go_wp2_with fail;refine yJ.mono ?_;rintro e w4 ⟨rfl,aj2,hb4⟩;have nK:=Hq (HB3.trans (hb4.mono HB3.size));have HK4:=Hq aj2;clear hb4 aj2;go_wp2_with fail;go_ret2
  rw [ah adN];exact⟨nK,.inr ⟨rfl,_,HB3.size,rfl,HK4⟩⟩):P:=h
theorem ar7.Ae1(h:P:=by
 have HMX:=Hq (Zf _ mp mb _ v w1 Cj (HE.below hbw));clear hb1 Cj HOF hblk hbw Zf;go_wp2_with (first|(go_at_call 204;refine(HK _).mono ?_;rintro e w2 ⟨rfl,rfl⟩)|(go_at_call 169;refine(Gd _).mono ?_;rintro e w2 ⟨rfl,rfl⟩)|(go_at_call 286;refine HMX.mono ?_;rintro e w3 ⟨i,hi,rfl,hb3⟩))
 go_ret2
 exact⟨HB1.trans (hb3.mono HB1.size),.inl ⟨HAD,i,hi,rfl⟩⟩):P:=h
theorem aey(h:P:=by
 go_in
 go_upto_region 1 with fail;refine wp_region_quiet_below Aab Aab ?_;repeat (first|go_big_quiet_step (first|(go_at_call_of 137 nk;exact k2 _ _)|(go_at_call_of 137 bk;exact k1 _ _))|quiet_step (first|(go_at_call_of 137 nk;exact k2 _ _)|(go_at_call_of 137 bk;exact k1 _ _)))
 refine wpQuiet_nil ?_;intro _ hw';obtain⟨⟨dq,osq⟩,hw''⟩:=hw';subst hw'';exact AbV):P:=h
theorem ar8.AbV(h:P:=by
 clear hd3 hd4 aFF k1 k2 y0 y1 y2 y3 y4 y5 y6 y7 y8 y11 y12 y13 y14 y15 y16 y17 y18 y19 y20 y21;have HB1:=Hq (below_regrown w dq osq);generalize Sort.grow (redrawn w dq) osq=V at *;have HKV:=Hq (au HK HB1);have v20:V.cell? ⟨g,20,none⟩=some (.string k.log):=dQ HKV 20;clear HK;go_wp2_with fail;refine(DC V HB1).mono ?_;rintro e V2 ⟨v,rfl,hown,hb2⟩;obtain⟨la,lc,rfl,hops⟩:=GR.own_at (enc:=nO) (sz:=11) jR hown;have Ec:=Hq hops;have HB2:=Hq (Below.trans HB1 (hb2.mono HB1.size));have sW:=Hq (au HKV hb2);clear hb2 HB1 HKV v20 hgl hown hops DC;have hgl:=aA sW;have y20:=cell_regrown (show V2.cell? ⟨g,20,none⟩=some (.string k.log) from dQ sW 20);by_cases h5:(gM k.log).2=k.log.size
 case' neg=>
  have HP:=Hq (show¬xZ k from λh=>h5 h.2.2.2.1)
  have hq:(((gM k.log).2:Int) == (k.log.size:Int))=false:=Aag
  clear h5 Wv HSF Nl yT Ec sW
  open axb in exact ahp
 have hq:(((gM k.log).2:Int) == (k.log.size:Int))=true:=by simp[h5]
 have HE5:=Hq h5;clear h5;obtain⟨hr0,hr1⟩:=XB sW;go_upto_region 4 with fail;refine dz Aab ?_;show gT _ _ _ _ 21 (Array.replicate 21 false) _ _
 refine aP 0 rfl Aab Aab Aab (λ_ _ _ _ h=>h) (λK hK=>?_);go_simp
 first
  |(refine hK _ ?_;clear hK K)
  |(apply Exists.intro
    refine⟨λ_=>?_,hK _ ?_⟩
    (rfl)
    clear hK K)
 refine aP 1 rfl Aab Aab Aab (λ_ _ _ _ h=>h) (λK hK=>?_);go_simp
 first
  |(refine hK _ ?_;clear hK K)
  |(apply Exists.intro
    refine⟨λ_=>?_,hK _ ?_⟩
    (rfl)
    clear hK K)
 refine aP 2 rfl Aab Aab Aab (λ_ _ _ _ h=>h) (λK hK=>?_);go_simp
 first
  |(refine hK _ ?_;clear hK K)
  |(apply Exists.intro
    refine⟨λ_=>?_,hK _ ?_⟩
    (rfl)
    clear hK K)
 refine aP 3 rfl Aab Aab Aab (λ_ _ _ _ h=>h) (λK hK=>?_);go_simp
 first
  |(refine hK _ ?_;clear hK K)
  |(apply Exists.intro
    refine⟨λ_=>?_,hK _ ?_⟩
    (rfl)
    clear hK K)
 refine aP 4 rfl Aab Aab Aab (λ_ _ _ _ h=>h) (λK hK=>?_);go_simp
 first
  |(refine hK _ ?_;clear hK K)
  |(apply Exists.intro
    refine⟨λ_=>?_,hK _ ?_⟩
    (rfl)
    clear hK K)
 refine aP 5 rfl Aab Aab Aab (λ_ _ _ _ h=>h) (λK hK=>?_);open aui in exact Vg):P:=h
theorem ar9.AbV(h:P:=by
 clear hd hd' hd3 k1 k2 y0 y1 y2 y3 y4 y5 y6 y7 y8 y11 y12 y13 y14 y15 y16 y17 y18 y19 y20 y21;exact Vy):P:=h
theorem asa.AbV(h:P:=by
 clear hd k1 k2 y0 y1 y2 y3 y4 y5 y6 y7 y8 y11 y12 y13 y14 y15 y16 y17 y18 y19 y20 y21;exact Vy):P:=h
theorem asb.AbV(h:P:=by
 clear k1 k2 y0 y1 y2 y3 y4 y5 y6 y7 y8 y11 y12 y13 y14 y15 y16 y17 y18 y19 y20 y21;exact Vy):P:=h
theorem akS(h:P:=by
 have Gs:=Hq (GR.own_below Gq GH);have J8:=Hq (show∀b,((.slice (some ⟨x1.heap.size,0,none⟩) 0 0:Value)).ownBlock=some b->b≠x2.heap.size from λb hb=>by have:=(Gq.lt b hb).2;omega);have J9:=Hq (uW.trans (GH.mono uW.size));clear GH;exact Ac6):P:=h
theorem ase.Ac6(h:P:=by
 generalize XJ:x2.alloc (.cells (dZ no k nn 0) 95)=y2 at *;open aoU in exact aAu):P:=h
theorem asf.Ac6(h:P:=by
 generalize XJ:x2.alloc (.cells (dZ no k nn 1) 95)=y2 at *;open aoT in exact aAu):P:=h
theorem asg.Ac6(h:P:=by
 generalize XJ:x2.alloc (.cells #[.int .i64 mI] 3)=y2 at *;open awv in exact ahd):P:=h
theorem aAQ(h:P:=by
 open axD in exact ahv):P:=h
theorem ash.AeU(h:P:=by
 have r1:=cell_regrown q1;have r2:=cell_regrown q2;have r3:=cell_regrown q3;have e4:=cell_regrown d4;refine dD 23 Aab ?_;show fC _ _ _ _ _ 25 (Array.replicate 25 false) _ _
 refine tk [0,1,2,3,4,5,6,7,8,9,10,11,12,13,14,15,16,17,18,19] ?_;iterate 20 (refine uS (λK hK=>?_);go_simp;refine hK _ ?_;clear hK K)
 refine jK ?_;clear r1 r2 r3 e4;refine dV 20 rfl Aab Aad (λx hx=>?_);go_simp;have HX:=Hq (HZ1.step hx);refine(HUN x HX).mono ?_;rintro e y ⟨a,cp,g5,hg5,rfl,hp,hby⟩;refine⟨hby,?_⟩;have HST:=Hq (λu (hu:Ge y u)=>afE (cp:=cp) HX (hby.trans (hu.mono hby.size)) hg5 (hp.below hu));clear hby hg5 hp HUN hx;refine tk [21,22] ?_;iterate 2 (refine uS (λK hK=>?_);go_simp;refine hK _ ?_;clear hK K)
 refine jK ?_;refine bH Aab (λu hu=>?_);refine aH 23 rfl Aab Aad ?_;go_simp;refine(HST u hu).mono ?_;rintro e z2 ⟨rfl,A',G',c',hZ2,hA2⟩;have HZ2:=Hq hZ2;have HA2:=Hq (hA2.trans hAr);clear hZ2 HST hu hA2 d0 d1 d2 d3 d4 d5 d6 d7 d8 d9 q0 q1 q2 q3 qf;obtain⟨rl,rb⟩:=r;dsimp only at HZ2 ⊢;refine aH 24 rfl Aab Aad ?_;go_simp;refine wpAny_done Aab ?_;go_simp;cases rb
 .rw [if_neg Aac] at HZ2;obtain⟨g6,hA6,_,hg6,⟨s0,s1,s2,s3⟩,sf⟩:=HZ2.reqRow i hil;rw [ah HA2] at hA6;cases hA6
  rw [hs] at s3;go_wp2_with fail;go_ret;exact⟨rfl,A',G',c',HZ2⟩
 .rw [if_pos rfl] at HZ2;obtain⟨g6,hA6,_,hg6,⟨s0,s1,s2,s3⟩,sf⟩:=HZ2.reqRow i hil;rw [ah HA2] at hA6;cases hA6
  have CV:=Hq (HZ2.reqSet i hil g HA2);clear HZ2 HZ1 HX HW;go_wp2_with fail;go_ret;exact⟨rfl,A',G',c',CV⟩):P:=h
theorem asi.AeU(h:P:=by
 have r3:=cell_regrown q3;refine dz Aab ?_;show gT _ _ _ _ 25 (Array.replicate 25 false) _ _
 refine tk [0,1,2,3,4,5,6,7,8,9,10,11,12,13,14,15,16,17,18,19,20,21,22,23,24] ?_;iterate 25 (refine AJ (λK hK=>?_);go_simp;refine hK _ ?_;clear hK K)
 refine jK ?_;refine fu Aab (λx hx=>?_);have HX:=Hq (HZ1.step hx);have x3:=(Cg hx).1 g (i*4+3) hgl;clear hx r3;go_simp;go_wp2_with fail;go_ret;exact⟨rfl,A,G,c,HX⟩):P:=h
theorem aAR(h:P:=by
 rw [<-hW] at e1 e2 e3;have HN:=Hq e1;have HR:=Hq e2;have HB0:=Hq e3;have Nh:=Hq (lI.kc (k:=9) (KC.of_below e3) Aaa);clear hW e1 e2 e3 lI hbw0;obtain⟨c0,c1,c2,c3,c4,c5,c6,c7,c8⟩:=nine HN;have hnl:=aA HN;go_wp2_with fail;refine(Jb W0 Nh.at.p).mono ?_;open azq in exact ah2):P:=h
theorem asj.Afu(h:P:=by
 have HI:=Hq (And.intro hi (And.intro hz0 (And.intro hz1 hz2)));clear hi hz0 hz1 hz2;obtain⟨c0,c1,c2,c3,c4,c5,c6,c7,c8⟩:=nine kK;have hnl:=aA kK;have hrl:=aA qD;go_wp2_with fail;rw [Bd];go_upto_region 6 with fail;go_wp2_with fail;refine(HPT W1 yO.at.p).mono ?_;rintro e W2 ⟨v,rfl,hne,hrow,hb2⟩;obtain⟨av,cv,rfl,_⟩:=GR.own_at (enc:=gB) (sz:=4) aZ hrow;have jQ:=Hq (au kK hb2);have jC:=Hq (au qD hb2);have HB2:=Hq (HB1.trans (hb2.mono HB1.size));have Ke:=Hq (yO.kc (k:=9) (KC.of_below hb2) Aaa);have rz:=Hq hrow;have hbs:w.heap.size+1 < W1.heap.size:=hrl;generalize W1.heap.size=bs at *;clear hb2 hne hrow c0 c1 c2 c3 c4 c5 c6 c7 c8 hnl hrl HPT kK qD HB1 yO;have f4n:=aj jQ 4;have c4n:=(nine jQ).2.2.2.2.1;have hn2:=aA jQ;go_upto_region 7 with fail;refine wp_at (λZ6 hZ=>?_);have lT:Hid (Z6.heap[w.heap.size]?=some (.cells (fP n.id n.par a_k n.kids.length aK n.next av RL.length cv dW n.out.length aQ eH n.seen.length aL n.old gH n.reqs.length aU) 40 (0,0))):=by rw [hZ];exact oD jQ
 have jD:Hid (Z6.heap[w.heap.size+1]?=some (.cells gN 40 (0,0))):=by rw [hZ];exact iT jC Aaa
 have HN6:Hid (NQ Z6 B n (⟨a_k,(some ⟨gp,0,none⟩),dW,eH,gH,aK,bJ,aQ,aL,aU⟩:bV) G (newC w.heap.size 9 c)):=by rw [hZ];exact Ke.kc (k:=9) (KC.set (bq (Nat.le_refl _))) Aaa
 have ZQ:Hid (Z6.ownsRow bs 108 4 (.slice av RL.length cv) RL.length (GR.flat gB RL)):=by rw [hZ];exact dM rz (aC.set _) (λy hy=>by have:y=w.heap.size:=Aas;omega)
 have wL:Hid (Below B w Z6):=by rw [hZ];exact(HB2.mono hB).setCell (p:=⟨w.heap.size,4,none⟩) hB _
 have Ze:Hid (Apart c w Z6):=by rw [hZ];exact(Apart.of_below HB2).keeps HB2.size (aC.set _) (λy hy=>by have:y=w.heap.size:=Aas;omega)
 clear hZ jQ jC Ke rz HB2 f4n c4n hn2;have c3n:=(nine lT).2.2.2.1;exact Kk9):P:=h
theorem asl.Afu(h:P:=by
 have uP:=Hq (au qD (ay W1 (.cells #[] 98)));obtain⟨c0,c1,c2,c3,c4,c5,c6,c7,c8⟩:=nine kK;open aoS in exact WW):P:=h
theorem agd(h:P:=by
 have hat:nQ l k=(iD l[k]&&(k == 0|| !sle l[k].k (l.getD (k - 1) default).k)):=by unfold nQ;rw [getD_at l k hlt]
 exact Afp):P:=h
theorem asn.Afp(h:P:=by
 cases k with
 |zero=>
  open avf in exact agP
 |succ j=>
  obtain⟨g,off,rfl,hgw,c0,c1,c2,c3⟩:=aG.four (GR.At.below HA cZ) (j+1) hlt;obtain⟨g',off',e',_,d0,_,_,_⟩:=aG.four (GR.At.below HA cZ) j Aaa;have eg:g=g'/\off=off':=by injection e' with e';injection e' with e1 e2;exact⟨e1,e2⟩
  obtain⟨rfl,rfl⟩:=eg;have hgd:l.getD j default=l[j]:=getD_at l j Aaa;rw [show j+1 - 1=j from rfl,hgd] at hat;have hgt:decide ((0:Int) < ((j:Int)+1))=true:=decide_eq_true Aaa;clear e' hgd;generalize l[j].k=q at *;have nM:=Hq hat;have iG:=Hq (pR (nQ l) (j+1));clear hat;generalize l[j+1]=pu at *;obtain⟨pk,pm,pf,ps⟩:=pu;dsimp only at c0 c1 c2 c3 hks;cases hkb:keyOk pk.data.toList
  .have HB:=Hq hkb;have HBAD:=Hq (nS hlt (show nQ l (j+1)=false by rw [ah nM];simp[iD,ah HB]));clear nM iG;have hkb':=ah HB;exact Zk3
  have hkb':=hkb;cases hbl:Op.bytesLess pk.toList q.toList
  case' true=>
   have hsl:sle pk q=true:=by unfold sle;rw [hbl];rfl
   cases heq:pk.toList == q.toList
   .exact aaS
   .exact aaS
  cases heq:pk.toList == q.toList
  case' true=>
   have hsl:sle pk q=true:=by unfold sle;rw [hbl,heq];rfl
   exact aaS
  have hsl:Hid (sle pk q=false):=by unfold sle;rw [hbl,heq];rfl
  by_cases h1:0<=pm/\pm<=1000000000
  case' neg=>
   have hA:qy pm=false:=decide_eq_false h1;have g1:decide (xM pm 0 1000000000)=false:=decide_eq_false h1;exact aeE
  have g1:decide (xM pm 0 1000000000)=true:=decide_eq_true h1;have hA1:qy pm=true:=decide_eq_true h1;by_cases h2:0<=pf/\pf<=1000000000
  case' neg=>
   have hA:qy pf=false:=decide_eq_false h2;have g2:decide (xM pf 0 1000000000)=false:=decide_eq_false h2;exact aeE
  have g2:decide (xM pf 0 1000000000)=true:=decide_eq_true h2;have hA2:qy pf=true:=decide_eq_true h2;by_cases h3:0<=ps/\ps<=1000000000
  case' neg=>
   have hA:qy ps=false:=decide_eq_false h3;have g3:decide (xM ps 0 1000000000)=false:=decide_eq_false h3;exact aeE
  open azA in exact ah5):P:=h
theorem aso.Afp(h:P:=by
 cases k with
 |zero=>
  open ave in exact agP
 |succ j=>
  have hlt2:j < l.length:=Aaa
  obtain⟨g,off,rfl,hgw,c0,c1,c2,c3⟩:=aG.four (GR.At.below HA cZ) (j+1) hlt;obtain⟨g2,off2,e2,alz,d0,d1,d2,d3⟩:=aG.four (GR.At.below HA cZ) j hlt2;have e3:g=g2:=by injection e2 with e2;injection e2 with e2 e4
  have e4:off=off2:=by injection e2 with e2;injection e2 with e2 e4
  subst e3 e4;clear e2 alz d1 d2 d3;have hgt:decide ((0:Int) < ((j+1:Nat):Int))=true:=decide_eq_true Aaa;have ej:IntKind.i64.wrap (((j+1:Nat):Int) - 1)=(j:Int):=by rw [IntWalk.i64_in _ ⟨by omega,by omega⟩];omega
  rw [show j+1 - 1=j by omega,getD_at l j hlt2] at hat;have nM:=Hq hat;have iG:=Hq (pR (nQ l) (j+1));clear hat;generalize l[j+1]=pu at *;generalize l[j]=pq at *;obtain⟨q,qm,qf,qs⟩:=pq;dsimp only at d0;cases hpo:iD pu
  .have HO:=Hq (λw1=>oW pu false w1 hpo);have HBAD:=Hq (nS hlt (show nQ l (j+1)=false by rw [ah nM,hpo];rfl));clear nM iG hpo;obtain⟨pk,pm,pf,ps⟩:=pu;dsimp only at c0 c1 c2 c3;open aom in exact aaO
  .have HO:=Hq (λw1=>oW pu true w1 hpo);cases hsl:Op.bytesLess q.toList pu.k.toList
   .have HBAD:=Hq (nS hlt (show nQ l (j+1)=false by rw [ah nM,hpo];dsimp only;rw [<-P8,hsl];simp));clear nM iG hpo;obtain⟨pk,pm,pf,ps⟩:=pu;dsimp only at c0 c1 c2 c3 hsl;open aol in exact aaO
   .have Eb:=Hq (show nQ l (j+1)=true by rw [ah nM,hpo];dsimp only;rw [<-P8,hsl];simp);clear nM hpo;obtain⟨pk,pm,pf,ps⟩:=pu;dsimp only at c0 c1 c2 c3 hsl;open aok in exact aaO):P:=h
theorem agf(h:P:=by
 have abQ:cand s=⟨s[0].toNat,uw s (gP s 0),uw s (gP s 1),uw s (gP s 2),uw s (gP s 3),jW s (gP s 4),uw s (jf s (gP s 4))⟩:=by unfold cand;rw [KP h0];rfl
 have HM:=Hq (show jS s=true->Df s= .tuple #[mY (cand s),.bool true] from λh=>by unfold Df mO;rw [h,if_pos rfl]);have HZ:=Hq (show jS s=false->Df s= .tuple #[.agg (bX 0 0 0 0 0 ⟨#[]⟩ 0),.bool false] from DR);have hE:xw s=jU s (jf s (gP s 4)):=rfl;rw [hE] at HO;rw [abQ] at HP HM HO;exact Ae9):P:=h
theorem asq.Ae9(h:P:=by
 clear abQ hE e1 e2 e3 e4;have hne:=kC s h0;have hi0:(0:Int) < (s.size:Int):=Aaa
 open avZ in exact Vl):P:=h
theorem asr.Ae9(h:P:=by
 clear hcs abQ hE;have hne:=kC s h0;have hi0:(0:Int) < (s.size:Int):=Aaa
 open auA in exact agD):P:=h
theorem agh(h:P:=by
 have hTi:∀j,j < 3->∃u,wc.cell? ⟨G.s,i*3+j,none⟩=some u/\wc.frozen? ⟨G.s,i*3+j,none⟩=false:=λj hj=>⟨_,(hcT j hj).1.trans (List.getElem?_eq_getElem (by rw [dK];exact hj)),(hcT j hj).2⟩
 obtain⟨v0,y0,x0⟩:=hTi 0 Aaa;obtain⟨v1,y1,x1⟩:=hTi 1 Aaa;obtain⟨v2,y2,x2⟩:=hTi 2 Aaa;rw [Nat.add_zero] at y0 x0;exact Adq):P:=h
theorem asu.Adq(h:P:=by
 clear hTi hcT hrT hT hlT T aCB KQ hown2 af5 ZL af8 Z5 afS UN af4 afU afY ad6;have aGV:G.s < wc.heap.size:=Aaa
 obtain⟨c0,c1,c2,c3,c4,c5,c6,c7,c8⟩:=nine UQ;obtain⟨s40,s41,s42⟩:=Cb aac;have hnl:=aA UQ;have aCG:=aA aac;have aCh:Hid ((lN (bg s0 mL) mI).length=(bg s0 mL).length+1):=abN;clear abN;go_upto_region 27 with fail;refine wp_at (λW12 als=>?_)
 have amV:Hid (NQ W12 B (dP (dP n (n.seen.set i ⟨mF,fJ s0 mL,bg s0 mL⟩)) ((n.seen.set i ⟨mF,fJ s0 mL,bg s0 mL⟩).set i ⟨mF,fJ s0 mL,lN (bg s0 mL) mI⟩)) (⟨a_k,(some ⟨gp,0,none⟩),dW,(some ⟨G.s,0,none⟩),gH,aK,bJ,aQ,aL,aU⟩:bV) ⟨G.k,G.p,G.o,G.s,G.r,sG (sG G.i i gi) i g2⟩ (uQ g2 (lN (bg s0 mL) mI) (uQ gi (bg s0 mL) (newC w.heap.size 9 c)))):=by
  rw [als,<-ah aCh];exact HNP
 have Tj:aC [G.s] wc W12:=by
  rw [als];exact aM [.int .i64 mF,.int .i64 (fJ s0 mL),.slice (some ⟨g2,0,none⟩) ((bg s0 mL).length+1) cq2] wc (i*3)
 have af6:=Hq (Tj.obj UQ (λhx=>Aak));have qE:=Hq (Tj.obj af9 (λhx=>Aak));have amy:=Hq (Tj.obj afT (λhx=>Aak));have amC:=Hq (afV.trans (Tj.below (B:=B) (λx hx=>Aak) Aaa));have amO:=Hq (Apart.keeps (c:=c) afZ Aaa Tj (λx hx=>by have:x=G.s:=Aaf;rw [this];right;omega));have aDG:=Hq (amY.keeps Tj (λx hx=>Aak));have aDu:Hid (∀x,x < w.heap.size->6 < c x->uQ g2 (lN (bg s0 mL) mI) (uQ gi (bg s0 mL) (newC w.heap.size 9 c)) x=9):=λx hx h=>by rw [vw (λhm=>by have:=(eD hm).1;omega)];exact HCO x hx h
 have amI:Hid (∀x,w.heap.size<=x->x≠gi->x≠g2->uQ g2 (lN (bg s0 mL) mI) (uQ gi (bg s0 mL) (newC w.heap.size 9 c)) x=9):=λx hx h h'=>by rw [vw (λhm=>h' (eD hm).1)];exact D9 x hx h
 clear als Tj HNP y0 y1 y2 x0 x1 x2 s40 s41 s42 c0 c1 c2 c3 c4 c5 c6 c7 c8 hnl aCG UQ af9 afT afV afZ amY aac ZN HW2;obtain⟨c0,c1,c2,c3,c4,c5,c6,c7,c8⟩:=nine af6;obtain⟨d0,d1,d2,d3,d4,d5,d6,d7,d8⟩:=nine qE;have f0:=aj qE 0;have f1:=aj qE 1;have f2:=aj qE 2;have f3:=aj qE 3;have f4:=aj qE 4;have f5:=aj qE 5;have f6:=aj qE 6;have f7:=aj qE 7;have f8:=aj qE 8;have hnl:=aA af6;have hrl:=aA qE;go_wp2_with fail;refine aW (λW' hW'=>?_)
 have e4:W'.heap[w.heap.size+2]?=some (.cells (fP n.id n.par a_k n.kids.length aK n.next av RL.length cv dW n.out.length aQ (some ⟨G.s,0,none⟩) n.seen.length aL n.old gH n.reqs.length aU) 40 (0,0)):=by
  rw [hW'];exact GR.setW_blk (fP n.id n.par a_k n.kids.length aK n.next av RL.length cv dW n.out.length aQ (some ⟨G.s,0,none⟩) n.seen.length aL n.old gH n.reqs.length aU).toList (o:=0) (xs:=gN.toList) qE
 have gu:aC [w.heap.size+2] W12 W':=by
  rw [hW'];exact aM (fP n.id n.par a_k n.kids.length aK n.next av RL.length cv dW n.out.length aQ (some ⟨G.s,0,none⟩) n.seen.length aL n.old gH n.reqs.length aU).toList W12 0
 have abZ:w.heap.size+2≠gi:=Aaa
 have HNF:=Hq (amV.kc (k:=9) (KC.keeps gu (λx hx=>by have:x=w.heap.size+2:=Aaf;rw [this];exact amI _ Aaa abZ Aaa)) Aaa)
 have HAT:Hid (∀W'',Out c w W' W''->RM W'' (⟨a_k,av,dW,(some ⟨G.s,0,none⟩),gH,aK,cv,aQ,aL,aU⟩:bV) (dP (setPu n RL) (n.seen.set i ⟨mF,fJ s0 mL,lN (bg s0 mL) mI⟩))):=λW'' ho=>by
  obtain⟨F,hk,hF⟩:=ho
  have hold:=(HNF.kc (k:=9) (KC.keeps hk (λx hx=>aDu x (hF x hx).1 (hF x hx).2)) Aaa)
  have ho:Out c w W' W'':=⟨F,hk,hF⟩
  have hc9:∀g,av.map (λy=>y.block)=some g->0 < RL.length->uQ g2 (lN (bg s0 mL) mI) (uQ gi (bg s0 mL) (newC w.heap.size 9 c)) g=9:=λg hg hp=>by
   have h1:=ah NH g hg hp
   exact amI g Aaa Aaa Aaa
  refine NQ.put hold hold (dP (setPu n RL) (n.seen.set i ⟨mF,fJ s0 mL,lN (bg s0 mL) mI⟩)) (⟨a_k,av,dW,(some ⟨G.s,0,none⟩),gH,aK,cv,aQ,aL,aU⟩:bV) rfl (by simp only[dP,List.set_set]) rfl rfl ((aDG.keeps gu (λx hx=>Aak)).out Aaa ho) (λg hg hp=> .inr (by have h3:=hc9 g hg hp;omega)) hold.o (λy hy=> .inl (hold.co y hy)) hold.r (λy hy=> .inl (hold.cr y hy)) (λg hg hp _=>⟨λe=>?_,λe=>?_⟩) (λx hx h6=>by have:=hold.co x hx;omega)
  .have h1:=hold.co g e;have h2:=hc9 g hg hp;omega
  .have h1:=hold.cr g e;have h2:=hc9 g hg hp;omega
 have Gd:Hid (∀W'',Out c w W' W''->GR.At lu 7 W'' (some ⟨ab,0,none⟩) [⟨2,n.id,mF,mI,0,ByteArray.empty,0⟩]):=λW'' ho j hj=>Sm (gu.obj amy (λhm=>Acm)) ho Aaa j hj
 have ow:Hid (Below B w W'):=amC.trans (gu.below (λx hx=>by have:x=w.heap.size+2:=Aaf;omega) (by have h1:=aA qE;omega));have tq:=Hq (Apart.keeps (c:=c) amO (by have h1:=aA qE;omega) gu (λx hx=>by have:x=w.heap.size+2:=Aaf;omega));obtain⟨x0,x1,x2,x3,x4,x5,x6,x7,x8⟩:=nine e4;clear hW' e4 gu
 first
  |exact bodyPost_ret (v:= .tuple #[.agg (fP n.id n.par a_k n.kids.length aK n.next av RL.length cv dW n.out.length aQ (some ⟨G.s,0,none⟩) n.seen.length aL n.old gH n.reqs.length aU),.slice (some ⟨ab,0,none⟩) 1 1,.int .i64 0]) Abr rfl ⟨(⟨a_k,av,dW,(some ⟨G.s,0,none⟩),gH,aK,cv,aQ,aL,aU⟩:bV),(some ⟨ab,0,none⟩),⟨1,by simp[fQ,dH,dP,setPu]⟩,HAT,Gd,ow,tq⟩
  |exact bodyPost_ret (v:= .tuple #[.agg (fP n.id n.par a_k n.kids.length aK n.next av RL.length cv dW n.out.length aQ (some ⟨G.s,0,none⟩) n.seen.length aL n.old gH n.reqs.length aU),.slice (some ⟨ab,0,none⟩) 1 1,.int .i64 0]) Abr rfl ⟨(⟨a_k,av,dW,(some ⟨G.s,0,none⟩),gH,aK,cv,aQ,aL,aU⟩:bV),(some ⟨ab,0,none⟩),1,by simp[fQ,dH,dP,setPu],HAT,Gd,ow,tq⟩):P:=h
theorem asv.Adq(h:P:=by
 clear hTi hcT hrT hT hlT T zC hb4 akr lJ Wz lK HB3 amU am9 aec;have aGU:G.s < wc.heap.size:=Aaa
 obtain⟨c0,c1,c2,c3,c4,c5,c6,c7,c8⟩:=nine AR;obtain⟨s40,s41,s42⟩:=Cb aad;have sf:=aj aad 2;have hnl:=aA AR;have hne1:sb≠G.s:=Aaa
 have hne2:G.s≠sb:=Aaa
 go_upto_region 15 with fail;refine wp_at (λW6 Zq=>?_);exact AaJ):P:=h
theorem aao(h:P:=by
 (refine tkB alI (λK hK=>?_);go_simp;first|refine hK _ ?_|(apply Exists.intro;refine⟨λ_=>?_,hK _ ?_⟩;rfl);clear hK K)
 refine jK ?_;refine oL Aab (λz hz=>?_);have UL:=Hq (Wy.trans (hz.mono Wy.size));have HVz:=Hq (GR.own_below WU hz);exact AcF):P:=h
theorem asw.AcF(h:P:=by
 have hsz:uI.heap.size<=z.heap.size:=UL.size;clear hz;have HSz:=Hq (show z.heap[sb]?=some (.cells #[.int .i64 mF,.int .i64 (fJ s0 mL),.slice (some ⟨gi,0,none⟩) (bg s0 mL).length OP] 110 (0,0)) by rw [(ah UL).block _ aCF];exact Z5);obtain⟨_,_,kc⟩:=Cb HSz;have kf:=aj HSz 2;refine aH 14 rfl Aab Aad ?_;go_simp;refine wpAny_done Aab ?_;go_simp;go_wp2_with fail;go_meet
 case rel=>
  rcases HVz.2 with⟨_,hn⟩|⟨g,cap,cur,hv,hbg,_⟩
  .omega
  .simp only[Value.slice.injEq] at hv;obtain⟨rfl,_,_⟩:=hv;have h2:=ah HVz;rw [show pos+1+((bg s0 mL).length - pos)=(bg s0 mL).length+1 by omega] at h2;refine⟨g,cvT,hbg,?_,?_,(aC.of_below UL).trans (aC.set _)⟩
   .rw [ah ZH];rw [List.append_assoc] at h2;refine acX h2 (aC.set _) (λx hx hm=>?_);simp[Value.ownBlock] at hx;simp at hm;omega
   .have h:=aR HSz 2 (.slice (some ⟨g,0,none⟩) (pos+1+((bg s0 mL).length - pos)) cvT);rw [show pos+1+((bg s0 mL).length - pos)=(bg s0 mL).length+1 by omega] at h ⊢;exact h):P:=h
theorem asx.AcF(h:P:=by
 have hsz:wc.heap.size<=z.heap.size:=UL.size;clear hz;have HNz:Hid (z.heap[w.heap.size]?=some (.cells (fP n.id n.par a_k n.kids.length aK n.next (some ⟨gp,0,none⟩) n.pu.length bJ dW n.out.length aQ eH n.seen.length aL n.old (some ⟨gr,0,none⟩) n.reqs.length aU) 40 (0,0))):=by unfold Hid;rw [(ah UL).block _ hnl];exact CY
 have HRz:Hid (z.heap[w.heap.size+2]?=some (.cells gN 40 (0,0))):=by unfold Hid;rw [(ah UL).block _ (aA (ah yR))];exact yR
 have HQz:Hid (z.heap[W1.heap.size]?=some (.cells (dZ no k nn 1) 95 (0,0))):=by unfold Hid;rw [(ah UL).block _ Pf];exact WJ
 open azU in exact ah9):P:=h
theorem asy.AcF(h:P:=by
 have hsz:wc.heap.size<=z.heap.size:=UL.size;clear hz;have HNz:Hid (z.heap[w.heap.size]?=some (.cells (fP n.id n.par a_k n.kids.length aK n.next av RL.length cv dW n.out.length aQ eH n.seen.length aL n.old (some ⟨gr,0,none⟩) n.reqs.length aU) 40 (0,0))):=by unfold Hid;rw [(ah UL).block _ hnl];exact CY
 have HRz:Hid (z.heap[w.heap.size+2]?=some (.cells gN 40 (0,0))):=by unfold Hid;rw [(ah UL).block _ (aA (ah yR))];exact yR
 have HQz:Hid (z.heap[W1.heap.size]?=some (.cells (dZ no k nn 0) 95 (0,0))):=by unfold Hid;rw [(ah UL).block _ Pf];exact WJ
 open azT in exact ah9):P:=h
theorem aap(h:P:=by
 rw [<-hW] at e2 e3;have Ki:=Hq e2;have HW1:=Hq (HW0.step e3);clear hW e2 e3;generalize w.heap.size+1=B at *;obtain⟨c0,c1,c2,c3,c4,c5,c6,c7,c8,c9⟩:=jH HW1.blk;obtain⟨⟨p0,p1,p2,p3,p4,p5,p6⟩,_⟩:=eT Ki;have hBl:=aA Ki;have aGh:=aA HW1.blk;exact AcD):P:=h
theorem asz.AcD(h:P:=by
 go_upto_region 12 with fail;go_wp2_with fail;refine(HDL W B Ki HW1.no.o).mono ?_;rintro e y ⟨a2,cp2,rfl,hrow,hgr,hx2⟩;have HY:=Hq (HW1.setOut hgr hrow hx2);clear hrow hgr hx2 HDL c0 c1 c2 c3 c4 c5 c6 c7 c8 c9 p0 p1 p2 p3 p4 p5 p6;obtain⟨c0,c1,c2,c3,c4,c5,c6,c7,c8,c9⟩:=jH HY.1;have f5:=aj HY.1 5;have alJ:=aA HY.1;go_wp2_with fail;go_ret;exact⟨rfl,_,G,c,v,by rw [List.append_nil];exact HY.2⟩):P:=h
theorem asA.AcD(h:P:=by
 go_wp2_with fail;refine(Ob W HW1).mono ?_;rintro e y ⟨rfl,⟨A',G',c',hY⟩,hJ⟩;have HY:=Hq hY;have Ed:=Hq (hJ B ⟨1,mF,mT,mI,mL,mk,mN⟩ Ki);clear hY hJ Ob p0 p1 p2 p3 p4 p5 p6 c0 c1 c2 c3 c4 c5 c6 c7 c8 c9;exact Aej):P:=h
theorem asB.AcD(h:P:=by
 have R7:=Hq (λp:Regrown=>HW1.no.at.below (below_regrown _ p.d p.os));go_upto_region 4 with fail;open anq in exact Gt):P:=h
theorem aaq(h:P:=by
 refine wp_at (λW0 hW0=>?_);have HB0:Hid (W0.heap[w.heap.size]?=some (.cells (dH ⟨id,par,kids,next,pu,out,seen,old,reqs⟩ ⟨ak,ap,ao,as',ar,ck,cp,co,cs,cr⟩) 40 (0,0))):=by rw [hW0];exact jP
 have nL:Hid (aI w W0):=by rw [hW0];exact ay w _
 clear hW0 jP;exact Ac5):P:=h
theorem asC.Ac5(h:P:=by
 obtain⟨c0,c1,c2,c3,c4,c5,c6,c7,c8⟩:=nine HB0;open ax7 in exact ahE):P:=h
theorem asD.Ac5(h:P:=by
 obtain⟨bb,hbb⟩:∃bb,(!(PL&&PS&&TD&&fK next&&decide (out.length<=40)&&qy old&&decide (reqs.length<=30)))=bb:=⟨_,rfl⟩;have eZ:=Hq hbb;clear hbb;obtain⟨c0,c1,c2,c3,c4,c5,c6,c7,c8⟩:=nine HB0;go_cut [44] (λr wx=>r= .bool bb/\wx.heap[w.heap.size]?=some (.cells (dH ⟨id,par,kids,next,pu,out,seen,old,reqs⟩ ⟨ak,ap,ao,as',ar,ck,cp,co,cs,cr⟩) 40 (0,0))/\aI w wx)
 case first=>
  open ax6 in exact ahE
 case rest=>
  obtain⟨rfl,hblk,hbel⟩:=hcut;have HB1:=Hq hblk;have qZ:=Hq hbel;clear hblk hbel c0 c1 c2 c3 c4 c5 c6 c7 c8 NH HPU Np HB0 nL;cases hbv:bb
  case' true=>
   have HP:Hid (TT=false):=by
    have h:=ah eZ;rw [hbv] at h;rw [ah HD];generalize (PL&&PS&&TD&&fK next&&decide (out.length<=40)&&qy old&&decide (reqs.length<=30))=X at *;cases X
    .rfl
    .cases h
   clear eZ HD;subst hbv;go_wp2_with fail;go_ret;exact⟨aF HP.symm,qZ⟩
  have HF:Hid (fK next=true/\qy old=true/\TT=(gZ OT (λs t=>iN s.i t.i) out&&gZ RQ (λs t=>iN s.no t.no) reqs)):=by
   have h:=ah eZ;rw [hbv] at h;rw [ah HD];cases h4:fK next<;>cases h6:qy old<;>rw [h4,h6] at h
   all_goals first
    |(simp at h;done)
    |skip
   refine⟨rfl,rfl,?_⟩;generalize (PL&&PS&&TD&&true&&decide (out.length<=40)&&true&&decide (reqs.length<=30))=X at *;cases X
   .cases h
   .rfl
  clear eZ HD;subst hbv;obtain⟨hn1,ho1,hTT⟩:=ah HF;have HTT:=Hq hTT;have hn2:1<=next/\next<=1000000000:=of_decide_eq_true hn1;have ho2:0<=old/\old<=1000000000:=of_decide_eq_true ho1;obtain⟨hn3,hn4⟩:=hn2;obtain⟨ho3,ho4⟩:=ho2;clear hn1 ho1 hTT HF;have wV:=Hq (λk h=>oH OT (λs t=>iN s.i t.i) out k h);have Nt:=Hq (rH OT (λs t=>iN s.i t.i) out);have D9:=Hq (uZ OT (λs t=>iN s.i t.i) out);have HDB:=Hq (λk h=>oH RQ (λs t=>iN s.no t.no) reqs k h);have HDF:=Hq (rH RQ (λs t=>iN s.no t.no) reqs);have HDN:=Hq (uZ RQ (λs t=>iN s.no t.no) reqs);generalize (λs t:jw=>iN s.i t.i)=RO at *;generalize (λs t:Rq=>iN s.no t.no)=RR at *;go_wp2_with fail;go_loopw [3] (λi wr=>∃k:Nat,k<=out.length/\i= .int .i64 k/\gZ OT RO (out.take k)=true/\wr.heap[w.heap.size]?=some (.cells (dH ⟨id,par,kids,next,pu,out,seen,old,reqs⟩ ⟨ak,ap,ao,as',ar,ck,cp,co,cs,cr⟩) 40 (0,0))/\aI w wr) (λi _=>out.length - (intOf i).toNat)
  case atStart=>exact⟨0,Nat.zero_le _,rfl,rfl,HB1,qZ⟩
  case round=>
   open atH in exact Ve):P:=h
theorem asE.Ac5(h:P:=by
 obtain⟨al,hal⟩:∃al:Int,(kids.length:Int)+(if 0<=par then 1 else 0)=al:=⟨_,rfl⟩;rw [hal] at HD;go_cut [3] (λr wx=>r= .int .i64 al/\wx=W0)
 case first=>
  by_cases hp:0<=par
  .rw [if_pos hp] at hal;have HAL:=Hq hal;clear hal;go_wp2_with fail;go_meet
   case rel=>exact⟨by rw [<-ah HAL],rfl⟩
  .rw [if_neg hp] at hal;have HAL:=Hq hal;clear hal;go_wp2_with fail;go_meet
   case rel=>exact⟨by rw [<-ah HAL,Int.add_zero],rfl⟩
 case rest=>
  obtain⟨rfl,rfl⟩:=hcut;clear hal;obtain⟨c0,c1,c2,c3,c4,c5,c6,_⟩:=nine HB0;by_cases hlen:(seen.length:Int)=al
  case' neg=>
   have hbn:((seen.length:Int) != al)=true:=by simpa using hlen
   have HP:Hid (TT=false):=by rw [ah HD,decide_eq_false hlen];rfl
   clear hlen HD wV Nt D9 Ro HPP HRR;go_wp2_with fail;go_ret;exact⟨aF HP.symm,nL⟩
  have hbn:((seen.length:Int) != al)=false:=by simpa using hlen
  have nW:Hid (TT=gZ PP RR seen):=by rw [ah HD,decide_eq_true hlen];rfl
  clear hlen HD;go_wp2_with fail;go_loopw [4] (λi wr=>∃k:Nat,k<=seen.length/\i= .int .i64 k/\gZ PP RR (seen.take k)=true/\wr.heap[w.heap.size]?=some (.cells (dH ⟨id,par,kids,next,pu,out,seen,old,reqs⟩ ⟨ak,ap,ao,as',ar,ck,cp,co,cs,cr⟩) 40 (0,0))/\aI w wr) (λi _=>seen.length - (intOf i).toNat)
  case atStart=>exact⟨0,Nat.zero_le _,rfl,rfl,HB0,nL⟩
  case round=>
   open atF in exact Ve):P:=h
theorem agi(h:P:=by
 clear h hc;obtain⟨⟨p0,p1,p2,p3,p4,p5,p6,p7,p8,p9,nX⟩,_⟩:=aO RY;have hpl:=aA RY;go_upto_region 3 with fail;have z1:=cell_regrown p1;have z2:=cell_regrown p2;have z3:=cell_regrown p3;clear p0 p1 p2 p3 p4 p5 p6 p7 p8 p9 nX;refine dD 9 Aab ?_;show fC _ _ _ _ _ 10 (Array.replicate 10 false) _ _
 refine tk [0,1,2,3,5,6] ?_;iterate 6 (refine uS (λK hK=>?_);go_simp;refine hK _ ?_;clear hK K)
 refine jK ?_;clear z1 z2 z3;exact Aea):P:=h
theorem asF.Aea(h:P:=by
 refine yI 4 8 rfl rfl Aab Aad Aad (λx hx=>?c1) (λx hx=>?c2)
 case' c1=>
  go_simp
  refine(clone k x Aaa).mono ?_
  rintro e y ⟨rfl,hby⟩
  refine⟨hby,?_⟩
  have HY:=Hq (Ge.trans hx hby)
  clear hx hby
  refine tk [7] ?_
  (refine uS (λK hK=>?_);go_simp;refine hK _ ?_;clear hK K)
  refine jK ?_
  refine dV 8 rfl Aab Aad (λx2 hx2=>?_)
  go_simp
  refine⟨ay x2 _,?_⟩
  have hgl:z.heap.size<=x2.heap.size:=(Ge.trans HY hx2).size
  have Gg:=Hq (heap_alloc_new x2 (.cells (dZ 0 ⟨#[]⟩ 0 0) 95))
  have uT:=Hq (Ge.trans (Ge.trans HY hx2) (ay x2 (.cells (dZ 0 ⟨#[]⟩ 0 0) 95)))
  clear hx2 HY
  generalize x2.alloc (.cells (dZ 0 ⟨#[]⟩ 0 0) 95)=y2 at *
  generalize x2.heap.size=g at *
  refine bH Aab (λz2 hz2=>?_)
  have kH:=Hq (au Gg hz2)
  have eZ:=Hq (Ge.trans uT hz2)
  clear hz2 Gg uT
  have Dh:=aA kH
  obtain⟨g0,g1,g2,g3⟩:=gG kH
  have f0:=aj kH 0
  have f1:=aj kH 1
  have f2:=aj kH 2
  have f3:=aj kH 3
  refine aH 9 rfl Aab Aad ?_
  go_simp
  refine wpAny_done Aab ?_
  go_simp
  go_upto_region 4 with fail
  refine wp_at (λW hW=>?_)
  have UK:Hid (W.heap[g]?=some (.cells (dZ no k nn 0) 95 (0,0))):=Abx
  have iR:Hid (aI z W):=Aby
  clear hW kH eZ Dh g0 g1 g2 g3 f0 f1 f2 f3
 case' c2=>
  go_simp
  refine⟨ay x _,?_⟩
  have hgl:z.heap.size<=x.heap.size:=hx.size
  have Gg:=Hq (heap_alloc_new x (.cells (dZ 0 ⟨#[]⟩ 0 0) 95))
  have uT:=Hq (Ge.trans hx (ay x (.cells (dZ 0 ⟨#[]⟩ 0 0) 95)))
  clear hx
  generalize x.alloc (.cells (dZ 0 ⟨#[]⟩ 0 0) 95)=y2 at *
  generalize x.heap.size=g at *
  refine dV 4 rfl Aab Aad (λx2 hx2=>?_)
  go_simp
  refine(clone k x2 Aaa).mono ?_
  rintro e y3 ⟨rfl,hby⟩
  refine⟨hby,?_⟩
  have HGC:=Hq (au Gg (Ge.trans hx2 hby))
  have HBC:=Hq (Ge.trans uT (Ge.trans hx2 hby))
  clear hx2 hby Gg uT
  refine tk [7] ?_
  (refine uS (λK hK=>?_);go_simp;refine hK _ ?_;clear hK K)
  refine jK ?_
  refine bH Aab (λz2 hz2=>?_)
  have kH:=Hq (au HGC hz2)
  have eZ:=Hq (Ge.trans HBC hz2)
  clear hz2 HGC HBC
  have Dh:=aA kH
  obtain⟨g0,g1,g2,g3⟩:=gG kH
  have f0:=aj kH 0
  have f1:=aj kH 1
  have f2:=aj kH 2
  have f3:=aj kH 3
  refine aH 9 rfl Aab Aad ?_
  go_simp
  refine wpAny_done Aab ?_
  go_simp
  go_upto_region 4 with fail
  refine wp_at (λW hW=>?_)
  have UK:Hid (W.heap[g]?=some (.cells (dZ no k nn 0) 95 (0,0))):=Abx
  have iR:Hid (aI z W):=Aby
  clear hW kH eZ Dh g0 g1 g2 g3 f0 f1 f2 f3
 all_goals
  have HWW:=Hq (HZ.step iR)
  have Gi:=Hq (au RY iR)
  clear HZ RY iR
  obtain⟨⟨p0,p1,p2,p3,p4,p5,p6,p7,p8,p9,nX⟩,_⟩:=aO Gi
  have hpw:=aA Gi
  go_wp2_with fail
  refine(uP W HWW).mono ?_
  rintro e w1 ⟨rfl,hb1⟩
  have HW2:=Hq (HWW.step hb1)
  have HG2:=Hq (au UK hb1)
  clear hb1 uP p0 p1 p2 p3 p4 p5 p6 p7 p8 p9 nX HWW Gi UK
  go_upto_region 5 with fail
  refine wp_at (λV hV=>?_)
  obtain rfl:=hV
  obtain⟨g6,hAr,aHj,aHe,⟨q0,q1,q2,q3⟩,_⟩:=HW2.reqRow i hil
  obtain⟨d0,d1,d2,d3,d4,d5,d6,d7,d8,d9⟩:=jH HW2.blk
  rw [hAr] at d8
  obtain⟨s0,s1,s2,s3⟩:=gG HG2
  have hw2:=aA HW2.blk
  have hg2:=aA HG2
  have aFN:(i:Int) < (n.reqs.length:Int):=Aaa
  generalize n.reqs[i]=lm at *
  obtain⟨ln,lk,lx,ls⟩:=lm
  dsimp only at q0 q1 q2 q3 ae7 HSQ
  subst ae7
  have heq:=aFp ln lk k lx nn ls 0
  have hB:=ah HSQ
  generalize (lk.toList == k.toList&&decide (lx=nn)&&decide (ls=0))=B at *
  subst hB
  have y8:=cell_regrown d8
  have x0:=cell_regrown q0
  have x1:=cell_regrown q1
  have x2:=cell_regrown q2
  have x3:=cell_regrown q3
  have v0:=cell_regrown s0
  have v1:=cell_regrown s1
  have v2:=cell_regrown s2
  have v3:=cell_regrown s3
  clear d0 d1 d2 d3 d4 d5 d6 d7 d8 d9 q0 q1 q2 q3 s0 s1 s2 s3
  refine dz Aab ?_
  show gT _ _ _ _ 13 (Array.replicate 13 false) _ _
  refine tk [0,1,2,3,4,5,6,7,8,9,10,11,12] ?_
  iterate 13 (refine AJ (λK hK=>?_);go_simp;refine hK _ ?_;clear hK K)
  refine jK ?_
  refine fu Aab (λV hV=>?_)
  have HW3:=Hq (HW2.step hV)
  clear hV HW2 HG2 y8 x0 x1 x2 x3 v0 v1 v2 v3 heq
  go_simp
  cases SQ
  all_goals
   go_wp2_with fail
   go_ret
   rw [ah HAD]
   exact⟨rfl,A,G,c,HW3⟩):P:=h
theorem asG.Aea(h:P:=by
 refine yI 4 8 rfl rfl Aab Aad Aad (λx hx=>?c1) (λx hx=>?c2)
 case' c1=>
  go_simp
  refine(clone k x Aaa).mono ?_
  rintro e y ⟨rfl,hby⟩
  refine⟨hby,?_⟩
  have HY:=Hq (Ge.trans hx hby)
  clear hx hby
  refine tk [7] ?_
  (refine uS (λK hK=>?_);go_simp;refine hK _ ?_;clear hK K)
  refine jK ?_
  refine dV 8 rfl Aab Aad (λx2 hx2=>?_)
  go_simp
  refine⟨ay x2 _,?_⟩
  have hgl:z.heap.size<=x2.heap.size:=(Ge.trans HY hx2).size
  have Gg:=Hq (heap_alloc_new x2 (.cells (dZ 0 ⟨#[]⟩ 0 0) 95))
  have uT:=Hq (Ge.trans (Ge.trans HY hx2) (ay x2 (.cells (dZ 0 ⟨#[]⟩ 0 0) 95)))
  clear hx2 HY
  generalize x2.alloc (.cells (dZ 0 ⟨#[]⟩ 0 0) 95)=y2 at *
  generalize x2.heap.size=g at *
  refine bH Aab (λz2 hz2=>?_)
  have kH:=Hq (au Gg hz2)
  have eZ:=Hq (Ge.trans uT hz2)
  clear hz2 Gg uT
  have Dh:=aA kH
  obtain⟨g0,g1,g2,g3⟩:=gG kH
  have f0:=aj kH 0
  have f1:=aj kH 1
  have f2:=aj kH 2
  have f3:=aj kH 3
  refine aH 9 rfl Aab Aad ?_
  go_simp
  refine wpAny_done Aab ?_
  go_simp
  go_upto_region 4 with fail
  refine wp_at (λW hW=>?_)
  have UK:Hid (W.heap[g]?=some (.cells (dZ no k nn 0) 95 (0,0))):=Abx
  have iR:Hid (aI z W):=Aby
  clear hW kH eZ Dh g0 g1 g2 g3 f0 f1 f2 f3
 case' c2=>
  go_simp
  refine⟨ay x _,?_⟩
  have hgl:z.heap.size<=x.heap.size:=hx.size
  have Gg:=Hq (heap_alloc_new x (.cells (dZ 0 ⟨#[]⟩ 0 0) 95))
  have uT:=Hq (Ge.trans hx (ay x (.cells (dZ 0 ⟨#[]⟩ 0 0) 95)))
  clear hx
  generalize x.alloc (.cells (dZ 0 ⟨#[]⟩ 0 0) 95)=y2 at *
  generalize x.heap.size=g at *
  refine dV 4 rfl Aab Aad (λx2 hx2=>?_)
  go_simp
  refine(clone k x2 Aaa).mono ?_
  rintro e y3 ⟨rfl,hby⟩
  refine⟨hby,?_⟩
  have HGC:=Hq (au Gg (Ge.trans hx2 hby))
  have HBC:=Hq (Ge.trans uT (Ge.trans hx2 hby))
  clear hx2 hby Gg uT
  refine tk [7] ?_
  (refine uS (λK hK=>?_);go_simp;refine hK _ ?_;clear hK K)
  refine jK ?_
  refine bH Aab (λz2 hz2=>?_)
  have kH:=Hq (au HGC hz2)
  have eZ:=Hq (Ge.trans HBC hz2)
  clear hz2 HGC HBC
  have Dh:=aA kH
  obtain⟨g0,g1,g2,g3⟩:=gG kH
  have f0:=aj kH 0
  have f1:=aj kH 1
  have f2:=aj kH 2
  have f3:=aj kH 3
  refine aH 9 rfl Aab Aad ?_
  go_simp
  refine wpAny_done Aab ?_
  go_simp
  go_upto_region 4 with fail
  refine wp_at (λW hW=>?_)
  have UK:Hid (W.heap[g]?=some (.cells (dZ no k nn 0) 95 (0,0))):=Abx
  have iR:Hid (aI z W):=Aby
  clear hW kH eZ Dh g0 g1 g2 g3 f0 f1 f2 f3
 all_goals
  have HWW:=Hq ((HZ.recol (c':=newC z.heap.size 9 c) (λx hx=>fq hx)).step iR)
  have hcg:newC z.heap.size 9 c g=9:=bq hgl
  have Gi:=Hq (au RY iR)
  have hgw:=aA UK
  have aFL:g≠wb:=by have:=aA HZ.blk;omega
  clear HZ RY iR
  obtain⟨⟨p0,p1,p2,p3,p4,p5,p6,p7,p8,p9,nX⟩,_⟩:=aO Gi
  have hpw:=aA Gi
  go_wp2_with fail
  refine(uP W _ HWW).mono ?_
  rintro e w1 ⟨rfl,hb1⟩
  have HW2:=Hq (HWW.step hb1)
  have rz:=Hq (au Gi hb1)
  have HG2:=Hq (au UK hb1)
  clear hb1 uP p0 p1 p2 p3 p4 p5 p6 p7 p8 p9 nX HWW Gi UK hgw
  go_upto_region 5 with fail
  refine wp_at (λV hV=>?_)
  obtain rfl:=hV
  refine dz Aab ?_
  show gT _ _ _ _ 13 (Array.replicate 13 false) _ _
  refine tk [0,1,2,3,4,5,6,7,8,9,10,11,12] ?_
  iterate 13 (refine AJ (λK hK=>?_);go_simp;refine hK _ ?_;clear hK K)
  refine jK ?_
  refine fu Aab (λV hV=>?_)
  have HW3:=Hq (HW2.step hV)
  have Zg:=Hq (au rz hV)
  have Ea:=Hq (au HG2 hV)
  clear hV HW2 rz HG2
  obtain⟨c0,c1,c2,c3,c4,c5,c6,c7,c8,c9⟩:=jH HW3.blk
  obtain⟨⟨p0,p1,p2,p3,p4,p5,p6,p7,p8,p9,nX⟩,_⟩:=aO Zg
  have hw3:=aA HW3.blk
  have hp3:=aA Zg
  go_simp
  go_upto_region 10 with fail
  have y4:=cell_regrown c4
  have z2:=cell_regrown p2
  have z3:=cell_regrown p3
  clear c0 c1 c2 c3 c4 c5 c6 c7 c8 c9 p0 p1 p2 p3 p4 p5 p6 p7 p8 p9 nX
  refine dD 13 Aab ?_
  show fC _ _ _ _ _ 15 (Array.replicate 15 false) _ _
  refine tk [0,1,2,3,4,5,6,7,8,9] ?_
  iterate 10 (refine uS (λK hK=>?_);go_simp;refine hK _ ?_;clear hK K)
  refine jK ?_
  clear y4 z2 z3
  refine dV 10 rfl Aab Aad (λx hx=>?_)
  go_simp
  have HX:=Hq (HW3.step hx)
  refine(Rt x _ HX).mono ?_
  rintro e y ⟨a,cp,g5,hg5,rfl,hp,hby⟩
  refine⟨hby,?_⟩
  have hgx:g < x.heap.size:=Nat.lt_of_lt_of_le (aA Ea) hx.size
  have HGX:=Hq (au Ea (Ge.trans hx hby))
  have HST:=Hq (λu (hu:Ge y u)=>Wm (cp:=cp) HX (hby.trans (hu.mono hby.size)) hg5 (hp.below hu))
  clear hby hg5 hp Rt hx Ea Zg
  refine tk [11,12] ?_
  iterate 2 (refine uS (λK hK=>?_);go_simp;refine hK _ ?_;clear hK K)
  refine jK ?_
  refine bH Aab (λu hu=>?_)
  refine aH 13 rfl Aab Aad ?_
  go_simp
  refine(HST u hu).mono ?_
  rintro e z9 ⟨rfl,A',G',c',hZ9,VL,KO⟩
  have hc9:c' g=9:=(KO g hgx).trans hcg
  have HZ9:=Hq hZ9
  have HG9:=Hq (VL g _ aFL (au HGX hu))
  clear hZ9 HST hu VL HGX HX HW3 KO hcg hgx
  obtain⟨rl,rb⟩:=r
  dsimp only at HZ9 HAD HRL ⊢
  refine aH 14 rfl Aab Aad ?_
  go_simp
  refine wpAny_done Aab ?_
  go_simp
  have h9l:=aA HG9
  obtain⟨s0,s1,s2,s3⟩:=gG HG9
  have sf3:=aj HG9 3
  cases rb
  .rw [if_neg Aac] at HZ9;have hrl:=ah HRL rfl;subst hrl;rw [if_neg Aac] at HAD;have anb:=Hq (HZ9.kc (k:=9) (KC.set (i:=3) (v:= .int .i64 1) hc9) Aaa);have amK:=Hq (aDi (u:= .int .i64 1) HG9);clear HZ9;go_upto_region 12 with fail;refine wp_at (λY hY=>?_);have aDO:Hid (WK w0 Y wb n A' G' c' v L):=by rw [hY];exact anb
   have amL:Hid (Y.heap[g]?=some (.cells (dZ no k nn 1) 95 (0,0))):=by rw [hY];exact amK
   clear hY anb amK HG9 s0 s1 s2 s3 sf3 h9l;have h9l:=aA amL;obtain⟨s0,s1,s2,s3⟩:=gG amL;have HKP:=Hq (adI w0 Y wb n A' G' c' v L ⟨no,k,nn,1⟩ i hil hlen aDO);rw [ah HKN] at HKP;exact aiD
  .rw [if_pos rfl] at HZ9;rw [if_pos rfl] at HAD;have HKP:=Hq (adI w0 z9 wb (setPu n rl) A' G' c' v L ⟨no,k,nn,0⟩ i hil hlen HZ9);have hki:Cr (setPu n rl) ⟨no,k,nn,0⟩ i=lY (setPu n rl) ⟨no,k,nn,0⟩:=ah HKI rl 0;rw [hki] at HKP;clear hki;exact aiD):P:=h
theorem agj(h:P:=by
 have HF:=Hq hf;have akv:=Hq (VN mp mb n0 _ G ⟨pk,qm,qf,qs⟩ w6 hkey hn0 Cj.blk Cj.map);have ZQ:=Hq Cj;obtain⟨⟨p0,p1,p2,p3⟩,_⟩:=gD alG;clear hf Cj alG;go_wp2_with fail;refine akv.mono ?_;rintro e w7 ⟨rfl,hm7,hk7⟩;have HP7:=Hq (ZQ.turned hk7 hm7);have Dx:=Hq (wL.trans (Cu hk7 ZQ.lom (Nat.le_trans hB wL.size)));clear hm7 hk7 p0 p1 p2 p3;go_wp2_with fail;go_ret;exact Afz):P:=h
theorem asH.Afz(h:P:=by
 exact⟨Dx,.inr ⟨.inr h20,rfl,_,HP7⟩⟩):P:=h
theorem asI.Afz(h:P:=by
 exact⟨Dx,.inr ⟨.inl HF,rfl,_,HP7⟩⟩):P:=h
theorem Va(h:P:=by
 open atC in exact Vd):P:=h
theorem asJ.AbS(h:P:=by
 refine aP 7 rfl Aab Aab Aab (λ_ _ _ _ h=>h) (λK hK=>?_);open arx in exact aex):P:=h
theorem asK.AbS(h:P:=by
 refine aP 3 rfl Aab Aab Aab (λ_ _ _ _ h=>h) (λK hK=>?_);open arA in exact aex):P:=h
theorem asL.AbS(h:P:=by
 refine aP 8 rfl Aab Aab Aab (λ_ _ _ _ h=>h) (λK hK=>?_);open arz in exact aex):P:=h
theorem asM.AbS(h:P:=by
 exact Ab6):P:=h
theorem Oi(h:P:=by
 have hke:k=out.length:=Aaa
 subst hke;have hnlt:decide ((out.length:Int) < (out.length:Int))=false:=Aac
 exact AbB):P:=h
theorem asN.AbB(h:P:=by
 have HOF:Hid (TT=gZ RQ RR reqs):=by
  have h:=ah kX;rw [List.take_length] at h;rw [ah HTT,h];rfl
 clear Nt D9 wV HOT;go_wp2_with fail;go_loopw [5] (λi wr=>∃k:Nat,k<=reqs.length/\i= .int .i64 k/\gZ RQ RR (reqs.take k)=true/\wr.heap[w.heap.size]?=some (.cells (dH ⟨id,par,kids,next,pu,out,seen,old,reqs⟩ ⟨ak,ap,ao,as',ar,ck,cp,co,cs,cr⟩) 40 (0,0))/\aI w wr) (λi _=>reqs.length - (intOf i).toNat)
 case atStart=>exact⟨0,Nat.zero_le _,rfl,rfl,Gf,cZ⟩
 case round=>
  open atE in exact Ve):P:=h
theorem asO.AbB(h:P:=by
 exact ak9):P:=h
theorem asP.AbB(h:P:=by
 have HRS:Hid (L=(out.take out.length).map PM):=by
  rw [ah NH,List.take_length];cases hOK:OK
  .rcases Nat.eq_zero_or_pos out.length with h|h
   .rw [List.eq_nil_of_length_eq_zero h];rfl
   .exact absurd (hpos h) (by rw [hOK];simp)
  .rfl
 clear hpos;go_wp2_with fail;go_ret;rw [ah HRS];exact AL.of_own Aac HO Aaa HW):P:=h
theorem asQ.AbB(h:P:=by
 have HF:=Hq (Dy HN);go_wp2_with fail;go_ret;exact⟨Mf HF.symm,ay w _⟩):P:=h
theorem asR.AbB(h:P:=by
 have hyy:=ah Dy HN;clear HLY yJ Dy;subst hyy;go_upto_region 8 with fail;refine wp_at (λW3 hW3=>?_);have hbw:aI wr W3:=by rw [hW3];exact Below.refl _ _
 open arC in exact aAK):P:=h
theorem El(h:P:=by
 obtain⟨k,hk,rfl,hB,hbel⟩:=hrel;have HB:=Hq hB;have cZ:=Hq hbel;clear hB hbel hmk;exact Aa0):P:=h
theorem asS.Aa0(h:P:=by
 by_cases hlt:k < l.length
 .obtain⟨g,off,rfl,hgw,q0,q1,q2,q3⟩:=aG.four (GR.At.below HA cZ) k hlt;have TS:=Hq (CF l ⟨ByteArray.empty,0,0,0⟩ k hlt);generalize l[k]=pu at *;obtain⟨pk,pm,pf,ps⟩:=pu;dsimp only at q0 q1 q2 q3;have hln:(l.take k++List.replicate (l.length - k) (⟨ByteArray.empty,0,0,0⟩:Pu)).length=l.length:=Aag
  go_wp2_with fail;refine(afN ⟨pk,pm,pf,ps⟩ _).mono ?_;rintro e w5 ⟨rfl,hb5⟩;have gY:=Hq (Ku HB hb5);have fO:=Hq (cZ.trans (hb5.mono cZ.size));clear hb5 q0 q1 q2 q3;exact aBE
 .exact Sj):P:=h
theorem asT.Aa0(h:P:=by
 by_cases hlt:k < l.length
 .obtain⟨g,off,rfl,hgw,q0⟩:=bZ.one (GR.At.below HA cZ) k hlt;have TS:=Hq (YT l 0 k hlt);generalize l[k]=pu at *;have hln:(l.take k++List.replicate (l.length - k) (0:Int)).length=l.length:=Aag
  have s0:=lX.one HB k Aaa;have f0:=GR.Blk.free HB k;go_wp2_with fail;first|go_region|skip
  go_roundw
  case rel=>
   have h:=GR.Blk.set HB aX k Aaa pu;rw [ah TS] at h;have h2:=GR.setW_below (o:=k*1) (Nat.le_refl w.heap.size) (bf pu) cZ;rw [Nat.mul_one] at h h2;exact⟨k+1,Aaa,Aah,h,h2⟩
  case measure=>simp[intOf];omega
 .exact Sj):P:=h
theorem asU.Aa0(h:P:=by
 by_cases hlt:k < l.length
 .obtain⟨g,off,rfl,hgw,q0,q1,q2,q3⟩:=SentAt.four (GR.At.below HA cZ) k hlt;have TS:=Hq (M4 l ⟨0,0,ByteArray.empty,0⟩ k hlt);generalize l[k]=pu at *;obtain⟨pi,pt,pk,pn⟩:=pu;dsimp only at q0 q1 q2 q3;have hln:(l.take k++List.replicate (l.length - k) (⟨0,0,ByteArray.empty,0⟩:jw)).length=l.length:=Aag
  go_wp2_with fail;refine(amd ⟨pi,pt,pk,pn⟩ _).mono ?_;rintro e w5 ⟨rfl,hb5⟩;have gY:=Hq (lU.step HB hb5);have fO:=Hq (cZ.trans (hb5.mono cZ.size));clear hb5 q0 q1 q2 q3;obtain⟨s0,s1,s2,s3⟩:=lU.four gY k Aaa;open awP in exact aax
 .exact Sj):P:=h
theorem asV.Aa0(h:P:=by
 by_cases hlt:k < l.length
 .obtain⟨g,off,rfl,hgw,q0,q1,q2,q3⟩:=gF.four (GR.At.below HA cZ) k hlt;have TS:=Hq (Q8 l ⟨0,ByteArray.empty,0,0⟩ k hlt);generalize l[k]=pu at *;obtain⟨pno,pk,pn,ps⟩:=pu;dsimp only at q0 q1 q2 q3;have hln:(l.take k++List.replicate (l.length - k) (⟨0,ByteArray.empty,0,0⟩:Rq)).length=l.length:=Aag
  go_wp2_with fail;refine(aDm ⟨pno,pk,pn,ps⟩ _).mono ?_;rintro e w5 ⟨rfl,hb5⟩;have gY:=Hq (pO.step HB hb5);have fO:=Hq (cZ.trans (hb5.mono cZ.size));clear hb5 q0 q1 q2 q3;obtain⟨s0,s1,s2,s3⟩:=pO.four gY k Aaa;open awO in exact aax
 .exact Sj):P:=h
theorem asW.Aa0(h:P:=by
 by_cases hlt:k < l.length
 .obtain⟨g,off,rfl,hgw,q0,q1,q2,q3,q4,q5,q6,q7,q8,q9,q10,q11⟩:=lS (GR.At.below HA cZ) k hlt;have TS:=Hq (JZ l ⟨⟨0,0,ByteArray.empty,0,⟨0,0,0,0,0,ByteArray.empty,0⟩⟩,0⟩ k hlt);generalize l[k]=pu at *;have Np:=Hq (λw1=>adv pu w1);obtain⟨⟨oK,Qe,ok,on,⟨mK,mF,mT,mI,mL,mk,mN⟩⟩,ac⟩:=pu;dsimp only at q0 q1 q2 q3 q4 q5 q6 q7 q8 q9 q10 q11;have hln:(l.take k++List.replicate (l.length - k) (⟨⟨0,0,ByteArray.empty,0,⟨0,0,0,0,0,ByteArray.empty,0⟩⟩,0⟩:An)).length=l.length:=Aag
  open azC in exact ah6
 .exact Sj):P:=h
theorem asX.Aa0(h:P:=by
 by_cases hlt:k < l.length
 .obtain⟨g,off,rfl,hgw,q0,q1,q2,q3,q4,q5,q6⟩:=qG (GR.At.below HA cZ) k hlt;have TS:=Hq (JZ l ⟨0,0,0,0,0,ByteArray.empty,0⟩ k hlt);generalize l[k]=pu at *;have Np:=Hq (λw1=>akg pu w1);obtain⟨mK,mF,mT,mI,mL,mk,mN⟩:=pu;dsimp only at q0 q1 q2 q3 q4 q5 q6;have hln:(l.take k++List.replicate (l.length - k) (⟨0,0,0,0,0,ByteArray.empty,0⟩:Mg)).length=l.length:=Aag
  open azB in exact ah6
 .exact Sj):P:=h
theorem asY.Aa0(h:P:=by
 by_cases hlt:k < l.length
 .obtain⟨g,cap',ev,hgl,hgw⟩:=HR.form Aaa;have ea:a=some ⟨g,0,none⟩:=by injection ev
  subst ea;have c0:∀(_:k < l.length),Hid True:=λ_=>trivial
  clear c0 ev;have hcl:_:=cZ.cell (p:=⟨g,k,none⟩) hgw;have hce:=HR.cellAt k Aaa;have hck:w.cell? ⟨g,k,none⟩=some (.string l[k].k):=by rw [hce];simp[hlt]
  rw [hck] at hcl;clear hce hck;have TS:=Hq (CF l ⟨ByteArray.empty,0,0,0⟩ k hlt);have hkk:=ah RI l[k] (List.getElem_mem hlt);have hgk:=ah HG l[k] (List.getElem_mem hlt);have alq:=HH.below cZ;generalize l[k]=pu at *;have Nu:=Hq (Le mp mb n _ G pu.k wr hkk alq.blk alq.map);rw [hgk] at Nu;have nW:=Hq (λw1=>ES pu w1 hkk);clear hkk hgk alq;obtain⟨pk,pm,pf,ps⟩:=pu;dsimp only at hcl;have hln:(l.take k++List.replicate (l.length - k) (⟨ByteArray.empty,0,0,0⟩:Pu)).length=l.length:=Aag
  go_wp2_with fail;refine Nu.mono ?_;rintro e w4 ⟨rfl,hb4⟩;have nK:=Hq (Ku HB hb4);have DY:=Hq (cZ.trans (hb4.mono cZ.size));clear hb4 Nu;go_wp2_with fail;refine(nW _).mono ?_;rintro e w5 ⟨rfl,hb5⟩;have gY:=Hq (Ku nK hb5);have fO:=Hq (DY.trans (hb5.mono DY.size));clear hb5;exact aBE
 .exact Sj):P:=h
theorem Oj(h:P:=by
 go_wp2_with fail;refine H.mono ?_;rintro e w1 ⟨v,rfl,hv,hown,hb⟩;have HV:=Hq hv;have HO:=Hq hown;have HB:=Hq hb;clear hown hb hv;go_wp2_with fail;exact AbA):P:=h
theorem asZ.AbA(h:P:=by
 exact bodyPost_ret (v:= .tuple #[v,.bool r.2]) (by simp[results,results148,go_sem]) rfl ⟨v,rfl,HV,HO,HB⟩):P:=h
theorem as0.AbA(h:P:=by
 exact bodyPost_ret (v:= .tuple #[v,.bool r.2]) (by simp[results,results147,go_sem]) rfl ⟨v,rfl,HV,HO,HB⟩):P:=h
theorem as1.AbA(h:P:=by
 exact bodyPost_ret (v:= .tuple #[v,.bool r.2]) (by simp[results,results152,go_sem]) rfl ⟨v,rfl,HV,HO,HB⟩):P:=h
theorem as3.AbA(h:P:=by
 exact bodyPost_ret (v:= .tuple #[v,.bool r.2]) (by simp[results,results184,go_sem]) rfl ⟨v,rfl,HV,HO,HB⟩):P:=h
theorem as4.AbA(h:P:=by
 exact bodyPost_ret (v:= .tuple #[v,.bool r.2]) (by simp[results,results106,go_sem]) rfl ⟨v,rfl,HV,HO,HB⟩):P:=h
theorem xq(h:P:=by
 clear hr;go_in
 go_upto_region 11 with fail;refine wp_at (λV hV=>?_);exact AaW):P:=h
theorem as5.AaW(h:P:=by
 have hblk:V.heap[w.heap.size]?=some (.cells (bX 2 F T I 0 ByteArray.empty 0) 98 (0,0)):=by rw [hV,Below.heap_alloc _ _ _ Aac];exact heap_alloc_new w _
 open aEj in exact Yk6):P:=h
theorem as6.AaW(h:P:=by
 have hblk:V.heap[w.heap.size]?=some (.cells (bX 2 F T I 0 ByteArray.empty N) 98 (0,0)):=by rw [hV,Below.heap_alloc _ _ _ Aac];exact heap_alloc_new w _
 open aEk in exact Yk6):P:=h
theorem as7.AaW(h:P:=by
 have hblk:V.heap[w.heap.size]?=some (.cells (bX 2 F T I L k N) 98 (0,0)):=by rw [hV,Below.heap_alloc _ _ _ Aac];exact heap_alloc_new w _
 open aEm in exact Yk6):P:=h
theorem as8.AaW(h:P:=by
 have hblk:V.heap[w.heap.size]?=some (.cells (bX 2 F T I L k N) 98 (0,0)):=by rw [hV,Below.heap_alloc _ _ _ Aac];exact heap_alloc_new w _
 open aqm in exact WX):P:=h
theorem as9.AaW(h:P:=by
 have hblk:V.heap[w.heap.size]?=some (.cells (bX 1 F T I L k N) 98 (0,0)):=by rw [hV,Below.heap_alloc _ _ _ Aac];exact heap_alloc_new w _
 open aqn in exact WX):P:=h
theorem ata.AaW(h:P:=by
 have hblk:V.heap[w.heap.size]?=some (.cells (bX 1 F T I L k N) 98 (0,0)):=by rw [hV,Below.heap_alloc _ _ _ Aac];exact heap_alloc_new w _
 open aqo in exact WX):P:=h
theorem atb.AaW(h:P:=by
 have hblk:V.heap[w.heap.size]?=some (.cells (bX 0 F T 0 0 k N) 98 (0,0)):=by rw [hV,Below.heap_alloc _ _ _ Aac];exact heap_alloc_new w _
 open aER in exact akF):P:=h
theorem atc.AaW(h:P:=by
 have hblk:V.heap[w.heap.size]?=some (.cells (bX 0 F T 0 L k N) 98 (0,0)):=by rw [hV,Below.heap_alloc _ _ _ Aac];exact heap_alloc_new w _
 open aES in exact akF):P:=h
theorem atd.AaW(h:P:=by
 have hblk:V.heap[w.heap.size]?=some (.cells (bX 0 F T I L k N) 98 (0,0)):=by rw [hV,Below.heap_alloc _ _ _ Aac];exact heap_alloc_new w _
 open aET in exact akF):P:=h
theorem ate.AaW(h:P:=by
 have hblk:V.heap[w.heap.size]?=some (.cells (bX 0 F T I L k N) 98 (0,0)):=by rw [hV,Below.heap_alloc _ _ _ Aac];exact heap_alloc_new w _
 open aqp in exact WX):P:=h
theorem agk(h:P:=by
 rw [hlt1] at KV KU;refine Lib.wp_append_run x3 (.tmp 127) (.tmp 130) 22 22 rfl _ _ Aal Aal v3 y3 KV ?_;refine⟨(Below.refl _ _).grown xV Bu (λb hb=>(AV.lt b hb).1),?_⟩;go_simp;have Wx:=Hq (yL.grown xV Bu (λb hb=>(AV.lt b hb).1));have WR:Hid (y3.ownsRow uI.heap.size 3 1 v3 (pos) (GR.flat bf ((bg s0 mL).take pos))):=Hq (by simpa [GR.flat_nil] using KU);exact Aeg):P:=h
theorem atf.Aeg(h:P:=by
 have Gp:=Hq (show y3.heap[x2.heap.size]?=some (.cells #[.int .i64 mI] 3 (0,0)) from by rw [xV.block _ (aA (ah xK)) (λhm=>ah J8 _ hm.symm rfl)];exact xK);open axA in exact aaE):P:=h
theorem atg.Aeg(h:P:=by
 have Gp:=Hq (show y3.heap[x1.heap.size]?=some (.cells #[.int .i64 mI] 3 (0,0)) from by rw [xV.block _ (aA (ah xK)) (λhm=>ah J8 _ hm.symm rfl)];exact xK);open axx in exact aaD):P:=h
theorem agl(h:P:=by
 obtain⟨i,hi,hcmp⟩:=Option.map_eq_some_iff.1 Is.comp;obtain⟨j,hj,hjs⟩:=Option.map_eq_some_iff.1 Is.size;have h8:= @run_callFunc_extern prog 292 _ Extern.ReflectliteType.typeOf func292 Aab Aab Aab Aab;have h32:= @run_callFunc_extern prog 350 _ Is.cmp func350 Aab Aab Aab Aab;have tT:=Is.typeOf;have cT:=Is.comparable;have mR:=Is.methodComparable;exact AeD):P:=h
theorem ath.AeD(h:P:=by
 have nE:=Is.noIs;have uE:=Is.noUnwrap;have vE:=Is.noUnwraps;have heq:=run_eql_iface_ptr_other (P:=prog) w underlying242 underlying372 hi hcmp hj (by rw [hjs];decide) hne ha hb;exact ajp):P:=h
theorem ati.AeD(h:P:=by
 have heq:=run_eql_iface_ptr_same (P:=prog) w a underlying242 underlying372 hi hcmp hj;exact ajp):P:=h
theorem aar(h:P:=by
 refine CP 0 rfl Aab Aab Aab (λ_ _ _ _ h=>h) (λK hK=>?_);go_simp
 first
  |(refine hK _ ?_;clear hK K)
  |(apply Exists.intro
    refine⟨λ_=>rfl,hK _ ?_⟩
    clear hK K)
 exact AcL):P:=h
theorem atj.AcL(h:P:=by
 refine qY 7 ?_;refine tk [1,2,3,4,5] ?_;iterate 5 (refine uS (λK hK=>?_);go_simp;refine hK _ ?_;clear hK K)
 refine jK ?_;clear y9 z0 z1 z2 z3 z4 z5 z6;refine dV 6 rfl Aab Aad (λx hx=>?_);go_simp;refine⟨ay x _,?_⟩;have Jd:=Hq ((HSW.step hx).step (ay x (.cells (bX mK mF mT mI mL mk mN) 98)));have iG:=Hq (heap_alloc_new x (.cells (bX mK mF mT mI mL mk mN) 98));have hbs:w0.heap.size<=x.heap.size:=(HSW.step hx).keep.size;clear hx HSW HXW iR HS;generalize x.alloc (.cells (bX mK mF mT mI mL mk mN) 98)=y at *;refine bH Aab (λz hz=>?_);have uX:=Hq (Jd.step hz);have Dz:=Hq (au iG hz);clear hz Jd iG;refine aH 7 rfl Aab Aad ?_;refine ou z (.tmp 12) (.tmp 14) 41 rfl w0.heap.size 98 i0 (.agg (bX 0 0 0 0 0 ByteArray.empty 0)) 7 64 underlying41 hi hz0 hz1 hz2 rfl Aae (.slice va L.length vc) L.length (GR.flat lu L) Aal uX.m ⟨x.heap.size,0,none⟩ 1 1 (lu ⟨mK,mF,mT,mI,mL,mk,mN⟩) Aal rfl (World.news_of_block Dz) (OX _) Aai Aaa uX.keep.size ?_;intro v6 w6 hown6 qz Pk;obtain⟨va6,vc6,hv6,_⟩:=GR.own_at (enc:=lu) (sz:=7) (l:=L++[⟨mK,mF,mT,mI,mL,mk,mN⟩]) qO (by rw [List.length_append,iW];exact hown6);rw [List.length_append] at hv6;have hv7:v6= .slice va6 (L.length+1) vc6:=hv6;subst hv7;clear hv6;obtain⟨hb6,hS6⟩:=uX.app ⟨mK,mF,mT,mI,mL,mk,mN⟩ hown6 qz Pk;have HS6:=Hq hS6;obtain⟨k0,k1,k2,k3,k4,k5,k6,k7,k8,k9⟩:=jH hb6;have kf:=aj hb6 9;clear hown6 qz Pk hb6 hS6 uX Dz;refine aH 8 rfl Aab Aad ?_;go_simp;refine aH 9 rfl Aab Aad ?_;go_simp;refine aH 10 rfl Aab Aad ?_;go_simp;refine wpAny_done Aab ?_;go_simp;go_wp2_with fail;exact bodyPost_end (v:= .tuple #[]) (by simp[results,results215,go_sem]) rfl ⟨rfl,_,_,HS6⟩):P:=h
theorem atl.AcL(h:P:=by
 refine qY 9 ?_;refine tk [1,2,3,4,5,6,7] ?_;iterate 7 (refine uS (λK hK=>?_);go_simp;refine hK _ ?_;clear hK K)
 refine jK ?_;clear y8 z0 z1 z2 z3;refine dV 8 rfl Aab Aad (λx hx=>?_);go_simp;refine⟨ay x _,?_⟩;have HX:=Hq ((HW1.step hx).step (ay x (.cells (dZ q.no q.k q.n q.s) 95)));have HN:=Hq (heap_alloc_new x (.cells (dZ q.no q.k q.n q.s) 95));have HRL:=Hq (show∀y,(Value.slice A.r n.reqs.length A.cr).ownBlock=some y->x.heap.size≠y from λy hy=>by have:=((HW1.step hx).no.r.lt y hy).2;omega);clear hx HW HW1 yQ;generalize x.alloc (.cells (dZ q.no q.k q.n q.s) 95)=x1 at *;refine bH Aab (λu hu=>?_);have HU:=Hq (HX.step hu);have HNU:=Hq (au HN hu);clear hu HX HN;refine aH 9 rfl Aab Aad ?_;go_simp;refine(alS w0.heap.size A.r A.cr i n.reqs q x.heap.size u Aaa hi HU.keep.size HU.no.r HNU HRL).mono ?_;rintro e w6 ⟨a6,c6,rfl,hown6,qz,Pk⟩;obtain⟨hb6,Zq⟩:=HU.reqPut hown6 qz Pk;have U9:=Hq Zq;obtain⟨k0,k1,k2,k3,k4,k5,k6,k7,k8,k9⟩:=jH hb6;have kf:=aj hb6 8;have hw6:=aA hb6;clear hown6 qz Pk hb6 Zq HU HNU HRL;rw [hlen] at U9 ⊢;refine aH 10 rfl Aab Aad ?_;go_simp;refine aH 11 rfl Aab Aad ?_;go_simp;refine aH 12 rfl Aab Aad ?_;go_simp;refine aH 13 rfl Aab Aad ?_;go_simp;refine wpAny_done Aab ?_;go_simp;go_upto_region 2 with fail;refine wp_at (λV hV=>?_);have HV:Hid (WK w0 V wb (eu n (pU n.reqs i q)) ⟨A.k,A.p,A.o,A.s,a6,A.ck,A.cp,A.co,A.cs,c6⟩ G (newC u.heap.size 6 c) v L):=by rw [hV];exact U9
 clear hV U9 k0 k1 k2 k3 k4 k5 k6 k7 k8 k9 kf hw6;have hl2:(eu n (pU n.reqs i q)).reqs.length=n.reqs.length+1:=hlen;obtain⟨d0,d1,d2,d3,d4,d5,d6,d7,d8,d9⟩:=jH HV.blk;rw [hl2] at d8;have hVl:=aA HV.blk;by_cases aj4:30 < n.reqs.length+1
 case' neg=>
  have hm2:¬((30:Int) < (n.reqs.length:Int)+1):=Aaa
  have HK:=Hq (show Cr n q i=eu n (pU n.reqs i q) by unfold Cr;rw [hlen,if_neg aj4]);go_wp2_with fail;exact bodyPost_end (v:= .tuple #[]) (by simp[results,results213,go_sem]) rfl ⟨rfl,_,_,_,by rw [ah HK];exact HV⟩
 have hm2:(30:Int) < (n.reqs.length:Int)+1:=Aaa
 obtain⟨g,hAr,hgw,hgl,⟨q0,_,_,_⟩,_⟩:=HV.reqRow 0 Aaa;dsimp only at hAr;subst hAr;have hz8:(0:Int) < (n.reqs.length:Int)+1:=Aaa
 have HK:=Hq (show Cr n q i=eu (mq n (eu n (pU n.reqs i q)).reqs[0].no) ((pU n.reqs i q).drop 1) by
  unfold Cr
  rw [hlen,if_pos aj4]
  congr 2
  show((pU n.reqs i q).headD default).no=(pU n.reqs i q)[0].no
  rw [List.headD_eq_head?_getD,List.head?_eq_getElem?,List.getElem?_eq_getElem Aaa]
  rfl)
 generalize (eu n (pU n.reqs i q)).reqs[0].no=old at *;rw [Nat.zero_mul] at q0;have vf7:=aj HV.blk 7;have vf8:=aj HV.blk 8;have HO:=Hq (HV.oldPut old);go_upto_region 4 with fail;refine wp_at (λV2 hV2=>?_);have HV2:Hid (WK w0 V2 wb (mq (eu n (pU n.reqs i q)) old) ⟨A.k,A.p,A.o,A.s,some ⟨g,0,none⟩,A.ck,A.cp,A.co,A.cs,c6⟩ G (newC u.heap.size 6 c) v L):=by rw [hV2];exact HO
 clear hV2 HO HV d0 d1 d2 d3 d4 d5 d6 d7 d8 d9 q0 vf7 vf8 hVl;have hl3:(mq (eu n (pU n.reqs i q)) old).reqs.length=n.reqs.length+1:=hlen;obtain⟨d0,d1,d2,d3,d4,d5,d6,d7,d8,d9⟩:=jH HV2.blk;rw [hl3] at d8;have hVl:=aA HV2.blk;have HD:=Hq (alg w0.heap.size (some ⟨g,0,none⟩) c6 (pU n.reqs i q) V2 Aaa Aaa HV2.no.r);rw [hlen] at HD;go_wp2_with fail;refine HD.mono ?_;rintro e w7 ⟨a7,c7,rfl,Jp,aCq,aCJ⟩;obtain⟨uU,KN⟩:=HV2.reqPut Jp (by rw [hl3];exact aCq) (by rw [hl3];exact aCJ);have hl7:((pU n.reqs i q).drop 1).length=n.reqs.length:=by rw [List.length_drop,hlen];omega
 rw [hl7] at KN;have HW7:=Hq KN;obtain⟨k0,k1,k2,k3,k4,k5,k6,k7,k8,k9⟩:=jH uU;have kf:=aj uU 8;have hw7:=aA uU;clear Jp aCq aCJ uU KN HV2 HD d0 d1 d2 d3 d4 d5 d6 d7 d8 d9;go_wp2_with fail;exact bodyPost_end (v:= .tuple #[]) (by simp[results,results213,go_sem]) rfl ⟨rfl,_,_,_,by rw [ah HK];exact HW7⟩):P:=h
theorem atm.AcL(h:P:=by
 refine qY 8 ?_;refine tk [1,2,3,4,5] ?_;iterate 5 (refine uS (λK hK=>?_);go_simp;refine hK _ ?_;clear hK K)
 refine jK ?_;clear y0;refine dV 6 rfl Aab Aad (λx hx=>?_);go_simp;refine(HO _ ((HH.keep1 (HF2.step hx).keep hfb hne))).mono ?_;rintro e y ⟨hcase,hby⟩;have HFX:=Hq (HF2.step hx);clear hx;rcases hcase with⟨hyes,rfl⟩|⟨hno,p,rfl⟩
 case' inr=>
  have HST:=Hq (HN hno);exact⟨rfl,.inr ⟨_,rfl⟩,HFX.found HS HST hby⟩
 have HST:=Hq (HY hyes);have HSN:=Hq (iG HST);obtain⟨hz5,hz6⟩:=ah HGT HST;clear hyes HY HN iG HGT HO HF2;refine⟨hby,?_⟩;have HFY:=Hq (HFX.step hby);clear hby HFX;refine dV 7 rfl Aab Aad (λx2 hx2=>?_);go_simp;refine⟨ay x2 _,?_⟩;have HFZ:=Hq ((HFY.step hx2).step (ay x2 (.cells (bY K no k n mK mF mT mI mL mk mN) 100)));have Dz:=Hq (heap_alloc_new x2 (.cells (bY K no k n mK mF mT mI mL mk mN) 100));clear hx2 HFY;generalize x2.alloc (.cells (bY K no k n mK mF mT mI mL mk mN) 100)=y2 at *;refine bH Aab (λu hu=>?_);have HFU:=Hq (HFZ.step hu);have HNU:=Hq (aN Dz hu);clear hu HFZ Dz;have hLl:=ah HL;refine aH 8 rfl Aab Aad ?_;refine ou u (.tmp 37) (.tmp 40) 56 rfl (w.heap.size+1) 100 i0 (.agg (bY 0 0 ByteArray.empty 0 0 0 0 0 0 ByteArray.empty 0)) 11 104 underlying56 hi hz0 hz1 hz2 rfl Aae (.slice va L.length vc) L.length (GR.flat nO L) Aal HFU.own ⟨x2.heap.size,0,none⟩ 1 1 (nO ⟨K,no,k,n,⟨mK,mF,mT,mI,mL,mk,mN⟩⟩) Aal rfl (World.news_of_block HNU) (OY _) Aai Aaa (by have:=HFU.gl;omega) ?_;intro v6 w6 hown6 qz _;obtain⟨va6,vc6,hv6,_⟩:=GR.own_at (enc:=nO) (sz:=11) (l:=L++[⟨K,no,k,n,⟨mK,mF,mT,mI,mL,mk,mN⟩⟩]) jR (by rw [List.length_append,xU];exact hown6);rw [List.length_append] at hv6;have hv7:v6= .slice va6 (L.length+1) vc6:=hv6;subst hv7;clear hv6;obtain⟨hb6,hF6⟩:=HFU.app ⟨K,no,k,n,⟨mK,mF,mT,mI,mL,mk,mN⟩⟩ hown6 qz;have HF6:=Hq (hF6 z);obtain⟨k0,k1⟩:=YX hb6;have kf0:=aj1 hb6 0;have kf1:=aj1 hb6 1;clear hown6 qz hb6 hF6 HFU HNU;refine aH 9 rfl Aab Aad ?_;go_simp;refine aH 10 rfl Aab Aad ?_;go_simp;refine aH 11 rfl Aab Aad ?_;go_simp;refine wpAny_done Aab ?_;go_simp;go_wp2_with fail;go_roundw
 case rel=>exact⟨z,_,_,HF6,HSN⟩
 case measure=>
  have h1:=ah HEA;have h2:=HF6.endOf;rw [h1,h2];omega):P:=h
theorem agm(h:P:=by
 clear hm hM;go_in
 go_wp2_with fail;refine(HN _).mono ?_;rintro e w1 ⟨rfl,hb1⟩;rw [hno];obtain⟨hA,hz,hbel⟩:=Fo.one_block hb1;obtain⟨⟨p0,p1,p2,p3⟩,_⟩:=gD hA;have hm1:w1.heap[mp]?=some (.cells #[v,.map (some mb)] 352 (0,0)):=by rw [hbel.block _ hmp];exact HM
 obtain⟨⟨m0,m1⟩,_⟩:=mD hm1;have hI1:iK w1.drew mb n G:=HI.kept (by rw [<-hbel.block _ hmb];rfl);exact Afv):P:=h
theorem atn.Afv(h:P:=by
 obtain⟨w2,hrun,hI2,hK2⟩:=ah HST _ 0 hI1;have HI2:=Hq (hI2.mono (Nat.le_succ n));have sW:=Hq ((Keeps.of_below (g:=mb) hbel).trans (Keeps.trans (b:=w1.drew) (Keeps.of_below (Below.refl _ _).drew) hK2));clear hb1 hA hbel hm1 hI1 hI2 hK2 HST HN;go_wp2_with fail;go_region
 all_goals
  go_wp2_with fail
  exact bodyPost_ret (v:= .tuple #[]) (by simp[results,results301,go_sem]) rfl ⟨rfl,HI2,sW⟩):P:=h
theorem ato.Afv(h:P:=by
 obtain⟨w2,hrun,hI2,hK2⟩:=ah HST _ hI1;have HI2:=Hq hI2;have sW:=Hq ((Keeps.of_below (g:=mb) hbel).trans (Keeps.trans (b:=w1.drew) (Keeps.of_below (Below.refl _ _).drew) hK2));clear hb1 hA hbel hm1 hI1 hI2 hK2 HST HN;go_wp2_with fail;go_region
 all_goals
  go_wp2_with fail
  exact bodyPost_end (v:= .tuple #[]) (by simp[results,results301,go_sem]) rfl ⟨rfl,HI2,sW⟩):P:=h
theorem aas(h:P:=by
 have WR:=Hq (GR.own_below AV abP);have Ww:=Hq (show∀b,((.slice avR (pos) cvR:Value)).ownBlock=some b->b≠x3.heap.size from λb hb=>by have:=(AV.lt b hb).2;omega);have Wx:=Hq (yL.trans (abP.mono yL.size));clear abP;exact Ac0):P:=h
theorem atp.Ac0(h:P:=by
 generalize ab5:x3.alloc (.cells #[.int .i64 mI] 3)=y3 at *;clear ab5;generalize x3.heap.size=rb at *;exact Zk4):P:=h
theorem atq.Ac0(h:P:=by
 generalize ab5:x3.alloc (.cells (dZ no k nn 1) 95)=y3 at *;clear ab5;generalize x3.heap.size=rb at *;exact Zk2):P:=h
theorem atr.Ac0(h:P:=by
 generalize ab5:x3.alloc (.cells (dZ no k nn 0) 95)=y3 at *;clear ab5;generalize x3.heap.size=rb at *;exact Zk1):P:=h
theorem agn(h:P:=by
 go_simp;refine(aea A2 x5 (HS.step HG).nl.at).mono ?_;rintro e y5 ⟨A3,ma,mc,rfl,hat,hmt,hb5⟩;refine⟨hb5.mono HG.size,?_⟩;have hxs:=HG.size;have HNL:=Hq (show NL x5.heap.size y5 A3 m' from λF W'' hk hF=>(hat W'' ⟨F,hk,hF⟩).at);have HG2:=Hq (Ge.trans HG hb5);exact AeX):P:=h
theorem att.AeX(h:P:=by
 have HQ2:=Hq (au HQ hb5);have hqd:qf < x5.heap.size\/y5.heap.size<=qf:= .inl (aA HQ);open axl in exact ahs):P:=h
theorem atu.AeX(h:P:=by
 open axk in exact ahs):P:=h
theorem Vb(h:P:=by
 refine aH 3 rfl Aab Aad ?_;go_simp;refine aH 4 rfl Aab Aad ?_;go_simp;refine wpAny_done Aab ?_;go_simp;go_wp2_with fail;exact AbO):P:=h
theorem atv.AbO(h:P:=by
 go_meet
 case rel=>exact⟨rfl,GR.setW_blk (fP n.id n.par a_k n.kids.length aK n.next av RL.length cv dW n.out.length aQ eH n.seen.length aL IH.no (some ⟨g8,0,none⟩) n.reqs.length Et).toList (o:=0) (xs:=gN.toList) vY,(aC.of_below hg3).trans (aM (fP n.id n.par a_k n.kids.length aK n.next av RL.length cv dW n.out.length aQ eH n.seen.length aL IH.no (some ⟨g8,0,none⟩) n.reqs.length Et).toList x3 0)⟩):P:=h
theorem atw.AbO(h:P:=by
 go_meet
 case rel=>exact⟨rfl,GR.setW_blk (fP n.id n.par a_k n.kids.length aK n.next av RL.length cv dW n.out.length aQ eH n.seen.length aL n.old (some ⟨gv,0,none⟩) (n.reqs.length+1) vc).toList (o:=0) (xs:=gN.toList) vY,(aC.of_below hg3).trans (aM (fP n.id n.par a_k n.kids.length aK n.next av RL.length cv dW n.out.length aQ eH n.seen.length aL n.old (some ⟨gv,0,none⟩) (n.reqs.length+1) vc).toList x3 0)⟩):P:=h
theorem atx.AbO(h:P:=by
 go_meet
 case rel=>exact⟨rfl,GR.setW_blk (fP n.id n.par a_k n.kids.length aK n.next (some ⟨gp,0,none⟩) n.pu.length bJ dW n.out.length aQ eH n.seen.length aL IH.no (some ⟨g8,0,none⟩) n.reqs.length Et).toList (o:=0) (xs:=gN.toList) vY,(aC.of_below hg3).trans (aM (fP n.id n.par a_k n.kids.length aK n.next (some ⟨gp,0,none⟩) n.pu.length bJ dW n.out.length aQ eH n.seen.length aL IH.no (some ⟨g8,0,none⟩) n.reqs.length Et).toList x3 0)⟩):P:=h
theorem aty.AbO(h:P:=by
 go_meet
 case rel=>exact⟨rfl,GR.setW_blk (fP n.id n.par a_k n.kids.length aK n.next (some ⟨gp,0,none⟩) n.pu.length bJ dW n.out.length aQ eH n.seen.length aL n.old (some ⟨gv,0,none⟩) (n.reqs.length+1) vc).toList (o:=0) (xs:=gN.toList) vY,(aC.of_below hg3).trans (aM (fP n.id n.par a_k n.kids.length aK n.next (some ⟨gp,0,none⟩) n.pu.length bJ dW n.out.length aQ eH n.seen.length aL n.old (some ⟨gv,0,none⟩) (n.reqs.length+1) vc).toList x3 0)⟩):P:=h
theorem Vd(h:P:=by
 open auh in exact Vg):P:=h
theorem atz.AbU(h:P:=by
 refine lH 4 rfl Aab Aab Aab (λ_ _ _ _ h=>h) Aad 40 _ rfl w.heap.size 0 rfl (dH k.base A.b).toList _ hr0 hl0 underlying40 rfl Aab ?_;open azm in exact Vq):P:=h
theorem atA.AbU(h:P:=by
 refine aP 2 rfl Aab Aab Aab (λ_ _ _ _ h=>h) (λK hK=>?_);open asK in exact Va):P:=h
theorem atC.AbU(h:P:=by
 exact AbS):P:=h
theorem atD.AbU(h:P:=by
 refine aP 7 rfl Aab Aab Aab (λ_ _ _ _ h=>h) (λK hK=>?_);open asL in exact Va):P:=h
theorem Ve(h:P:=by
 obtain⟨k,hk,rfl,hall,hblk,hbel⟩:=hrel;have kX:=Hq hall;have cZ:=Hq hbel;have Gf:=Hq hblk;exact Ab0):P:=h
theorem atE.Ab0(h:P:=by
 clear c0 c1 c2 c3 c4 c5 c6 c7 c8;obtain⟨c0,c1,c2,c3,c4,c5,c6,c7,c8⟩:=nine hblk;clear hall hbel hblk;by_cases hlt:k < reqs.length
 case' neg=>
  have hke:k=reqs.length:=Aaa
  subst hke;have aGW:decide ((reqs.length:Int) < (reqs.length:Int))=false:=Aac
  have HF:Hid (TT=true):=by
   have h:=ah kX;rw [List.take_length] at h;exact HOF.trans h
  go_wp2_with fail;go_ret;exact⟨aF HF.symm,cZ⟩
 have HBAD:Hid (gZ RQ RR (reqs.take (k+1))=false->TT=false):=λh=>HOF.trans (HDB _ h)
 obtain⟨g,off,e0,hgw,q0,q1,q2,q3⟩:=gF.four (HA.below cZ).r k hlt;(try dsimp only at e0 q0 q1 q2 q3)
 have hks:=HZ.rk _ (List.getElem_mem hlt);(try dsimp only at hks)
 have WI:Hid (∃pv:Bool,gZ RQ RR (reqs.take (k+1))=(RQ reqs[k]&&pv)/\((k=0/\pv=true)\/∃(j:Nat) (y:Int),k=j+1/\pv=decide (y < (reqs[k]).no)/\wr.cell? ⟨g,off+j*4,none⟩=some (.int .i64 y))):=by
  cases k with
  |zero=>
   refine⟨true,?_,.inl ⟨rfl,rfl⟩⟩;rw [Bool.and_true];exact HDF hlt
  |succ j=>
   obtain⟨g',off',e2,_,p0,_⟩:=gF.four (HA.below cZ).r j (show j < reqs.length by omega);(try dsimp only at e2 p0)
   rw [e0] at e2;injection e2 with e2
   injection e2 with e2 e3
   subst e2 e3;refine⟨_,?_,.inr ⟨j,_,rfl,rfl,p0⟩⟩;have h:=ah HDN j hlt;rw [ah kX] at h;exact h
 subst e0;have nW:=Hq (NJ reqs[k]);generalize reqs[k]=sk at *;generalize RQ sk=OB at *;obtain⟨si,sx,sn,st⟩:=sk;dsimp only at q0 q1 q2 q3 hks WI nW;obtain⟨pv,hpv,hpk⟩:=ah WI;have iG:=Hq hpv;have Rs:=Hq hpk;obtain⟨bb,hbb⟩:∃bb,(!(decide (old+1<=si/\si<=1000000000)&&keyOk sx.data.toList&&fK sn&&decide (0<=st/\st<=2)&&pv))=bb:=⟨_,rfl⟩;have eZ:=Hq hbb;clear hpv hpk WI hbb HDF HDN HDB;go_upto_region 13 with fail;refine wp_at (λW1 hW1=>?_);have HW1:Hid (W1.heap[wr.heap.size]?=some (.cells (dZ si sx sn st) 95 (0,0))):=Acd
 open apd in exact aes):P:=h
theorem atF.Ab0(h:P:=by
 obtain⟨c0,c1,c2,c3,c4,c5,c6,_⟩:=nine hblk;clear hall hbel hblk;by_cases hlt:k < seen.length
 case' neg=>
  have hke:k=seen.length:=Aaa
  subst hke;have hnlt:decide ((seen.length:Int) < (seen.length:Int))=false:=Aac
  exact ak9
 have HBAD:Hid (gZ PP RR (seen.take (k+1))=false->TT=false):=λh=>nW.trans (wV _ h)
 obtain⟨g,off,b,c,e0,hgw,q0,q1,q2,hI⟩:=iy.below HS cZ k hlt;have GK:(seen[k]).ids.length<=1048600:=ah qC _ (List.getElem_mem hlt);have HI:=Hq hI;have CW:=Hq GK;clear hI GK
 have WI:Hid (∃pv:Bool,gZ PP RR (seen.take (k+1))=((NN (seen[k]).f&&uV seen[k])&&pv)/\((k=0/\pv=true)\/∃(j:Nat) (y:Int),k=j+1/\pv=decide (y < (seen[k]).f)/\wr.cell? ⟨g,off+j*3,none⟩=some (.int .i64 y))):=by
  cases k with
  |zero=>
   refine⟨true,?_,.inl ⟨rfl,rfl⟩⟩;have h:=ah Nt hlt;rw [Bool.and_true];exact h
  |succ j=>
   obtain⟨g',off',_,_,e2,_,p0,_⟩:=iy.below HS cZ j Aaa;exact aiu
 subst e0;generalize hsk:seen[k]=sk at *;clear hsk;obtain⟨fr,lo,ids⟩:=sk;dsimp only at q0 q1 q2 HI CW WI;obtain⟨pv,hpv,hpk⟩:=ah WI;have iG:=Hq hpv;have Rs:=Hq hpk;obtain⟨bb,hbb⟩:∃bb,(!(NN fr&&pv&&fK lo&&decide (ids.length<=40)))=bb:=⟨_,rfl⟩;have eZ:=Hq hbb;clear hpv hpk WI hbb Nt D9 wV;go_upto_region 10 with fail;open ayR in exact ahU):P:=h
theorem atH.Ab0(h:P:=by
 obtain⟨c0,c1,c2,c3,c4,c5,c6,c7,c8⟩:=nine hblk;clear hall hbel hblk;by_cases hlt:k < out.length
 case' pos=>
  have HBAD:Hid (gZ OT RO (out.take (k+1))=false->TT=false):=λh=>by rw [ah HTT,ah wV _ h];rfl
  obtain⟨g,off,e0,hgw,q0,q1,q2,q3⟩:=SentAt.four (HA.below cZ).o k hlt
  (try dsimp only at e0 q0 q1 q2 q3)
  have hks:=HZ.ok _ (List.getElem_mem hlt)
  (try dsimp only at hks)
  have WI:Hid (∃pv:Bool,gZ OT RO (out.take (k+1))=(OT out[k]&&pv)/\((k=0/\pv=true)\/∃(j:Nat) (y:Int),k=j+1/\pv=decide (y < (out[k]).i)/\wr.cell? ⟨g,off+j*4,none⟩=some (.int .i64 y))):=by
   cases k with
   |zero=>
    refine⟨true,?_,.inl ⟨rfl,rfl⟩⟩;rw [Bool.and_true];exact Nt hlt
   |succ j=>
    obtain⟨g',off',e2,_,p0,_⟩:=SentAt.four (HA.below cZ).o j (show j < out.length by omega);(try dsimp only at e2 p0)
    exact aiu
  subst e0
  have nW:=Hq (HOT out[k])
  generalize out[k]=sk at *
  generalize OT sk=OB at *
  obtain⟨si,st,sx,sn⟩:=sk
  dsimp only at q0 q1 q2 q3 hks WI nW
  obtain⟨pv,hpv,hpk⟩:=ah WI
  have iG:=Hq hpv
  have Rs:=Hq hpk
  obtain⟨bb,hbb⟩:∃bb,(!(decide (1<=si/\si<=next - 1)&&NN st&&keyOk sx.data.toList&&fK sn&&pv))=bb:=⟨_,rfl⟩
  have eZ:=Hq hbb
  clear hpv hpk WI hbb Nt D9 wV
  go_upto_region 7 with fail
  refine wp_at (λW1 hW1=>?_)
  have HW1:Hid (W1.heap[wr.heap.size]?=some (.cells (fA si st sx sn) 91 (0,0))):=Acd
  have hbw:aI wr W1:=by rw [hW1];exact ay wr _
  have AO:=Hq (au Gf hbw)
  have wM:=Hq (cZ.trans (hbw.mono cZ.size))
  have hgw1:=hbw.size
  have CZ:Hid ((k=0/\pv=true)\/∃(j:Nat) (y:Int),k=j+1/\pv=decide (y < si)/\W1.cell? ⟨g,off+j*4,none⟩=some (.int .i64 y)):=by
   exact ai9
  clear hW1 hbw q0 q1 q2 q3 c0 c1 c2 c3 c4 c5 c6 c7 c8 Rs Gf
  obtain⟨d0,d1,d2,d3⟩:=gG HW1
  obtain⟨c0,c1,c2,c3,c4,c5,c6,c7,c8⟩:=nine AO
  have k0:=cell_grown' c0
  have k1:=cell_grown' c1
  have k2:=cell_grown' c2
  have k3:=cell_grown' c3
  have k4:=cell_grown' c4
  have k5:=cell_grown' c5
  have k6:=cell_grown' c6
  have k7:=cell_grown' c7
  have k8:=cell_grown' c8
  have m0:=cell_grown' d0
  have m1:=cell_grown' d1
  have m2:=cell_grown' d2
  have m3:=cell_grown' d3
  have en:IntKind.i64.wrap (next - 1)=next - 1:=IntWalk.i64_in _ ⟨Aaa,Aaa⟩
  go_cut [98] (λr wx=>r= .bool bb/\aI W1 wx)
  case first=>
   rcases CZ with⟨rfl,rfl⟩|⟨j,y,rfl,rfl,q1⟩
   .have hgt:decide ((0:Int) < ((0:Nat):Int))=false:=rfl;open aEq in exact Yk8
   .have hgt:decide ((0:Int) < ((j+1:Nat):Int))=true:=decide_eq_true Aaa;have m9:=cell_grown' q1;open aEp in exact Yk8
  case rest=>
   obtain⟨rfl,hbx⟩:=hcut;open awj in exact Vm
 open asN in exact Oi):P:=h
theorem atI.Ab0(h:P:=by
 obtain⟨c0,c1,c2,_⟩:=nine hblk;clear hall hbel hblk;by_cases hlt:k < kids.length
 case' neg=>
  have hke:k=kids.length:=Aaa
  subst hke;have hnlt:decide ((kids.length:Int) < (kids.length:Int))=false:=Aac
  have HF:Hid (eP ⟨id,par,kids,next,pu,out,seen,old,reqs⟩=true):=by
   exact VD
  go_wp2_with fail;go_ret;exact⟨aF HF.symm,cZ⟩
 have HBAD:Hid (gZ (ku id par) iN (kids.take (k+1))=false->eP ⟨id,par,kids,next,pu,out,seen,old,reqs⟩=false):=λh=>nW.trans (wV _ h)
 cases k with
 |zero=>
  obtain⟨g,off,rfl,hgw,q0⟩:=bZ.one (GR.At.below HA cZ) 0 hlt;rw [Nat.add_zero] at q0;have hgt:decide ((0:Int) < ((0:Nat):Int))=false:=rfl;have iG:Hid (gZ (ku id par) iN (kids.take 1)=ku id par kids[0]):=ah Nt hlt;clear Nt D9 wV;generalize kids[0]=x at *;open axq in exact aht
 |succ j=>
  obtain⟨g,off,e1,hgw,q0⟩:=bZ.one (GR.At.below HA cZ) (j+1) hlt;obtain⟨g',off',e2,aHh,q1⟩:=bZ.one (GR.At.below HA cZ) j Aaa;open ayU in exact ahV):P:=h
theorem agp(h:P:=by
 go_wp2_with (at_builtin;refine wpList_append_own _ rfl _ _ 35 rfl w.heap.size 108 i0 (.agg (iZ ByteArray.empty 0 0 0)) 4 40 underlying35 hi hz0 hz1 hz2 rfl Aae _ 0 [] rfl hlit x l.length cap (GR.flat gB l) rfl ?c0 ?c1 ?c2 ?c3 ?c4 ?c5 ?_)
 case c0=>exact GR.flat_length gB 4 aZ l
 case c1=>exact HN
 case c2=>exact Ew l
 case c3=>unfold maxLen;omega
 case c4=>omega
 case c5=>simp
 exact Afn):P:=h
theorem atJ.Afn(h:P:=by
 intro v' w1 hown' hgrow _;open azw in exact ah3):P:=h
theorem atK.Afn(h:P:=by
 intro v' w1 hown' hgrow hnil;have HNN:=Hq (show v'≠ .slice none 0 0 from hnil);open azv in exact ah3):P:=h
theorem agq(h:P:=by
 obtain⟨c0,c1,c2,c3,c4,c5,c6,c7,c8⟩:=nine lT;have hnl:=aA lT;have aFE:decide ((30:Int) < ((n.reqs.length+1:Nat):Int))=false:=decide_eq_false Aaa;have hIT:IQ.length=n.reqs.length+1:=ah HLQ;clear HLQ;have Xt:=Hq hIT;clear hIT;go_upto_region 20 with fail;clear c0 c1 c2 c3 c4 c5 c6 c7 c8 hnl;obtain⟨c0,c1,c2,c3,c4,c5,c6,c7,c8⟩:=nine lT;exact AdJ):P:=h
theorem atL.AdJ(h:P:=by
 open anr in exact Gt):P:=h
theorem atM.AdJ(h:P:=by
 open anu in exact Gt):P:=h
theorem agr(h:P:=by
 rw [hlt1] at KV KU;refine Lib.wp_append_run x3 (.tmp 93) (.tmp 97) 38 38 rfl _ _ Aal Aal v3 y3 KV ?_;refine⟨(Below.refl _ _).grown xV Bu (λb hb=>(AV.lt b hb).1),?_⟩;go_simp;have Wx:=Hq (yL.grown xV Bu (λb hb=>(AV.lt b hb).1));have WR:Hid (y3.ownsRow wc.heap.size 95 4 v3 (pos) (GR.flat aJ (n.reqs.take pos))):=Hq (by simpa [GR.flat_nil] using KU);exact AfG):P:=h
theorem atN.AfG(h:P:=by
 exact Adr):P:=h
theorem atO.AfG(h:P:=by
 exact AdP):P:=h
theorem Vf(h:P:=by
 obtain⟨avR,cvR,Pg,_⟩:=GR.own_at (enc:=aJ) (sz:=4) (l:=n.reqs.take pos) aS (by rw [hlt1];exact WR);rw [hlt1] at Pg;subst Pg;clear KV KU xV Tq;exact AbR):P:=h
theorem atP.AbR(h:P:=by
 generalize x2.heap.size=rb at *;exact Zk1):P:=h
theorem atQ.AbR(h:P:=by
 generalize x2.heap.size=rb at *;exact Zk2):P:=h
theorem atS.AbR(h:P:=by
 generalize x1.heap.size=rb at *;exact Zk2):P:=h
theorem atT.AbR(h:P:=by
 generalize x1.heap.size=rb at *;exact Zk1):P:=h
theorem ags(h:P:=by
 obtain⟨d0,d1,d2,d3,d4,d5,d6,d7,d8⟩:=nine hres;have f0:=aj hres 0;have f1:=aj hres 1;have f2:=aj hres 2;have f3:=aj hres 3;have f4:=aj hres 4;have f5:=aj hres 5;have f6:=aj hres 6;have f7:=aj hres 7;have f8:=aj hres 8;clear hres;go_wp2_with fail;refine aW (λW' hW'=>?_);exact AeB):P:=h
theorem atU.AeB(h:P:=by
 have e9:W'.heap[w.heap.size+1]?=some (.cells (dH m A2) 40 (0,0)):=by rw [hW'];exact uY qD
 obtain⟨r0,r1,r2,r3,r4,r5,r6,r7,r8⟩:=nine e9;have jM:NO W' w.heap.size m A2 G2 cc3:=by rw [hW'];exact(HK.no.keepsN Aaa pV).base HB.size
 have hBB:aI w W':=by rw [hW'];exact tC (HB.trans (HK.keep.mono HB.size)) Aaa
 exact bodyPost_ret (v:=fQ m A2) Adn rfl ⟨A2,G2,cc3,by rw [ah HM],by rw [ah HM];exact jM,hBB⟩):P:=h
theorem atV.AeB(h:P:=by
 have e9:W'.heap[w.heap.size+1]?=some (.cells (dH n A1) 40 (0,0)):=by rw [hW'];exact uY qD
 obtain⟨r0,r1,r2,r3,r4,r5,r6,r7,r8⟩:=nine e9;have jM:NO W' w.heap.size n A1 G1 OO:=by rw [hW'];exact(sW.no.keepsN Aaa pV).base HB.size
 have hBB:aI w W':=by rw [hW'];exact tC (HB.trans (sW.keep.mono HB.size)) Aaa
 exact bodyPost_ret (v:=fQ n A1) Adn rfl ⟨A1,G1,OO,by rw [hpb],by rw [hpb];exact jM,hBB⟩):P:=h
theorem agt(h:P:=by
 rintro e W3 ⟨A1,ma,mc,rfl,hat,hmt,hb3,hap⟩;have lK:=Hq ((hap _ (aA jC) (by rw [bq Aaa];omega)).trans jC);have Zv:=Hq hat;have adU:=Hq hmt;have HB3:=Hq ((HB2.mono hB).trans hb3);have HK3:Hid (Apart c w W3):=λx hx hc=>(hap x (Nat.lt_of_lt_of_le hx HB2.size) (by rw [fq hx];exact hc)).trans (HB2.block x hx)
 have h23:=hb3.size;have h02:=HB2.size;have h2r:=aA jC;exact AfL):P:=h
theorem atW.AfL(h:P:=by
 clear hat hmt hb3 hap c0 c1 c2 c3 c4 c5 c6 c7 c8 m0 m1 m2 m3 m4 m5 m6 hml hnl Ob jQ yN jC Ke;open au8 in exact agM):P:=h
theorem atY.AfL(h:P:=by
 clear hat hmt hb3 hap c0 c1 c2 c3 c4 c5 c6 c7 c8 m0 m1 m2 m3 m4 m5 m6 hml hnl HGV jQ yN jC Ke;obtain⟨A1,hA1⟩:∃A2,A2=A1:=⟨_,rfl⟩;subst hA1;have Ni:=Hq (heap_alloc_new W3 (.cells (dH N1 A1) 40));have uP:=Hq (au lK (ay W3 (.cells (dH N1 A1) 40)));have uT:=Hq (HB3.trans ((ay W3 (.cells (dH N1 A1) 40)).mono (Nat.le_trans hB HB3.size)));have HKA:=Hq (HK3.step HB3.size (ay W3 (.cells (dH N1 A1) 40)));obtain⟨c0,c1,c2,c3,c4,c5,c6,c7,c8⟩:=nine Ni;open aoR in exact WW):P:=h
theorem agu(h:P:=by
 obtain⟨e1,e2,e3,e4⟩:=gI w (.cells (dH n A) 40) (.cells (bY K no k nn mK mF mT mI mL mk mN) 100) (.cells gN 40);have hsz:(((w.alloc (.cells (dH n A) 40)).alloc (.cells (bY K no k nn mK mF mT mI mL mk mN) 100)).alloc (.cells gN 40)).heap.size=w.heap.size+3:=Aac
 generalize hW0:((w.alloc (.cells (dH n A) 40)).alloc (.cells (bY K no k nn mK mF mT mI mL mk mN) 100)).alloc (.cells gN 40)=W0 at *;exact AfF):P:=h
theorem atZ.AfF(h:P:=by
 open aED in exact Kn):P:=h
theorem at6.AfF(h:P:=by
 open aEC in exact Kn):P:=h
theorem agv(h:P:=by
 obtain⟨e1,e2,e3,e4⟩:=gI w (.cells (dH n A) 40) (.cells (bY 4 no k nn mK mF mT mI mL mk mN) 100) (.cells gN 40);have hsz:(((w.alloc (.cells (dH n A) 40)).alloc (.cells (bY 4 no k nn mK mF mT mI mL mk mN) 100)).alloc (.cells gN 40)).heap.size=w.heap.size+3:=Aac
 generalize hW0:((w.alloc (.cells (dH n A) 40)).alloc (.cells (bY 4 no k nn mK mF mT mI mL mk mN) 100)).alloc (.cells gN 40)=W0 at *;exact Aes):P:=h
theorem at7.Aes(h:P:=by
 exact aA0):P:=h
theorem aua.Aes(h:P:=by
 exact aAW):P:=h
theorem agw(h:P:=by
 obtain⟨e1,e2,e3,e4⟩:=gI w (.cells (dH n A) 40) (.cells (bY 3 no k nn mK mF mT mI mL mk mN) 100) (.cells gN 40);have hsz:(((w.alloc (.cells (dH n A) 40)).alloc (.cells (bY 3 no k nn mK mF mT mI mL mk mN) 100)).alloc (.cells gN 40)).heap.size=w.heap.size+3:=Aac
 generalize hW0:((w.alloc (.cells (dH n A) 40)).alloc (.cells (bY 3 no k nn mK mF mT mI mL mk mN) 100)).alloc (.cells gN 40)=W0 at *;exact Ae3):P:=h
theorem aub.Ae3(h:P:=by
 open aEG in exact Kn):P:=h
theorem auc.Ae3(h:P:=by
 exact aA0):P:=h
theorem agx(h:P:=by
 obtain⟨e1,e2,e3,e4⟩:=gI w (.cells (dH n A) 40) (.cells (bY 0 no k nn mK mF mT mI mL mk mN) 100) (.cells gN 40);have hsz:(((w.alloc (.cells (dH n A) 40)).alloc (.cells (bY 0 no k nn mK mF mT mI mL mk mN) 100)).alloc (.cells gN 40)).heap.size=w.heap.size+3:=Aac
 generalize hW0:((w.alloc (.cells (dH n A) 40)).alloc (.cells (bY 0 no k nn mK mF mT mI mL mk mN) 100)).alloc (.cells gN 40)=W0 at *;exact AdT):P:=h
theorem aud.AdT(h:P:=by
 open aEK in exact Kn):P:=h
theorem aue.AdT(h:P:=by
 open aEE in exact Kn):P:=h
theorem Vg(h:P:=by
 go_simp
 first
  |(refine hK _ ?_;clear hK K)
  |(apply Exists.intro
    refine⟨λ_=>?_,hK _ ?_⟩
    (rfl)
    clear hK K)
 exact AbF):P:=h
theorem auf.AbF(h:P:=by
 refine lH 1 rfl Aab Aab Aab (λ_ _ _ _ h=>h) Aad 40 _ rfl w.heap.size 9 rfl (dH k.node A.n).toList _ hr1 hl0 underlying40 rfl Aab ?_;refine aP 3 rfl Aab Aab Aab (λ_ _ _ _ h=>h) (λK hK=>?_);open atz in exact Vd):P:=h
theorem aug.AbF(h:P:=by
 refine aP 1 rfl Aab Aab Aab (λ_ _ _ _ h=>h) (λK hK=>?_);open atA in exact Vd):P:=h
theorem auh.AbF(h:P:=by
 exact AbU):P:=h
theorem aui.AbF(h:P:=by
 open azl in exact Vq):P:=h
theorem Jf(h:P:=by
 obtain⟨k,z,hk,rfl,rfl,hz0,hz1,hall,hbel⟩:=hrel;have kX:=Hq hall;have cZ:=Hq hbel;clear hall hbel;exact Aa3):P:=h
theorem auj.Aa3(h:P:=by
 by_cases hlt:k < l.length
 .obtain⟨g,off,rfl,hgw,q0,q1,q2,q3⟩:=aG.four (GR.At.below HA cZ) k hlt;open arP in exact Xa
 .exact aeA):P:=h
theorem auk.Aa3(h:P:=by
 by_cases hlt:k < l.length
 .obtain⟨g,off,rfl,hgw,q0,q1,q2,q3⟩:=SentAt.four (GR.At.below HA cZ) k hlt;open arQ in exact Xa
 .exact aeA):P:=h
theorem aul.Aa3(h:P:=by
 by_cases hlt:k < l.length
 .obtain⟨g,off,rfl,hgw,q0,q1,q2,q3⟩:=gF.four (GR.At.below HA cZ) k hlt;open arR in exact Xa
 .exact aeA):P:=h
theorem aum.Aa3(h:P:=by
 by_cases hlt:k < l.length
 .obtain⟨g,off,b,c,e0,hgw,q0,q1,q2,_⟩:=iy.below HA cZ k hlt;subst e0;open arS in exact Xa
 .exact aeA):P:=h
theorem aun.Aa3(h:P:=by
 by_cases hlt:k < l.length
 .obtain⟨g,off,rfl,hgw,q0,q1,q2,q3,q4,q5,q6,q7,q8,q9,q10,q11⟩:=lS (GR.At.below HA cZ) k hlt;open arT in exact Xa
 .exact aip):P:=h
theorem auo.Aa3(h:P:=by
 by_cases hlt:k < l.length
 .obtain⟨g,off,rfl,hgw,q0,q1,q2,q3,q4,q5,q6⟩:=qG (GR.At.below HA cZ) k hlt;open arU in exact Xa
 .exact aip):P:=h
theorem agy(h:P:=by
 refine fT 3 rfl Aab Aad (λx hx=>?_);go_simp;refine⟨ay x _,?_⟩;have jP:=Hq (Ge.trans (Ge.trans vW hx) (ay x (.cells #[.int .u8 K] 5)));have hcx:(x.alloc (.cells #[.int .u8 K] 5)).cell? ⟨x.heap.size,0,none⟩=some (.int .u8 K):=Aac
 have hcv:=λd os=>HCV (Sort.grow (redrawn (x.alloc (.cells #[.int .u8 K] 5)) d) os) x.heap.size (cell_regrown hcx d os)
 exact AfY):P:=h
theorem aup.AfY(h:P:=by
 obtain⟨a1,a2,a3,a4⟩:=ah HA;clear hx vW HCV HA hcx;generalize hy:x.alloc (.cells #[.int .u8 K] 5)=y at *;refine tk [4,8,12,16,21,22] ?_;iterate 6 (refine AJ (λK hK=>?_);go_simp;refine hK _ ?_;clear hK K)
 refine jK ?_;refine fu Aab (λz hz=>?_);have pz:=Hq (Ge.trans jP hz);clear hz jP hcv a1 a2 a3 a4;go_simp;go_wp2_with fail;go_ret;exact⟨rfl,pz⟩):P:=h
theorem auq.AfY(h:P:=by
 obtain⟨a1,a2,a3,a4,a5,a6⟩:=ah HA;clear hx vW HCV HA hcx;generalize hy:x.alloc (.cells #[.int .u8 K] 5)=y at *;refine tk [4,8,12,16,20,24,28,29] ?_;iterate 8 (refine AJ (λK hK=>?_);go_simp;refine hK _ ?_;clear hK K)
 refine jK ?_;refine fu Aab (λz hz=>?_);have pz:=Hq (Ge.trans jP hz);clear hz jP hcv a1 a2 a3 a4 a5 a6;go_simp;go_wp2_with fail;go_ret;exact⟨rfl,pz⟩):P:=h
theorem agz(h:P:=by
 have q3s:=aeZ (g:=w.heap.size+2) (i:=3) (b0:= .int .i64 n.id) (b1:= .int .i64 n.par) (b2:= .slice a_k n.kids.length aK) (b3:= .int .i64 n.next) (b4:= .slice (some ⟨gp,0,none⟩) n.pu.length bJ) (b5:= .slice dW n.out.length aQ) (b6:= .slice eH n.seen.length aL) (b7:= .int .i64 n.old) (b8:= .slice (some ⟨gv,0,none⟩) (n.reqs.length+1) vc) (show w.heap.size+2≠W1.heap.size by omega) Ry;exact Aet):P:=h
theorem aur.Aet(h:P:=by
 open ao8 in exact Oq):P:=h
theorem aus.Aet(h:P:=by
 go_simp;refine aH 1 rfl Aab Aad ?_;open ao9 in exact Oq):P:=h
theorem agA(h:P:=by
 have q3s:=aeZ (g:=w.heap.size+2) (i:=3) (b0:= .int .i64 n.id) (b1:= .int .i64 n.par) (b2:= .slice a_k n.kids.length aK) (b3:= .int .i64 n.next) (b4:= .slice (some ⟨gp,0,none⟩) n.pu.length bJ) (b5:= .slice dW n.out.length aQ) (b6:= .slice eH n.seen.length aL) (b7:= .int .i64 IH.no) (b8:= .slice (some ⟨g8,0,none⟩) n.reqs.length Et) (show w.heap.size+2≠W1.heap.size by omega) Ry;exact Aeo):P:=h
theorem aut.Aeo(h:P:=by
 open ao6 in exact Oq):P:=h
theorem auu.Aeo(h:P:=by
 go_simp;refine aH 1 rfl Aab Aad ?_;open ao7 in exact Oq):P:=h
theorem agB(h:P:=by
 go_simp;have AP:=Hq (HG0.trans (hx1.mono HG0.size));have ab3:uI.heap.size<=x1.heap.size:=AP.size;clear hx1;refine⟨(ay x1 _).mono ab3,?_⟩;exact AdK):P:=h
theorem auv.AdK(h:P:=by
 have zy:=ay x1 (.cells #[.int .i64 mI] 3);have ad8:=Hq (heap_alloc_new x1 (.cells #[.int .i64 mI] 3));have yM:=Hq (AP.trans (zy.mono AP.size));clear zy;generalize Po:x1.alloc (.cells #[.int .i64 mI] 3)=y1 at *;clear Po;refine gL 0 rfl Aab Aad Aae (λx2 hx2=>?_);go_simp;have uW:=Hq (yM.trans (hx2.mono yM.size));have vF:uI.heap.size<=x2.heap.size:=uW.size;have akz:=Hq (au ad8 hx2);clear hx2;refine⟨(ay x2 _).mono vF,?_⟩;have GH:=ay x2 (.cells #[] 3);have Gs:=Hq (show(x2.alloc (.cells #[] 3)).ownsRow uI.heap.size 3 1 (.slice (some ⟨x2.heap.size,0,none⟩) 0 0) 0 (GR.flat bf []) from World.ownsRow_lit (base:=uI.heap.size) (e:=3) (size:=1) x2 #[] 0 vF Aai Aac);open awd in exact ag8):P:=h
theorem auw.AdK(h:P:=by
 have zy:=ay x1 (.cells #[] 3);have aeh:=Hq (show(x1.alloc (.cells #[] 3)).ownsRow uI.heap.size 3 1 (.slice (some ⟨x1.heap.size,0,none⟩) 0 0) 0 (GR.flat bf []) from World.ownsRow_lit (base:=uI.heap.size) (e:=3) (size:=1) x1 #[] 0 ab3 Aai Aac);have yM:=Hq (AP.trans (zy.mono AP.size));clear zy;generalize Po:x1.alloc (.cells #[] 3)=y1 at *;clear Po;refine jY 4 7 rfl rfl Aab Aad Aad Aae Aae (λx2 hx2=>?_) (λx2 hx2=>?_)
 .have uW:=Hq (yM.trans (hx2.mono yM.size));have vF:uI.heap.size<=x2.heap.size:=uW.size;have Gq:=Hq (GR.own_below aeh hx2);clear hx2;obtain⟨v2,y2,XE,XD,Xz,aCK⟩:=fE aX Aaa x2 uI.heap.size 22 22 3 i0 (.int .i64 0) 8 underlying22 hi0 hz0 hz1' hz2 rfl (.slice (some ⟨x1.heap.size,0,none⟩) 0 0) 0 (GR.flat bf ([])) Gq (some ⟨gi,0,none⟩) ((bg s0 mL).take pos) OP (GR.At.below Ei uW) (qP _) Aai Aaa vF;rw [hlt1] at XE XD;refine Lib.wp_append_run x2 (.tmp 127) (.tmp 130) 22 22 rfl _ _ Aal Aal v2 y2 XE ?_;refine⟨(Below.refl _ _).grown Xz vF (λb hb=>(Gq.lt b hb).1),?_⟩;go_simp;have J9:=Hq (uW.grown Xz vF (λb hb=>(Gq.lt b hb).1));have Gs:Hid (y2.ownsRow uI.heap.size 3 1 v2 (pos) (GR.flat bf ((bg s0 mL).take pos))):=Hq (by simpa [GR.flat_nil] using XD);obtain⟨avR,cvR,ab1,_⟩:=GR.own_at (enc:=bf) (sz:=1) (l:=(bg s0 mL).take pos) aX (by rw [hlt1];exact Gs);open ayW in exact ahW
 .go_simp;have uW:=Hq (yM.trans (hx2.mono yM.size));have vF:uI.heap.size<=x2.heap.size:=uW.size;have Gq:=Hq (GR.own_below aeh hx2);clear hx2;refine⟨(ay x2 _).mono vF,?_⟩;have GH:=ay x2 (.cells #[.int .i64 mI] 3);have ZT:=Hq (heap_alloc_new x2 (.cells #[.int .i64 mI] 3));open asg in exact akS):P:=h
theorem agC(h:P:=by
 open az4 in exact aie):P:=h
theorem auy.Ae6(h:P:=by
 exact aBu):P:=h
theorem auz.Ae6(h:P:=by
 open axM in exact Om):P:=h
theorem agD(h:P:=by
 generalize Df s=RES at *;generalize jS s=OK at *;generalize uw s (gP s 0)=N1 at *;generalize uw s (gP s 1)=N2 at *;generalize uw s (gP s 2)=N3 at *;generalize uw s (gP s 3)=N4 at *;generalize uw s (jf s (gP s 4))=N5 at *;generalize jW s (gP s 4)=TX at *;generalize jU s (jf s (gP s 4))=E6 at *;generalize jf s (gP s 4)=E5 at *;generalize gP s 4=E4 at *;exact AfV):P:=h
theorem auA.AfV(h:P:=by
 go_in
 go_wp2_with fail;refine(HN _).mono ?_;rintro e w1 ⟨g,cap,rfl,hg1,hc1,hb1⟩;have hR1:=aN (heap_alloc_new w _) hb1;have hB1:=(ay w _).trans (hb1.mono Aac);have hC1:=Hq hc1;clear hb1 hc1;go_wp2_with fail;refine(HT _).mono ?_;rintro e w2 ⟨rfl,hb2⟩;have hR2:=aN hR1 hb2;have hB2:=hB1.trans (hb2.mono hB1.size);have hg2:=Nat.lt_of_lt_of_le hg1 hb2.size;have hC2:=Hq (show w2.cell? ⟨g,0,none⟩=some (.int .i64 N1)/\w2.cell? ⟨g,1,none⟩=some (.int .i64 N2)/\w2.cell? ⟨g,2,none⟩=some (.int .i64 N3)/\w2.cell? ⟨g,3,none⟩=some (.int .i64 N4) by simp only[(Cg hb2).1 g _ hg1];exact hC1);clear hb2 hR1 hB1 hg1 hC1;go_wp2_with fail;refine(HG _).mono ?_;rintro e w3 ⟨rfl,hb3⟩;have hR3:=aN hR2 hb3;have hB3:=hB2.trans (hb3.mono hB2.size);have hg3:=Nat.lt_of_lt_of_le hg2 hb3.size;have hC3:w3.cell? ⟨g,0,none⟩=some (.int .i64 N1)/\w3.cell? ⟨g,1,none⟩=some (.int .i64 N2)/\w3.cell? ⟨g,2,none⟩=some (.int .i64 N3)/\w3.cell? ⟨g,3,none⟩=some (.int .i64 N4):=by simp only[(Cg hb3).1 g _ hg2];exact hC2
 obtain⟨c0,c1,c2,c3⟩:=hC3;clear hb3 hR2 hB2 hg2 hC2;have HR3:=Hq hR3;have HB3:=Hq hB3;clear hR3 hB3;open avY in exact Vl):P:=h
end Go.Proofs.YtohmklmkjmlpjaaGreatDoor
