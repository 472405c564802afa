/-
  Parts of proofs that stand more than once, each said once.
-/
import Derived.Test.YtohmklmkjmlpjaaGreatDoorRkZ3
namespace Go.Proofs.YtohmklmkjmlpjaaGreatDoor
open Go.Proofs.Tryz
set_option maxRecDepth 100000
variable{P:Prop}
theorem arY.AcT(h:P:=by
 go_upto_region 7 with fail;go_cut [51] (λr wx=>r= .bool (found l pk)/\∃q,wx=w1.drewN q)
 case first=>
  by_cases hlt:place l pk < l.length
  .have hf:found l pk=(l[place l pk].k.toList == pk.toList):=by
    unfold found;rw [jw,List.drop_eq_getElem_cons hlt]
   obtain⟨g1,o1,e1,hg1,s0,s1,s2,s3⟩:=aG.four (GR.At.below HA HB1) (place l pk) hlt;open avi in exact agS
  .have hf:found l pk=false:=by
    unfold found;rw [jw,List.drop_eq_nil_of_le Aaa]
   have HF:=Hq hf;have hpos:decide (0 < l.length - place l pk)=false:=decide_eq_false Aaa;have aCg:l.length - place l pk=0:=Aaa
   clear hf;go_quiet (fail);go_wp2_with fail;go_meet
   case rel=>exact⟨by rw [ah HF],_,AV w1 _ _⟩
 case rest=>
  obtain⟨rfl,q2,rfl⟩:=hcut;go_upto_if 51 with fail;go_cut [9] (λr wx=>∃(ad':Addr) (cc:Nat),r= .slice (some ad') (kC l pk).length cc/\aG w1 (some ad') (kC l pk)/\∃q,wx=w1.drewN q)
  case first=>
   have HA1:=Hq (GR.At.below HA HB1);cases hf:found l pk
   .have Eb:=Hq (tail_not hf);have HAE:=Hq hAe;clear hAe hAd;go_wp2_with fail;go_meet
    case rel=>
     refine⟨ad,cap - place l pk,by rw [ah Eb,List.length_drop],?_,_,rfl⟩;rw [ah Eb];by_cases hlt:place l pk < l.length
     .rw [ah HAE hlt];exact Uy HA1 (place l pk)
     .exact Uz (List.drop_eq_nil_of_le Aaa)
   .obtain⟨hlt,htl⟩:=tail_found hf;have Eb:=Hq htl;have hae:=hAe hlt;subst hae;clear htl hAe hAd
    obtain⟨ad2,aC6,aBC⟩:∃ad2:Addr,(if cap - place l pk=1 then some (⟨b,off+place l pk*4,none⟩:Addr) else some ⟨b,off+place l pk*4+4,none⟩)=some ad2/\(place l pk+1 < l.length->ad2=⟨b,off+place l pk*4+4,none⟩):=by
     by_cases h:cap - place l pk=1
     .rw [if_pos h];exact⟨_,rfl,λh2=>Aaa⟩
     .rw [if_neg h];exact⟨_,rfl,λ_=>rfl⟩
    have hone:1<=l.length - place l pk:=Aaa
    go_wp2_with fail;go_meet
    case rel=>
     refine⟨ad2,cap - place l pk - 1,by rw [ah Eb,List.length_drop,Nat.sub_sub],?_,_,rfl⟩;rw [ah Eb];by_cases hlt2:place l pk+1 < l.length
     .rw [aBC hlt2];have:=Uy HA1 (place l pk+1);rwa [show off+(place l pk+1)*4=off+place l pk*4+4 by omega] at this
     .exact Uz (List.drop_eq_nil_of_le Aaa)
  case rest=>
   obtain⟨ad',cc,rfl,hta,q3,rfl⟩:=hcut;obtain⟨i0,hi,hz0,hz1,hz2⟩:=info_parts EI;obtain⟨hpf,hpn⟩:=put_flat l ⟨pk,pm,pf,ps⟩;have htl:(l.take (place l pk)).length=place l pk:=Aag
   have hkt:∀q∈jd l ⟨pk,pm,pf,ps⟩,q.k.size<=maxLen:=λq hq=>by
    rcases put_mem' hq with rfl|hq
    .exact hpk
    .exact hk q hq
   go_upto_region 9 with fail;refine Fo.wp_at (λV hV=>?_);have Rj:w.heap.size < V.heap.size:=by rw [hV];exact Fo.lt_of_blk yO
   have vU:=Hq (show aI w V by rw [hV];exact HB1.trans ⟨rfl,rfl,rfl,Nat.le_refl _,λ_ _=>rfl⟩);have hblk:V.heap[w.heap.size]?=some (.cells (iW pk pm pf ps) 108 (0,0)):=by rw [hV];exact yO
   have HTA:=Hq (show aG V (some ad') (kC l pk) by rw [hV];exact hta);obtain⟨⟨c0,c1,c2,c3⟩,_⟩:=fT hblk;have VZ:=Hq (λX (hb:aI V X)=>aG.news (GR.At.below HTA hb));have M0:=Hq (λX (hb:aI V X)=>LA (some ⟨b,off,none⟩) cap (l.take (place l pk)) X Aaa (λh=>Aat) (GR.At.below (adi (GR.At.below HA vU) _) hb));have HCA:=Hq (λX (hb:aI w X)=>LA (some ⟨b,off,none⟩) cap l X Aaa (λh=>Aat) (GR.At.below HA hb));have HPF:=Hq hpf;have HPN:=Hq hpn;rw [htl] at M0;have hnw:w.heap.size≠V.heap.size:=Aaa
   have hmw:V.heap.size≠w.heap.size:=Aaa
   have aC2:(kC l pk).length<=20:=by
    have h3:=tail_len l pk;omega
   clear hV hblk hta hp0 nS yO htl hAd hAe hpf hpn
   go_region_held_law (λw'=>w'.cell? ⟨w.heap.size,0,none⟩=some (.string pk)/\w'.cell? ⟨w.heap.size,1,none⟩=some (.int .i64 pm)/\w'.cell? ⟨w.heap.size,2,none⟩=some (.int .i64 pf)/\w'.cell? ⟨w.heap.size,3,none⟩=some (.int .i64 ps)) (go_keep)
    (first
     |((go_at_call 80);(refine(M0 _ (by exact⟨rfl,rfl,rfl,Aac,λk hk=>by first|rfl|exact Below.heap_alloc _ _ _ hk⟩)).mono ?_);(rintro e w4 ⟨vc,rfl,hv4,zw,hb4⟩);(have hs4:=hb4.size);(try simp at hs4);(have nR:=Hq (show aI V w4 from Below.trans (b:=_) (by exact⟨rfl,rfl,rfl,Aac,λk hk=>by first|rfl|exact Below.heap_alloc _ _ _ hk⟩) (hb4.mono Aac)));(have HO4:=Hq (own_lower (b':=V.heap.size) zw Aac));(first|(guard_hyp hs4:V.heap.size+1<=w4.heap.size;have HN4:=Hq (Fo.one_block (show Below (V.alloc (.cells (iW pk pm pf ps) 108)).heap.size (V.alloc (.cells (iW pk pm pf ps) 108)) w4 from⟨hb4.os,hb4.tape,hb4.output,hb4.size,hb4.block⟩)).1)|skip);(have d0:=(nR.cell (p:=⟨w.heap.size,0,none⟩) Rj).trans c0);(have d1:=(nR.cell (p:=⟨w.heap.size,1,none⟩) Rj).trans c1);(have d2:=(nR.cell (p:=⟨w.heap.size,2,none⟩) Rj).trans c2);(have d3:=(nR.cell (p:=⟨w.heap.size,3,none⟩) Rj).trans c3);(have hn4:w.heap.size≠w4.heap.size:=by omega);(have hm4:w4.heap.size≠w.heap.size:=by omega);(clear hb4 zw hv4))
     |((guard_hyp hs4:V.heap.size+1<=w4.heap.size);(refine nZ _ rfl (.tmp 57) (.tmp 59) 35 rfl V.heap.size 108 i0 (.agg (iW ByteArray.empty 0 0 0)) 4 40 underlying35 hi hz0 hz1 hz2 rfl Aae vc (place l pk) (GR.flat gu (l.take (place l pk))) Aal HO4 ⟨V.heap.size,0,none⟩ 1 1 (gu ⟨pk,pm,pf,ps⟩) Aal rfl (World.news_of_block HN4) (Jo ⟨pk,pm,pf,ps⟩) Aai Aaa nR.size ?_);(intro v5 w5 hown5 hgr5 Ey);(have M9:=Hq hown5);(have HV5:=Hq (show v5≠ .slice none 0 0 by first|exact Ey|exact λh=>absurd (Ey.1 h).2 Aae));(have gY:=Hq (show aI V w5 from nR.trans (tN hgr5 (λk e=>(HO4.lt k e).1) nR.size)));(have e0:=(gY.cell (p:=⟨w.heap.size,0,none⟩) Rj).trans c0);(have e1:=(gY.cell (p:=⟨w.heap.size,1,none⟩) Rj).trans c1);(have e2:=(gY.cell (p:=⟨w.heap.size,2,none⟩) Rj).trans c2);(have e3:=(gY.cell (p:=⟨w.heap.size,3,none⟩) Rj).trans c3);(clear hown5 hgr5 Ey))
     |((guard_hyp hs4:V.heap.size<=w4.heap.size);(refine nZ _ rfl (.tmp 57) (.tmp 59) 35 rfl V.heap.size 108 i0 (.agg (iW ByteArray.empty 0 0 0)) 4 40 underlying35 hi hz0 hz1 hz2 rfl Aae vc (place l pk) (GR.flat gu (l.take (place l pk))) Aal (HO4.alloc _) ⟨w4.heap.size,0,none⟩ 1 1 (gu ⟨pk,pm,pf,ps⟩) Aal rfl (World.news_of_block (heap_alloc_new w4 _)) (Jo ⟨pk,pm,pf,ps⟩) Aai Aaa (Nat.le_trans nR.size Aac) ?_);(intro v5 w5 hown5 hgr5 Ey);(have M9:=Hq hown5);(have HV5:=Hq (show v5≠ .slice none 0 0 by first|exact Ey|exact λh=>absurd (Ey.1 h).2 Aae));(have gY:=Hq (show aI V w5 from(nR.alloc nR.size _).trans (tN hgr5 (λk e=>(HO4.lt k e).1) (Nat.le_trans nR.size Aac))));(have e0:=(gY.cell (p:=⟨w.heap.size,0,none⟩) Rj).trans c0);(have e1:=(gY.cell (p:=⟨w.heap.size,1,none⟩) Rj).trans c1);(have e2:=(gY.cell (p:=⟨w.heap.size,2,none⟩) Rj).trans c2);(have e3:=(gY.cell (p:=⟨w.heap.size,3,none⟩) Rj).trans c3);(clear hown5 hgr5 Ey))
     |((refine nZ _ rfl (.tmp 60) (.tmp 61) 35 rfl V.heap.size 108 i0 (.agg (iW ByteArray.empty 0 0 0)) 4 40 underlying35 hi hz0 hz1 hz2 rfl Aae v5 (place l pk+1) (GR.flat gu (l.take (place l pk))++gu ⟨pk,pm,pf,ps⟩) Abx M9 ad' (kC l pk).length cc (GR.flat gu (kC l pk)) Abx (GR.flat_length gu 4 aW _) (VZ _ gY) (En _) Aai Aaa gY.size ?_);(intro v6 w6 hown6 qx OW);(have yH:=Hq (show aI V w6 from gY.trans (tN qx (λk e=>(M9.lt k e).1) gY.size)));(have HV6:=Hq (show v6≠ .slice none 0 0 by first|exact λh=>HV5 (OW.1 h).1|exact λh=>HV5 (OW h).1));(rw [ah HPF,ah HPN] at hown6);(obtain⟨a6,cap6,rfl,ayc⟩:=GR.own_at aW hown6);(have HO6:=Hq hown6);(have HT6:=Hq ayc);(have f0:=(yH.cell (p:=⟨w.heap.size,0,none⟩) Rj).trans c0);(have f1:=(yH.cell (p:=⟨w.heap.size,1,none⟩) Rj).trans c1);(have f2:=(yH.cell (p:=⟨w.heap.size,2,none⟩) Rj).trans c2);(have f3:=(yH.cell (p:=⟨w.heap.size,3,none⟩) Rj).trans c3);(clear hown6 qx OW ayc))
     |fail)
   all_goals
    have aiQ:(jd l ⟨pk,pm,pf,ps⟩).length<=1048600:=by have:=ah HPN;omega
    have alv:=Hq (vU.trans (yH.mono Aaa))
    have Zo:=Hq (oH a6 cap6 (jd l ⟨pk,pm,pf,ps⟩) w6 aiQ hkt HT6)
    clear aiQ d0 d1 d2 d3 e0 e1 e2 e3 f0 f1 f2 f3 c0 c1 c2 c3 VZ M0
    go_wp2_with fail
    refine Zo.mono ?_
    rintro e w7 ⟨rfl,uT⟩
    have Gb:=Hq (alv.trans (uT.mono alv.size))
    have HO7:=Hq (own_lower (b':=w.heap.size) (HO6.kept (row:=none) ⟨uT.os,uT.tape,uT.output,uT.size,λk hk _=>uT.block k hk⟩ (acs _)) Aaa)
    clear uT Zo
    cases hps:jk (jd l ⟨pk,pm,pf,ps⟩)
    .have HWF:=Hq (show qQ l ⟨pk,pm,pf,ps⟩ n=(l,false) by rw [ah HW,hps];rfl);have HCX:=Hq (HCA _ Gb);clear hps HW HCA;go_wp2_with fail;refine HCX.mono ?_;rintro e w8 ⟨v8,rfl,hv8,OX,GH⟩;have HV8:=Hq hv8;have HO8:=Hq (own_lower (b':=w.heap.size) OX Gb.size);have Yz:=Hq (Gb.trans (GH.mono Gb.size));clear OX GH hv8;go_wp2_with fail;rw [ah HWF];exact bodyPost_ret (v:= .tuple #[v8,.bool false]) Acw rfl ⟨v8,rfl,HV8,HO8,Yz⟩
    .have HWF:=Hq (show qQ l ⟨pk,pm,pf,ps⟩ n=(jd l ⟨pk,pm,pf,ps⟩,true) by rw [ah HW,hps];rfl);clear hps HW HCA;go_wp2_with fail;rw [ah HWF];exact bodyPost_ret (v:= .tuple #[.slice a6 (jd l ⟨pk,pm,pf,ps⟩).length cap6,.bool true]) Acw rfl ⟨_,rfl,HV6,HO7,Gb⟩):P:=h
theorem arZ.AcT(h:P:=by
 by_cases hlt:k < l.length
 .obtain⟨g1,o1,e1,hg1,s0,s1,s2,s3⟩:=aG.four (GR.At.below HA HB1) k hlt;open avh in exact agS
 .open anF in exact xL):P:=h
theorem ZN(h:P:=by
 obtain⟨hil,aeu⟩:=(nO n.reqs o.no).1 hf;have hgd:n.reqs.getD (dX n.reqs o.no) default=n.reqs[dX n.reqs o.no]:=by rw [List.getD_eq_getElem?_getD,List.getElem?_eq_getElem hil];rfl
 exact AbM):P:=h
theorem ar0.AbM(h:P:=by
 rw [hgd] at hs ⊢;open auj in exact ZY):P:=h
theorem ar1.AbM(h:P:=by
 have hR:fJ n o.no o.k o.n=(n,if Fu n.reqs[dX n.reqs o.no] o.k o.n=true then 0 else 1):=by
  unfold fJ;rw [if_neg hc,if_pos hf,hgd]
 have HSQ:=Hq (show Fu n.reqs[dX n.reqs o.no] o.k o.n=((n.reqs[dX n.reqs o.no].k.toList == o.k.toList)&&decide (n.reqs[dX n.reqs o.no].n=o.n)&&decide (n.reqs[dX n.reqs o.no].s=0)) by unfold Fu;rw [Bool.and_assoc,Bool.and_comm]);have HAD:=Hq hR;generalize fJ n o.no o.k o.n=RES at *;have hd:decide (o.no<=n.old)=false:=decide_eq_false hc;open aui in exact ZY):P:=h
theorem ar2.AbM(h:P:=by
 rw [hgd] at hs;open auh in exact ZY):P:=h
theorem afS(h:P:=by
 have oh:Hid (Below B w W'):=uS.trans (fP.below (λx hx=>by have:x=w.heap.size+2:=Aaf;omega) (Nat.le_trans hB uS.size));have sZ:=Hq (Apart.keeps (c:=c) HKA uS.size fP (λx hx=>by have:x=w.heap.size+2:=Aaf;omega));obtain⟨x0,x1,x2,x3,x4,x5,x6,x7,x8⟩:=nine e4;clear hW' e4 fP;exact Ac0):P:=h
theorem ar3.Ac0(h:P:=by
 exact bodyPost_ret (v:= .tuple #[(gB N1 A1),.slice ma L1.length mc,.int .i64 0]) Abq rfl ⟨A1,ma,mc,rfl,HAT,HMT,oh,sZ⟩):P:=h
theorem ar4.Ac0(h:P:=by
 exact bodyPost_ret (v:= .tuple #[.agg (iD n.id n.par A.k n.kids.length A.ck n.next A.p n.pu.length A.cp a (FL n.out.length).length cp A.s n.seen.length A.cs n.old A.r n.reqs.length A.cr),.slice (some ⟨Z.heap.size,0,none⟩) 0 0,.int .i64 0]) Abq rfl ⟨⟨A.k,A.p,a,A.s,A.r,A.ck,A.cp,cp,A.cs,A.cr⟩,some ⟨Z.heap.size,0,none⟩,0,rfl,HAT,λW'' _ i hi=>Aas,oh,sZ⟩):P:=h
theorem afT(h:P:=by
 open auD in exact Z0):P:=h
theorem ar5.Adp(h:P:=by
 exact axc):P:=h
theorem ar6.Adp(h:P:=by
 exact awX):P:=h
theorem afU(h:P:=by
 refine dx Aab ?_;show gL _ _ _ _ 23 (Array.replicate 23 false) _ _
 refine tk [0,1,2,3,4,5,6,7,8,9,10,11,12,13,14,15,16,17,18,19,20,21,22] ?_;iterate 23 (refine Ar (λK hK=>?_);go_simp;refine hK _ ?_;clear hK K)
 refine jJ ?_;refine eX Aab (λz hz=>?_);exact AeV):P:=h
theorem ar7.AeV(h:P:=by
 have HZ:=Hq (HW1.step hz);clear hz y1;go_simp;go_wp2_with fail;go_ret;exact⟨rfl,A,G,c,HZ⟩):P:=h
theorem ar8.AeV(h:P:=by
 have HZ:=Hq ((ay w (.cells (bV mK mF mT mI mL mk mN) 98)).trans (hz.mono Aac));clear hz y4 z3 z5 z6 x1 hlen;go_simp;go_wp2_with fail;go_ret;exact⟨rfl,HZ⟩):P:=h
theorem UU(h:P:=by
 have Rz:=Hq (λp:Regrown=>hH.below (below_regrown w p.d p.os));have H:=Hq h;obtain⟨c0,c1,f0,f1⟩:=h.two;clear h hs hH hE f0 f1;exact Aa9):P:=h
theorem ar9.Aa9(h:P:=by
 generalize je s i=E at *;generalize jU s i=R at *;go_in
 exact axj):P:=h
theorem asa.Aa9(h:P:=by
 generalize je s i=E at *;generalize jU s i=R at *;go_in
 exact axk):P:=h
theorem asb.Aa9(h:P:=by
 generalize jS s i=E at *;generalize uo s i=R at *;go_in
 exact axj):P:=h
theorem ase.Aa9(h:P:=by
 generalize jS s i=E at *;generalize uo s i=R at *;go_in
 exact axk):P:=h
theorem afV(h:P:=by
 go_wp2_with fail;refine bodyPost_at (λW' hW'=>?_);obtain⟨⟨r0,r1,r2,r3,r4,r5,r6⟩,_⟩:=eF (show W'.heap[w.heap.size]?=some (.cells (bV (s[0].toNat:Int) N1 N2 N3 N4 TX N5) 98 (0,0)) by rw [hW'];exact sG Rw);have hbb:aI w W':=by rw [hW'];exact qP gY (Nat.le_refl _)
 exact Aes):P:=h
theorem asf.Aes(h:P:=by
 exact bodyPost_ret (v:= .tuple #[.agg (bV (s[0].toNat:Int) N1 N2 N3 N4 TX N5),.bool true]) Adg rfl ⟨Abi,hbb⟩):P:=h
theorem asg.Aes(h:P:=by
 exact bodyPost_ret (v:= .tuple #[.agg (bV (s[0].toNat:Int) N1 N2 N3 N4 TX N5),.bool true]) Adf rfl ⟨Abi,hbb⟩):P:=h
theorem UW(h:P:=by
 have hb0:s[0].toNat < 256:=s[0].toNat_lt;have hw64:wrap64 (s[0].toNat:Int)=(s[0].toNat:Int):=IntWalk.wrap64_in _ ⟨Aaa,Aaa⟩;exact AbF):P:=h
theorem ash.AbF(h:P:=by
 clear h;go_in
 go_upto_region 1 with fail;go_quiet (fail);go_upto_region 4 with fail;refine wp_at (λV hV=>?_);have HRV:Hid (jB V g s 1):=by rw [hV];exact(show jB (w.drewN _) g s 0 from H).set 1
 have HKV:Hid (dR g w V):=by rw [hV];exact(dR.of_below (jl w _)).trans (dR.set _)
 clear hV c0 c1 f0 f1;obtain⟨c0,c1,f0,f1⟩:=HRV.two;go_quiet (fail);go_wp2_with fail;go_ret;exact⟨rfl,aK HRV (jl V _),HKV.trans (dR.of_below (jl V _))⟩):P:=h
theorem asi.AbF(h:P:=by
 go_upto_region 8 with fail;go_region
 go_upto_region 9 with fail;refine wp_at (λV hV=>?_);have hM:V.heap[w5.heap.size+1]?=some (.cells (bZ (s[0].toNat:Int) N1 TX N2 mK mF mT mI mL mk mN) 100 (0,0)):=by rw [hV];exact(ig w5 (.cells (bV mK mF mT mI mL mk mN) 98) _).2.1
 have hlt:=dD Rw
 have hB:aI w V:=by
  rw [hV];have h1:=(gY.alloc gY.size (.cells (bV mK mF mT mI mL mk mN) 98)).alloc (by have:=gY.size;simp;omega) (.cells (bZ (s[0].toNat:Int) N1 TX N2 mK mF mT mI mL mk mN) 100);exact⟨h1.os,h1.tape,h1.output,h1.size,h1.block⟩
 have hR:V.heap[w.heap.size]?=some (.cells (bZ 0 0 ⟨#[]⟩ 0 0 0 0 0 0 ⟨#[]⟩ 0) 100 (0,0)):=by
  rw [hV];have h1:=Below.heap_alloc (w5.alloc (.cells (bV mK mF mT mI mL mk mN) 98)) (.cells (bZ (s[0].toNat:Int) N1 TX N2 mK mF mT mI mL mk mN) 100) w.heap.size Aag;have h2:=Below.heap_alloc w5 (.cells (bV mK mF mT mI mL mk mN) 98) w.heap.size hlt;exact h1.trans (h2.trans Rw)
 clear hV Rw gY hw64 hb0 hlt;have hzM:=dD hM;have hzR:=dD hR;by_cases hE:0<=E
 case' neg=>
  have hO:OK=false:=by rw [ah HO,decide_eq_false hE,Bool.false_and,Bool.false_and]
  have wQ:=Hq (HZ hO);have hE2:E < 0:=Aaa
  obtain⟨⟨d0,d1,d2,d3,d4,d5,d6,d7,d8,d9,YI⟩,f0,f1,f2,f3,f4,f5,f6,f7,f8,f9,f10⟩:=aM hR;have HR:=Hq hR;have HB:=Hq hB;clear hO HO HZ HM HP hM hR hB hE;exact axv
 have hE2:¬(E < 0):=Aaa
 cases hbd:(decide (B.size=0)||mo)
 case' false=>
  have hO:OK=false:=by rw [ah HO,hbd,Bool.and_false,Bool.false_and]
  have wQ:=Hq (HZ hO);simp only[Bool.or_eq_false_iff,decide_eq_false_iff_not] at hbd;obtain⟨hb1,rfl⟩:=hbd;have hbe:=jY B Aaa;obtain⟨⟨d0,d1,d2,d3,d4,d5,d6,d7,d8,d9,YI⟩,f0,f1,f2,f3,f4,f5,f6,f7,f8,f9,f10⟩:=aM hR;have HR:=Hq hR;have HB:=Hq hB;clear hO HO HZ HM HP hM hR hB hE hb1;exact axv
 have HBD:=Hq hbd;obtain⟨q0,q1,q2,q3,q4,q5,q6,q7,q8,q9,q10⟩:=(aM hM).1;have HR:=Hq hR;have HB:=Hq hB;have HMB:=Hq hM;clear hR hB hM
 have hcond:((!B.toList.isEmpty)&& !mo)=false:=by
  rcases Bool.or_eq_true_iff.1 hbd with h|h
  .have h1:=eq_empty B (of_decide_eq_true h);subst h1;rw [ByteArray.toList_eq];rfl
  .rw [h];simp
 clear hbd
 have HQ:Hid ((B.toList.isEmpty=true)\/(B.toList.isEmpty=false/\mo=true)):=by
  cases h1:B.toList.isEmpty
  .rw [h1] at hcond;exact .inr ⟨rfl,by simpa using hcond⟩
  .exact .inl rfl
 clear hcond;have HPP:Hid (∀Q:Prop,(B.toList.isEmpty=true->Q)->(B.toList.isEmpty=false->mo=true->Q)->Q):=λQ h1 h2=>HQ.elim h1 (λh=>h2 h.1 h.2)
 clear HQ;refine HPP _ (λhbe=>?_) (λhbe hmo=>?_)
 all_goals
  clear HPP
  go_wp2_with fail
  refine(HP _).mono ?_
  rintro e w7 ⟨rfl,uT⟩
  have HR7:=Hq (aK HR uT)
  have HM7:=Hq (aK HMB uT)
  have Gb:=Hq (HB.trans (uT.mono HB.size))
  have aDN:=dD HM7
  have aDP:=dD HR7
  clear uT HR HMB HB q0 q1 q2 q3 q4 q5 q6 q7 q8 q9 q10 HP hzM hzR
  obtain⟨⟨d0,d1,d2,d3,d4,d5,d6,d7,d8,d9,YI⟩,f0,f1,f2,f3,f4,f5,f6,f7,f8,f9,f10⟩:=aM HR7
  by_cases hp:vJ ⟨s[0].toNat,N1,TX,N2,⟨mK,mF,mT,mI,mL,mk,mN⟩⟩=s
  case' neg=>
   have hO:OK=false:=by rw [ah HO,decide_eq_false hp,Bool.and_false]
   have wQ:=Hq (HZ hO)
   have hq:((vJ ⟨s[0].toNat,N1,TX,N2,⟨mK,mF,mT,mI,mL,mk,mN⟩⟩).toList == s.toList)=false:=by
    exact ahU
   clear hO HO HZ HM HBD hp;generalize vJ ⟨s[0].toNat,N1,TX,N2,⟨mK,mF,mT,mI,mL,mk,mN⟩⟩=pm at *;go_wp2_with fail;refine iB (λW' hW'=>?_);obtain⟨⟨r0,r1,r2,r3,r4,r5,r6,r7,r8,r9,YQ⟩,_⟩:=aM (show W'.heap[w.heap.size]?=some (.cells (bZ 0 0 ⟨#[]⟩ 0 0 0 0 0 0 ⟨#[]⟩ 0) 100 (0,0)) by rw [hW'];exact kU HR7);have hbb:aI w W':=by rw [hW'];exact iI Gb (Nat.le_refl _)
   exact bodyPost_ret (v:= .tuple #[.agg (bZ 0 0 ⟨#[]⟩ 0 0 0 0 0 0 ⟨#[]⟩ 0),.bool false]) Acv rfl ⟨Abi,hbb⟩
  have hO:OK=true:=by rw [ah HO,decide_eq_true hE,ah HBD,decide_eq_true hp];rfl
  have wQ:=Hq (HM hO)
  have hq:((vJ ⟨s[0].toNat,N1,TX,N2,⟨mK,mF,mT,mI,mL,mk,mN⟩⟩).toList == s.toList)=true:=by rw [hp];simp
  obtain⟨⟨q0,q1,q2,q3,q4,q5,q6,q7,q8,q9,q10⟩,_⟩:=aM HM7
  clear hO HO HZ HM HBD
  have HPX:=Hq hp
  clear hp
  generalize vJ ⟨s[0].toNat,N1,TX,N2,⟨mK,mF,mT,mI,mL,mk,mN⟩⟩=pm at *
  go_wp2_with fail
  refine iB (λW' hW'=>?_)
  obtain⟨⟨r0,r1,r2,r3,r4,r5,r6,r7,r8,r9,YQ⟩,_⟩:=aM (show W'.heap[w.heap.size]?=some (.cells (bZ (s[0].toNat:Int) N1 TX N2 mK mF mT mI mL mk mN) 100 (0,0)) by rw [hW'];exact kU HR7)
  have hbb:aI w W':=by rw [hW'];exact iI Gb (Nat.le_refl _)
  exact bodyPost_ret (v:= .tuple #[.agg (bZ (s[0].toNat:Int) N1 TX N2 mK mF mT mI mL mk mN),.bool true]) Acv rfl ⟨Abi,hbb⟩):P:=h
theorem asj.AbF(h:P:=by
 go_upto_region 6 with fail;go_region
 go_upto_region 7 with fail;refine wp_at (λV hV=>?_);have hM:V.heap[w3.heap.size]?=some (.cells (bV (s[0].toNat:Int) N1 N2 N3 N4 TX N5) 98 (0,0)):=by rw [hV];exact heap_alloc_new w3 _
 have hlt:=dD HR3
 have hR:V.heap[w.heap.size]?=some (.cells (bV 0 0 0 0 0 ⟨#[]⟩ 0) 98 (0,0)):=by
  rw [hV];show(w3.alloc _).heap[w.heap.size]?=_
  rw [Below.heap_alloc _ _ _ hlt];exact HR3
 have hB:aI w V:=by
  rw [hV];have h1:=HB3.alloc HB3.size (.cells (bV (s[0].toNat:Int) N1 N2 N3 N4 TX N5) 98);exact⟨h1.os,h1.tape,h1.output,h1.size,h1.block⟩
 clear hV HR3 HB3 c0 c1 c2 c3 hg3 HN HT HG hw64 hb0;have hzM:=dD hM;have hzR:=dD hR;by_cases hE:0<=E6
 case' neg=>
  have hO:OK=false:=by rw [ah HO,decide_eq_false hE];rfl
  have wQ:=Hq (HZ hO)
  have hE2:E6 < 0:=Aaa
  obtain⟨⟨d0,d1,d2,d3,d4,d5,d6⟩,f0,f1,f2,f3,f4,f5,f6⟩:=eF hR
  have HR:=Hq hR
  have HB:=Hq hB
  clear hO HO HZ HM HP hM hR hB hE
  open asw in exact afZ
 have hE2:¬(E6 < 0):=Aaa
 obtain⟨q0,q1,q2,q3,q4,q5,q6⟩:=tC hM;have HR:=Hq hR;have HB:=Hq hB;have HMB:=Hq hM;clear hR hB hM;open arv in exact afH):P:=h
theorem asl.AbF(h:P:=by
 open ard in exact afE):P:=h
theorem afW(h:P:=by
 go_wp2_with fail;refine bodyPost_at (λW' hW'=>?_);obtain⟨⟨r0,r1,r2,r3,r4,r5,r6⟩,_⟩:=eF (show W'.heap[w.heap.size]?=some (.cells (bV 0 0 0 0 0 ⟨#[]⟩ 0) 98 (0,0)) by rw [hW'];exact sG Rw);have hbb:aI w W':=by rw [hW'];exact qP gY (Nat.le_refl _)
 exact AeF):P:=h
theorem asn.AeF(h:P:=by
 exact ahA):P:=h
theorem aso.AeF(h:P:=by
 exact ahz):P:=h
theorem afX(h:P:=by
 obtain⟨mK,mF,mT,mI,mL,mk,mN⟩:=m;obtain⟨R,hR⟩:∃R,cu ⟨5,no,k,n,⟨mK,mF,mT,mI,mL,mk,mN⟩⟩=R:=⟨_,rfl⟩;rw [hR];have HR:=Hq hR;clear hR;have HP:=Hq (show R=(decide (k.toList=[])&&decide (n=0)&&decide (no=0)&&lF ⟨mK,mF,mT,mI,mL,mk,mN⟩) by rw [<-ah HR];simp[cu]);clear HR;exact AcP):P:=h
theorem asq.AcP(h:P:=by
 go_in
 go_upto_region 23 with fail;open atw in exact U9):P:=h
theorem asr.AcP(h:P:=by
 go_in
 go_wp2_with fail
 all_goals
  go_ret
  refine⟨aF ?_,ay w _⟩
  rw [ah HP]
  simp[lF, *]):P:=h
theorem afY(h:P:=by
 have Gt:=Hq (GR.own_below Ec KO);have J9:=Hq (show∀b,((.slice (some ⟨x1.heap.size,0,none⟩) 0 0:Value)).ownBlock=some b->b≠x2.heap.size from λb hb=>by have:=(Ec.lt b hb).2;omega);have Ke:=Hq (sW.trans (KO.mono sW.size));clear KO;exact Ac1):P:=h
theorem asu.Ac1(h:P:=by
 generalize abB:x2.alloc (.cells (fA no k nn st) 95)=y2 at *;open asY in exact aga):P:=h
theorem asv.Ac1(h:P:=by
 generalize abB:x2.alloc (.cells #[.int .i64 mI] 3)=y2 at *;open asW in exact af9):P:=h
theorem afZ(h:P:=by
 go_wp2_with fail;refine bodyPost_at (λW' hW'=>?_);obtain⟨⟨r0,r1,r2,r3,r4,r5,r6⟩,_⟩:=eF (show W'.heap[w.heap.size]?=some (.cells (bV 0 0 0 0 0 ⟨#[]⟩ 0) 98 (0,0)) by rw [hW'];exact sG HR);have hbb:aI w W':=by rw [hW'];exact qP HB (Nat.le_refl _)
 exact AeK):P:=h
theorem asw.AeK(h:P:=by
 exact ahA):P:=h
theorem asx.AeK(h:P:=by
 exact ahz):P:=h
theorem af0(h:P:=by
 have hn:=MI (Dl (tl s a));have HS:=Hq (λw1=>acU (Dl (tl s a)) (Nat.le_trans (Fq _ _) Aai) w1);have HCV:=Hq (λw1 g=>Jl w1 g (j6 (Dl (tl s a))) 4 hn);have HCC:=Hq (λw1 (hb:aI w w1)=>tH (hc.below hg hb) a 4 4 Aaa);exact Aei):P:=h
theorem asy.Aei(h:P:=by
 have hqq:((lX (j6 (Dl (tl s a)))).toList == (s.extract a (a+4)).toList)=false:=by
  rw [beq_eq_false_iff_ne];intro h;rw [ByteArray.toList_eq,ByteArray.toList_eq] at h;exact hq (ByteArray.ext (Array.ext' h))
 open aBe in exact av8):P:=h
theorem asz.Aei(h:P:=by
 have hqq:((lX (j6 (Dl (tl s a)))).toList == (s.extract a (a+4)).toList)=true:=by
  rw [hq];simp
 open aBd in exact av8):P:=h
theorem af2(h:P:=by
 have HS:Hid ((s.data.toList.take (k+1)).all Mth.keyByte=((s.data.toList.take k).all Mth.keyByte&&Mth.keyByte s[k])):=by rw [Mth.take_snoc s k hlt];exact Mth.all_snoc _ _
 have hc:s[k].toNat < 256:=s[k].toNat_lt;exact AdP):P:=h
theorem asA.AdP(h:P:=by
 rcases Mth.byte_cases s[k] with h|h
 .have HK:=Hq (Mth.keyByte_yes _ h);rcases h with⟨h1,h2⟩|⟨h1,h2⟩
  all_goals
   go_wp2_with (go_at_call 18;first|(refine(mH _ _ _ _ ?_ ?_).mono ?_;omega;omega;rintro e w' ⟨rfl,rfl⟩)|(refine(pV _ _ _ _ ?_).mono ?_;omega;rintro e w' ⟨rfl,rfl⟩))
   go_round
   case rel=>exact⟨k+1,Aaa,Aah,Acp⟩
   case measure=>simp[intOf];omega
 .have HK:=Hq (Mth.keyByte_no _ h);have HF:Hid (Mth.keyOk s.data.toList=false):=Mth.keyOk_bad _ (k+1) Acp;rcases h with h1|⟨h1,h2⟩|h1
  all_goals
   go_wp2_with (go_at_call 18;first|(refine(mH _ _ _ _ ?_ ?_).mono ?_;omega;omega;rintro e w' ⟨rfl,rfl⟩)|(refine(pV _ _ _ _ ?_).mono ?_;omega;rintro e w' ⟨rfl,rfl⟩))
   go_ret
   exact⟨aF HF.symm,rfl⟩):P:=h
theorem asB.AdP(h:P:=by
 rcases Mth.byte_cases s[k] with h|h
 .have HK:=Hq (Mth.keyByte_yes _ h);rcases h with⟨h1,h2⟩|⟨h1,h2⟩
  all_goals
   go_wp2_with (first|(go_at_call 231;first|(refine(JX _ _ ?_ ?_).mono ?_;omega;omega;rintro e w' ⟨rfl,rfl⟩)|(refine(Qs _ _ ?_).mono ?_;omega;rintro e w' ⟨rfl,rfl⟩))|(go_at_call 232;first|(refine(Jm _ _ ?_ ?_).mono ?_;omega;omega;rintro e w' ⟨rfl,rfl⟩)|(refine(OG _ _ ?_).mono ?_;omega;rintro e w' ⟨rfl,rfl⟩)))
   go_round
   case rel=>exact⟨k+1,Aaa,Aah,Acp⟩
   case measure=>simp[intOf];omega
 .have HK:=Hq (Mth.keyByte_no _ h);have HF:Hid (Mth.keyOk s.data.toList=false):=Mth.keyOk_bad _ (k+1) Acp;rcases h with h1|⟨h1,h2⟩|h1
  all_goals
   go_wp2_with (first|(go_at_call 231;first|(refine(JX _ _ ?_ ?_).mono ?_;omega;omega;rintro e w' ⟨rfl,rfl⟩)|(refine(Qs _ _ ?_).mono ?_;omega;rintro e w' ⟨rfl,rfl⟩))|(go_at_call 232;first|(refine(Jm _ _ ?_ ?_).mono ?_;omega;omega;rintro e w' ⟨rfl,rfl⟩)|(refine(OG _ _ ?_).mono ?_;omega;rintro e w' ⟨rfl,rfl⟩)))
   go_ret
   exact⟨aF HF.symm,rfl⟩):P:=h
theorem ZO(h:P:=by
 unfold iZ;have H9:=Hq h9;clear h9;have l7:=Hq (h.nine hB);clear h;go_in
 go_upto_region 1 with fail;refine wp_at (λW0 hW=>?_);exact AbN):P:=h
theorem asC.AbN(h:P:=by
 obtain⟨e1,e2,e3,e4⟩:=fV w (.cells (dG n A) 40) (.cells (bZ K no k nn mK mF mT mI mL mk mN) 100) (.cells iF 40);open atp in exact ZT):P:=h
theorem asD.AbN(h:P:=by
 obtain⟨e1,e2,e3,e4⟩:=fV w (.cells (dG n (⟨a_k,(some ⟨gp,0,none⟩),fH,gG,(some ⟨gr,0,none⟩),aY,dH,bE,aZ,bg⟩:bQ)) 40) (.cells (bZ K no k nn mK mF mT mI mL mk mN) 100) (.cells iF 40);open ato in exact ZT):P:=h
theorem asE.AbN(h:P:=by
 obtain⟨e1,e2,e3,e4⟩:=fV w (.cells (dG n (⟨a_k,jH,fH,gG,gM,aY,dH,bE,aZ,bg⟩:bQ)) 40) (.cells (bZ K no k nn mK mF mT mI mL mk mN) 100) (.cells iF 40);open atn in exact ZT):P:=h
theorem af3(h:P:=by
 have adC:=Hq (au ajk KO);have aC1:=aA ajk;have J9:=Hq (show∀b,(Value.slice (some ⟨x2.heap.size,0,none⟩) 0 0).ownBlock=some b->b≠x1.heap.size from λb hb=>by simp[Value.ownBlock] at hb;omega);have Ke:=Hq (sW.trans (KO.mono sW.size));clear KO;exact AcH):P:=h
theorem asF.AcH(h:P:=by
 generalize abB:x2.alloc (.cells #[] 95)=y2 at *;open asX in exact aga):P:=h
theorem asG.AcH(h:P:=by
 generalize abB:x2.alloc (.cells #[] 3)=y2 at *;open asV in exact af9):P:=h
theorem UY(h:P:=by
 have ai4:=Hq (au Av hbx);have CP:=Hq (wJ.trans (hbx.mono wJ.size));exact AbL):P:=h
theorem asH.AbL(h:P:=by
 have HI2:=Hq (GR.At.below HI1 hbx);clear hbx d0 d1 d2 c0 c1 c2 c3 c4 c5 c6 c7 c8 k0 k1 k2 k3 k4 k5 k6 k7 k8 m0 m1 m2 HW1 Av wJ HI1 CV HKI;cases hbv:bb
 case' true=>
  have HP:Hid (TT=false):=ah HBAD (by
   rw [ah iH]
   have h:=ah eT
   rw [hbv] at h
   unfold uU
   dsimp only
   cases h1:NN fr<;>cases h2:pv<;>cases h3:fF lo<;>cases h4:decide (ids.length<=40)<;>simp_all)
  clear HBAD iH eT;subst hbv;go_wp2_with fail;go_ret;exact⟨aF HP.symm,CP⟩
 have HGD:Hid (gU PP RR (seen.take (k+1))=gU (Bh lo) iM ids):=by
  rw [ah iH];have h:=ah eT;rw [hbv] at h;unfold uU;dsimp only;cases h1:NN fr<;>cases h2:pv<;>cases h3:fF lo<;>cases h4:decide (ids.length<=40)<;>simp_all
 subst hbv;clear iH eT;obtain⟨d0,d1,d2⟩:=three HW2;have aDn:=ah CQ;go_wp2_with fail;go_loopw [6] (λi wr2=>∃m:Nat,m<=ids.length/\i= .int .i64 m/\gU (Bh lo) iM (ids.take m)=true/\aI wc wr2) (λi _=>ids.length - (intOf i).toNat)
 case atStart=>exact aaD
 case round=>
  obtain⟨m,hm,rfl,hall,hbx⟩:=hrel;have jN:=Hq hbx;have alo:=Hq hall;have HW3:=Hq (au HW2 hbx);obtain⟨d0,d1,d2⟩:=three HW3;clear hall;by_cases hlm:m < ids.length
  case' neg=>
   have hke:m=ids.length:=Aaa
   subst hke
   have hnlt:decide ((ids.length:Int) < (ids.length:Int))=false:=Aac
   have HF:Hid (gU PP RR (seen.take (k+1))=true):=by
    have h:=ah alo;rw [List.take_length] at h;exact HGD.trans h
   have HB9:=Hq (au ai4 hbx)
   have HL9:=Hq (CP.trans (hbx.mono CP.size))
   clear hbx
   go_wp2_with fail
   go_roundw
   case rel=>exact⟨k+1,Aaa,Aah,HF,HB9,HL9⟩
   case measure=>simp[intOf];omega
  have HBM:Hid (gU (Bh lo) iM (ids.take (m+1))=false->TT=false):=λh=>HBAD (HGD.trans (oD _ _ _ _ h))
  have HL9:=Hq (CP.trans (hbx.mono CP.size));have hI3:=GR.At.below HI2 hbx;clear hbx;cases m with
  |zero=>
   obtain⟨g2,off2,rfl,hg2,q0⟩:=bX.one hI3 0 hlm;rw [Nat.add_zero] at q0;have hgt:decide ((0:Int) < ((0:Nat):Int))=false:=rfl;have iH:Hid (gU (Bh lo) iM (ids.take (0+1))=Bh lo ids[0]):=rC (Bh lo) iM ids hlm;clear hI3;generalize ids[0]=x at *;cases h1:decide (lo<=x/\x<=1000000000)
   case' false=>
    exact aiJ
   have HV:=Hq (show gU (Bh lo) iM (ids.take (0+1))=true by rw [ah iH];simp[Bh,h1]);open aoI in exact ajz
  |succ j=>
   obtain⟨g2,off2,e1,hg2,q0⟩:=bX.one hI3 (j+1) hlm;obtain⟨g3,aDQ,e2,hg3,q1⟩:=bX.one hI3 j Aaa;open au9 in exact agO):P:=h
theorem asI.AbL(h:P:=by
 clear hbx d0 d1 d2 d3 c0 c1 c2 c3 c4 c5 c6 c7 c8 k0 k1 k2 k3 k4 k5 k6 k7 k8 m0 m1 m2 m3 HW1 Av wJ CV
 have Ap:=Hq (show gU RQ RR (reqs.take (k+1))= !bb by
  rw [ah iH,<-ah eT,ah nS]
  simp only[Bool.not_not])
 cases hbv:bb
 .have HG:Hid (gU RQ RR (reqs.take (k+1))=true):=by rw [ah Ap,hbv];exact Hq rfl
  exact ahq
 .exact ahl):P:=h
theorem asJ.AbL(h:P:=by
 clear hbx d0 d1 d2 d3 c0 c1 c2 c3 c4 c5 c6 c7 c8 k0 k1 k2 k3 k4 k5 k6 k7 k8 m0 m1 m2 m3 HW1 Av wJ CV
 have Ap:=Hq (show gU OT RO (out.take (k+1))= !bb by
  rw [ah iH,<-ah eT,ah nS]
  simp only[Bool.not_not])
 cases hbv:bb
 .have HG:Hid (gU OT RO (out.take (k+1))=true):=by rw [ah Ap,hbv];exact Hq rfl
  exact ahq
 .exact ahl):P:=h
theorem asK.AbL(h:P:=by
 have HW2:=Hq (au HW1 hbx);clear hbx d0 d1 d2 d3 c0 c1 c2 c3 c4 c5 c6 c7 c8 HW1 Av wJ eT;obtain⟨d0,d1,d2,d3⟩:=iE HW2;cases hbv:bb
 .have HG:=Hq (show gU KB RR (out.take (k+1))=true by rw [ah Ap,hbv];rfl);subst hbv;clear HBAD Ap;go_wp2_with fail;go_roundw
  case rel=>exact⟨k+1,si,Aaa,Aah,rfl,Dq.symm,HG,ai4,CP⟩
  case measure=>simp[intOf];omega
 .have HP:=Hq (HBAD (by rw [ah Ap,hbv];rfl));subst hbv;clear HBAD Ap;go_wp2_with fail;go_ret;exact⟨aF HP.symm,CP⟩):P:=h
theorem af4(h:P:=by
 have VZ:Hid (NQ W6 B (dM n (n.seen.set i ⟨mF,fE s0 mL,aV s0 mL⟩)) (⟨a_k,(some ⟨gp,0,none⟩),fH,(some ⟨G.s,0,none⟩),gM,aY,dH,bE,aZ,bg⟩:bQ) ⟨G.k,G.p,G.o,G.s,G.r,su G.i i gi⟩ (uP gi (aV s0 mL) (newC w.heap.size 9 c))):=by rw [YL];exact Rs
 exact AdF):P:=h
theorem asL.AdF(h:P:=by
 open az1 in exact Yk2):P:=h
theorem asM.AdF(h:P:=by
 open az0 in exact Yk2):P:=h
theorem af5(h:P:=by
 obtain⟨d0,d1,d2,d3,d4,d5,d6,d7,d8⟩:=nine nU;have f0:=aj nU 0;have f1:=aj nU 1;have f2:=aj nU 2;have f3:=aj nU 3;have f4:=aj nU 4;have f5:=aj nU 5;have f6:=aj nU 6;have f7:=aj nU 7;have f8:=aj nU 8;exact AdB):P:=h
theorem asN.AdB(h:P:=by
 have hrl:=aA nU;go_wp2_with fail;refine aO (λW' hW'=>?_)
 have e4:W'.heap[w.heap.size+2]?=some (.cells (iD n.id n.par A1.k n.kids.length A1.ck n.next pa RL.length pc A1.o n.out.length A1.co A1.s n.seen.length A1.cs n.old A1.r n.reqs.length A1.cr) 40 (0,0)):=by
  rw [hW'];exact GR.setW_blk (iD n.id n.par A1.k n.kids.length A1.ck n.next pa RL.length pc A1.o n.out.length A1.co A1.s n.seen.length A1.cs n.old A1.r n.reqs.length A1.cr).toList (o:=0) (xs:=iF.toList) nU
 have fP:aC [w.heap.size+2] Y W':=by
  rw [hW'];exact aT (iD n.id n.par A1.k n.kids.length A1.ck n.next pa RL.length pc A1.o n.out.length A1.co A1.s n.seen.length A1.cs n.old A1.r n.reqs.length A1.cr).toList Y 0
 have HAT:=Hq (λW'' (ho:Dp w W' W'')=>(show RM W'' ⟨A1.k,pa,A1.o,A1.s,A1.r,A1.ck,pc,A1.co,A1.cs,A1.cr⟩ (setPu n RL) from(by
  have h:=((azI.kc (k:=9) (KC.keeps fP (λx hx=>by have:x=w.heap.size+2:=Aaf;rw [this];exact Gj)) Aaa).kc (k:=9) (ho.kc (λx hx=>YZ x Aaa)) Aaa)
  obtain⟨F,hk2,hF⟩:=ho
  have hpo:=(dQ (dQ azM fP (λx hx=>by have:x=w.heap.size+2:=Aaf;omega)) hk2 (λx hx=>by have:=hF x hx;omega))
  have hp9:∀g',pa.map (λy=>y.block)=some g'->6 < newC X.heap.size 9 c g':=λg' hg'=>by
   have h1:=um hpo (rO hpo hg')
   rw [bJ Aaa]
   omega
  exact NQ.put h HCQ (setPu n RL) ⟨A1.k,pa,A1.o,A1.s,A1.r,A1.ck,pc,A1.co,A1.cs,A1.cr⟩ rfl rfl rfl rfl (GR.own_ati aW hpo) (λg' hg' _=> .inr (hp9 g' hg')) h.o (λy hy=> .inl (HCQ.co y hy)) h.r (λy hy=> .inl (HCQ.cr y hy))
   (λg' hg' _ h6=>⟨λe=>by have:=HCQ.co g' e;omega,λe=>by have:=HCQ.cr g' e;omega⟩) (λy hy h6 e=>by have:=HCQ.co y hy;omega))))
 have oh:Hid (aI w W'):=Gb.trans (fP.below (λx hx=>by have:x=w.heap.size+2:=Aaf;omega) Gb.size);obtain⟨x0,x1,x2,x3,x4,x5,x6,x7,x8⟩:=nine e4;clear hW' e4 fP;exact bodyPost_ret (v:= .tuple #[.agg (iD n.id n.par A1.k n.kids.length A1.ck n.next pa RL.length pc A1.o n.out.length A1.co A1.s n.seen.length A1.cs n.old A1.r n.reqs.length A1.cr),.slice (some ⟨W0.heap.size,0,none⟩) 0 0,.int .i64 0]) Aay rfl ⟨⟨A1.k,pa,A1.o,A1.s,A1.r,A1.ck,pc,A1.co,A1.cs,A1.cr⟩,some ⟨W0.heap.size,0,none⟩,0,rfl,HAT,λW'' _ i hi=>Aas,oh⟩):P:=h
theorem asO.AdB(h:P:=by
 have hnl:=aA qV;have hrl:=aA nU;by_cases hm:mI < fE s0 mL
 .have hd:decide (mI < fE s0 mL)=true:=decide_eq_true hm;go_wp2_with fail;exact aw0
 .have hd:decide (mI < fE s0 mL)=false:=decide_eq_false hm;have hb:hasB (aV s0 mL) mI=true:=Adh
  rw [hb] at Zb;go_wp2_with (go_at_call 101;refine(Zb _ ado.at).mono ?_;rintro e wh ⟨rfl,rfl⟩)
  exact aw0):P:=h
theorem af6(h:P:=by
 generalize Aq s=B at *;generalize LH s=E at *;generalize JI s=X at *;generalize uo s (je s (jS s 1))=N2 at *;generalize je s (jS s 1)=E2 at *;generalize jU s (jS s 1)=TX at *;generalize uo s 1=N1 at *;generalize jS s 1=E1 at *;obtain⟨mK,mF,mT,mI,mL,mk,mN⟩:=m;exact AcL):P:=h
theorem asP.AcL(h:P:=by
 have HH0:=Hq (λW (k:dR g w W)=>HH.keep1 k hg hge);go_in
 go_wp2_with fail;refine(HK _ H).mono ?_;rintro e w1 ⟨rfl,hr1,hk1⟩;have HR1:=Hq (hk1.obj (heap_alloc_new w _) (show w.heap.size≠g by omega));have Rn:=Hq ((dR.of_below (ay w _)).trans hk1);have HA1:=Hq hr1;have hz1:w.heap.size < w1.heap.size:=dD HR1;clear hr1 hk1 HK H;go_upto_region 2 with fail;refine wp_at (λV2 hV=>?_)
 have HS:Hid (OS w V2 g w1.heap.size s 1 (bZ (s[0].toNat:Int) 0 ⟨#[]⟩ 0 0 0 0 0 0 ⟨#[]⟩ 0)):=by
  rw [hV];exact⟨aK HA1 (ay w1 _),aK HR1 (ay w1 _),heap_alloc_new w1 _,Rn.trans (dR.of_below (ay w1 _)),hz1⟩
 clear hV HR1 Rn HA1;generalize w1.heap.size=o at *;clear w1;by_cases hE0:0<=E1
 case' neg=>
  have hno:OK=false:=ah l7 (λhx=>hE0 (by have:=ah HX hx.1;omega));have HNN:=Hq (azD V2 HS.rd (HH0 _ HS.keep) Aaa);clear hE0;exact ajW
 have HNY:=Hq (azE V2 HS.rd (HH0 _ HS.keep) hE0);go_wp2_with fail;refine HNY.mono ?_;rintro e u0 ⟨rfl,hr,hk⟩;have HT:=Hq (HS.step hr hk hg);clear hr hk HNY HS;have hz0:=dD HT.op;obtain⟨⟨c0,c1,c2,c3,c4,c5,c6,c7,c8,c9,c10⟩,f0,f1,f2,f3,f4,f5,f6,f7,f8,f9,f10⟩:=aM HT.op;go_upto_region 3 with fail;refine wp_at (λV3 hV=>?_);have HS:Hid (OS w V3 g o s E1 (bZ (s[0].toNat:Int) N1 ⟨#[]⟩ 0 0 0 0 0 0 ⟨#[]⟩ 0)):=by rw [hV];exact HT.set hg 1 (.int .i64 N1)
 clear hV HT hz0 c0 c1 c2 c3 c4 c5 c6 c7 c8 c9 c10 f0 f1 f2 f3 f4 f5 f6 f7 f8 f9 f10 u0 V2;by_cases hE1:0<=E2
 case' neg=>
  have hno:OK=false:=ah l7 (λhx=>hE1 (by have:=ah HX hx.1;omega));have HNN:=Hq (azQ V3 HS.rd (HH0 _ HS.keep) Aaa);clear hE1;exact ajW
 have HNY:=Hq (azR V3 HS.rd (HH0 _ HS.keep) hE1);go_wp2_with fail;refine HNY.mono ?_;rintro e u1 ⟨rfl,hr,hk⟩;have HT:=Hq (HS.step hr hk hg);clear hr hk HNY HS;have hz1:=dD HT.op;obtain⟨⟨c0,c1,c2,c3,c4,c5,c6,c7,c8,c9,c10⟩,f0,f1,f2,f3,f4,f5,f6,f7,f8,f9,f10⟩:=aM HT.op;go_upto_region 4 with fail;refine wp_at (λV4 hV=>?_);have HS:Hid (OS w V4 g o s E2 (bZ (s[0].toNat:Int) N1 TX 0 0 0 0 0 0 ⟨#[]⟩ 0)):=by rw [hV];exact HT.set hg 2 (.string TX)
 clear hV HT hz1 c0 c1 c2 c3 c4 c5 c6 c7 c8 c9 c10 f0 f1 f2 f3 f4 f5 f6 f7 f8 f9 f10 u1 V3;by_cases hE2:0<=X
 case' neg=>
  have hno:OK=false:=ah l7 (λhx=>hE2 (by have:=ah HX hx.1;omega));have HNN:=Hq (azF V4 HS.rd (HH0 _ HS.keep) Aaa);clear hE2;exact ajW
 have HNY:=Hq (azG V4 HS.rd (HH0 _ HS.keep) hE2);go_wp2_with fail;refine HNY.mono ?_;rintro e u2 ⟨rfl,hr,hk⟩;have HT:=Hq (HS.step hr hk hg);clear hr hk HNY HS;have hz2:=dD HT.op;obtain⟨⟨c0,c1,c2,c3,c4,c5,c6,c7,c8,c9,c10⟩,f0,f1,f2,f3,f4,f5,f6,f7,f8,f9,f10⟩:=aM HT.op;go_upto_region 5 with fail;refine wp_at (λV5 hV=>?_);have HS:Hid (OS w V5 g o s X (bZ (s[0].toNat:Int) N1 TX N2 0 0 0 0 0 ⟨#[]⟩ 0)):=by rw [hV];exact HT.set hg 3 (.int .i64 N2)
 clear hV HT hz2 c0 c1 c2 c3 c4 c5 c6 c7 c8 c9 c10 f0 f1 f2 f3 f4 f5 f6 f7 f8 f9 f10 u2 V4;have hgl:g < V5.heap.size:=Nat.lt_of_lt_of_le hg HS.keep.size;have HMM:=Hq (HM V5 hgl HS.rd (HH0 _ HS.keep));go_wp2_with fail;refine HMM.mono ?_;rintro e w6 ⟨hcase,hk⟩;have YA:=Hq hk;clear hk HMM;rcases hcase with⟨hyes,rfl,hr⟩|⟨hnot,p,rfl⟩
 case' inr=>
  have hno:=ah l7 hnot;have HKK:=Hq (HS.keep.trans YA);clear hnot;go_wp2_with fail;exact⟨rfl,.inr ⟨hno,_,rfl⟩,HKK⟩
 have HT:=Hq (HS.step hr YA hg);have HYE:=Hq hyes;clear hr YA HS hyes hgl;have hz6:=dD HT.op;obtain⟨⟨c0,c1,c2,c3,c4,c5,c6,c7,c8,c9,c10⟩,f0,f1,f2,f3,f4,f5,f6,f7,f8,f9,f10⟩:=aM HT.op;go_upto_region 6 with fail;refine wp_at (λV6 hV=>?_);have HS:Hid (OS w V6 g o s E (bZ (s[0].toNat:Int) N1 TX N2 mK mF mT mI mL mk mN)):=by rw [hV];exact HT.tail hg
 clear hV HT hz6 c0 c1 c2 c3 c4 c5 c6 c7 c8 c9 c10 f0 f1 f2 f3 f4 f5 f6 f7 f8 f9 f10 w6 V5;obtain⟨e0,e1,_,_⟩:=HS.rd.two;obtain⟨⟨c0,c1,c2,c3,c4,c5,c6,c7,c8,c9,c10⟩,f0,f1,f2,f3,f4,f5,f6,f7,f8,f9,f10⟩:=aM HS.op;have hoV:=dD HS.op;have hgV:=dD HS.rd;clear f0 f1 f2 f3 f4 f5 f6 f7 f8 f9 f10;by_cases hEs:E=s.size
 case' neg=>
  have hno:OK=false:=by rw [Bool.eq_false_iff];intro hy;exact hEs (HG.1 hy).1
  have hq:(E == (s.size:Int))=false:=by simpa using hEs
  have hq2:(E != (s.size:Int))=true:=by simpa using hEs
  clear c0 c1 c2 c3 c4 c5 c6 c7 c8 c9 c10;refine wp_region_quiet_lit Aab Aab ?_;repeat (any_goals (first|go_big_quiet_step (fail)|quiet_step (fail)))
  refine wpQuiet_nil ?_;intro _ hw';obtain⟨nq,hw''⟩:=hw';subst hw'';go_wp2_with fail;refine(HF _ (aK HS.rd (jl V6 _))).mono ?_;rintro e w9 ⟨rfl,rfl⟩;go_wp2_with fail;exact⟨rfl,.inr ⟨hno,_,rfl⟩,HS.keep.trans (dR.of_below (jl V6 _))⟩
 have hq:(E == (s.size:Int))=true:=by simpa using hEs
 have hq2:(E != (s.size:Int))=false:=by simpa using hEs
 have HES:=Hq hEs;clear hEs;have x0:=cell_regrown e0;have x1:=cell_regrown e1;open am5 in exact Wp):P:=h
theorem asQ.AcL(h:P:=by
 go_in
 go_wp2_with fail;refine(yM _).mono ?_;rintro e w1 ⟨rfl,hb1⟩;have hR1:=aK (heap_alloc_new w _) hb1;have hB1:=(ay w _).trans (hb1.mono Aac);clear hb1 yM;go_wp2_with fail;refine(HT1 _).mono ?_;rintro e w2 ⟨rfl,hb2⟩;have hR2:=aK hR1 hb2;have hB2:=hB1.trans (hb2.mono hB1.size);clear hb2 hR1 hB1 HT1;go_wp2_with fail;refine(Kg _).mono ?_;rintro e w3 ⟨rfl,hb3⟩;have hR3:=aK hR2 hb3;have hB3:=hB2.trans (hb3.mono hB2.size);clear hb3 hR2 hB2 Kg;go_wp2_with fail;refine(HT2 _).mono ?_;rintro e w4 ⟨rfl,hb4⟩;have hR4:=aK hR3 hb4;have hB4:=hB3.trans (hb4.mono hB3.size);clear hb4 hR3 hB3 HT2;go_wp2_with fail;refine(HG _).mono ?_;rintro e w5 ⟨rfl,hb5⟩;have Rw:=Hq (aK hR4 hb5);have gY:=Hq (hB4.trans (hb5.mono hB4.size));clear hb5 hR4 hB4 HG;open asi in exact UW):P:=h
theorem af7(h:P:=by
 (refine tkB ayB (λK hK=>?_);go_simp;first|refine hK _ ?_|(apply Exists.intro;refine⟨λ_=>?_,hK _ ?_⟩;rfl);clear hK K)
 refine jJ ?_;refine oI Aab (λz hz=>?_);have HGz:=Hq (Za.trans (hz.mono Za.size));have HVz:=Hq (GR.own_below adI hz);exact AeX):P:=h
theorem asR.AeX(h:P:=by
 have hsz:uH.heap.size<=z.heap.size:=HGz.size;clear hz;have HSz:=Hq (show z.heap[sb]?=some (.cells #[.int .i64 mF,.int .i64 (fE s0 mL),.slice (some ⟨gi,0,none⟩) (aV s0 mL).length OA] 110 (0,0)) by rw [(ah HGz).block _ ayx];exact Zp);obtain⟨_,_,kc⟩:=BQ HSz;have kf:=aj HSz 2;refine aH 14 rfl Aab Aad ?_;go_simp;refine wpAny_done Aab ?_;go_simp;go_wp2_with fail;go_meet
 case rel=>
  rcases HVz.2 with⟨_,hn⟩|⟨g,cap,cur,hv,hbg,_⟩
  .omega
  .simp only[Value.slice.injEq] at hv;obtain⟨rfl,_,_⟩:=hv;have h2:=ah HVz;rw [show pos+1+((aV s0 mL).length - pos)=(aV s0 mL).length+1 by omega] at h2;refine⟨g,cvT,hbg,?_,?_,(aC.of_below HGz).trans (aC.set _)⟩
   .rw [ah HIN];rw [List.append_assoc] at h2;refine acr h2 (aC.set _) (λx hx hm=>?_);simp[Value.ownBlock] at hx;simp at hm;omega
   .have h:=aN HSz 2 (.slice (some ⟨g,0,none⟩) (pos+1+((aV s0 mL).length - pos)) cvT);rw [show pos+1+((aV s0 mL).length - pos)=(aV s0 mL).length+1 by omega] at h ⊢;exact h):P:=h
theorem asS.AeX(h:P:=by
 have hsz:wc.heap.size<=z.heap.size:=HGz.size;clear hz;have HNz:Hid (z.heap[w.heap.size]?=some (.cells (iD n.id n.par a_k n.kids.length aY n.next pa PL.length pc fH n.out.length bE gG n.seen.length aZ n.old (some ⟨gr,0,none⟩) n.reqs.length bg) 40 (0,0))):=by unfold Hid;rw [(ah HGz).block _ hnl];exact Gn
 have HRz:Hid (z.heap[w.heap.size+2]?=some (.cells iF 40 (0,0))):=by unfold Hid;rw [(ah HGz).block _ (aA (ah D8))];exact D8
 have HQz:Hid (z.heap[W1.heap.size]?=some (.cells (fA no k nn st) 95 (0,0))):=by unfold Hid;rw [(ah HGz).block _ Xe];exact adA
 have kc:=(nine HNz).2.2.2.2.2.2.2.2;have kf:=aj HNz 8;refine aH 15 rfl Aab Aad ?_;go_simp;refine wpAny_done Aab ?_;go_simp;go_wp2_with fail;go_meet
 case rel=>
  refine⟨rfl,avT,cvT,?_,?_,?_,?_,?_,?_,?_,?_⟩
  .rcases HVz.2 with⟨_,hn⟩|⟨g,cap,cur,hv,_⟩
   .omega
   .simp only[Value.slice.injEq] at hv;exact⟨g,hv.1⟩
  .rcases HVz.2 with⟨_,hn⟩|⟨g,cap,cur,hv,_,_,hnc,_⟩
   .omega
   .simp only[Value.slice.injEq] at hv;omega
  .have h:=aN HNz 8 (.slice avT (pos+1+(n.reqs.length - pos)) cvT);rw [show pos+1+(n.reqs.length - pos)=n.reqs.length+1 by omega] at h ⊢;exact h
  .exact lS _ Aaa HRz
  .exact lS _ Aaa HQz
  .have h:=LO.own (en:=aL) (cp:=cvT) (l:=n.reqs.take pos++[(⟨no,k,nn,st⟩:Rq)]++n.reqs.drop pos) (by rw [hL2];exact HVz);rw [ah HIQ];rw [List.append_assoc] at h;exact(h.keeps (aC.set _) (λx hx=>Aak)).lower Aaa
  .exact(Nf.below HGz).keeps (aC.set _) (λx hx=>Aak)
  .exact(gY.trans (HGz.mono gY.size)).setCell (p:=⟨w.heap.size,8,none⟩) (Nat.le_refl _) _):P:=h
theorem af8(h:P:=by
 refine CJ 2 20 rfl Aab Aab Aab Aab Aab (λ_ _ _ _ h=>h) (λK hK=>?_);go_simp
 first
  |(refine hK _ ?_;clear hK K)
  |(apply Exists.intro
    refine⟨λ_=>?_,hK _ ?_⟩
    (rfl)
    clear hK K)
 clear y3;exact Ad6):P:=h
theorem asT.Ad6(h:P:=by
 refine F7 3 rfl Aab Aad Aae 40 _ _ rfl (iD n.id n.par a_k n.kids.length aY n.next pa PL.length pc fH n.out.length bE gG n.seen.length aZ IH.no (some ⟨g8,0,none⟩) n.reqs.length c8') rfl rfl oZ rfl Aab Aab (λX fP e4=>?_);open aue in exact agt):P:=h
theorem asU.Ad6(h:P:=by
 refine F7 3 rfl Aab Aad Aae 40 _ _ rfl (iD n.id n.par a_k n.kids.length aY n.next pa PL.length pc fH n.out.length bE gG n.seen.length aZ n.old (some ⟨gv,0,none⟩) (n.reqs.length+1) vc) rfl rfl lI rfl Aab Aab (λX fP e4=>?_);open aud in exact agt):P:=h
theorem af9(h:P:=by
 clear abB;refine gF 4 rfl Aab Aad Aae (λx3 hx3=>?_);have yK:=Hq (Ke.trans (hx3.mono Ke.size));have Bg:uH.heap.size<=x3.heap.size:=yK.size;have AO:=Hq (GR.own_below Gt hx3);have AJ:=Hq (au adC hx3);clear hx3;exact AeY):P:=h
theorem asV.AeY(h:P:=by
 obtain⟨v3,y3,GN,GL,zu,GQ⟩:=fQ aQ Aaa x3 uH.heap.size 22 22 3 i0 (.int .i64 0) 8 underlying22 hi0 hz0 hz1' hz2 rfl (.slice (some ⟨x2.heap.size,0,none⟩) 0 0) 0 (GR.flat aU ([])) AO (some ⟨gi,0,none⟩) ((aV s0 mL).take pos) OA (GR.At.below Eb yK) (qG _) Aai Aaa Bg;open aqy in exact awL):P:=h
theorem asW.AeY(h:P:=by
 obtain⟨v3,y3,GN,GL,zu,GQ⟩:=fQ aQ Aaa x3 uH.heap.size 22 22 3 i0 (.int .i64 0) 8 underlying22 hi0 hz0 hz1' hz2 rfl (.slice (some ⟨x1.heap.size,0,none⟩) 0 0) 0 (GR.flat aU ([])) AO (some ⟨gi,0,none⟩) ((aV s0 mL).take pos) OA (GR.At.below Eb yK) (qG _) Aai Aaa Bg;open aqx in exact awL):P:=h
theorem aga(h:P:=by
 clear abB;refine gF 5 rfl Aab Aad Aae (λx3 hx3=>?_);have yK:=Hq (Ke.trans (hx3.mono Ke.size));have Bg:wc.heap.size<=x3.heap.size:=yK.size;have AO:=Hq (GR.own_below Gt hx3);have AJ:=Hq (au adC hx3);clear hx3;exact AcY):P:=h
theorem asX.AcY(h:P:=by
 obtain⟨v3,y3,GN,GL,zu,GQ⟩:=fQ aR Aaa x3 wc.heap.size 38 38 95 i0 (.agg (fA 0 ByteArray.empty 0 0)) 40 underlying38 hi hz0 hz1 hz2 rfl (.slice (some ⟨x2.heap.size,0,none⟩) 0 0) 0 (GR.flat aL ([])) AO (some ⟨gr,0,none⟩) (n.reqs.take pos) bg (GR.At.below Eb yK) (jc _) Aai Aaa Bg;open aqG in exact awN):P:=h
theorem asY.AcY(h:P:=by
 obtain⟨v3,y3,GN,GL,zu,GQ⟩:=fQ aR Aaa x3 wc.heap.size 38 38 95 i0 (.agg (fA 0 ByteArray.empty 0 0)) 40 underlying38 hi hz0 hz1 hz2 rfl (.slice (some ⟨x1.heap.size,0,none⟩) 0 0) 0 (GR.flat aL ([])) AO (some ⟨gr,0,none⟩) (n.reqs.take pos) bg (GR.At.below Eb yK) (jc _) Aai Aaa Bg;open aqF in exact awN):P:=h
theorem agb(h:P:=by
 obtain⟨g,rest,rfl,hBg,hgg⟩:=wC HO Aaa;have HG:=Hq (au hgg cK);have hkk:=ah Ro l[k] (List.getElem_mem hlt);exact AcZ):P:=h
theorem asZ.AcZ(h:P:=by
 have HC:=Hq (fun(W:World) (h:W.heap[g]?=some (.cells (GR.flat gV l++rest).toArray 120 (0,0))) j (hj:j < 12)=>vI dz h k hlt j hj);clear hgg hBg;generalize l[k]=x at *;obtain⟨⟨K,no,k',n,mK,mF,mT,mI,mL,mk,mN⟩,c⟩:=x;dsimp only at hkk;have q0:wr.cell? ⟨g,k*12,none⟩=some (.int .i64 K):=ah HC wr HG 0 Aaa;have q1:wr.cell? ⟨g,k*12+1,none⟩=some (.int .i64 no):=ah HC wr HG 1 Aaa;have q2:wr.cell? ⟨g,k*12+2,none⟩=some (.string k'):=ah HC wr HG 2 Aaa;have q3:wr.cell? ⟨g,k*12+3,none⟩=some (.int .i64 n):=ah HC wr HG 3 Aaa;have q4:wr.cell? ⟨g,k*12+4,none⟩=some (.int .i64 mK):=ah HC wr HG 4 Aaa;have q5:wr.cell? ⟨g,k*12+5,none⟩=some (.int .i64 mF):=ah HC wr HG 5 Aaa;have q6:wr.cell? ⟨g,k*12+6,none⟩=some (.int .i64 mT):=ah HC wr HG 6 Aaa;have q7:wr.cell? ⟨g,k*12+7,none⟩=some (.int .i64 mI):=ah HC wr HG 7 Aaa;have q8:wr.cell? ⟨g,k*12+8,none⟩=some (.int .i64 mL):=ah HC wr HG 8 Aaa;have q9:wr.cell? ⟨g,k*12+9,none⟩=some (.string mk):=ah HC wr HG 9 Aaa;have q10:wr.cell? ⟨g,k*12+10,none⟩=some (.int .i64 mN):=ah HC wr HG 10 Aaa;go_wp2_with fail;refine(Ti ⟨K,no,k',n,mK,mF,mT,mI,mL,mk,mN⟩ _ hkk.1 hkk.2).mono ?_;rintro e w5 ⟨rfl,hb5⟩;have vV:=Hq (au HG hb5);have fG:=Hq (cK.trans (hb5.mono cK.size));clear hb5 q0 q1 q2 q3 q4 q5 q6 q7 q8 q9 q10;have q0:w5.cell? ⟨g,k*12,none⟩=some (.int .i64 K):=ah HC w5 vV 0 Aaa;have q1:w5.cell? ⟨g,k*12+1,none⟩=some (.int .i64 no):=ah HC w5 vV 1 Aaa;have q2:w5.cell? ⟨g,k*12+2,none⟩=some (.string k'):=ah HC w5 vV 2 Aaa;have q3:w5.cell? ⟨g,k*12+3,none⟩=some (.int .i64 n):=ah HC w5 vV 3 Aaa;have q4:w5.cell? ⟨g,k*12+4,none⟩=some (.int .i64 mK):=ah HC w5 vV 4 Aaa;have q5:w5.cell? ⟨g,k*12+5,none⟩=some (.int .i64 mF):=ah HC w5 vV 5 Aaa;have q6:w5.cell? ⟨g,k*12+6,none⟩=some (.int .i64 mT):=ah HC w5 vV 6 Aaa;have q7:w5.cell? ⟨g,k*12+7,none⟩=some (.int .i64 mI):=ah HC w5 vV 7 Aaa;have q8:w5.cell? ⟨g,k*12+8,none⟩=some (.int .i64 mL):=ah HC w5 vV 8 Aaa;have q9:w5.cell? ⟨g,k*12+9,none⟩=some (.string mk):=ah HC w5 vV 9 Aaa;have q10:w5.cell? ⟨g,k*12+10,none⟩=some (.int .i64 mN):=ah HC w5 vV 10 Aaa;have f0:=aj vV (k*12);have f1:=aj vV (k*12+1);have f2:=aj vV (k*12+2);have f3:=aj vV (k*12+3);have f4:=aj vV (k*12+4);have f5:=aj vV (k*12+5);have f6:=aj vV (k*12+6);have f7:=aj vV (k*12+7);have f8:=aj vV (k*12+8);have f9:=aj vV (k*12+9);have f10:=aj vV (k*12+10)
 have HS:=Hq (fG.trans ((Ov [.int .i64 K,.int .i64 no,.string k',.int .i64 n,.int .i64 mK,.int .i64 mF,.int .i64 mT,.int .i64 mI,.int .i64 mL,.string mk,.int .i64 mN] (k*12) w5 _ vV (λj u hj=>by
  have h11:j < 11:=(List.getElem?_eq_some_iff.1 hj).1
  have hc:=ah HC w5 vV j Aaa
  rw [hc,<-hj]
  exact(List.getElem?_append_left (l₁:=([.int .i64 K,.int .i64 no,.string k',.int .i64 n,.int .i64 mK,.int .i64 mF,.int .i64 mT,.int .i64 mI,.int .i64 mL,.string mk,.int .i64 mN]:List Value)) (l₂:=([.int .i64 c]:List Value)) (by simpa using h11)))).mono fG.size))
 exact ah7):P:=h
theorem as0.AcZ(h:P:=by
 have HC:=Hq (fun(W:World) (h:W.heap[g]?=some (.cells (GR.flat iT l++rest).toArray 98 (0,0))) j (hj:j < 7)=>vI dV h k hlt j hj);clear hgg hBg;generalize l[k]=x at *;obtain⟨mK,mF,mT,mI,mL,mk,mN⟩:=x;dsimp only at hkk;have q5:wr.cell? ⟨g,k*7+5,none⟩=some (.string mk):=ah HC wr HG 5 Aaa;go_wp2_with fail;refine(clone mk _ Aaa).mono ?_;rintro e w5 ⟨rfl,hb5⟩;have vV:=Hq (au HG hb5);have fG:=Hq (cK.trans (hb5.mono cK.size));clear hb5 q5;have q5:w5.cell? ⟨g,k*7+5,none⟩=some (.string mk):=ah HC w5 vV 5 Aaa;have f5:=aj vV (k*7+5);have HS:=Hq (fG.trans ((mD vV q5).mono fG.size));exact ah7):P:=h
theorem agc(h:P:=by
 clear hr hc2;go_in
 go_wp2_with (first|(go_at_call_of 100 F;refine(H1 _).mono ?_;rintro e w1 ⟨rfl,rfl⟩)|(go_at_call_of 100 T;refine(H2 _).mono ?_;rintro e w1 ⟨rfl,rfl⟩)|(go_at_call_of 49 I;refine(Gj _).mono ?_;rintro e w1 ⟨rfl,rfl⟩))
 exact AeI):P:=h
theorem as1.AeI(h:P:=by
 go_ret;exact⟨aF (by first|exact HP.symm|exact he.trans HP.symm),ay w _⟩):P:=h
theorem as3.AeI(h:P:=by
 exact wM):P:=h
theorem agd(h:P:=by
 have lI:=Hq ((hap _ (aA qA) (by rw [ah Gj];omega)).trans qA);have YT:=Hq hat;have yH:=Hq (Ou jN hb5 hap YZ);have hrx:=aA qA;clear hat hb5 hap c0 c1 c2 c3 c4 c5 c6 c7 c8 p0 p1 p2 p3 p4 p5 p6 p7 p8 p9 nT hnl hol jy iH HOX qA AA HPR;exact AeT):P:=h
theorem as4.AeT(h:P:=by
 open arJ in exact afL):P:=h
theorem as5.AeT(h:P:=by
 have M8:=Hq (heap_alloc_new W5 (.cells (dG N1 A2) 40));have uO:=Hq (au lI (ay W5 (.cells (dG N1 A2) 40)));have uS:=Hq (yH.trans ((ay W5 (.cells (dG N1 A2) 40)).mono yH.size));obtain⟨c0,c1,c2,c3,c4,c5,c6,c7,c8⟩:=nine M8;have hnl:=aA M8;open amV in exact Wo):P:=h
theorem agf(h:P:=by
 have mixed:prog.follows .mixedOrders=true:=Aab
 have hw1:IntKind.i64.wrap ((i:Int)+1)=(i:Int)+1:=IntWalk.i64_in _ ⟨Aaa,Aaa⟩;have hb1:(0:Int)<=(i:Int)+1:=Aaa
 have hin:i<=l.length:=Aaa
 have htn:((i:Int)+1).toNat=i+1:=Aaa
 exact Aey):P:=h
theorem as6.Aey(h:P:=by
 have hb2:¬(cap=i+1):=Aaa
 have hb3:(i:Int)<=(l.length:Int)+1:=Aaa
 have hb4:¬(cap=i):=Aaa
 have hc63:cap<=9223372036854775807:=Acf
 clear hcs hcl hdl hv hblk htake hcm hr1 abh akm hvr;go_in
 go_wp2_with (simp only[hov])
 go_region_law_o (refine step_copy_runI rfl _ _ 38 38 rfl _ _ Abx Abx (hcp1 _ _ _ _ _ Aaa Aaa) ?_)
 go_wp2_with (at_builtin;refine wpList_copy_runI _ rfl _ _ 38 38 rfl _ _ rfl rfl (hcp2 _ _ _ Aaa) ?_)
 go_ret;exact⟨rfl,hfin.1,hfin.2⟩):P:=h
theorem as7.Aey(h:P:=by
 have hb3:(i:Int)<=(l.length:Int):=Aaa
 have hGi:¬(G=i):=Aaa
 have hGim:¬(G=i+1):=Aaa
 have hci:¬(cap=i):=Aaa
 have hG63:G<=9223372036854775807:=by unfold maxLen at hGm;omega
 have hz3:(cap:Int) < (l.length:Int)+1:=Aaa
 have hA2:=hA ((w.alloc (.cells R 95)).drew) rfl;have hB2:=hB ((((w.alloc (.cells R 95)).drew).setRow w.heap.size (zV R.toList i q).toArray).drew) rfl;clear hblk hv htake hcell hdl htl hRs hRl hRt hBb hi0 hz0 hz1 hz2 hA hB;go_in
 go_upto_region 10 with(at_builtin;refine Lib.wpList_append_run _ rfl _ _ _ _ rfl _ _ rfl rfl _ _ (hrz _) ?_)
 go_wp2_with (first
  |(at_builtin;refine wpList_copy_runI _ rfl _ _ 38 38 rfl _ _ rfl rfl (hA2 _ _ _ Aaa) ?_))
 go_region_law_o (refine step_copy_runI rfl _ _ 38 38 rfl _ _ Abx Abx (hB2 _ _ _ _ _ Aaa Aaa) ?_)
 go_wp2
 go_ret;obtain⟨f1,f2⟩:=ah DX ((((w.alloc (.cells R 95)).drew).setRow w.heap.size (zV R.toList i q).toArray).drew) rfl rfl rfl rfl;exact⟨G,_,rfl,hGn,hGm,f1,uV,NJ,f2⟩):P:=h
theorem ZQ(h:P:=by
 have f0:=GR.Blk.free gY (k*4);have f1:=GR.Blk.free gY (k*4+1);have f2:=GR.Blk.free gY (k*4+2);have f3:=GR.Blk.free gY (k*4+3);go_wp2_with fail;exact AbS):P:=h
theorem as8.AbS(h:P:=by
 go_roundw
 case rel=>
  have h:=GR.Blk.set gY aR k Aaa ⟨pno,pk,pn,ps⟩;rw [ah TS] at h;exact⟨k+1,Aaa,Aah,h,GR.setW_below (o:=k*4) (Nat.le_refl w.heap.size) (aL ⟨pno,pk,pn,ps⟩) fG⟩
 case measure=>simp[intOf];omega):P:=h
theorem as9.AbS(h:P:=by
 go_roundw
 case rel=>
  have h:=GR.Blk.set gY bH k Aaa ⟨pi,pt,pk,pn⟩;rw [ah TS] at h;exact⟨k+1,Aaa,Aah,h,GR.setW_below (o:=k*4) (Nat.le_refl w.heap.size) (aS ⟨pi,pt,pk,pn⟩) fG⟩
 case measure=>simp[intOf];omega):P:=h
theorem ata.AbS(h:P:=by
 go_roundw
 case rel=>
  have h:=GR.Blk.set gY aW k Aaa ⟨pk,pm,pf,ps⟩;rw [ah TS] at h;exact⟨k+1,Aaa,Aah,h,GR.setW_below (o:=k*4) (Nat.le_refl w.heap.size) (gu ⟨pk,pm,pf,ps⟩) fG⟩
 case measure=>simp[intOf];omega):P:=h
theorem UZ(h:P:=by
 obtain⟨c0,c1,c2,c3,c4,c5,c6,c7,c8,c9⟩:=jE HW1.blk;obtain⟨⟨p0,p1,p2,p3,p4,p5,p6,p7,p8,p9,nT⟩,_⟩:=aM yO;exact AbG):P:=h
theorem atb.AbG(h:P:=by
 have hwl:=aA HW.blk;have hne:wb≠w.heap.size:=Aaa
 exact AaB):P:=h
theorem atc.AbG(h:P:=by
 go_in
 go_upto_region 1 with fail;have y1:=cell_regrown c1;open avP in exact aaf):P:=h
theorem atd.AbG(h:P:=by
 go_in
 go_upto_region 3 with fail;have y0:=cell_regrown c0;have y1:=cell_regrown c1;open avN in exact aaf):P:=h
theorem ate.AbG(h:P:=by
 have hwl:=aA HW.blk;have hne:wb≠w.heap.size:=Aaa
 go_in
 go_upto_region 1 with fail;have y1:=cell_regrown c1;have y4:=cell_regrown c4;open avM in exact aaf):P:=h
theorem agh(h:P:=by
 have HR:Hid (textOf s k (some (n,c))=some (s.extract (k+c) (k+c+n),k+c+n)):=by unfold textOf;exact if_neg hbad
 rw [Int.toNat_natCast];have h1:¬1000 < n:=Aaa
 have h2:¬(s.size:Int) - ((k:Int)+(c:Int)) < (n:Int):=Aaa
 exact Ac5):P:=h
theorem atf.Ac5(h:P:=by
 clear hbad;open auF in exact Z4):P:=h
theorem atg.Ac5(h:P:=by
 have hz:(s.extract (k+c) (k+c+n)).size<=281474976710656:=by rw [ByteArray.size_extract];omega
 clear hbad;go_in
 go_wp2_with (first|(go_at_call 251;refine(HS _).mono ?_;rintro e w1 ⟨rfl,rfl⟩;simp only[qZ])|(go_at_call 67;refine(clone _ _ hz).mono ?_;rintro e w2 ⟨rfl,hb2⟩))
 go_ret3
 exact⟨by rw [ah HR];simp[sK],hb2⟩):P:=h
theorem agi(h:P:=by
 have ho:=h.own;rw [<-h.len] at ho;obtain⟨a',c',g,e,hW,hg,hgo⟩:=GR.W.of_own (enc:=fK) dK ho;cases e
 rw [h.len] at hgo;have hfe:∀x,x∈fp g l->x∈fp g T2:=λx hx=>by have:=dY hx;rw [this.1];exact eu (by rw [h.len];exact this.2)
 exact Aew):P:=h
theorem ath.Aew(h:P:=by
 refine⟨g,⟨T2,hW,h.len,λi hi=>?_⟩,λx hx=>⟨(hg x (hfe x hx)).1,hgo x (hfe x hx)⟩,λx hx=>?_,?_⟩
 .obtain⟨b,c,e1,e2,_⟩:=h.dn i hi hi;exact⟨b,c,e1,e2⟩
 .obtain⟨i,hi,rfl,hpos⟩:=uh hx;obtain⟨_,_,_,_,e3⟩:=h.dn i hi hi;exact e3 _ (eu hpos)
 .rw [oL];exact λi j hi hj hij h1 h2=>h.nd i j hi hj hij hj h1 h2):P:=h
theorem ati.Aew(h:P:=by
 refine⟨g,⟨⟨T2,hW,h.len,λi hi=>?_⟩,λhp=>?_⟩,λx hx=>(hg x (hfe x hx)).1,λx hx=>?_,?_⟩
 .obtain⟨b,c,e1,e2,_⟩:=h.dn i hi hi;exact⟨b,c,e1,e2⟩
 .have hx:=hgo g (eu (by rw [h.len];exact hp));rcases h.own.2 with⟨_,hn⟩|⟨g',cap,cur,hv,_,hgg,_⟩
  .omega
  .rw [hv] at hx;have e3:g'=g:=Abm
   rw [e3] at hgg;exact⟨cur,hgg⟩
 .obtain⟨i,hi,rfl,hpos⟩:=uh hx;obtain⟨_,_,_,_,e3⟩:=h.dn i hi hi;have q:=e3 _ (eu hpos);exact⟨q.1,q.2.1,λhm=>q.2.2 (hgo _ (hfe _ hm))⟩
 .rw [oL];exact λi j hi hj hij h1 h2=>h.nd i j hi hj hij hj h1 h2):P:=h
theorem ZR(h:P:=by
 go_in
 go_wp2_with fail;refine HBS.mono ?_;rintro e w1 ⟨rfl,q,rfl⟩;rw [hf];exact AbY):P:=h
theorem atj.AbY(h:P:=by
 go_wp2_with fail;go_ret;exact⟨⟨rfl,rfl,rfl,Nat.le_refl _,λ_ _=>rfl⟩,λ_ _ _ _=>rfl,.inl ⟨by first|trivial|rfl,rfl,HH.drewN⟩⟩):P:=h
theorem atl.AbY(h:P:=by
 clear HBS
 have HIN:=Hq (akL B (.slice a l.length cap) (l.map (·.k)) (place l key) key w.heap.size ((w.drewN q).alloc (.cells #[.string key] 9)) (by rw [List.length_map];exact lT l key) (by rw [List.length_map];exact hl) Aag
  (World.ownsRow.alloc (w:=w.drewN q) HH.row _) (heap_alloc_new (w.drewN q) _) (λe=>by have:=HR.lt _ e;omega))
 go_wp2_with fail;refine HIN.mono ?_;rintro e w2 ⟨v',rfl,hown,hgr⟩;rw [List.length_map,abQ,<-Ci l key] at hown;obtain⟨g',cap',rfl,_,_⟩:=hown.form (by rw [Ci];omega)
 have hlt:∀k,k < w.heap.size->(Value.slice a l.length cap).ownBlock≠some k->w2.heap[k]?=w.heap[k]?:=λk hk hne=>by
  rw [hgr.block k Aag (Ne.symm hne)]
  exact Below.heap_alloc (w.drewN q) _ _ hk
 have hm2:w2.heap[mp]?=some (.cells #[.slice a l.length cap,.map (some mb)] 352 (0,0)):=by rw [hlt mp hmp (own_ne (ah HR) (ah HH).blk Aae)];exact HH.blk
 have hb2:w2.heap[mb]?=w.heap[mb]?:=by
  obtain⟨es,clock,hbk⟩:=HH.map.blk;exact hlt mb hmb (yu HR hbk)
 have hbw:Below B w w2:=by
  refine⟨hgr.os,hgr.tape,hgr.output,Nat.le_trans Aac hgr.size,λk hk=>hlt k Aaa (λe=>?_)⟩;have:=HR.lt _ e;omega
 have HO:=Hq hown;have HM2:=Hq hm2;have HB2:=Hq hb2;have iR:=Hq hbw;have HLT:=Hq hlt;obtain⟨⟨n0,n1⟩,g0,g1⟩:=lW hm2;clear hown hgr hlt hm2 hb2 hbw HIN n1 g1;go_wp2_with fail;go_ret;refine⟨iR.setCell (p:=⟨mp,0,none⟩) HH.lop _,λk hk hne1 hne2=>Fo.one_other (HLT k hk hne2) hne1,.inr (.inr ⟨by first|trivial|rfl,Aaa,rfl,.slice (some ⟨g',0,none⟩) (Pq l key).length cap',?_,?_,?_,HH.lop,HH.lom⟩)⟩
 .exact Fo.blk_set HM2 0 _
 .refine HO.kept (w':=w2.setCell ⟨mp,0,none⟩ _) (row:=some mp) ⟨rfl,rfl,rfl,by rw [Fo.setCell_size];exact Nat.le_refl _,λk _ hne=>Fo.one_other rfl (λe=>hne Aao)⟩ (.inr (own_ne HO HM2 Aae))
 .refine HH.map.kept ?_;rw [Fo.one_other (ah HB2) (Ne.symm (ah HH).mpmb)]):P:=h
theorem atm.AbY(h:P:=by
 go_wp2_with fail;go_ret;exact⟨⟨rfl,rfl,rfl,Nat.le_refl _,λ_ _=>rfl⟩,λ_ _ _ _=>rfl,.inr (.inl ⟨by first|trivial|rfl,H20,rfl⟩)⟩):P:=h
theorem ZT(h:P:=by
 rw [<-hW] at e1 e2 e3 e4;have HN:=Hq e1;have HO:=Hq e2;have HR:=Hq e3;have HB0:=Hq e4;have M7:=Hq (l7.kc (k:=9) (KC.of_below e4) Aaa);exact Ab5):P:=h
theorem atn.Ab5(h:P:=by
 clear hW e1 e2 e3 e4 l7;open arn in exact afG):P:=h
theorem ato.Ab5(h:P:=by
 clear hW e1 e2 e3 e4;open arl in exact afG):P:=h
theorem atp.Ab5(h:P:=by
 clear hW e1 e2 e3 e4 l7;obtain⟨⟨p0,p1,p2,p3,p4,p5,p6,p7,p8,p9,nT⟩,_⟩:=aM HO;have hol:=aA HO;obtain⟨c0,c1,c2,c3,c4,c5,c6,c7,c8⟩:=nine HN;obtain⟨d0,d1,d2,d3,d4,d5,d6,d7,d8⟩:=nine HR;have f0:=aj HR 0;have f1:=aj HR 1;have f2:=aj HR 2;have f3:=aj HR 3;have f4:=aj HR 4;have f5:=aj HR 5;have f6:=aj HR 6;have f7:=aj HR 7;have f8:=aj HR 8;have hnl:=aA HN;have hrl:=aA HR;go_wp2_with fail;refine aO (λW' hW'=>?_)
 have e4:W'.heap[w.heap.size+2]?=some (.cells (dG n A) 40 (0,0)):=by
  rw [hW'];exact GR.setW_blk (dG n A).toList (o:=0) (xs:=iF.toList) HR
 have fP:aC [w.heap.size+2] W0 W':=by
  rw [hW'];exact aT (dG n A).toList W0 0
 have HAT:=Hq (λW'' (ho:Out c w W' W'')=>(M7.kc (k:=9) ((KC.keeps fP (λx hx=>by have:x=w.heap.size+2:=Aaf;rw [this];exact bJ Aaa)).trans (KC.out H9 ho)) Aaa).rm);have oh:Hid (Below B w W'):=(HB0.mono hB).trans (fP.below (λx hx=>by have:x=w.heap.size+2:=Aaf;omega) (Nat.le_trans hB (HB0.mono hB).size));have sZ:=Hq (Apart.keeps (c:=c) (Apart.of_below (HB0)) (HB0.mono hB).size fP (λx hx=>by have:x=w.heap.size+2:=Aaf;omega));obtain⟨x0,x1,x2,x3,x4,x5,x6,x7,x8⟩:=nine e4;clear hW' e4 fP;exact bodyPost_ret (v:= .tuple #[(gB n A),.int .i64 2]) Acb rfl ⟨A,rfl,HAT,oh,sZ⟩):P:=h
theorem agj(h:P:=by
 have RI:=Hq (GR.own_below AO aes);have Np:=Hq (show∀b,((.slice avR (pos) cvR:Value)).ownBlock=some b->b≠x3.heap.size from λb hb=>by have:=(AO.lt b hb).2;omega);have VU:=Hq (yK.trans (aes.mono yK.size));clear aes;exact Aee):P:=h
theorem atq.Aee(h:P:=by
 generalize akG:x3.alloc (.cells (fA no k nn st) 95)=y3 at *;clear akG;generalize x3.heap.size=rb at *;exact Zk0):P:=h
theorem atr.Aee(h:P:=by
 generalize akG:x3.alloc (.cells #[.int .i64 mI] 3)=y3 at *;clear akG;generalize x3.heap.size=rb at *;exact Zk2):P:=h
theorem agk(h:P:=by
 have y0:=(hcell 0 Aaa).1;rw [Nat.mul_one,Nat.add_zero] at y0;simp only[List.getElem?_cons_zero] at y0;clear hcell;exact Ac3):P:=h
theorem att.Ac3(h:P:=by
 have HUP:=Hq (fun(h:¬(aV s0 mL)[x] < mI)=>ac3 (l:=aV s0 mL) (x:=mI) hx Zc (λ_=>h))
 have Ze:=Hq (fun(h:(aV s0 mL)[x] < mI)=>show∀y (hy:y < (aV s0 mL).length),y < x+1->(aV s0 mL)[y] < mI from λy hy h2=>by
  by_cases e:y=x
  .subst e;exact h
  .exact Zc y hy Aaa)
 generalize (aV s0 mL)[x]=rn at *;by_cases hcmp:rn < mI
 .go_wp2_with fail;go_quiet (fail);go_wp2_with fail;go_roundw
  case rel=>exact⟨x+1,_,Aaa,Aah,Ze hcmp,rfl⟩
  case measure=>simp[intOf];omega
 .have abg:decide (rn < mI)=false:=decide_eq_false hcmp;have HJ:=Hq (HUP hcmp);exact aho):P:=h
theorem atu.Ac3(h:P:=by
 subst eb;have hlen:=Xh s0 mL k;by_cases hge:fE s0 mL<=s0.ids[k]
 .have HY:=Hq (Xi s0 mL k hlt hge);generalize s0.ids[k]=x at *;have hd:decide (fE s0 mL<=x)=true:=decide_eq_true hge;go_wp2_with fail;go_quiet (fail);go_wp2_with (at_builtin;refine wpList_append_own _ rfl _ _ 22 rfl W3.heap.size 3 i0 (.int .i64 0) 1 8 underlying22 hi0 hz0 hz1' hz2 rfl Aae _ _ _ rfl (Dg hown) ⟨wr.heap.size,0,none⟩ 1 1 [.int .i64 x] rfl rfl ?c1 ?c2 ?c3 ?c4 ?c5 ?_)
  case c1=>exact cell_one_new _ _ _
  case c2=>intro u hu;simp at hu;subst hu;rfl
  case c3=>unfold maxLen;omega
  case c4=>omega
  case c5=>have:=cK.size;simp;omega
  intro v' w2 hown' hgrow _;have azu:=Hq (GR.below_append (wr:=wr.drewN nq) (cK.trans ⟨rfl,rfl,rfl,Nat.le_refl _,λ_ _=>rfl⟩) cK.size hown hgrow)
  obtain⟨g',cp',rfl⟩:∃g' cp',v'= .slice (some ⟨g',0,none⟩) ((ou s0 mL k).length+1) cp':=by
   rcases hown'.2 with⟨_,hn⟩|⟨g',cap',cur,hv,_⟩
   .omega
   .exact⟨g',cap',hv⟩
  have Ao:=Hq hown';clear hown' hgrow;go_wp2_with fail;go_roundw
  case rel=>exact⟨k+1,g',cp',Aaa,Aah,by rw [ah HY,List.length_append];rfl,by rw [ah HY,List.length_append,GR.flat_append,GR.flat_one];exact Ao,λe=>by rw [ah HY] at e;simp at e,azu⟩
  case measure=>simp[intOf];omega
 .have HY:=Hq (abE s0 mL k hlt hge);generalize s0.ids[k]=x at *;have hd:decide (fE s0 mL<=x)=false:=decide_eq_false hge;go_wp2_with fail;go_quiet (fail);go_wp2_with fail;go_roundw
  case rel=>exact⟨k+1,g,cp,Aaa,Aah,by rw [ah HY],by rw [ah HY];exact hown,by rw [ah HY];exact ai7,cK.trans ⟨rfl,rfl,rfl,Nat.le_refl _,λ_ _=>rfl⟩⟩
  case measure=>simp[intOf];omega):P:=h
theorem U9(h:P:=by
 refine wp_at (λW hW=>?_);have iR:Hid (aI w W):=by rw [hW];first|exact jv w _ _|exact(jv w _ _).drew
 exact AbD):P:=h
theorem atv.AbD(h:P:=by
 have hX:W.heap[w.heap.size+1]?=some (.cells (bZ 2 no ⟨#[]⟩ 0 0 0 0 0 0 ⟨#[]⟩ 0) 100 (0,0)):=Abs
 have hY:W.heap[w.heap.size]?=some (.cells (bZ 2 no k n mK mF mT mI mL mk mN) 100 (0,0)):=Abt
 open auC in exact Z0):P:=h
theorem atw.AbD(h:P:=by
 have hX:W.heap[w.heap.size+1]?=some (.cells (bZ 5 0 ⟨#[]⟩ 0 0 0 0 0 0 ⟨#[]⟩ 0) 100 (0,0)):=Abs
 have hY:W.heap[w.heap.size]?=some (.cells (bZ 5 no k n mK mF mT mI mL mk mN) 100 (0,0)):=Abt
 open ar5 in exact afT):P:=h
theorem atx.AbD(h:P:=by
 have hX:W.heap[w.heap.size+1]?=some (.cells (bZ 1 no k n 0 0 0 0 0 ⟨#[]⟩ 0) 100 (0,0)):=Abs
 have hY:W.heap[w.heap.size]?=some (.cells (bZ 1 no k n mK mF mT mI mL mk mN) 100 (0,0)):=Abt
 open auB in exact Z0):P:=h
theorem aty.AbD(h:P:=by
 exact Ab7):P:=h
theorem agl(h:P:=by
 generalize l[k]=x at *;generalize m[k]=y at *;obtain⟨x0,x1,x2,x3⟩:=x;obtain⟨y0,y1,y2,y3⟩:=y;dsimp only at s0 s1 s2 s3 t0 t1 t2 t3;clear hk2;by_cases hx:x0=y0
 case' neg=>
  have hq:(x0 == y0)=false:=Aaf
  exact aaG
 subst hx;exact AeC):P:=h
theorem atz.AeC(h:P:=by
 by_cases hx:x1=y1
 case' neg=>
  have hq:(x1 == y1)=false:=Aaf
  exact aaG
 subst hx;by_cases hx:x2=y2
 case' neg=>
  have hq:(x2.toList == y2.toList)=false:=BP hx;have hr:¬x2.toList=y2.toList:=Abk
  exact ajY
 exact axm):P:=h
theorem atA.AeC(h:P:=by
 by_cases hx:x1=y1
 case' neg=>
  have hq:(x1.toList == y1.toList)=false:=BP hx;have hr:¬x1.toList=y1.toList:=Abk
  exact ajY
 exact ah0):P:=h
theorem agm(h:P:=by
 clear hat hmt hb5;have hwp:wr.heap.size<=y5.heap.size:=HG2.size;refine tk [6,7,8,9] ?_;iterate 4 (refine tkB hwp (λK hK=>?_);go_simp;first|refine hK _ ?_|(apply Exists.intro;refine⟨λ_=>?_,hK _ ?_⟩;rfl);clear hK K)
 refine jJ ?_;clear hwp;exact AdL):P:=h
theorem atC.AdL(h:P:=by
 refine gF 10 rfl Aab Aad Aae (λx10 KY=>?_);have DY:=Hq (Ge.trans HG2 KY);have HD3:=Hq (show Ge y5 x10 from KY);go_simp;refine⟨(ay x10 _).mono DY.size,?_⟩;have hqd:x10.heap.size < x5.heap.size\/y5.heap.size<=x10.heap.size:= .inr HD3.size;have hqV:wr.heap.size<=x10.heap.size:=DY.size;have HGf:=Hq (Ge.trans DY (ay x10 (.cells iF 40)));have HDf:=Hq (Ge.trans HD3 (ay x10 (.cells iF 40)));have HQf:=Hq (heap_alloc_new x10 (.cells iF 40));clear KY DY HD3;generalize x10.heap.size=qf at *;exact axb):P:=h
theorem atD.AdL(h:P:=by
 have HGf:=HG2;have HDf:=Hq (Below.refl y5.heap.size y5);have HQf:=HQ2;exact axb):P:=h
theorem ZV(h:P:=by
 obtain⟨K,no,k,nn,⟨mK,mF,mT,mI,mL,mk,mN⟩⟩:=o;have HW1:=Hq (h.step (ay w (.cells (bZ K no k nn mK mF mT mI mL mk mN) 100)));exact Ab1):P:=h
theorem atE.Ab1(h:P:=by
 have hq2:(n.par == -1)=true:=Abg
 clear h hR HSY hpar;obtain⟨c0,c1,c2,c3,c4,c5,c6,c7,c8,c9⟩:=jE HW1.blk;go_in
 go_wp2_with fail;go_ret;exact⟨rfl,c,v,HW1⟩):P:=h
theorem atF.Ab1(h:P:=by
 have hwl:=aA h.blk;have hne:wb≠w.heap.size:=Aaa
 have HBO:=Hq (show Below w0.heap.size w0 (w.alloc (.cells (bZ K no k nn mK mF mT mI mL mk mN) 100)) from HW1.keep);have HSA:=Hq (λW c v L' (hW:WK w0 W wb n A G c v L')=>hW.no.at.o);clear h hz;generalize pX n=PM at *;obtain⟨ak,ap,ao,as',ar,ck,cp,co,cs,cr⟩:=A;obtain⟨c0,c1,c2,c3,c4,c5,c6,c7,c8,c9⟩:=jE HW1.blk;go_in
 go_wp2_with fail;go_loopw [13] (λi wr=>∃(k:Nat) (c':Nat->Nat) (v':Value),k<=n.out.length/\i= .int .i64 k/\WK w0 wr wb n ⟨ak,ap,ao,as',ar,ck,cp,co,cs,cr⟩ G c' v' (L++(n.out.take k).map PM)) (λi _=>n.out.length - (intOf i).toNat)
 case atStart=>exact⟨0,c,v,Nat.zero_le _,rfl,by simpa using ah HW1⟩
 case round=>
  obtain⟨k,cc,vv,hk,rfl,hS⟩:=hrel;have D9:=Hq hS;clear hS c0 c1 c2 c3 c4 c5 c6 c7 c8 c9;have hwr:=aA D9.blk;by_cases hlt:k < n.out.length
  .obtain⟨g,off,e0,hg,q0,q1,q2,q3⟩:=SentAt.four (HSA wr cc vv _ D9) k hlt;have HKk:=Hq (HKK n.out[k] (List.getElem_mem hlt));have HT:=Hq (show L++(n.out.take (k+1)).map PM=L++(n.out.take k).map PM++[PM n.out[k]] by rw [List.take_succ_eq_append_getElem hlt,List.map_append,List.append_assoc];rfl);have ajh:=Hq (Gq n.out[k]);generalize n.out[k]=sk at *;generalize PM sk=mk' at *;obtain⟨si,st,sx,sn⟩:=sk;obtain⟨qK,qF,qT,qI,qL,qk,qN⟩:=mk';dsimp only at q0 q1 q2 q3 HKk e0;subst e0;go_upto_region 4 with fail;refine wp_at (λW3 hW3=>?_);have HR3:Hid (W3.heap[wr.heap.size]?=some (.cells (gJ si st sx sn) 91 (0,0))):=by rw [hW3];exact heap_alloc_new _ _
   have Ea:Hid (WK w0 W3 wb n ⟨ak,ap,some ⟨g,off,none⟩,as',ar,ck,cp,co,cs,cr⟩ G cc vv (L++(n.out.take k).map PM)):=by rw [hW3];exact D9.step (ay wr _)
   clear hW3 q0 q1 q2 q3;have azN:=Hq (λp:Regrown=>ajh (Gr W3 p) (GR.At.below (HSA W3 cc vv _ Ea) (below_regrown W3 p.d p.os)));have hr3:=aA HR3;have hw3:=aA Ea.blk;have hnr:wb≠wr.heap.size:=Aaa
   obtain⟨c0,c1,c2,c3,c4,c5,c6,c7,c8,c9⟩:=jE Ea.blk;obtain⟨d0,d1,d2,d3⟩:=iE HR3;open am3 in exact Wp
  .have hke:k=n.out.length:=Aaa
   subst hke;have hnlt:decide ((n.out.length:Int) < (n.out.length:Int))=false:=Aac
   go_wp2_with fail;go_ret;have hS:=ah D9;rw [List.take_length] at hS;exact⟨rfl,cc,vv,hS⟩):P:=h
theorem atH.Ab1(h:P:=by
 have hq2:(n.par == -1)=true:=Abg
 clear h hR Gq hpar;obtain⟨c0,c1,c2,c3,c4,c5,c6,c7,c8,c9⟩:=jE HW1.blk;go_in
 go_upto_region 1 with fail;have y1:=cell_regrown c1;clear c0 c1 c2 c3 c4 c5 c6 c7 c8 c9;refine dx Aab ?_;show gL _ _ _ _ 20 (Array.replicate 20 false) _ _
 refine tk [0,1,2,3,4,5,6,7,8,9,10,11,12,13,14,15,16,17,18,19] ?_;iterate 20 (refine Ar (λK hK=>?_);go_simp;refine hK _ ?_;clear hK K)
 refine jJ ?_;refine eX Aab (λz hz=>?_);have HZ:=Hq (HW1.step hz);clear hz y1;exact ais):P:=h
theorem agn(h:P:=by
 cases hx1:tY x
 case' false=>
  exact aw6
 by_cases hx2:x=id
 case' pos=>
  exact aw3
 have hy2:(x == id)=false:=by simp[hx2]
 by_cases hx3:x=par
 case' pos=>
  exact aw2
 have hy3:(x == par)=false:=by simp[hx3]
 exact Aem):P:=h
theorem atI.Aem(h:P:=by
 by_cases hx4:y < x
 case' neg=>
  have hy4:decide (x<=y)=true:=decide_eq_true Aaa;have HP:=Hq (HBAD (by rw [ah iH];simp[jX,iM,hx4]));clear HBAD iH;exact adQ
 have hy4:decide (x<=y)=false:=decide_eq_false Aaa;have HG:=Hq (show gU (jX id par) iM (kids.take (j+1+1))=true by rw [ah iH];simp[jX,hx1,hx2,hx3,iM,hx4]);clear HBAD iH;open ao0 in exact ajC):P:=h
theorem atJ.Aem(h:P:=by
 have HG:=Hq (show gU (jX id par) iM (kids.take (0+1))=true by rw [ah iH];simp[jX,hx1,hx2,hx3]);clear HBAD iH;open ao1 in exact ajC):P:=h
theorem agp(h:P:=by
 obtain⟨R,hR⟩:∃R,cu ⟨6,no,k,n,m⟩=R:=⟨_,rfl⟩;rw [hR];have HP:=Hq (show R=(decide (k.toList=[])&&decide (n=0)&&decide (no=0)&&cZ m) by rw [<-hR];simp[cu]);clear hR;generalize cZ m=OK at *;obtain⟨mK,mF,mT,mI,mL,mk,mN⟩:=m;exact Ac4):P:=h
theorem atK.Ac4(h:P:=by
 have HX:=Hq (heap_alloc_new (w.alloc (.cells (bZ 6 no k n mK mF mT mI mL mk mN) 100)) (.cells (bZ 6 0 ⟨#[]⟩ 0 0 0 0 0 0 ⟨#[]⟩ 0) 100));have HY:=Hq (aK (heap_alloc_new w (.cells (bZ 6 no k n mK mF mT mI mL mk mN) 100)) (ay _ (.cells (bZ 6 0 ⟨#[]⟩ 0 0 0 0 0 0 ⟨#[]⟩ 0) 100)));rw [show(w.alloc (.cells (bZ 6 no k n mK mF mT mI mL mk mN) 100)).heap.size=w.heap.size+1 by simp] at HX;go_in
 go_wp2_with fail;refine(HM _).mono ?_;rintro e w1 ⟨rfl,hb1⟩;have AP:=Hq (aK HX hb1);have HY1:=Hq (aK HY hb1);have HB1:=Hq ((jv w _ _).trans (hb1.mono Aag));clear hb1 HX HY;obtain⟨x0,x1,x2,x3,x4,x5,x6,x7,x8,x9,x10⟩:=Dv AP;obtain⟨y0,y1,y2,y3,y4,y5,y6,y7,y8,y9,y10⟩:=Dv HY1;have f4:=uj AP 4;have f5:=uj AP 5;have f6:=uj AP 6;have f7:=uj AP 7;have f8:=uj AP 8;have f9:=uj AP 9;have f10:=uj AP 10;cases hOK:OK
 .go_wp2_with fail
  all_goals
   go_ret
   refine⟨aF ?_,?_⟩
   .rw [ah HP];simp[hOK]
   .exact Oe
 have HKK:=Hq hOK;clear hOK;by_cases hno:no=0
 case' neg=>
  have hno':¬(0:Int)=no:=λe=>hno e.symm
  go_wp2_with fail
  all_goals
   go_ret
   refine⟨aF ?_,?_⟩
   .rw [ah HP];simp[hno]
   .exact Oe
 subst hno;by_cases hk:k.toList=[]
 case' neg=>
  go_wp2_with fail
  all_goals
   go_ret
   refine⟨aF ?_,?_⟩
   .rw [ah HP];simp[hk]
   .exact Oe
 by_cases hn:n=0
 case' neg=>
  have hn':¬(0:Int)=n:=λe=>hn e.symm
  go_wp2_with fail
  all_goals
   go_ret
   refine⟨aF ?_,?_⟩
   .rw [ah HP];simp[hn,hk]
   .exact Oe
 subst hn;go_wp2_with fail
 all_goals
  go_ret
  refine⟨aF ?_,?_⟩
  .rw [ah HP];simp[hk,ah HKK]
  .exact Oe):P:=h
theorem atL.Ac4(h:P:=by
 go_in
 go_wp2_with (go_at_call 144;refine(HM _).mono ?_;rintro e w1 ⟨rfl,hb1⟩;have HB1:=Hq hb1;clear hb1)
 all_goals
  go_ret
  refine⟨aF ?_,by first|exact ay w _|exact(ay w _).trans (HB1.mono Aac)⟩
  rw [ah HP]
  simp[*]):P:=h
theorem ZW(h:P:=by
 have HW1:=Hq (h.step (ay w (.cells (bV mK mF mT mI mL mk mN) 98)));have yO:=Hq (heap_alloc_new w (.cells (bV mK mF mT mI mL mk mN) 98));exact Ab4):P:=h
theorem atM.Ab4(h:P:=by
 have hwl:=aA h.blk;have hne:wb≠w.heap.size:=Aaa
 have Rz:=Hq (λp:Regrown=>HW1.no.at.below (below_regrown _ p.d p.os));clear h hp hz;obtain⟨c0,c1,c2,c3,c4,c5,c6,c7,c8,c9⟩:=jE HW1.blk;obtain⟨p0,p1,p2,p3,p4,p5,p6⟩:=jD yO;open am4 in exact Wp):P:=h
theorem atN.Ab4(h:P:=by
 clear h;obtain⟨c0,c1,c2,c3,c4,c5,c6,c7,c8,c9⟩:=jE HW1.blk;have hwl:=aA HW.blk;have hne:wb≠w.heap.size:=Aaa
 go_in
 go_wp2_with fail;refine(HIX w.heap.size _ HW1.no.at.s yO).mono ?_;rintro e w2 ⟨rfl,hb2⟩;have HW2:=Hq (HW1.step hb2);have qW:=Hq (au yO hb2);have HJ2:Hid (∀j mm,jI w j mm->jI w2 j mm):=λj mm hj=>au (au hj (ay w _)) hb2
 clear hb2 HW1 yO HIX c0 c1 c2 c3 c4 c5 c6 c7 c8 c9;obtain⟨c0,c1,c2,c3,c4,c5,c6,c7,c8,c9⟩:=jE HW2.blk;obtain⟨g,off,b,cc,e0,hg,q0,q1,q2,GK⟩:=HW2.no.at.s i hi;rw [ah NI] at q0 q1 q2 GK;have Zo:=Hq (setOf s0.f s0.l b cc s0.ids w2 adE.2.2.1 (λx hx=>by have:=adE.2.2.2.1 x hx;have:=adE.1;omega) GK);have akA:=aA HW2.blk;have hiI:(i:Int) < (n.seen.length:Int):=Aaa
 clear GK;rw [e0] at c6;go_wp2_with fail;refine Zo.mono ?_;rintro e w3 ⟨sb,mb,rfl,hsb,hmb,hS3,hI3,hb3⟩;have HW3:Hid (qp w0 w3 wb sb mb s0.ids.length n A G (newC w2.heap.size 9 c) v L s0.l s0.ids):=⟨(HW2.recol (c':=newC w2.heap.size 9 c) (λx hx=>fq hx)).step hb3,hS3,hI3,bJ hsb,bJ hmb⟩;have YD:=Hq (au qW hb3);have HJ3:Hid (∀j mm,jI w j mm->jI w3 j mm):=λj mm hj=>au (HJ2 j mm hj) hb3
 have aBD:w.heap.size≠sb:=by have:=aA qW;omega
 have ax8:w.heap.size≠mb:=by have:=aA qW;omega
 clear hS3 hI3 hb3 hsb hmb q0 q1 q2 e0 Zo c0 c1 c2 c3 c4 c5 c6 c7 c8 c9;obtain⟨⟨p0,p1,p2,p3,p4,p5,p6⟩,_⟩:=eF YD;have hpl:=aA YD;go_wp2_with fail;refine(aeK sb mb s0.ids.length s0.l mL (fE s0 mL) s0.ids w3 HMX HW3.bk HW3.si).mono ?_;rintro e w4 ⟨rfl,hS4,hI4,hk4⟩;have HW4:=Hq (HW3.lift hS4 hI4 hk4);have Wi:=Hq (hk4.obj YD (by simp[aBD,ax8]))
 have HJ4:Hid (∀j mm,jI w j mm->jI w4 j mm):=λj mm hj=>hk4.obj (HJ3 j mm hj) (by
  have h1:=TF (HJ3 j mm hj) HW3.bk
  have h2:=HW3.si.far (HJ3 j mm hj)
  simp[h1,h2])
 clear hS4 hI4 hk4 p0 p1 p2 p3 p4 p5 p6 hpl HJ2 HJ3;obtain⟨⟨p0,p1,p2,p3,p4,p5,p6⟩,_⟩:=eF Wi;have hpl:=aA Wi;go_wp2_with fail;refine(akl sb mb s0.ids.length (fE s0 mL) mI (aV s0 mL) w4 hI0 hI1 HW4.bk HW4.si).mono ?_;rintro e w5 ⟨rfl,hb5⟩;have HW5:=Hq (HW4.step hb5);have Nf:=Hq (au Wi hb5);have HJ5:Hid (∀j mm,jI w j mm->jI w5 j mm):=λj mm hj=>au (HJ4 j mm hj) hb5
 have hhs:(decide (mI < fE s0 mL)||decide (mI∈aV s0 mL))=rF s0 mL mI:=by
  unfold rF;congr 1
  rw [Bool.eq_iff_iff,decide_eq_true_iff,zo]
 rw [hhs];clear hhs hb5 p0 p1 p2 p3 p4 p5 p6 hpl HW4 Wi HW3 YD;cases hq:rF s0 mL mI
 case' true=>
  have HQ:=Hq hq;clear hq;go_wp2_with fail;obtain⟨n',A',G',c',kk,l2,HWS,adk,HLEN,HSL,HTE⟩:∃(n':Nd) (A':bQ) (G':aX) (c':Nat->Nat) (kk:Nat) (l2:List Int),Hid (qp w0 w5 wb sb mb kk n' A' G' c' v L (fE s0 mL) l2)/\Hid (l2.Pairwise (· < ·))/\Hid (l2.length<=1000)/\Hid (n'.seen.length=n.seen.length)/\Hid (TT=(dM n' (n'.seen.set i ⟨mF,fE s0 mL,l2⟩),true)):=⟨n,A,G,_,_,_,HW5,CQ.2.2.2.2,Nat.le_trans CQ.2.2.1 Aaa,rfl,HTH HQ⟩;have eT:=Hq Nf;have HJW:=Hq HJ5;clear HTH Rz HTN HGS HGF HQ HW5 Nf HW2 qW;exact Zk3
 have HQ:=Hq hq;clear hq;obtain⟨⟨p0,p1,p2,p3,p4,p5,p6⟩,_⟩:=eF Nf;have hpl:=aA Nf;have hnd:(aV s0 mL).Nodup:=CQ.2.2.2.2.imp (λh=>Aaa);have HND:=Hq hnd;clear hnd;by_cases hf:(aV s0 mL).length=40
 case' pos=>
  have HF:=Hq hf;clear hf;go_wp2_with fail;refine(HGF w5 sb mb _ A G _ _ _ HND HF HW5).mono ?_;rintro e w6 ⟨rfl,hb6⟩;have eT:=Hq (au Nf hb6);have HJW:Hid (∀j mm,jI w j mm->jI w6 j mm):=λj mm hj=>au (HJ5 j mm hj) hb6
  have ku:Hid (lN n s0 ⟨mK,mF,mT,mI,mL,mk,mN⟩=false):=by
   show lN n s0 ⟨mK,mF,mT,mI,mL,mk,mN⟩=false
   unfold lN;rw [decide_eq_false (by have:=ah HF;dsimp only;omega),Bool.and_false]
  go_wp2_with fail;obtain⟨n',A',G',c',kk,l2,HWS,adk,HLEN,HSL,HTE⟩:∃(n':Nd) (A':bQ) (G':aX) (c':Nat->Nat) (kk:Nat) (l2:List Int),Hid (qp w0 w6 wb sb mb kk n' A' G' c' v L (fE s0 mL) l2)/\Hid (l2.Pairwise (· < ·))/\Hid (l2.length<=1000)/\Hid (n'.seen.length=n.seen.length)/\Hid (TT=(dM n' (n'.seen.set i ⟨mF,fE s0 mL,l2⟩),false)):=⟨n,A,G,_,_,_,HW5.step hb6,CQ.2.2.2.2,Nat.le_trans CQ.2.2.1 Aaa,rfl,HTN HQ ku⟩;clear hb6 HTH Rz HTN HGS HGF HQ HW5 Nf HW2 qW ku HF HND p0 p1 p2 p3 p4 p5 p6 hpl;exact Zk3
 have HF:Hid ((aV s0 mL).length < 40):=by
  have:=CQ.2.2.1;show(aV s0 mL).length < 40
  omega
 clear hf;go_wp2_with fail;refine(HGS w5 sb mb _ A G _ _ _ (by have:=adE.2.2.1;omega) HND HF HW5).mono ?_;rintro e w6 ⟨rfl,⟨A1,G1,c1,YL⟩,Xb⟩;have eT:=Hq (Xb w.heap.size _ Aaa ax8 Nf);have HJW:Hid (∀j mm,jI w j mm->jI w6 j mm):=λj mm hj=>Xb j _ (Xt (HJ5 j mm hj) HW5.wk.blk) (HW5.si.far (HJ5 j mm hj)) (HJ5 j mm hj)
 have UO:=Hq YL;clear YL Xb p0 p1 p2 p3 p4 p5 p6 hpl HGS HGF;cases hr:(dJ n.pu mk 0 1 0 mN).2
 case' false=>
  have ku:Hid (lN n s0 ⟨mK,mF,mT,mI,mL,mk,mN⟩=false):=by
   show lN n s0 ⟨mK,mF,mT,mI,mL,mk,mN⟩=false
   unfold lN;rw [hr,Bool.false_and]
  rw [hr] at UO;clear hr;go_wp2_with fail;obtain⟨n',A',G',c',kk,l2,HWS,adk,HLEN,HSL,HTE⟩:∃(n':Nd) (A':bQ) (G':aX) (c':Nat->Nat) (kk:Nat) (l2:List Int),Hid (qp w0 w6 wb sb mb kk n' A' G' c' v L (fE s0 mL) l2)/\Hid (l2.Pairwise (· < ·))/\Hid (l2.length<=1000)/\Hid (n'.seen.length=n.seen.length)/\Hid (TT=(dM n' (n'.seen.set i ⟨mF,fE s0 mL,l2⟩),false)):=⟨n,A1,G1,c1,_,_,UO,CQ.2.2.2.2,Nat.le_trans CQ.2.2.1 Aaa,rfl,HTN HQ ku⟩;clear HTH Rz HTN HQ HW5 Nf HW2 qW ku HF HND UO;exact Zk3
 have ku:Hid (lN n s0 ⟨mK,mF,mT,mI,mL,mk,mN⟩=true):=by
  show lN n s0 ⟨mK,mF,mT,mI,mL,mk,mN⟩=true
  unfold lN;rw [hr,decide_eq_true (ah HF),Bool.true_and]
 rw [hr] at UO;clear hr;have HNI:=Hq (Vo HQ).2;go_wp2_with fail
 obtain⟨n',A',G',c',kk,l2,HWS,adk,HLEN,HSL,HTE⟩:∃(n':Nd) (A':bQ) (G':aX) (c':Nat->Nat) (kk:Nat) (l2:List Int),Hid (qp w0 w6 wb sb mb kk n' A' G' c' v L (fE s0 mL) l2)/\Hid (l2.Pairwise (· < ·))/\Hid (l2.length<=1000)/\Hid (n'.seen.length=n.seen.length)/\Hid (TT=(dM n' (n'.seen.set i ⟨mF,fE s0 mL,l2⟩),true)):=⟨setPu n (dJ n.pu mk 0 1 0 mN).1,A1,G1,c1,_,lD (aV s0 mL) mI,⟨UO.wk,UO.bk,UO.si.same (λx=>by rw [Pp];exact List.mem_cons),UO.cs,UO.cm⟩,Po CQ.2.2.2.2 HNI,(by
  show(lD (aV s0 mL) mI).length<=1000
  rw [Ch]
  have:=ah HF
  omega),rfl,Rz HQ ku⟩
 clear HTH Rz HTN HQ HW5 Nf HW2 qW ku HF HND UO HNI;exact Zk3):P:=h
theorem atO.Ab4(h:P:=by
 obtain⟨c0,c1,c2,c3,c4,c5,c6,c7,c8,c9⟩:=jE HW1.wk.blk;obtain⟨⟨p0,p1,p2,p3,p4,p5,p6⟩,_⟩:=eF yO;obtain⟨⟨d0,d1⟩,_⟩:=lW HW1.bk;have hlen:=aCo HW1.si hnd;have hwl:=aA HW.wk.blk;have hsl:=aA HW.bk;have hne:wb≠w.heap.size:=Aaa
 have hne2:sb≠w.heap.size:=Aaa
 clear h;go_in
 go_upto_region 1 with fail;have y4:=cell_regrown c4;have z3:=cell_regrown p3;have z5:=cell_regrown p5;have z6:=cell_regrown p6;have x1:=cell_regrown d1;clear c0 c1 c2 c3 c4 c5 c6 c7 c8 c9 p0 p1 p2 p3 p4 p5 p6 d0 d1;exact Aev):P:=h
theorem agq(h:P:=by
 obtain⟨⟨p0,p1,p2,p3,p4,p5,p6,p7,p8,p9,nT⟩,_⟩:=aM Rt;have hpl:=aA Rt;go_wp2_with fail;refine(uO z HZ).mono ?_;rintro e w1 ⟨rfl,hb1⟩;have HZ1:=Hq (HZ.step hb1);clear hb1 uO p0 p1 p2 p3 p4 p5 p6 p7 p8 p9 nT HZ Rt;exact Ad7):P:=h
theorem atP.Ad7(h:P:=by
 obtain⟨g,hAr,hgw,hgl,⟨q0,q1,q2,q3⟩,qf⟩:=HZ1.reqRow i hil;obtain⟨d0,d1,d2,d3,d4,d5,d6,d7,d8,d9⟩:=jE HZ1.blk;rw [hAr] at d8;have aCl:=aA HZ1.blk;have aBS:(i:Int) < (n.reqs.length:Int):=Aaa
 rw [hs] at q3;go_upto_region 7 with fail;refine wp_at (λW hW=>?_);obtain rfl:=hW;exact AdO):P:=h
theorem atQ.Ad7(h:P:=by
 go_wp2_with fail;go_ret;exact⟨rfl,A,G,c,HZ1⟩):P:=h
theorem agr(h:P:=by
 refine dB 20 Aab ?_;show eY _ _ _ _ _ 23 (Array.replicate 23 false) _ _
 refine tk [0,1,2,3,4,5,6,7,8,9,10,11,12,13,14,15,16] ?_;iterate 17 (refine uR (λK hK=>?_);go_simp;refine hK _ ?_;clear hK K)
 refine jJ ?_;exact Ady):P:=h
theorem atS.Ady(h:P:=by
 clear y1 y4 z2 z3;refine dU 17 rfl Aab Aad (λx hx=>?_);go_simp;have jN:=Hq ((ay w (.cells (bZ K no k nn mK mF mT mI mL mk mN) 100)).trans (hx.mono Aac));clear hx;refine(HMI x jN).mono ?_;rintro e y ⟨a,cp,g,hg,rfl,hp,hby⟩;refine⟨hby,?_⟩;have IU:=Hq (jN.trans (hby.mono jN.size));have HST:=Hq (λz (hz:Ge y z)=>VJ (cp:=cp) HW (IU.trans (hz.mono IU.size)) (Nat.le_trans jN.size hg) (hp.below hz));clear hby hg hp HMI;refine tk [18,19] ?_;iterate 2 (refine uR (λK hK=>?_);go_simp;refine hK _ ?_;clear hK K)
 refine jJ ?_;refine bC Aab (λz hz=>?_);refine aH 20 rfl Aab Aad ?_;go_simp;refine(HST z hz).mono ?_;rintro e z2 ⟨rfl,A',G',c',hZ⟩;have HZ:=Hq hZ;clear hZ HST hz;open auV in exact agI):P:=h
theorem atT.Ady(h:P:=by
 clear y4 z3 z5 z6 x1;refine dU 17 rfl Aab Aad (λx hx=>?_);go_simp;have jN:=Hq ((ay w (.cells (bV mK mF mT mI mL mk mN) 98)).trans (hx.mono Aac));have HXP:=Hq (au yO hx);clear hx;refine(HGN x jN).mono ?_;rintro e y ⟨a,cp,g,hg,rfl,hp,hby⟩;refine⟨hby,?_⟩;have IU:=Hq (jN.trans (hby.mono jN.size));have HYP:=Hq (au HXP hby);have HST:=Hq (λz (hz:Ge y z)=>VI (cp:=cp) HW.wk (IU.trans (hz.mono IU.size)) (Nat.le_trans jN.size hg) (hp.below hz));clear hby hg hp HGN;refine tk [18,19] ?_;iterate 2 (refine uR (λK hK=>?_);go_simp;refine hK _ ?_;clear hK K)
 refine jJ ?_;refine bC Aab (λz hz=>?_);have sV:=Hq (IU.trans (hz.mono IU.size));have HZP:=Hq (au HYP hz);refine aH 20 rfl Aab Aad ?_;go_simp;refine(HST z hz).mono ?_;rintro e z2 ⟨rfl,A',G',c',hZ,hko,hcc⟩;have HZ:=Hq (HW.settled sV hZ hko hcc);have qW:=Hq (hko w.heap.size _ Aaa HZP);have HKO:Hid (∀j o,j≠wb->w.heap[j]?=some o->z2.heap[j]?=some o):=λj o h1 h2=>hko j o h1 (au h2 sV)
 clear hZ hko hcc HST hz sV HZP HYP IU HXP jN;open auU in exact agI):P:=h
theorem ags(h:P:=by
 unfold gD;have H9:=Hq h9;clear h9;have l7:=Hq (h.nine hB);have HGS:=Hq (h.s);have hc4:c G.s=4:=h.c4 G.s (eu Aaa);clear h;go_in
 go_upto_region 1 with fail;refine wp_at (λW0 hW=>?_);exact AcQ):P:=h
theorem atU.AcQ(h:P:=by
 obtain⟨e1,e2,e3,e4⟩:=fV w (.cells (dG n (⟨a_k,jH,fH,gG,gM,aY,dH,bE,aZ,bg⟩:bQ)) 40) (.cells (bV mK mF mT mI mL mk mN) 98) (.cells iF 40);open aoV in exact awq):P:=h
theorem atV.AcQ(h:P:=by
 obtain⟨e1,e2,e3,e4⟩:=fV w (.cells (dG n (⟨a_k,(some ⟨gp,0,none⟩),fH,gG,gM,aY,dH,bE,aZ,bg⟩:bQ)) 40) (.cells (bV mK mF mT mI mL mk mN) 98) (.cells iF 40);open aoW in exact awq):P:=h
theorem ZX(h:P:=by
 rcases ho.2 with⟨_,hy⟩|⟨g,cp,cur,hx,hbg,hgg,hnc,hcm,hcs,htk⟩
 .omega
 simp only[Value.slice.injEq] at hx;obtain⟨rfl,_,rfl⟩:=hx;exact Ab0):P:=h
theorem atW.Ab0(h:P:=by
 by_cases hroom:l.length+1<=cap
 .refine(Ls g cap i l q vb w cur hl hi2 hroom hcm (hne g rfl) hgg hcs htk hv).mono ?_;rintro e w' ⟨rfl,hb,hgr⟩;have hcl:(l.length+1)*4<=cur.toList.length:=Acz
  refine⟨some ⟨g,0,none⟩,cap,by rw [hlen],?_,hgr,λx hx=> .inl hx⟩;rw [hlen];refine⟨hfl,.inr ⟨g,cap,_,rfl,hbg,hb,hroom,hcm,?_,?_⟩⟩
  .rw [List.size_toArray,acE _ _ _ _ hi2 hcl,show cur.toList.length=cur.size from Array.length_toList,hcs]
  .exact XM cur.toList l i q hi2 hcl htk
 .refine(Pv g cap i l q vb w cur hl hi2 hnc Aaa hgg htk hv).mono ?_;rintro e w' ⟨G,cur',rfl,hG,hGm,hb,hs,ht,hgr⟩;refine⟨some ⟨w.heap.size,0,none⟩,G,by rw [hlen],?_,⟨hgr.os,hgr.tape,hgr.output,hgr.size,λk hk _=>hgr.block k hk Aac⟩,λx hx=> .inr ?_⟩
  .rw [hlen];exact⟨hfl,.inr ⟨w.heap.size,G,cur',rfl,hB,hb,hG,hGm,hs,ht⟩⟩
  .have:w.heap.size=x:=Abm
   omega):P:=h
theorem atY.Ab0(h:P:=by
 refine(WG g cap l w cur h2 hl hnc hcm hgg hcs htk).mono ?_;rintro e w' ⟨rfl,hb,hgr⟩;have hcl:l.length*4<=cur.toList.length:=Acz
 refine⟨some ⟨g,0,none⟩,cap,by rw [hlen],?_,hgr,λx hx=> .inl hx⟩;rw [hlen];refine⟨by rw [gW,hlen],.inr ⟨g,cap,_,rfl,hbg,hb,Aaa,hcm,?_,?_⟩⟩
 .rw [List.size_toArray,acG _ _ h2 hcl,show cur.toList.length=cur.size from Array.length_toList,hcs]
 .exact XQ cur.toList l h2 hcl):P:=h
theorem atZ.Ab0(h:P:=by
 have hce:cur=(GR.flat aS l++cur.toList.drop (l.length*4)).toArray:=by
  rw [<-htk,List.take_append_drop,Array.toArray_toList]
 have hlr:l.length*4+(cur.toList.drop (l.length*4)).length=cap*4:=by
  rw [List.length_drop,show cur.toList.length=cur.size from Array.length_toList,hcs];omega
 rw [hce] at hgg;have hlen:(l.eraseIdx (pE l m)).length=l.length - 1:=List.length_eraseIdx_of_lt h;refine(Sq g cap l _ B (pE l m) m w hl h hno hnc hcm hlr hB hgg hix).mono ?_;rintro e w' ⟨rfl,⟨r2,hS2,hr2⟩,hgr⟩;refine⟨some ⟨g,0,none⟩,cap,by rw [hlen],?_,hgr,λx hx=>hx⟩;rw [hlen];refine⟨by rw [mG,hlen],.inr ⟨g,cap,_,rfl,hbg,hS2,Aaa,hcm,?_,?_⟩⟩
 .rw [List.size_toArray,List.length_append,mG,hlen];exact hr2
 .exact List.take_left' (by rw [mG,hlen])):P:=h
theorem NY(h:P:=by
 have y0:=cell_regrown p0;have y1:=cell_regrown p1;have y2:=cell_regrown p2;have y3:=cell_regrown p3;exact Aa3):P:=h
theorem at6.Aa3(h:P:=by
 have y4:=cell_regrown c4;clear HO p0 p1 p2 p3 c4;open aA2 in exact RY):P:=h
theorem at7.Aa3(h:P:=by
 have y4:=cell_regrown p4;have y5:=cell_regrown p5;have y6:=cell_regrown p6;exact AaR):P:=h
theorem aua.Aa3(h:P:=by
 clear HO p0 p1 p2 p3;open aA4 in exact RY):P:=h
theorem aub.Aa3(h:P:=by
 clear HO p0 p1 p2 p3;open aA3 in exact RY):P:=h
theorem auc.Aa3(h:P:=by
 have y4:=cell_regrown c4;clear HO p0 p1 p2 p3 c4;open aA8 in exact RY):P:=h
theorem agt(h:P:=by
 refine MZ Aab (λX5 hX5=>?_);have e4:=au e4 hX5;have fP:=fP.trans (aC.of_below hX5);clear hX5;refine aH 4 rfl Aab Aad ?_;go_simp;refine wpAny_done Aab ?_;go_simp;exact AdY):P:=h
theorem aud.AdY(h:P:=by
 have sV:=Hq (yH.trans (fP.below (B:=w.heap.size) (λx hx=>Aak) yH.size));have HLZ:=Hq (HL6.keeps fP (λx hx=>Aak));have Rt:=Hq (Zi.keeps fP (λx hx=>Aak));obtain⟨x0,x1,x2,x3,x4,x5,x6,x7,x8⟩:=nine e4;clear e4 fP;go_wp2_with fail;refine bodyPost_ret (v:= .tuple #[.agg (iD n.id n.par a_k n.kids.length aY n.next pa PL.length pc fH n.out.length bE gG n.seen.length aZ n.old (some ⟨gv,0,none⟩) (n.reqs.length+1) vc),.int .i64 st]) Acb rfl ?_;rw [ah HK];refine⟨⟨a_k,pa,fH,gG,(some ⟨gv,0,none⟩),aY,pc,bE,aZ,vc⟩,?_,λW'' ho=>?_,sV.mono hB,Apart.of_below sV⟩
 .simp[gB,dG,eO,setPu,ah akh]
 .exact axe):P:=h
theorem aue.AdY(h:P:=by
 have sV:=Hq (HB9.trans (fP.below (B:=w.heap.size) (λx hx=>Aak) HB9.size));have HLZ:=Hq (HL9.keeps fP (λx hx=>Aak));have Rt:=Hq (HP9.keeps fP (λx hx=>Aak));obtain⟨x0,x1,x2,x3,x4,x5,x6,x7,x8⟩:=nine e4;clear e4 fP;go_wp2_with fail;refine bodyPost_ret (v:= .tuple #[.agg (iD n.id n.par a_k n.kids.length aY n.next pa PL.length pc fH n.out.length bE gG n.seen.length aZ IH.no (some ⟨g8,0,none⟩) n.reqs.length c8'),.int .i64 st]) Acb rfl ?_;rw [ah HK];refine⟨⟨a_k,pa,fH,gG,(some ⟨g8,0,none⟩),aY,pc,bE,aZ,c8'⟩,?_,λW'' ho=>?_,sV.mono hB,Apart.of_below sV⟩
 .simp[gB,dG,eO,nY,setPu,akh]
 .exact axe):P:=h
theorem agu(h:P:=by
 rw [<-hW] at e1 e2 e3;have HN:=Hq e1;have HR:=Hq e2;have HB0:=Hq e3;have M7:=Hq (l7.kc (k:=9) (KC.of_below e3) Aaa);clear hW e1 e2 e3 l7 hbw0 hlo;obtain⟨c0,c1,c2,c3,c4,c5,c6,c7,c8⟩:=nine HN;have hnl:=aA HN;exact AdC):P:=h
theorem auf.AdC(h:P:=by
 have qA:=Hq HR;open anq in exact aah):P:=h
theorem aug.AdC(h:P:=by
 go_wp2_with fail;refine(Nz W0 M7.at.r).mono ?_;open avm in exact agT):P:=h
theorem ZY(h:P:=by
 have uO:=Hq (λw1 (hw:WK w0 w1 wb n A G c v L)=>MW w0 w1 wb n A G c v L o.no hok h0 h1 hw);rw [hf] at uO;have hlen:=(iX hok).2.1;exact AbV):P:=h
theorem auh.AbV(h:P:=by
 clear hR h0 h1 hok hf hgd aeu;generalize dX n.reqs o.no=i at *;open aAv in exact RV):P:=h
theorem aui.AbV(h:P:=by
 generalize dX n.reqs o.no=i at *;generalize Fu n.reqs[i] o.k o.n=SQ at *;clear hR h0 h1 hok hf hgd;open aAs in exact RV):P:=h
theorem auj.AbV(h:P:=by
 clear hR h0 h1 hok hf hgd aeu;generalize dX n.reqs o.no=i at *;have HUN:=Hq (λw1 (hw:WK w0 w1 wb n A G c v L)=>Pk A.p A.cp n.pu n.reqs[i].k n.reqs[i].n E w1 hz.p hz.pk (hz.rk _ (List.getElem_mem hil)) hw.no.p.at (he.below hw.keep));unfold jM at HUN;generalize dJ n.pu n.reqs[i].k 0 1 (-1) n.reqs[i].n=r at *;open aAp in exact RV):P:=h
theorem agv(h:P:=by
 have hblk:V.heap[wr.heap.size]?=some (.cells (iW pk pm pf ps) 108 (0,0)):=by rw [hV];exact heap_alloc_new wr _
 exact Aeo):P:=h
theorem auk.Aeo(h:P:=by
 have hPV:=HP.below hbV;have Wj:=Hq hPV;have Gc:=Hq hblk;have HVS:=Hq (show V.heap.size=wr.heap.size+1 by rw [hV];simp);have vU:=Hq (cK.trans (hbV.mono cK.size));obtain⟨⟨p0,p1,p2,p3⟩,_⟩:=fT hblk;obtain⟨⟨n0,n1⟩,f0,f1⟩:=lW hPV.blk
 have HRW:=Hq (show V.ownsRow w.heap.size 9 1 (.slice aa k cc) k (((l.take k).map (·.k)).map Value.string) by
  have:=hPV.row
  rw [List.length_map,List.length_take,Nat.min_eq_left hk] at this
  exact this)
 have HGR:=Hq (show∀w2:World,((V.alloc (.cells #[.string pk] 9)).drew).grownBy w2 (Value.slice aa k cc).ownBlock->
  w2.heap[w1.heap.size+1]?=some (.cells #[.slice aa k cc,.map (some w1.heap.size)] 352 (0,0))/\w2.heap[w1.heap.size]?=V.heap[w1.heap.size]?/\w2.heap[wr.heap.size]?=V.heap[wr.heap.size]?/\Below w.heap.size V w2 by
  intro w2 hg
  have hb:∀q,q < V.heap.size->(Value.slice aa k cc).ownBlock≠some q->w2.heap[q]?=V.heap[q]?:=λq hq hne=>by
   rw [hg.block q (by show q < (V.alloc _).heap.size;simp;omega) (Ne.symm hne)]
   exact Below.heap_alloc V _ _ hq
  obtain⟨es,clock,hmap⟩:=hPV.map.blk
  refine⟨?_,hb _ hPV.map.lt (yu HRW hmap),hb _ (Fo.lt_of_blk hblk) (own_ne HRW hblk Aae),?_⟩
  .rw [hb _ (Fo.lt_of_blk hPV.blk) (own_ne (ah HRW) hPV.blk Aae)];exact hPV.blk
  .refine⟨hg.os,hg.tape,hg.output,Nat.le_trans (by show V.heap.size<=(V.alloc _).heap.size;simp) hg.size,λq hq=>hb q (by have:=vU.size;omega) (λe=>?_)⟩;have:=HRW.lt _ e
   omega)
 have n2:(V.alloc (.cells #[.string pk] 9)).cell? ⟨w1.heap.size+1,0,none⟩=some (.slice aa k cc):=by rw [World.cell?_alloc_lt _ _ _ (Fo.lt_of_blk hPV.blk)];exact n0
 clear hblk hbV hPV hV c0 c1 c2 c3 n1 f1;go_region_law (refine step_append_lies _ rfl (.tmp 24) (.tmp 27) 350 rfl w.heap.size 9 i0 (.string ⟨#[]⟩) 1 16 underlying350 hi hz0 hz1 hz2 rfl Aae (.slice aa k cc) k (((l.take k).map (·.k)).map Value.string) Aal (HRW.alloc _).drew ⟨V.heap.size,0,none⟩ 1 1 [.string pk] Aal rfl (World.news_of_block (w:=(V.alloc (.cells #[.string pk] 9)).drew) (heap_alloc_new V _)) (λu hu=>by rw [List.mem_singleton.1 hu];rfl) Aaa Aai Aaa (by have:=vU.size;simp;omega) (V.heap.size+1) Aac ?_;intro g' cap' w2 hown hgrow hat hlt2;have hK2:=ah HGR w2 hgrow;have HOW:=Hq hown;clear hown hgrow hat hlt2;have HM2:=Hq hK2.1;have YF:=Hq hK2;obtain⟨⟨y0,y1⟩,z0,z1⟩:=lW hK2.1;clear hK2 y1 z1)
 all_goals
  go_upto_region 8 with fail
  refine Fo.wp_at (λV3 hV3=>?_)
  obtain⟨hx1,hx2,hx3,hx4⟩:=ah YF
  have aDu:w1.heap.size+1 < wr.heap.size:=Fo.lt_of_blk HP.blk
  have hblk3:V3.heap[w1.heap.size+1]?=some (.cells #[.slice (some ⟨g',0,none⟩) (k+1) cap',.map (some w1.heap.size)] 352 (0,0)):=by rw [hV3];exact Fo.blk_set hx1 0 _
  have ayo:V3.heap[wr.heap.size]?=some (.cells (iW pk pm pf ps) 108 (0,0)):=by
   rw [hV3,Fo.one_other rfl Aaa,hx3];exact Gc
  have abl:iK V3 w1.heap.size k (aD (l.take k)):=Wj.map.kept (by rw [hV3,Fo.one_other rfl Aaa,hx2])
  have hrow3:V3.ownsRow w.heap.size 9 1 (.slice (some ⟨g',0,none⟩) (k+1) cap') (k+1) (((l.take k).map (·.k)).map Value.string++[.string pk]):=by
   rw [hV3];exact HOW.kept (w':=w2.setCell ⟨w1.heap.size+1,0,none⟩ _) (row:=some (w1.heap.size+1)) ⟨rfl,rfl,rfl,by rw [Fo.setCell_size];exact Nat.le_refl _,λq _ hne=>Fo.one_other rfl (λe=>hne Aao)⟩ (.inr (own_ne HOW hx1 Aae))
  have hkeys:(l.take (k+1)).map (·.k)=(l.take k).map (·.k)++[pk]:=by rw [ah NJ];simp
  have azL:=Hq (show PM V3 w.heap.size (w1.heap.size+1) w1.heap.size k (.slice (some ⟨g',0,none⟩) (k+1) cap') ((l.take (k+1)).map (·.k)) (aD (l.take k)) by
   refine⟨hblk3,?_,abl,HP.lop,HP.lom⟩
   rw [hkeys,List.map_append,List.length_append,List.length_map,List.length_take,Nat.min_eq_left hk]
   exact hrow3)
  have HB3:=Hq (show aI w V3 by rw [hV3];exact(vU.trans hx4).setCell (p:=⟨w1.heap.size+1,0,none⟩) HP.lop _)
  have ajg:=Hq (Vq (w1.heap.size+1) w1.heap.size k _ (aD (l.take k)) ⟨pk,pm,pf,ps⟩ V3 hkk Aai hblk3 abl)
  obtain⟨⟨r0,r1,r2,r3⟩,_⟩:=fT ayo
  clear hx1 hx2 hx3 hx4 hblk3 ayo abl hrow3 hkeys hV3 y0 z0 n0 n2 p0 p1 p2 p3 f0
  go_wp2_with fail
  refine ajg.mono ?_
  rintro e w5 ⟨rfl,hm5,hk5⟩
  have Nf:=Hq (azL.turned hk5 hm5)
  have gY:=Hq (HB3.trans (Ck hk5 HP.lom HB3.size))
  clear hm5 hk5 r0 r1 r2 r3
  go_wp2_with fail
  go_roundw
  case rel=>
   have h:=ah Nf;rw [ah HUP] at h;exact⟨k+1,_,_,Aaa,Aah,h,gY⟩
  case measure=>simp[intOf];omega):P:=h
theorem aul.Aeo(h:P:=by
 have vU:=Hq (show aI w V by rw [hV];exact cK.alloc cK.size _);have hgV:=Fo.lt_of_blk hblk;obtain⟨⟨p0,p1,p2,p3⟩,_⟩:=fT hblk;exact Aa2):P:=h
theorem agw(h:P:=by
 go_wp2_with fail;refine(Nw _ nC).mono ?_;rintro e w1 ⟨rfl,hb1⟩;have HB1:=Hq (au HB0 hb1);have qU:=Hq (nC.trans (hb1.mono nC.size));exact Ad9):P:=h
theorem aum.Ad9(h:P:=by
 clear hb1 c0 c1 c2 c3 c4 c5 c6 c7 c8 Nw;obtain⟨c0,c1,c2,c3,c4,c5,c6,c7,c8⟩:=nine HB1;cases h1:PL
 case' false=>
  have HV:=Hq (show bb=true by rw [<-ah eT];simp[h1])
  clear eT h1
  go_wp2_with fail
  go_meet
  case rel=>exact⟨Aan,HB1,qU⟩
 go_wp2_with fail;refine(HPU _ qU).mono ?_;rintro e w2 ⟨rfl,hb1⟩;have HB2:=Hq (au HB1 hb1);have HL2:=Hq (qU.trans (hb1.mono qU.size));clear hb1 c0 c1 c2 c3 c4 c5 c6 c7 c8 HPU;obtain⟨c0,c1,c2,c3,c4,c5,c6,c7,c8⟩:=nine HB2;cases h2:PS
 case' false=>
  have HV:=Hq (show bb=true by rw [<-ah eT];simp[h2])
  clear eT h2
  go_wp2_with fail
  go_meet
  case rel=>exact⟨Aan,HB2,HL2⟩
 go_wp2_with fail;refine(Ni _ HL2).mono ?_;rintro e w3 ⟨rfl,hb1⟩;have HB3:=Hq (au HB2 hb1);have qz:=Hq (HL2.trans (hb1.mono HL2.size));clear hb1 c0 c1 c2 c3 c4 c5 c6 c7 c8 Ni;obtain⟨c0,c1,c2,c3,c4,c5,c6,c7,c8⟩:=nine HB3;cases h3:TD
 case' false=>
  have HV:=Hq (show bb=true by rw [<-ah eT];simp[h3])
  clear eT h3
  go_wp2_with fail
  go_meet
  case rel=>exact⟨Aan,HB3,qz⟩
 cases h4:fF next
 case' false=>
  have HV:=Hq (show bb=true by rw [<-ah eT];simp[h4])
  clear eT h1 h2 h3
  go_wp2_with (go_at_call 49;refine(eH _ _ _ h4).mono ?_;rintro e w9 ⟨rfl,rfl⟩)
  go_meet
  case rel=>exact⟨Aan,HB3,qz⟩
 by_cases h5:out.length<=40
 case' neg=>
  have hq:decide ((40:Int) < out.length)=true:=decide_eq_true Aaa
  have HV:=Hq (show bb=true by rw [<-ah eT];simp[h5])
  clear eT h1 h2 h3
  go_wp2_with (go_at_call 49;refine(eH _ _ _ h4).mono ?_;rintro e w9 ⟨rfl,rfl⟩)
  go_meet
  case rel=>exact⟨Aan,HB3,qz⟩
 have hq:decide ((40:Int) < out.length)=false:=decide_eq_false Aaa;cases h6:qw old
 case' false=>
  have Ga:=Hq (λw1=>ab0 old false w1 h6)
  have HV:=Hq (show bb=true by rw [<-ah eT];simp[h6])
  clear eT h1 h2 h3
  go_wp2_with (first|(go_at_call 49;refine(eH _ _ _ h4).mono ?_;rintro e w9 ⟨rfl,rfl⟩)|(go_at_call 50;refine(Ga _).mono ?_;rintro e w9 ⟨rfl,rfl⟩))
  go_meet
  case rel=>exact⟨Aan,HB3,qz⟩
 have Ga:=Hq (λw1=>ab0 old true w1 h6);by_cases h7:reqs.length<=30
 case' neg=>
  have hq2:decide ((30:Int) < reqs.length)=true:=decide_eq_true Aaa
  have HV:=Hq (show bb=true by rw [<-ah eT];simp[h7])
  clear eT h1 h2 h3
  go_wp2_with (first|(go_at_call 49;refine(eH _ _ _ h4).mono ?_;rintro e w9 ⟨rfl,rfl⟩)|(go_at_call 50;refine(Ga _).mono ?_;rintro e w9 ⟨rfl,rfl⟩))
  go_meet
  case rel=>exact⟨Aan,HB3,qz⟩
 have hq2:decide ((30:Int) < reqs.length)=false:=decide_eq_false Aaa;have HV:=Hq (show bb=false by rw [<-ah eT];simp[h1,h2,h3,h4,h5,h6,h7]);clear eT h1 h2 h3;go_wp2_with (first|(go_at_call 49;refine(eH _ _ _ h4).mono ?_;rintro e w9 ⟨rfl,rfl⟩)|(go_at_call 50;refine(Ga _).mono ?_;rintro e w9 ⟨rfl,rfl⟩))
 go_meet
 case rel=>exact⟨Aan,HB3,qz⟩):P:=h
theorem aun.Ad9(h:P:=by
 clear hb1 c0 c1 c2 c3 c4 c5 c6 c7 c8;obtain⟨c0,c1,c2,c3,c4,c5,c6,c7,c8⟩:=nine HB1;cases h1:PL
 case' false=>
  have HP:=Hq (show TT=false by rw [ah HD];simp[h1]);clear h1 HD;go_wp2_with fail;go_ret;exact⟨aF HP.symm,qU⟩
 go_wp2_with fail;refine(HPU _ qU).mono ?_;rintro e w2 ⟨rfl,hb1⟩;have HB2:=Hq (au HB1 hb1);have HL2:=Hq (qU.trans (hb1.mono qU.size));clear hb1 c0 c1 c2 c3 c4 c5 c6 c7 c8;obtain⟨c0,c1,c2,c3,c4,c5,c6,c7,c8⟩:=nine HB2;cases h2:PS
 case' false=>
  have HP:=Hq (show TT=false by rw [ah HD];simp[h2]);clear h2 HD;go_wp2_with fail;go_ret;exact⟨aF HP.symm,HL2⟩
 cases h3:fF next
 case' false=>
  have HP:=Hq (show TT=false by rw [ah HD];simp[h3]);have H3:=Hq (λw1=>aP next false w1 h3);clear h3 HD;go_wp2_with (go_at_call 169;refine(H3 _).mono ?_;rintro e w9 ⟨rfl,rfl⟩)
  go_ret;exact⟨aF HP.symm,HL2⟩
 have H3:=Hq (λw1=>aP next true w1 h3);go_wp2_with (go_at_call 169;refine(H3 _).mono ?_;rintro e w9 ⟨rfl,rfl⟩)
 refine(HOT _ HL2 h1).mono ?_;rintro e w3 ⟨rfl,hb1⟩;have HB3:=Hq (au HB2 hb1);have qz:=Hq (HL2.trans (hb1.mono HL2.size));clear hb1 c0 c1 c2 c3 c4 c5 c6 c7 c8;obtain⟨c0,c1,c2,c3,c4,c5,c6,c7,c8⟩:=nine HB3;cases h4:OT
 case' false=>
  have HP:=Hq (show TT=false by rw [ah HD];simp[h4]);clear h4 HD;go_wp2_with fail;go_ret;exact⟨aF HP.symm,qz⟩
 go_wp2_with fail;refine(HSE _ qz h1).mono ?_;rintro e w4 ⟨rfl,hb1⟩;have nR:=Hq (au HB3 hb1);have Gf:=Hq (qz.trans (hb1.mono qz.size));clear hb1 c0 c1 c2 c3 c4 c5 c6 c7 c8;obtain⟨c0,c1,c2,c3,c4,c5,c6,c7,c8⟩:=nine nR;cases h5:TD
 case' false=>
  have HP:=Hq (show TT=false by rw [ah HD];simp[h5]);clear h5 HD;go_wp2_with fail;go_ret;exact⟨aF HP.symm,Gf⟩
 go_wp2_with fail;refine(HRE _ Gf).mono ?_;rintro e w5 ⟨rfl,hb1⟩;have gY:=Hq (au nR hb1);have HL5:=Hq (Gf.trans (hb1.mono Gf.size));clear hb1 c0 c1 c2 c3 c4 c5 c6 c7 c8;obtain⟨c0,c1,c2,c3,c4,c5,c6,c7,c8⟩:=nine gY;have HP:=Hq (show TT=RQ by rw [ah HD];simp[h1,h2,h3,h4,h5]);clear h1 h2 h3 h4 h5 HD;go_wp2_with fail;go_ret;exact⟨aF HP.symm,HL5⟩):P:=h
theorem agx(h:P:=by
 have HID:Hid ((takeN n o.m).1.id=n.id):=by
  exact axa
 have HSY:=Hq (λW A G c n' (hW:WK w0 W wb n' A G c v L)=>VQ w0 W wb n' A G c v L ⟨2,n'.id,o.m.F,o.m.I,0,ByteArray.empty,0⟩ Aac Aaa hW);rw [ah HR];exact Ad4):P:=h
theorem auo.Ad4(h:P:=by
 unfold Wx;rw [<-ah HID];open anf in exact awh):P:=h
theorem aup.Ad4(h:P:=by
 open ang in exact awh):P:=h
theorem agy(h:P:=by
 have hlit:(w.alloc (.cells #[] e)).ownsRow w.heap.size e sz (.slice (some ⟨w.heap.size,0,none⟩) 0 0) 0 []:=World.ownsRow_lit (base:=w.heap.size) (e:=e) (size:=sz) w #[] 0 (Nat.le_refl _) Aai Aac;exact Ad8):P:=h
theorem auq.Ad8(h:P:=by
 exact⟨some ⟨w.heap.size,0,none⟩,0,w.alloc (.cells #[] e),λty=>nX (w.alloc (.cells #[] e)) w.heap.size t ty e i sz ht hi _ 0 [] hlit a c,hlit,ay w _,λ_=>rfl⟩):P:=h
theorem aur.Ad8(h:P:=by
 by_cases hl0:l.length=0
 .have hn:l=[]:=List.eq_nil_of_length_eq_zero hl0;subst hn;refine⟨some ⟨w.heap.size,0,none⟩,0,w.alloc (.cells #[] e),λty=>nX (w.alloc (.cells #[] e)) w.heap.size t ty e i sz ht hi _ 0 [] hlit a c,hlit,ay w _,⟨_,rfl⟩,Nat.le_refl _⟩
 .obtain⟨v',w',hr,ho,hg,_⟩:=fQ (P:=P) hs hz (w.alloc (.cells #[] e)) w.heap.size t 0 e i z bytes ht hi hz0 hsize hby hzs _ 0 [] hlit a l c (GR.At.below ha (ay w _)) h1 Aaa (by rw [Nat.zero_add];exact hbytes) Aac;rw [Nat.zero_add,List.nil_append] at ho;obtain⟨a',c',rfl,_⟩:=GR.own_at (enc:=enc) (sz:=sz) hs ho;refine⟨a',c',w',λty=>hr,ho,(ay w _).grown hg Aac (λk hk=>Acy),?_⟩;rcases ho.2 with⟨_,hn⟩|⟨g,cap,cur,hv,_,_,hnc,_⟩
  .omega
  .simp only[Value.slice.injEq] at hv;exact⟨⟨g,hv.1⟩,by rw [hv.2.2];exact hnc⟩):P:=h
theorem agz(h:P:=by
 have HAT:=Hq (λW'' (ho:Dp w W' W'')=>((AA.kc (k:=9) (KC.keeps fP (λx hx=>by have:x=w.heap.size+2:=Aaf;rw [this];exact Gj)) Aaa).kc (k:=9) (ho.kc (λx hx=>YZ x Aaa)) Aaa).rm);exact Aeq):P:=h
theorem aus.Aeq(h:P:=by
 have HMT:=Hq (λW'' (ho:Dp w W' W'')=>Sb (c:=c) (w:=w) HMZ (ho.out0 YZ) hmb);have oh:Hid (aI w W'):=jN.trans (fP.below (λx hx=>by have:x=w.heap.size+2:=Aaf;omega) jN.size);obtain⟨x0,x1,x2,x3,x4,x5,x6,x7,x8⟩:=nine Je;clear fP;exact AcX):P:=h
theorem aut.Aeq(h:P:=by
 have oh:Hid (aI w W'):=jN.trans (fP.below (λx hx=>by have:x=w.heap.size+2:=Aaf;omega) jN.size);obtain⟨x0,x1,x2,x3,x4,x5,x6,x7,x8⟩:=nine e4;clear hW' e4 fP;exact bodyPost_ret (v:= .tuple #[(gB n A1),.slice (some ⟨W0.heap.size,0,none⟩) 0 0,.int .i64 1]) Aay rfl ⟨A1,some ⟨W0.heap.size,0,none⟩,0,rfl,HAT,λW'' _ i hi=>Aas,oh⟩):P:=h
theorem agA(h:P:=by
 clear h1 HST AP YF;refine wp_region_quiet_below Aab Aab ?_;repeat (first|go_big_quiet_step ((first|(go_at_call 206;exact cS _ _)))|quiet_step ((first|(go_at_call 206;exact cS _ _))))
 exact Aeb):P:=h
theorem auu.Aeb(h:P:=by
 open avp in exact Va):P:=h
theorem auv.Aeb(h:P:=by
 exact ahk):P:=h
theorem agB(h:P:=by
 have hrl:=aA qA;go_wp2_with fail;refine aO (λW' hW'=>?_)
 have e4:W'.heap[w.heap.size+1]?=some (.cells (dG n A) 40 (0,0)):=by
  rw [hW'];exact GR.setW_blk (dG n A).toList (o:=0) (xs:=iF.toList) qA
 exact AdH):P:=h
theorem auw.AdH(h:P:=by
 have fP:aC [w.heap.size+1] W1 W':=by
  rw [hW'];exact aT (dG n A).toList W1 0
 open apm in exact awt):P:=h
theorem auy.AdH(h:P:=by
 have fP:aC [w.heap.size+1] W0 W':=by
  rw [hW'];exact aT (dG n A).toList W0 0
 have HAT:=Hq (λW'' (ho:Out c w W' W'')=>(M7.kc (k:=9) ((KC.keeps fP (λx hx=>by have:x=w.heap.size+1:=Aaf;rw [this];exact bJ Aaa)).trans (KC.out H9 ho)) Aaa).rm);have oh:Hid (Below B w W'):=(HB0.mono hB).trans (fP.below (λx hx=>by have:x=w.heap.size+1:=Aaf;omega) (Nat.le_trans hB (HB0.mono hB).size));have sZ:=Hq (Apart.keeps (c:=c) (Apart.of_below (HB0)) (HB0.mono hB).size fP (λx hx=>by have:x=w.heap.size+1:=Aaf;omega));obtain⟨x0,x1,x2,x3,x4,x5,x6,x7,x8⟩:=nine e4;clear hW' e4 fP;exact bodyPost_ret (v:= .tuple #[(gB n A),.int .i64 2]) Abp rfl ⟨A,rfl,HAT,oh,sZ⟩):P:=h
theorem agC(h:P:=by
 obtain⟨k,y,hk,rfl,rfl,hy,hall,hblk,hbel⟩:=hrel;have kS:=Hq hall;have HY:=Hq hy;have cK:=Hq hbel;have Gc:=Hq hblk;exact Aeg):P:=h
theorem auz.Aeg(h:P:=by
 have hy0:0<=y:=by rw [hy];exact HLB k hall
 clear hall hy hblk hbel;by_cases hlt:k < out.length
 case' neg=>
  open apV in exact aak
 obtain⟨g,off,e0,hgw,q0,q1,q2,q3⟩:=SentAt.four (HA.below cK).o k hlt;(try dsimp only at e0 q0 q1 q2 q3)
 subst e0;have HBAD:Hid (gU KB RR (out.take (k+1))=false->TT=false):=λh=>nS.trans (wT _ h)
 have iH:Hid (gU KB RR (out.take (k+1))=(KB out[k]&&decide (y < (out[k]).i))):=by
  exact aik
 have Dq:=Hq (yI k hlt);have CR:=Hq (UF out[k]);clear jy yI wT UF HLB;generalize out[k]=sk at *;generalize KB sk=OB at *;obtain⟨si,st,sx,sn⟩:=sk;dsimp only at q0 q1 q2 q3 iH Dq CR;obtain⟨bb,hbb⟩:∃bb,(!(decide (y < si)&&decide (si < next)&&NN st&&keyOk sx.data.toList&&fF sn))=bb:=⟨_,rfl⟩;have eT:=Hq hbb
 have Ap:Hid (gU KB RR (out.take (k+1))= !bb):=by
  rw [ah iH,<-ah eT,ah CR,Bool.not_not]
  have e1:(decide (1<=si/\si<=next - 1)&&decide (y < si))=(decide (y < si)&&decide (si < next)):=by
   rw [Bool.eq_iff_iff];exact aaz
  rw [<-e1];generalize decide (1<=si/\si<=next - 1)=z1;generalize decide (y < si)=z2;generalize NN st=z3;generalize keyOk sx.data.toList=z4;generalize fF sn=z5;cases z1<;>cases z2<;>cases z3<;>cases z4<;>cases z5<;>exact Hq rfl
 clear hbb iH CR;go_upto_region 7 with fail;refine wp_at (λW1 hW1=>?_);have HW1:Hid (W1.heap[wr.heap.size]?=some (.cells (gJ si st sx sn) 91 (0,0))):=Ace
 open ane in exact adO):P:=h
theorem auA.Aeg(h:P:=by
 have hy0:old<=y:=by rw [hy];exact HLB k hall
 clear hall hy hblk hbel;by_cases hlt:k < reqs.length
 case' neg=>
  have hke:k=reqs.length:=Aaa
  subst hke;have hnlt:decide ((reqs.length:Int) < (reqs.length:Int))=false:=Aac
  exact ajZ
 obtain⟨g,off,e0,hgw,q0,q1,q2,q3⟩:=fU.four (HA.below cK).r k hlt;(try dsimp only at e0 q0 q1 q2 q3)
 subst e0;have HBAD:Hid (gU KB RR (reqs.take (k+1))=false->TT=false):=λh=>nS.trans (wT _ h)
 have iH:Hid (gU KB RR (reqs.take (k+1))=(KB reqs[k]&&decide (y < (reqs[k]).no))):=by
  exact aik
 have Dq:=Hq (yI k hlt);have CR:=Hq (UF reqs[k]);clear jy yI wT UF HLB;generalize reqs[k]=sk at *;generalize KB sk=OB at *;obtain⟨si,sx,sn,st⟩:=sk;dsimp only at q0 q1 q2 q3 iH Dq CR;obtain⟨bb,hbb⟩:∃bb,(!(decide (y < si)&&qw si&&keyOk sx.data.toList&&fF sn&&decide (0<=st)&&decide (st<=2)))=bb:=⟨_,rfl⟩;have eT:=Hq hbb
 have Ap:Hid (gU KB RR (reqs.take (k+1))= !bb):=by
  rw [ah iH,<-ah eT,ah CR,Bool.not_not]
  have e1:(decide (old+1<=si/\si<=1000000000)&&decide (y < si))=(decide (y < si)&&qw si):=by
   rw [Bool.eq_iff_iff];unfold qw;exact aaz
  have e2:decide (0<=st/\st<=2)=(decide (0<=st)&&decide (st<=2)):=by
   rw [Bool.eq_iff_iff];simp only[Bool.and_eq_true,decide_eq_true_eq]
  rw [<-e1,e2];generalize decide (old+1<=si/\si<=1000000000)=z1;generalize decide (y < si)=z2;generalize decide (0<=st)=z3;generalize decide (st<=2)=z6;generalize keyOk sx.data.toList=z4;generalize fF sn=z5;cases z1<;>cases z2<;>cases z3<;>cases z4<;>cases z5<;>cases z6<;>exact Hq rfl
 clear hbb iH CR;go_upto_region 7 with fail;refine wp_at (λW1 hW1=>?_);have HW1:Hid (W1.heap[wr.heap.size]?=some (.cells (fA si sx sn st) 95 (0,0))):=Ace
 open anb in exact adO):P:=h
theorem Z0(h:P:=by
 clear hW;obtain⟨x0,x1,x2,x3,x4,x5,x6,x7,x8,x9,x10⟩:=Dv hX;obtain⟨y0,y1,y2,y3,y4,y5,y6,y7,y8,y9,y10⟩:=Dv hY;clear hX hY;exact AbO):P:=h
theorem auB.AbO(h:P:=by
 exact awX):P:=h
theorem auC.AbO(h:P:=by
 exact axc):P:=h
theorem auD.AbO(h:P:=by
 by_cases hno:no=0
 case' neg=>
  have hno':¬(0:Int)=no:=λe=>hno e.symm
  go_wp2_with fail;go_ret;exact⟨aF (by rw [ah HP];simp[lF,hno]),iR⟩
 subst hno;exact Adp):P:=h
theorem Z4(h:P:=by
 go_in
 go_wp2_with (go_at_call 102;refine(HS _).mono ?_;rintro e w1 ⟨rfl,hb1⟩;simp only[vB])
 go_ret2
 exact AbQ):P:=h
theorem auE.AbQ(h:P:=by
 exact⟨rfl,hb1⟩):P:=h
theorem auF.AbQ(h:P:=by
 exact⟨by rw [ah HR];simp[DC],hb1⟩):P:=h
theorem auG.AbQ(h:P:=by
 exact⟨by rw [ah HR];rfl,hb1⟩):P:=h
theorem agD(h:P:=by
 rw [hlt1] at abw;subst abw;clear Xf Xd Xa ayD;refine gF 7 rfl Aab Aad Aae (λx3 hx3=>?_);go_simp;have yK:=Hq (Ke.trans (hx3.mono Ke.size));exact AcN):P:=h
theorem auH.AcN(h:P:=by
 have Bg:wc.heap.size<=x3.heap.size:=yK.size;have AO:=Hq (GR.own_below Gt hx3);clear hx3;refine⟨(ay x3 _).mono Bg,?_⟩;have aes:=ay x3 (.cells (fA no k nn st) 95);have Rv:=Hq (heap_alloc_new x3 (.cells (fA no k nn st) 95));open atq in exact agj):P:=h
theorem auI.AcN(h:P:=by
 have Bg:uH.heap.size<=x3.heap.size:=yK.size;have AO:=Hq (GR.own_below Gt hx3);clear hx3;refine⟨(ay x3 _).mono Bg,?_⟩;have aes:=ay x3 (.cells #[.int .i64 mI] 3);have Rv:=Hq (heap_alloc_new x3 (.cells #[.int .i64 mI] 3));open atr in exact agj):P:=h
theorem agE(h:P:=by
 clear HR;clear hk hn;go_in
 go_wp2_with (first|(go_at_call_of 204 k;refine(HK _).mono ?_;rintro e w1 ⟨rfl,rfl⟩)|(go_at_call_of 169 n;refine(HN _).mono ?_;rintro e w1 ⟨rfl,rfl⟩))
 exact Aef):P:=h
theorem auJ.Aef(h:P:=by
 go_region
 go_upto_region 23 with fail;open aty in exact U9):P:=h
theorem auK.Aef(h:P:=by
 go_ret;exact⟨aF (by rw [ah HP];simp),by first|exact jv w _ _|exact Below.setNew (jv w _ _) Aaa⟩):P:=h
theorem agF(h:P:=by
 clear ha he hks hok hb0 hd1 hd2 hd3 hkk;go_in
 go_wp2_with fail;refine HOF.mono ?_;rintro e w1 ⟨mp,mb,v,rfl,Gi,hb1⟩;have HB1:=Hq (Fo.one_block hb1).2.2;exact Aeu):P:=h
theorem auL.Aeu(h:P:=by
 have ve:=(HE.below HB1).var 2 Aaa;clear hb1 Gi HOF;go_wp2_with (first|(go_at_call 204;refine(HK _).mono ?_;rintro e w2 ⟨rfl,rfl⟩)|(go_at_call 169;refine(Ga _).mono ?_;rintro e w2 ⟨rfl,rfl⟩))
 go_quiet (fail);go_wp2_with fail;go_ret2
 exact⟨HB1.trans ⟨rfl,rfl,rfl,Nat.le_refl _,λ_ _=>rfl⟩,.inl ⟨by rw [ah HAD],_,Aaa,rfl⟩⟩):P:=h
theorem auM.Aeu(h:P:=by
 have ve:=(HE.below HB1).var 1 Aaa;clear hb1 Gi HOF;go_wp2_with (go_at_call 204;refine(HK _).mono ?_;rintro e w2 ⟨rfl,rfl⟩)
 go_quiet (fail);go_wp2_with fail;go_ret2
 exact⟨HB1.trans ⟨rfl,rfl,rfl,Nat.le_refl _,λ_ _=>rfl⟩,.inl ⟨HAD,_,Aaa,rfl⟩⟩):P:=h
theorem agG(h:P:=by
 go_in
 go_wp2_with fail;refine HG.mono ?_;rintro e w1 ⟨rfl,hb1⟩;clear hr HG;go_upto_region 7 with fail;refine wp_at (λV hV=>?_);obtain rfl:=hV;have vU:=Hq hb1;clear hb1;exact Aez):P:=h
theorem auN.Aez(h:P:=by
 have hcc:=λd os=>HCC (Sort.grow (redrawn V d) os) (Ge.trans vU (below_regrown V d os))
 refine dx Aab ?_;show gL _ _ _ _ 10 (Array.replicate 10 false) _ _
 refine tk [0,1,2,3,6,7] ?_;iterate 6 (refine Ar (λK hK=>?_);go_simp;refine hK _ ?_;clear hK K)
 refine jJ ?_;refine fI 4 rfl Aab Aad (λx hx=>?_);go_simp;refine(HS _).mono ?_;rintro e y ⟨g2,rfl,hg2,hblk,hby⟩;refine⟨hby,?_⟩;have IU:=Hq (Ge.trans (Ge.trans vU hx) hby);have hgy:=dD hblk;obtain⟨c0,c1,c2,c3⟩:=Kw hblk;have hcv:=λd os=>HCV (Sort.grow (redrawn y d) os) g2 (cell_regrown c0 d os) (cell_regrown c1 d os) (cell_regrown c2 d os) (cell_regrown c3 d os)
 clear hx hby hblk c0 c1 c2 c3 HCV vU HS hcc HCC hg2;refine tk [5,8,9] ?_;iterate 3 (refine Ar (λK hK=>?_);go_simp;refine hK _ ?_;clear hK K)
 refine jJ ?_;refine eX Aab (λx2 hx=>?_);have sV:=Hq (Ge.trans IU hx);clear hx IU hcv;go_simp;go_wp2_with fail;exact AdD):P:=h
theorem auO.Aez(h:P:=by
 refine dx Aab ?_;show gL _ _ _ _ 10 (Array.replicate 10 false) _ _
 refine tk [0,1,2,3,4,5,6,7,8,9] ?_;iterate 10 (refine Ar (λK hK=>?_);go_simp;refine hK _ ?_;clear hK K)
 refine jJ ?_;refine eX Aab (λx hx=>?_);have sV:=Hq (Ge.trans vU hx);clear hx vU;go_simp;go_wp2_with fail;exact bodyPost_ret (v:= .tuple #[.string ⟨#[]⟩,.int .i64 (-1)]) Acl rfl ⟨rfl,sV⟩):P:=h
theorem Z5(h:P:=by
 iterate 2 (refine Ar (λK hK=>?_);go_simp;refine hK _ ?_;clear hK K)
 refine jJ ?_;refine eX Aab (λz hz=>?_);exact AbX):P:=h
theorem auP.AbX(h:P:=by
 have uV:=Hq (HS.below hz hg);clear hz x0 x1 y0 y1 y2 y3 y4 y5 y6 y7 y8 y9 y10 HS nS;go_simp;cases hbo:bo
 .have hno:OK=false:=by rw [Bool.eq_false_iff];intro hy;have:=(HG.1 hy).2.2;rw [hbo] at this;cases this
  subst hbo;go_wp2_with fail;refine(HF _ uV.rd).mono ?_;rintro e w9 ⟨rfl,rfl⟩;go_wp2_with fail;exact⟨rfl,.inr ⟨hno,_,rfl⟩,uV.keep⟩
 .have hyes:OK=true:=HG.2 ⟨HES,HYE.2,hbo⟩;subst hbo;have azS:=Hq hyes;clear hyes;have hzo:=dD uV.op;have hlo:=uV.lo;obtain⟨⟨c0,c1,c2,c3,c4,c5,c6,c7,c8,c9,c10⟩,_⟩:=aM uV.op;obtain⟨⟨d0,d1,d2,d3,d4,d5,d6,d7,d8,d9,YI⟩,f0,f1,f2,f3,f4,f5,f6,f7,f8,f9,f10⟩:=aM uV.res;go_wp2_with fail;refine iB (λW' hW'=>?_);obtain⟨⟨r0,r1,r2,r3,r4,r5,r6,r7,r8,r9,YQ⟩,_⟩:=aM (show W'.heap[w.heap.size]?=some (.cells (bZ (s[0].toNat:Int) N1 TX N2 mK mF mT mI mL mk mN) 100 (0,0)) by rw [hW'];exact kU uV.res)
  have Jt:dR g w W':=by
   rw [hW'];exact(((((((((((uV.keep.setNew (Nat.le_refl _)).setNew (Nat.le_refl _)).setNew (Nat.le_refl _)).setNew (Nat.le_refl _)).setNew (Nat.le_refl _)).setNew (Nat.le_refl _)).setNew (Nat.le_refl _)).setNew (Nat.le_refl _)).setNew (Nat.le_refl _)).setNew (Nat.le_refl _)).setNew (Nat.le_refl _))
  exact bodyPost_ret (v:= .agg (bZ (s[0].toNat:Int) N1 TX N2 mK mF mT mI mL mk mN)) (by simp[results,results200,go_sem,r0,r1,r2,r3,r4,r5,r6,r7,r8,r9,YQ]) rfl ⟨.inl ⟨azS,rfl⟩,Jt⟩):P:=h
theorem auQ.AbX(h:P:=by
 have sV:=Hq (iR.trans (hz.mono iR.size));exact AaD):P:=h
theorem auR.AbX(h:P:=by
 have HZ:=Hq ((ay w (.cells (bV mK mF mT mI mL mk mN) 98)).trans (hz.mono Aac));clear hz y0 y1 y2 y3 y4 y5 y6 y7 y8 z1 z2 Rz;go_simp;go_wp2_with fail;go_ret;exact⟨rfl,HZ⟩):P:=h
theorem agH(h:P:=by
 go_in
 go_wp2_with (first|(go_at_call 100;refine(mZ _ true _ h1).mono ?_;rintro e w1 ⟨rfl,rfl⟩)|(go_at_call 18;refine(xY _ _ _ true _ h2).mono ?_;rintro e w1 ⟨rfl,rfl⟩))
 exact Aeh):P:=h
theorem auS.Aeh(h:P:=by
 go_loopw [3] (λi wr=>∃k:Nat,k<=kids.length/\i= .int .i64 k/\gU (jX id par) iM (kids.take k)=true/\wr.heap[w.heap.size]?=some (.cells (dG ⟨id,par,kids,next,pu,out,seen,old,reqs⟩ ⟨ak,ap,ao,as',ar,ck,cp,co,cs,cr⟩) 40 (0,0))/\aI w wr) (λi _=>kids.length - (intOf i).toNat)
 case atStart=>exact⟨0,Nat.zero_le _,rfl,rfl,heap_alloc_new w _,ay w _⟩
 case round=>
  open aqE in exact adP):P:=h
theorem auT.Aeh(h:P:=by
 exact wM):P:=h
theorem agI(h:P:=by
 obtain⟨rl,rb⟩:=r;dsimp only at HZ ⊢;refine aH 21 rfl Aab Aad ?_;go_simp;refine aH 22 rfl Aab Aad ?_;go_simp;refine wpAny_done Aab ?_;go_simp;exact Aex):P:=h
theorem auU.Aex(h:P:=by
 cases rb
 .go_wp2_with fail;go_ret;exact⟨rfl,⟨A',G',c',HZ.wk,HZ.bk,HZ.si.mono (Nat.le_succ k),HZ.cs,HZ.cm⟩,λj o h1 _ h3=>HKO j o h1 h3⟩
 .obtain⟨⟨p0,p1,p2,p3,p4,p5,p6⟩,_⟩:=eF qW;obtain⟨⟨d0,d1⟩,_⟩:=lW HZ.bk;have hsl2:=aA HZ.bk;have aky:=aA qW;have hI1:fC z2.drew mb k l:=HZ.si.kept rfl;obtain⟨z3,hrun,hI3,hK3⟩:=hI1.store mI hi0 hi1 Aai;have HR:=Hq (HZ.put hI3 (Keeps.trans (b:=z2.drew) (Keeps.of_below (Below.refl _ _).drew) hK3))
  have HK4:Hid (∀j o,j≠wb->j≠mb->w.heap[j]?=some o->z3.heap[j]?=some o):=λj o h1 h2 h3=>by
   have h4:=ah HKO j o h1 h3
   rw [hK3.block j (aA h4) h2]
   exact h4
  clear hI1 hI3 hK3 qW;go_wp2_with fail;go_region
  all_goals
   go_wp2_with fail
   go_ret
   exact⟨rfl,⟨A',G',c',HR⟩,HK4⟩):P:=h
theorem auV.Aex(h:P:=by
 cases rb
 all_goals
  go_wp2_with fail
  go_ret
  exact⟨rfl,A',G',c',HZ⟩):P:=h
theorem agJ(h:P:=by
 have cO:∀d os,Calls prog 202 #[wS ⟨pk,pm,pf,ps⟩] (Sort.grow (redrawn V d) os) λe w''=>e= .returned (.bool false)/\∃p:Regrown,w''=Sort.grow (redrawn V p.d) p.os:=λd os=>Calls.regrown_of (HO _)
 exact AdE):P:=h
theorem auW.AdE(h:P:=by
 open aua in exact NY):P:=h
theorem auX.AdE(h:P:=by
 exact axl):P:=h
theorem agK(h:P:=by
 have cO:∀d os,Calls prog 202 #[wS ⟨pk,pm,pf,ps⟩] (Sort.grow (redrawn V d) os) λe w''=>e= .returned (.bool true)/\∃p:Regrown,w''=Sort.grow (redrawn V p.d) p.os:=λd os=>Calls.regrown_of (HO _)
 exact AdQ):P:=h
theorem auY.AdQ(h:P:=by
 exact Ac2):P:=h
theorem auZ.AdQ(h:P:=by
 open aub in exact NY):P:=h
theorem agL(h:P:=by
 have hlit:(w.alloc (.cells #[] 108)).ownsRow w.heap.size 108 4 (.slice (some ⟨w.heap.size,0,none⟩) 0 0) 0 []:=World.ownsRow_lit (base:=w.heap.size) (e:=108) (size:=4) w #[] 0 (Nat.le_refl _) Aae rfl;exact Ado):P:=h
theorem au0.Ado(h:P:=by
 cases a with
 |none=>
  have hl0:l=[]:=GR.none_nil ha;subst hl0;clear ha hlit;go_in
  exact R8
 |some x=>
  have HN:=Hq (aG.news (GR.At.below ha (dS w (.cells #[] 108))));clear ha;go_in
  open aqz in exact awM):P:=h
theorem au1.Ado(h:P:=by
 cases a with
 |none=>
  obtain⟨h1,h2⟩:=hn rfl;have hl0:l=[]:=List.eq_nil_of_length_eq_zero h1;subst hl0 h2;go_in
  go_wp2_with (at_builtin;refine wpList_append_own_none rfl _ _ 35 rfl w.heap.size 108 i0 4 underlying35 hi _ 0 [] rfl hlit rfl ?_)
  go_ret;exact⟨_,rfl,(by intro h;cases h),hlit,dS w _⟩
 |some x=>
  have HN:=Hq (aG.news (GR.At.below ha (dS w (.cells #[] 108))));clear ha;go_in
  open aqA in exact awM):P:=h
theorem agM(h:P:=by
 clear h1 h2;go_in
 go_wp2_with (first|(go_at_call_of 201 F;refine(H1 _).mono ?_;rintro e w1 ⟨rfl,rfl⟩)|(go_at_call_of 201 T;refine(H2 _).mono ?_;rintro e w1 ⟨rfl,rfl⟩))
 exact AcI):P:=h
theorem au2.AcI(h:P:=by
 go_ret;exact⟨aF (by first|exact HP.symm|exact he.trans HP.symm),ay w _⟩):P:=h
theorem au3.AcI(h:P:=by
 exact wM):P:=h
theorem agN(h:P:=by
 refine wp_at (λW1 hW1=>?_);have HW1:Hid (W1.heap[wr.heap.size]?=some (.cells #[.int .i64 fr,.int .i64 lo,.slice b ids.length c] 110 (0,0))):=Ace
 exact AcM):P:=h
theorem au4.AcM(h:P:=by
 open am9 in exact adO):P:=h
theorem au5.AcM(h:P:=by
 have hbw:aI wr W1:=by rw [hW1];exact ay wr _
 have alx:=Hq (jN.trans (hbw.mono jN.size));have HI1:=Hq (GR.At.below HI hbw);have p1:=(hbw.cell (p:=⟨g2,off2+k,none⟩) akq).trans p0;have wJ:=Hq (cK.trans (hbw.mono cK.size));clear hW1 hbw q0 q1 q2 p0 HI;obtain⟨d0,d1,d2⟩:=three HW1;have m0:=cell_grown' d0;have m1:=cell_grown' d1;have m2:=cell_grown' d2;have m3:=cell_grown' p1;by_cases h1:fr=y
 case' neg=>
  have hb1:(fr != y)=true:=Abb
  have HP:=Hq (show TT=false by rw [ah HD,decide_eq_false (ah AP h1)];rfl);clear h1 HST AP YF;refine wp_region_quiet_below Aab Aab ?_;repeat (first|go_big_quiet_step (fail)|quiet_step (fail))
  exact ahk
 have hb1:(fr != y)=false:=Abb
 cases h2:uU ⟨fr,lo,ids⟩
 case' false=>
  have HP:=Hq (show TT=false by rw [ah HD,ah YF h2];simp)
  have cS:=aiY ⟨fr,lo,ids⟩ b c false W1 GK HI1 h2
  open auv in exact agA
 have HG:=Hq (HST h1 h2);have cS:=aiY ⟨fr,lo,ids⟩ b c true W1 GK HI1 h2;open auu in exact agA):P:=h
theorem aac(h:P:=by
 refine λx hx=>⟨λh=>Aby,λj hj=>⟨λe=>absurd (e▸hj) (hno listed hcl hr),λhjE=>?_⟩⟩
 exact Ab6):P:=h
theorem au6.Ab6(h:P:=by
 by_cases hji:j=i
 .exact aii
 .have h1:=((H x hx).2 j (ready_mono hj hji)).2 hjE;open aBh in exact adL):P:=h
theorem au7.Ab6(h:P:=by
 by_cases hji:j=i
 .exact ah2
 .have h1:=((H x hx).2 j (ready_mono hj hji)).2 hjE;open aBg in exact adL):P:=h
theorem au8.Ab6(h:P:=by
 by_cases hji:j=i
 .exact aiD
 .have h1:=((H x hx).2 j (ready_mono hj hji)).2 hjE;exact axg):P:=h
theorem agO(h:P:=by
 rw [e1] at e2;injection e2 with e2
 injection e2 with e2 e3
 subst e2 e3 e1;have hgt:decide ((0:Int) < ((j+1:Nat):Int))=true:=decide_eq_true Aaa;exact AcK):P:=h
theorem au9.AcK(h:P:=by
 have iH:Hid (gU (Bh lo) iM (ids.take (j+1+1))=(Bh lo ids[j+1]&&iM ids[j] ids[j+1])):=by
  have h:=uX (Bh lo) iM ids j hlm;rw [ah alo] at h;exact h
 clear hI3;generalize ids[j]=y at *;generalize ids[j+1]=x at *;cases h1:decide (lo<=x/\x<=1000000000)
 case' false=>
  exact aiJ
 by_cases h2:y < x
 case' neg=>
  have hy:decide (x<=y)=true:=decide_eq_true Aaa;have HV:=Hq (HBM (by rw [ah iH];simp[iM,h2]));exact axh
 have hy:decide (x<=y)=false:=decide_eq_false Aaa;have HV:=Hq (show gU (Bh lo) iM (ids.take (j+1+1))=true by rw [ah iH];simp[Bh,h1,iM,h2]);open aoH in exact ajz):P:=h
theorem ava.AcK(h:P:=by
 have iH:Hid (gU (jX id par) iM (kids.take (j+1+1))=(jX id par kids[j+1]&&iM kids[j] kids[j+1])):=by
  have h:=ah DW j hlt;rw [ah kS] at h;exact h
 clear Nn DW wT;generalize kids[j]=y at *;generalize kids[j+1]=x at *;open atI in exact agn):P:=h
theorem agP(h:P:=by
 rw [Mth.take_all s k hlt] at HA;have HF:Hid (Mth.keyOk s.data.toList=decide (1<=s.data.toList.length/\s.data.toList.length<=10)):=Mth.keyOk_all _ HA;rw [bq s] at HF;exact AeN):P:=h
theorem avb.AeN(h:P:=by
 by_cases hin:(1:Int)<=(s.size:Int)/\(s.size:Int)<=10
 .obtain⟨hi1,hi2⟩:=hin;exact ag9
 .exact ag9):P:=h
theorem avc.AeN(h:P:=by
 go_wp2
 go_ret;exact⟨aF (by rw [ah HF];simp;omega),rfl⟩):P:=h
theorem agQ(h:P:=by
 generalize l[k]=pu at *;have nS:=Hq (λw1=>EH pu w1 hkk);clear hkk;obtain⟨pk,pm,pf,ps⟩:=pu;exact AeZ):P:=h
theorem avd.AeZ(h:P:=by
 dsimp only at c0 c1 c2 c3 hf;go_wp2_with fail;refine(nS _).mono ?_;rintro e w1 ⟨rfl,hb1⟩;have hb2:=cK.trans ((Below.mono (Fo.one_block hb1).2.2 cK.size));have hB:w1.heap[w.heap.size]?=some (.cells (iW ⟨#[]⟩ 0 0 0) 108 (0,0)):=by rw [(Fo.one_block hb1).2.2.block _ aev];exact Gc
 have HB:=Hq hB;have HB2:=Hq hb2;obtain⟨⟨r0,r1,r2,r3⟩,s0,s1,s2,s3⟩:=fT hB;clear hB hb1 hb2;go_wp2_with fail;clear r0 r1 r2 r3;refine Fo.bodyPost_at (λW' hW'=>?_);obtain⟨⟨r0,r1,r2,r3⟩,_⟩:=fT (show W'.heap[w.heap.size]?=some (.cells (iW pk pm pf ps) 108 (0,0)) by rw [hW'];exact Fo.four_set HB);have hbb:aI w W':=by rw [hW'];exact Fo.four_below HB2 (Nat.le_refl _)
 refine bodyPost_ret (v:= .agg (iW pk pm pf ps)) (by simp[results,results240,go_sem,r0,r1,r2,r3]) rfl ⟨by rw [ah HX],hbb⟩):P:=h
theorem ave.AeZ(h:P:=by
 dsimp only at q0 q1 q2 q3;go_wp2_with fail;refine(nS _).mono ?_;rintro e w5 ⟨rfl,hb5⟩;obtain⟨_,_,hb6⟩:=Fo.one_block hb5;have gY:=Hq (wK.below HB hb6);have fG:=Hq (cK.trans (hb6.mono cK.size));clear hb5 hb6 q0 q1 q2 q3;obtain⟨_,aDl,⟨s0,s1,s2,s3⟩,f0,f1,f2,f3⟩:=wK.four gY k hlt;go_wp2_with fail;go_roundw
 case rel=>
  have h:=wK.set gY k ⟨pk,pm,pf,ps⟩ hlt;rw [ah HSE] at h;exact⟨k+1,Aaa,Aah,h,GR.setW_below (o:=k*4) hg (gu ⟨pk,pm,pf,ps⟩) fG⟩
 case measure=>simp[intOf];omega):P:=h
theorem agR(h:P:=by
 have HK:=Hq ((dR.of_below (ay w _)).trans hk1);have HR1:=Hq hr1;have HH1:=Hq (OV HH HK hg hge);clear hr1 hk1;go_wp2_with fail;refine(HGM _ HH1).mono ?_;rintro e w2 ⟨rfl,hb2⟩;exact Ac8):P:=h
theorem avf.Ac8(h:P:=by
 have HR2:=Hq (aK HR hb2);have HA2:=Hq (aK HR1 hb2);have sU:=Hq (HK.trans (dR.of_below hb2));have hz2:=dD HR2;have hz3:=dD HA2;clear hb2 HR HK HR1 HH1;go_upto_region 7 with fail;refine wp_at (λV hV=>?_);have YC:Hid (V.heap[w2.heap.size]?=some (.cells (bV mK mF mT mI mL mk mN) 98 (0,0))):=by rw [hV];exact heap_alloc_new w2 _
 have HRV:Hid (V.heap[w.heap.size]?=some (.cells (bV 0 0 0 0 0 ⟨#[]⟩ 0) 98 (0,0))):=by rw [hV];exact aK HR2 (ay w2 _)
 have HAV:Hid (jB V g s E):=by rw [hV];exact aK HA2 (ay w2 _)
 have HKV:Hid (dR g w V):=by rw [hV];exact sU.trans (dR.of_below (ay w2 _))
 clear hV HR2 HA2 sU;have xU:=dD YC;obtain⟨q0,q1,q2,q3,q4,q5,q6⟩:=tC YC;obtain⟨⟨d0,d1,d2,d3,d4,d5,d6⟩,f0,f1,f2,f3,f4,f5,f6⟩:=eF HRV;go_wp2_with fail;refine iB (λW' hW'=>?_);obtain⟨⟨r0,r1,r2,r3,r4,r5,r6⟩,_⟩:=eF (show W'.heap[w.heap.size]?=some (.cells (bV mK mF mT mI mL mk mN) 98 (0,0)) by rw [hW'];exact sG HRV);have Jt:dR g w W':=by rw [hW'];exact Cn HKV
 have hRR:jB W' g s E:=by rw [hW'];exact zY (Ne.symm hg2) HAV
 exact bodyPost_ret (v:= .agg (bV mK mF mT mI mL mk mN)) Adj rfl ⟨rfl,hRR,Jt⟩):P:=h
theorem avg.Ac8(h:P:=by
 have HR2:=Hq (aK (aK HR1 hb2) (ay w2 (.cells (bV 0 0 0 0 0 ⟨#[]⟩ 0) 98)));have sU:=Hq (HK.trans (dR.of_below ((hb2.trans ((ay w2 (.cells (bV 0 0 0 0 0 ⟨#[]⟩ 0) 98)).mono hb2.size)))));clear hb2;go_wp2_with fail;refine(HF _ HR2).mono ?_;rintro e w3 ⟨rfl,rfl⟩;go_wp2_with fail;exact⟨rfl,⟨_,rfl⟩,sU⟩):P:=h
theorem agS(h:P:=by
 have e2:b=g1:=by injection e1 with e1;injection e1 with e1 e2
 have e3:off=o1:=by injection e1 with e1;injection e1 with e1 e2
 subst e2 e3;exact Ad1):P:=h
theorem avh.Ad1(h:P:=by
 have HT:=Hq (List.take_succ_eq_append_getElem hlt);have Nw:=Hq (λh2=>(place_at l pk k Aaa kS h2).1);clear s1 s2 s3 e1;cases hbl:Op.bytesLess l[k].k.toList pk.toList with
 |true=>
  clear Nw;generalize l[k]=pu at *;obtain⟨qk,qm,qf,qs⟩:=pu;dsimp only at s0 hbl;go_wp2_with fail;go_quiet (fail);go_wp2
  go_roundw
  case rel=>
   refine⟨k+1,_,Aaa,Aah,?_,rfl⟩;intro x hx;rw [ah HT] at hx;rcases List.mem_append.1 hx with hx|hx
   .exact kS x hx
   .rw [List.mem_singleton] at hx;subst hx;exact hbl
  case measure=>simp[intOf];omega
 |false=>
  have Rc:=Hq (Nw (λ_=>hbl));clear Nw HT;generalize l[k]=pu at *;obtain⟨qk,qm,qf,qs⟩:=pu;dsimp only at s0 hbl;exact ahP):P:=h
theorem avi.Ad1(h:P:=by
 have hae:=hAe hlt;subst hae;have HF:=Hq hf;have hpos:decide (0 < l.length - place l pk)=true:=decide_eq_true Aaa;have aCg:0 < l.length - place l pk:=Aaa
 clear s1 s2 s3 e1 hf hAe hAd;generalize l[place l pk]=pu at *;obtain⟨qk,qm,qf,qs⟩:=pu;dsimp only at s0 HF;cases heq:qk.toList == pk.toList
 all_goals
  go_quiet (fail)
  go_wp2_with fail
  go_meet
  case rel=>exact⟨by rw [ah HF,heq],_,AV w1 _ _⟩):P:=h
theorem aad(h:P:=by
 refine λx hx=>⟨λh=>Aby,λj hj=>⟨λe=>absurd (e▸hj) (hno listed hcl hr),λ_=>?_⟩⟩
 exact Ab9):P:=h
theorem avj.Ab9(h:P:=by
 by_cases hji:j=i
 .exact aii
 .exact Ob):P:=h
theorem avk.Ab9(h:P:=by
 by_cases hji:j=i
 .exact ah2
 .exact Ob):P:=h
theorem avl.Ab9(h:P:=by
 by_cases hji:j=i
 .exact aiD
 .exact Ob):P:=h
theorem agT(h:P:=by
 rintro e W1 ⟨rfl,hb1⟩;have kD:=Hq (au HN hb1);have qA:=Hq (au HR hb1);have HB1:=Hq (HB0.trans (hb1.mono HB0.size));have yM:=Hq (M7.kc (k:=9) (KC.of_below hb1) Aaa);exact AcU):P:=h
theorem avm.AcU(h:P:=by
 clear hb1 c0 c1 c2 c3 c4 c5 c6 c7 c8 hnl Nz HN HR M7 HB0;exact AbP):P:=h
theorem avn.AcU(h:P:=by
 clear hb1 c0 c1 c2 c3 c4 c5 c6 c7 c8 hnl Jd HN HR M7 HB0;exact AdJ):P:=h
theorem Va(h:P:=by
 refine wpQuiet_nil ?_;intro _ hw';obtain⟨⟨dq,osq⟩,hw''⟩:=hw';subst hw'';go_wp2_with fail;exact AbC):P:=h
theorem avo.AbC(h:P:=by
 go_roundw
 case rel=>exact⟨k+1,Aaa,Aah,cK.trans ((below_regrown _ dq osq).mono cK.size)⟩
 case measure=>simp[intOf];omega):P:=h
theorem avp.AbC(h:P:=by
 go_roundw
 case rel=>exact⟨k+1,Aaa,Aah,HG.1,HG.2,alx.trans ((below_regrown _ dq osq).mono alx.size)⟩
 case measure=>simp[intOf];omega):P:=h
theorem avq.AbC(h:P:=by
 go_ret;exact⟨aF HP.symm,wJ.trans ((below_regrown _ dq osq).mono wJ.size)⟩):P:=h
theorem avr.AbC(h:P:=by
 go_meet
 case rel=>exact xM):P:=h
theorem agU(h:P:=by
 have HO:=Hq (show w1.ownsRow w.heap.size 108 4 v' l.length (GR.flat gu l) by simpa using hown');have hb:aI w w1:=(dS w _).grown hgrow Aac (λk hk=>Acy);exact AeM):P:=h
theorem avs.AeM(h:P:=by
 clear hown' hgrow hlit hnil;go_wp2
 go_ret;exact⟨_,rfl,HNN,HO,hb⟩):P:=h
theorem avt.AeM(h:P:=by
 clear hown' hgrow hlit;go_wp2
 go_ret;exact⟨_,rfl,HO,hb⟩):P:=h
theorem agV(h:P:=by
 have g3:decide (xJ ps 0 1000000000)=true:=decide_eq_true h3;have hA3:qw ps=true:=decide_eq_true h3;have e4:IntKind.i64.wrap (pf+ps)=pf+ps:=IntWalk.i64_in _ ⟨Aaa,Aaa⟩;exact Adu):P:=h
theorem avu.Adu(h:P:=by
 by_cases h4:0<=(pf+ps)/\(pf+ps)<=1000000000
 case' neg=>
  have hA:qw (pf+ps)=false:=decide_eq_false h4;have g4:decide (xJ (pf+ps) 0 1000000000)=false:=decide_eq_false h4;have g5:=g4;rw [<-e4] at g4;exact adW
 have g4:decide (xJ (pf+ps) 0 1000000000)=true:=decide_eq_true h4;have hA4:qw (pf+ps)=true:=decide_eq_true h4;have g5:=g4;rw [<-e4] at g4;have DZ:=Hq (show nL l 0=true by rw [ah nG];simp[iy,hkb,hA1,hA2,hA3,hA4]);clear nG hA1 hA2 hA3 hA4;open aBa in exact ajt):P:=h
theorem avv.Adu(h:P:=by
 by_cases h4:0<=(pf+ps)/\(pf+ps)<=1000000000
 case' neg=>
  have hA:qw (pf+ps)=false:=decide_eq_false h4;have g4:decide (xJ (pf+ps) 0 1000000000)=false:=decide_eq_false h4;have g5:=g4;rw [<-e4] at g4;exact adV
 have g4:decide (xJ (pf+ps) 0 1000000000)=true:=decide_eq_true h4;have hA4:qw (pf+ps)=true:=decide_eq_true h4;have g5:=g4;rw [<-e4] at g4;have DZ:=Hq (show nL l (j+1)=true by rw [ah nG];simp[iy,hkb,hA1,hA2,hA3,hA4,ah hsl]);clear nG hA1 hA2 hA3 hA4;open aA9 in exact ajt):P:=h
theorem agW(h:P:=by
 go_wp2_with fail;refine(Ni _).mono ?_;rintro e w5 ⟨rfl,hb5⟩;have gY:=Hq (GR.Blk.stepW HB hb5);have fG:=Hq (cK.trans (hb5.mono cK.size));exact AdM):P:=h
theorem avw.AdM(h:P:=by
 clear hb5 q0 q1 q2 q3 q4 q5 q6;obtain⟨s0,s1,s2,s3,s4,s5,s6⟩:=Kn gY k Aaa;have f0:=GR.Blk.free gY (k*7);have f1:=GR.Blk.free gY (k*7+1);have f2:=GR.Blk.free gY (k*7+2);have f3:=GR.Blk.free gY (k*7+3);have f4:=GR.Blk.free gY (k*7+4);have f5:=GR.Blk.free gY (k*7+5);have f6:=GR.Blk.free gY (k*7+6);go_wp2_with fail;go_roundw
 case rel=>
  have h:=GR.Blk.set gY dV k Aaa ⟨mK,mF,mT,mI,mL,mk,mN⟩;rw [ah TS] at h;exact⟨k+1,Aaa,Aah,h,GR.setW_below (o:=k*7) (Nat.le_refl w.heap.size) (iT ⟨mK,mF,mT,mI,mL,mk,mN⟩) fG⟩
 case measure=>simp[intOf];omega):P:=h
theorem avx.AdM(h:P:=by
 clear hb5 q0 q1 q2 q3 q4 q5 q6 q7 q8 q9 q10 q11;obtain⟨s0,s1,s2,s3,s4,s5,s6,s7,s8,s9,s10,s11⟩:=CK gY k Aaa;have f0:=GR.Blk.free gY (k*12);have f1:=GR.Blk.free gY (k*12+1);have f2:=GR.Blk.free gY (k*12+2);have f3:=GR.Blk.free gY (k*12+3);have f4:=GR.Blk.free gY (k*12+4);have f5:=GR.Blk.free gY (k*12+5);have f6:=GR.Blk.free gY (k*12+6);have f7:=GR.Blk.free gY (k*12+7);have f8:=GR.Blk.free gY (k*12+8);have f9:=GR.Blk.free gY (k*12+9);have f10:=GR.Blk.free gY (k*12+10);have f11:=GR.Blk.free gY (k*12+11);go_wp2_with fail;go_roundw
 case rel=>
  have h:=GR.Blk.set gY dz k Aaa ⟨⟨oK,PW,ok,on,⟨mK,mF,mT,mI,mL,mk,mN⟩⟩,ac⟩;rw [ah TS] at h;exact⟨k+1,Aaa,Aah,h,GR.setW_below (o:=k*12) (Nat.le_refl w.heap.size) (gV ⟨⟨oK,PW,ok,on,⟨mK,mF,mT,mI,mL,mk,mN⟩⟩,ac⟩) fG⟩
 case measure=>simp[intOf];omega):P:=h
theorem agX(h:P:=by
 have hl:=World.lt_of_cell h;have HG:=Hq (show Handle (w.alloc (.cells #[.int .i64 0] 274)) from h.below ((Below.refl _ _).alloc (Nat.le_refl _) _));clear h;go_in
 exact AeG):P:=h
end Go.Proofs.YtohmklmkjmlpjaaGreatDoor
