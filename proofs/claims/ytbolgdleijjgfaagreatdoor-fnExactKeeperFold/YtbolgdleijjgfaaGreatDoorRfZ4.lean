/-
  Parts of proofs that stand more than once, each said once.
-/
import Derived.Test.YtbolgdleijjgfaaGreatDoorRfZ3
namespace Go.Proofs.YtbolgdleijjgfaaGreatDoor
open Go.Proofs.Tryz
set_option maxRecDepth 100000
variable{P:Prop}
theorem asy.Aek(h:P:=by
 go_upto_region 7 with fail;go_cut [51] (λr wx=>r= .bool (found l pk)/\∃q,wx=w1.drewN q)
 case first=>
  by_cases hlt:place l pk < l.length
  .have hf:found l pk=(l[place l pk].k.toList == pk.toList):=by
    unfold found;rw [jM,aFD hlt]
   obtain⟨g1,o1,e1,hg1,s0,s1,s2,s3⟩:=aG.four (GR.At.below HA HB1) (place l pk) hlt;open avS in exact ahj
  .have hf:found l pk=false:=by
    unfold found;rw [jM,aGc Aaa]
   have HF:=Hq hf;have hpos:decide (0 < l.length - place l pk)=false:=aES Aaa;have aCP:l.length - place l pk=0:=Aaa
   clear hf;go_quiet (fail);go_wp2_with fail;go_meet
   case rel=>exact⟨by rw [ah HF],_,Ce w1 _ _⟩
 case rest=>
  obtain⟨rfl,q2,rfl⟩:=hcut;go_upto_if 51 with fail;go_cut [9] (λr wx=>∃(ad':Addr) (cc:Nat),r= .slice (some ad') (lG l pk).length cc/\aG w1 (some ad') (lG l pk)/\∃q,wx=w1.drewN q)
  case first=>
   have HA1:=Hq (GR.At.below HA HB1);cases hf:found l pk
   .have Lu:=Hq (tail_not hf);have HAE:=Hq hAe;clear hAe hAd;go_wp2_with fail;go_meet
    case rel=>
     refine⟨ad,cap - place l pk,by rw [ah Lu,aFA],?_,_,rfl⟩;rw [ah Lu];by_cases hlt:place l pk < l.length
     .rw [ah HAE hlt];exact Vr HA1 (place l pk)
     .exact Vs (aGc Aaa)
   .obtain⟨hlt,htl⟩:=tail_found hf;have Lu:=Hq htl;have hae:=hAe hlt;subst hae;clear htl hAe hAd
    obtain⟨ad2,aDF,aB8⟩:∃ad2:Addr,(if cap - place l pk=1 then some (⟨b,off+place l pk*4,none⟩:Addr) else some ⟨b,off+place l pk*4+4,none⟩)=some ad2/\(place l pk+1 < l.length->ad2=⟨b,off+place l pk*4+4,none⟩):=by
     by_cases h:cap - place l pk=1
     .rw [aFc h];exact⟨_,rfl,λh2=>Aaa⟩
     .rw [aE2 h];exact⟨_,rfl,λ_=>rfl⟩
    have hone:1<=l.length - place l pk:=Aaa
    go_wp2_with fail;go_meet
    case rel=>
     refine⟨ad2,cap - place l pk - 1,by rw [ah Lu,aFA,Nat.sub_sub],?_,_,rfl⟩;rw [ah Lu];by_cases hlt2:place l pk+1 < l.length
     .rw [aB8 hlt2];have:=Vr HA1 (place l pk+1);rwa [show off+(place l pk+1)*4=off+place l pk*4+4 by omega] at this
     .exact Vs (aGc Aaa)
  case rest=>
   obtain⟨ad',cc,rfl,hta,q3,rfl⟩:=hcut;obtain⟨i0,hi,hz0,hz1,hz2⟩:=aFt FY;obtain⟨hpf,hpn⟩:=put_flat l ⟨pk,pm,pf,ps⟩;have htl:(l.take (place l pk)).length=place l pk:=Aah
   have hkt:∀q∈jf l ⟨pk,pm,pf,ps⟩,q.k.size<=maxLen:=λq hq=>by
    rcases put_mem' hq with rfl|hq
    .exact hpk
    .exact hk q hq
   go_upto_region 9 with fail;refine Fo.wp_at (λV hV=>?_);have Sj:w.heap.size < V.heap.size:=by rw [hV];exact Fo.lt_of_blk wH
   have xD:=Hq (show aH w V by rw [hV];exact HB1.trans ⟨rfl,rfl,rfl,aER _,λ_ _=>rfl⟩);have hblk:V.heap[w.heap.size]?=some (.cells (iX pk pm pf ps) 155 (0,0)):=by rw [hV];exact wH
   have HTA:=Hq (show aG V (some ad') (lG l pk) by rw [hV];exact hta);obtain⟨⟨c0,c1,c2,c3⟩,_⟩:=fZ hblk;have HNW:=Hq (λX (hb:aH V X)=>aG.news (GR.At.below HTA hb));have N8:=Hq (λX (hb:aH V X)=>MQ (some ⟨b,off,none⟩) cap (l.take (place l pk)) X Aaa (λh=>Aba) (GR.At.below (adW (GR.At.below HA xD) _) hb));have HCA:=Hq (λX (hb:aH w X)=>MQ (some ⟨b,off,none⟩) cap l X Aaa (λh=>Aba) (GR.At.below HA hb));have HPF:=Hq hpf;have HPN:=Hq hpn;rw [htl] at N8;have hnw:w.heap.size≠V.heap.size:=Aaa
   have hmw:V.heap.size≠w.heap.size:=Aaa
   have aDB:(lG l pk).length<=20:=by
    have h3:=tail_len l pk;omega
   clear hV hblk hta hp0 nH wH htl hAd hAe hpf hpn
   go_region_held_law (λw'=>w'.cell? ⟨w.heap.size,0,none⟩=some (.string pk)/\w'.cell? ⟨w.heap.size,1,none⟩=some (.int .i64 pm)/\w'.cell? ⟨w.heap.size,2,none⟩=some (.int .i64 pf)/\w'.cell? ⟨w.heap.size,3,none⟩=some (.int .i64 ps)) (go_keep)
    (first
     |((go_at_call 81);(refine(N8 _ (by exact⟨rfl,rfl,rfl,Aac,λk hk=>by first|rfl|exact aE4 _ _ _ hk⟩)).mono ?_);(rintro e w4 ⟨vc,rfl,hv4,AA,hb4⟩);(have hs4:=hb4.size);(try simp at hs4);(have nC:=Hq (show aH V w4 from Below.trans (b:=_) (by exact⟨rfl,rfl,rfl,Aac,λk hk=>by first|rfl|exact aE4 _ _ _ hk⟩) (hb4.mono Aac)));(have HO4:=Hq (own_lower (b':=V.heap.size) AA Aac));(first|(guard_hyp hs4:V.heap.size+1<=w4.heap.size;have HN4:=Hq (Fo.one_block (show Below (V.alloc (.cells (iX pk pm pf ps) 155)).heap.size (V.alloc (.cells (iX pk pm pf ps) 155)) w4 from⟨hb4.os,hb4.tape,hb4.output,hb4.size,hb4.block⟩)).1)|skip);(have d0:=(nC.cell (p:=⟨w.heap.size,0,none⟩) Sj).trans c0);(have d1:=(nC.cell (p:=⟨w.heap.size,1,none⟩) Sj).trans c1);(have d2:=(nC.cell (p:=⟨w.heap.size,2,none⟩) Sj).trans c2);(have d3:=(nC.cell (p:=⟨w.heap.size,3,none⟩) Sj).trans c3);(have hn4:w.heap.size≠w4.heap.size:=by omega);(have hm4:w4.heap.size≠w.heap.size:=by omega);(clear hb4 AA hv4))
     |((guard_hyp hs4:V.heap.size+1<=w4.heap.size);(refine pW _ rfl (.tmp 57) (.tmp 59) 34 rfl V.heap.size 155 i0 (.agg (iX ByteArray.empty 0 0 0)) 4 40 underlying34 hi hz0 hz1 hz2 rfl Aae vc (place l pk) (GR.flat fA (l.take (place l pk))) Aao HO4 ⟨V.heap.size,0,none⟩ 1 1 (fA ⟨pk,pm,pf,ps⟩) Aao rfl (aFF HN4) (J6 ⟨pk,pm,pf,ps⟩) Aaj Aaa nC.size ?_);(intro v5 w5 hown5 hgr5 FJ);(have JO:=Hq hown5);(have HV5:=Hq (show v5≠ .slice none 0 0 by first|exact FJ|exact λh=>absurd (FJ.1 h).2 Aae));(have gX:=Hq (show aH V w5 from nC.trans (uR hgr5 (λk e=>(HO4.lt k e).1) nC.size)));(have e0:=(gX.cell (p:=⟨w.heap.size,0,none⟩) Sj).trans c0);(have e1:=(gX.cell (p:=⟨w.heap.size,1,none⟩) Sj).trans c1);(have e2:=(gX.cell (p:=⟨w.heap.size,2,none⟩) Sj).trans c2);(have e3:=(gX.cell (p:=⟨w.heap.size,3,none⟩) Sj).trans c3);(clear hown5 hgr5 FJ))
     |((guard_hyp hs4:V.heap.size<=w4.heap.size);(refine pW _ rfl (.tmp 57) (.tmp 59) 34 rfl V.heap.size 155 i0 (.agg (iX ByteArray.empty 0 0 0)) 4 40 underlying34 hi hz0 hz1 hz2 rfl Aae vc (place l pk) (GR.flat fA (l.take (place l pk))) Aao (HO4.alloc _) ⟨w4.heap.size,0,none⟩ 1 1 (fA ⟨pk,pm,pf,ps⟩) Aao rfl (aFF (aEP w4 _)) (J6 ⟨pk,pm,pf,ps⟩) Aaj Aaa (aEU nC.size Aac) ?_);(intro v5 w5 hown5 hgr5 FJ);(have JO:=Hq hown5);(have HV5:=Hq (show v5≠ .slice none 0 0 by first|exact FJ|exact λh=>absurd (FJ.1 h).2 Aae));(have gX:=Hq (show aH V w5 from(nC.alloc nC.size _).trans (uR hgr5 (λk e=>(HO4.lt k e).1) (aEU nC.size Aac))));(have e0:=(gX.cell (p:=⟨w.heap.size,0,none⟩) Sj).trans c0);(have e1:=(gX.cell (p:=⟨w.heap.size,1,none⟩) Sj).trans c1);(have e2:=(gX.cell (p:=⟨w.heap.size,2,none⟩) Sj).trans c2);(have e3:=(gX.cell (p:=⟨w.heap.size,3,none⟩) Sj).trans c3);(clear hown5 hgr5 FJ))
     |((refine pW _ rfl (.tmp 60) (.tmp 61) 34 rfl V.heap.size 155 i0 (.agg (iX ByteArray.empty 0 0 0)) 4 40 underlying34 hi hz0 hz1 hz2 rfl Aae v5 (place l pk+1) (GR.flat fA (l.take (place l pk))++fA ⟨pk,pm,pf,ps⟩) Abv JO ad' (lG l pk).length cc (GR.flat fA (lG l pk)) Abv (GR.flat_length fA 4 aQ _) (HNW _ gX) (Fw _) Aaj Aaa gX.size ?_);(intro v6 w6 hown6 rP PN);(have yB:=Hq (show aH V w6 from gX.trans (uR rP (λk e=>(JO.lt k e).1) gX.size)));(have HV6:=Hq (show v6≠ .slice none 0 0 by first|exact λh=>HV5 (PN.1 h).1|exact λh=>HV5 (PN h).1));(rw [ah HPF,ah HPN] at hown6);(obtain⟨a6,cap6,rfl,ayE⟩:=GR.own_at aQ hown6);(have HO6:=Hq hown6);(have HT6:=Hq ayE);(have f0:=(yB.cell (p:=⟨w.heap.size,0,none⟩) Sj).trans c0);(have f1:=(yB.cell (p:=⟨w.heap.size,1,none⟩) Sj).trans c1);(have f2:=(yB.cell (p:=⟨w.heap.size,2,none⟩) Sj).trans c2);(have f3:=(yB.cell (p:=⟨w.heap.size,3,none⟩) Sj).trans c3);(clear hown6 rP PN ayE))
     |fail)
   all_goals
    have ai9:(jf l ⟨pk,pm,pf,ps⟩).length<=1048600:=by have:=ah HPN;omega
    have alR:=Hq (xD.trans (yB.mono Aaa))
    have HSO:=Hq (qx a6 cap6 (jf l ⟨pk,pm,pf,ps⟩) w6 ai9 hkt HT6)
    clear ai9 d0 d1 d2 d3 e0 e1 e2 e3 f0 f1 f2 f3 c0 c1 c2 c3 HNW N8
    go_wp2_with fail
    refine HSO.mono ?_
    rintro e w7 ⟨rfl,wB⟩
    have Ie:=Hq (alR.trans (wB.mono alR.size))
    have HO7:=Hq (own_lower (b':=w.heap.size) (HO6.kept (row:=none) ⟨wB.os,wB.tape,wB.output,wB.size,λk hk _=>wB.block k hk⟩ (ac8 _)) Aaa)
    clear wB HSO
    cases hps:jv (jf l ⟨pk,pm,pf,ps⟩)
    .have HWF:=Hq (show sD l ⟨pk,pm,pf,ps⟩ n=(l,false) by rw [ah HW,hps];rfl);have HCX:=Hq (HCA _ Ie);clear hps HW HCA;go_wp2_with fail;refine HCX.mono ?_;rintro e w8 ⟨v8,rfl,hv8,PO,IX⟩;have HV8:=Hq hv8;have HO8:=Hq (own_lower (b':=w.heap.size) PO Ie.size);have HB8:=Hq (Ie.trans (IX.mono Ie.size));clear PO IX hv8;go_wp2_with fail;rw [ah HWF];exact aEY (v:= .tuple #[v8,.bool false]) Aco rfl ⟨v8,rfl,HV8,HO8,HB8⟩
    .have HWF:=Hq (show sD l ⟨pk,pm,pf,ps⟩ n=(jf l ⟨pk,pm,pf,ps⟩,true) by rw [ah HW,hps];rfl);clear hps HW HCA;go_wp2_with fail;rw [ah HWF];exact aEY (v:= .tuple #[.slice a6 (jf l ⟨pk,pm,pf,ps⟩).length cap6,.bool true]) Aco rfl ⟨_,rfl,HV6,HO7,Ie⟩):P:=h
theorem asz.Aek(h:P:=by
 by_cases hlt:k < l.length
 .obtain⟨g1,o1,e1,hg1,s0,s1,s2,s3⟩:=aG.four (GR.At.below HA HB1) k hlt;open avQ in exact ahj
 .open amP in exact uI):P:=h
theorem aaC(h:P:=by
 obtain⟨hil,ae9⟩:=(oV n.reqs o.no).1 hf;have hgd:n.reqs.getD (dZ n.reqs o.no) default=n.reqs[dZ n.reqs o.no]:=by rw [aFs,aEV hil];rfl
 exact AbR):P:=h
theorem asA.AbR(h:P:=by
 rw [hgd] at hs ⊢;open auI in exact aaP):P:=h
theorem asB.AbR(h:P:=by
 have hR:fT n o.no o.k o.n=(n,if GD n.reqs[dZ n.reqs o.no] o.k o.n=true then 0 else 1):=by
  unfold fT;rw [aE2 hc,aFc hf,hgd]
 have HSQ:=Hq (show GD n.reqs[dZ n.reqs o.no] o.k o.n=((n.reqs[dZ n.reqs o.no].k.toList == o.k.toList)&&decide (n.reqs[dZ n.reqs o.no].n=o.n)&&decide (n.reqs[dZ n.reqs o.no].s=0)) by unfold GD;rw [Bool.and_assoc,Bool.and_comm]);have HAD:=Hq hR;generalize fT n o.no o.k o.n=RES at *;have hd:decide (o.no<=n.old)=false:=aES hc;open auH in exact aaP):P:=h
theorem asC.AbR(h:P:=by
 rw [hgd] at hs;open auG in exact aaP):P:=h
theorem agx(h:P:=by
 open auZ in exact aaQ):P:=h
theorem asD.Adp(h:P:=by
 exact axC):P:=h
theorem asE.Adp(h:P:=by
 exact Zk8):P:=h
theorem agy(h:P:=by
 refine bZ Aab ?_;show iZ _ _ _ _ 23 (Array.replicate 23 false) _ _
 refine tk [0,1,2,3,4,5,6,7,8,9,10,11,12,13,14,15,16,17,18,19,20,21,22] ?_;iterate 23 (refine lW (λK hK=>?_);go_simp;refine hK _ ?_;clear hK K)
 refine jh ?_;refine dW Aab (λz hz=>?_);exact Aep):P:=h
theorem asF.Aep(h:P:=by
 have HZ:=Hq (HW1.step hz);clear hz y1;go_simp;go_wp2_with fail;go_ret;exact⟨rfl,A,G,c,HZ⟩):P:=h
theorem asG.Aep(h:P:=by
 have HZ:=Hq ((au w (.cells (bX mK mF mT mI mL mk mN) 70)).trans (hz.mono Aac));clear hz y4 z3 z5 z6 x1 hlen;go_simp;go_wp2_with fail;go_ret;exact⟨rfl,HZ⟩):P:=h
theorem VR(h:P:=by
 have SK:=Hq (λp:Regrown=>hH.below (aFl w p.d p.os));have H:=Hq h;obtain⟨c0,c1,f0,f1⟩:=h.two;clear h hs hH hE f0 f1;exact AbM):P:=h
theorem asH.AbM(h:P:=by
 generalize jg s i=E at *;generalize kN s i=R at *;go_in
 exact axJ):P:=h
theorem asI.AbM(h:P:=by
 generalize jg s i=E at *;generalize kN s i=R at *;go_in
 exact axM):P:=h
theorem asJ.AbM(h:P:=by
 generalize kJ s i=E at *;generalize vF s i=R at *;go_in
 exact axJ):P:=h
theorem asK.AbM(h:P:=by
 generalize kJ s i=E at *;generalize vF s i=R at *;go_in
 exact axM):P:=h
theorem agz(h:P:=by
 obtain⟨mK,mF,mT,mI,mL,mk,mN⟩:=m;obtain⟨R,hR⟩:∃R,bQ ⟨5,no,k,n,⟨mK,mF,mT,mI,mL,mk,mN⟩⟩=R:=⟨_,rfl⟩;rw [hR];have HR:=Hq hR;clear hR;have HP:=Hq (show R=(decide (k.toList=[])&&decide (n=0)&&decide (no=0)&&mq ⟨mK,mF,mT,mI,mL,mk,mN⟩) by rw [<-ah HR];simp[bQ]);clear HR;exact AdH):P:=h
theorem asL.AdH(h:P:=by
 go_in
 go_upto_region 23 with fail;open atZ in exact VY):P:=h
theorem asM.AdH(h:P:=by
 go_in
 go_wp2_with fail
 all_goals
  go_ret
  refine⟨aF ?_,au w _⟩
  rw [ah HP]
  simp[mq, *]):P:=h
theorem agA(h:P:=by
 go_wp2_with fail;refine bodyPost_at (λW' hW'=>?_);obtain⟨⟨r0,r1,r2,r3,r4,r5,r6⟩,_⟩:=eF (show W'.heap[w.heap.size]?=some (.cells (bX (s[0].toNat:Int) N1 N2 N3 N4 TX N5) 70 (0,0)) by rw [hW'];exact uq XE);have hbb:aH w W':=by rw [hW'];exact su gX (aER _)
 exact AdS):P:=h
theorem asN.AdS(h:P:=by
 exact aEY (v:= .tuple #[.agg (bX (s[0].toNat:Int) N1 N2 N3 N4 TX N5),.bool true]) Acy rfl ⟨Abj,hbb⟩):P:=h
theorem asO.AdS(h:P:=by
 exact aEY (v:= .tuple #[.agg (bX (s[0].toNat:Int) N1 N2 N3 N4 TX N5),.bool true]) Acx rfl ⟨Abj,hbb⟩):P:=h
theorem aaD(h:P:=by
 obtain⟨c0,c1,c2,c3,c4,c5,c6,c7,c8⟩:=nine nD;obtain⟨⟨d0,d1,d2,d3,d4,d5,d6,d7,d8⟩,f0,f1,f2,f3,f4,f5,f6,f7,f8⟩:=iT wu;have hnl:=ay nD;have hrl:=ay wu;exact AcB):P:=h
theorem asP.AcB(h:P:=by
 clear q0 q1 q2 HST;dsimp only at e0;subst e0;open apa in exact awW):P:=h
theorem asQ.AcB(h:P:=by
 first|dsimp only at e0|skip
 subst e0;have HQ3:=Hq q3;have HQS:=Hq (And.intro q0 (And.intro q1 (And.intro q2 q3)));generalize n.reqs[i].k=qk at *;generalize n.reqs[i].n=qn at *;go_upto_region 8 with fail;have y4:=aEQ c4;have y8:=aEQ c8;have z1:=aEQ q1;have z2:=aEQ q2;clear c0 c1 c2 c3 c4 c5 c6 c7 c8 d0 d1 d2 d3 d4 d5 d6 d7 d8 f0 f1 f2 f3 f4 f5 f6 f7 f8 q0 q1 q2 q3;refine bZ Aab ?_;show iZ _ _ _ _ 20 (Array.replicate 20 false) _ _
 exact Kk8):P:=h
theorem asR.AcB(h:P:=by
 open apb in exact awW):P:=h
theorem VT(h:P:=by
 have hb0:s[0].toNat < 256:=s[0].toNat_lt;have hw64:wrap64 (s[0].toNat:Int)=(s[0].toNat:Int):=IntWalk.wrap64_in _ ⟨Aaa,Aaa⟩;exact AbN):P:=h
theorem asS.AbN(h:P:=by
 clear h;go_in
 go_upto_region 1 with fail;go_quiet (fail);go_upto_region 4 with fail;refine wp_at (λV hV=>?_);have HRV:Hid (jQ V g s 1):=by rw [hV];exact(show jQ (w.drewN _) g s 0 from H).set 1
 have Xw:Hid (dQ g w V):=by rw [hV];exact(dQ.of_below (jB w _)).trans (dQ.set _)
 clear hV c0 c1 f0 f1;obtain⟨c0,c1,f0,f1⟩:=HRV.two;go_quiet (fail);go_wp2_with fail;go_ret;exact⟨rfl,aJ HRV (jB V _),Xw.trans (dQ.of_below (jB V _))⟩):P:=h
theorem asT.AbN(h:P:=by
 go_upto_region 8 with fail;go_region
 go_upto_region 9 with fail;refine wp_at (λV hV=>?_);have hM:V.heap[w5.heap.size+1]?=some (.cells (bV (s[0].toNat:Int) N1 TX N2 mK mF mT mI mL mk mN) 73 (0,0)):=by rw [hV];exact(gH w5 (.cells (bX mK mF mT mI mL mk mN) 70) _).2.1
 have hlt:=dx XE
 have hB:aH w V:=by
  rw [hV];have h1:=(gX.alloc gX.size (.cells (bX mK mF mT mI mL mk mN) 70)).alloc (by have:=gX.size;simp;omega) (.cells (bV (s[0].toNat:Int) N1 TX N2 mK mF mT mI mL mk mN) 73);exact⟨h1.os,h1.tape,h1.output,h1.size,h1.block⟩
 have hR:V.heap[w.heap.size]?=some (.cells (bV 0 0 ⟨#[]⟩ 0 0 0 0 0 0 ⟨#[]⟩ 0) 73 (0,0)):=by
  rw [hV];have h1:=aE4 (w5.alloc (.cells (bX mK mF mT mI mL mk mN) 70)) (.cells (bV (s[0].toNat:Int) N1 TX N2 mK mF mT mI mL mk mN) 73) w.heap.size Aah;have h2:=aE4 w5 (.cells (bX mK mF mT mI mL mk mN) 70) w.heap.size hlt;exact h1.trans (h2.trans XE)
 clear hV XE gX hw64 hb0 hlt;have hzM:=dx hM;have hzR:=dx hR;by_cases hE:0<=E
 case' neg=>
  have hO:OK=false:=by rw [ah HO,aES hE,Bool.false_and,Bool.false_and]
  have yj:=Hq (HZ hO);have hE2:E < 0:=Aaa
  obtain⟨⟨d0,d1,d2,d3,d4,d5,d6,d7,d8,d9,d10⟩,f0,f1,f2,f3,f4,f5,f6,f7,f8,f9,f10⟩:=aK hR;have HR:=Hq hR;have HB:=Hq hB;clear hO HO HZ HM HP hM hR hB hE;exact axW
 have hE2:¬(E < 0):=Aaa
 cases hbd:(decide (B.size=0)||mo)
 case' false=>
  have hO:OK=false:=by rw [ah HO,hbd,Bool.and_false,Bool.false_and]
  have yj:=Hq (HZ hO);simp only[Bool.or_eq_false_iff,aGS] at hbd;obtain⟨hb1,rfl⟩:=hbd;have hbe:=kW B Aaa;obtain⟨⟨d0,d1,d2,d3,d4,d5,d6,d7,d8,d9,d10⟩,f0,f1,f2,f3,f4,f5,f6,f7,f8,f9,f10⟩:=aK hR;have HR:=Hq hR;have HB:=Hq hB;clear hO HO HZ HM HP hM hR hB hE hb1;exact axW
 have HBD:=Hq hbd;obtain⟨q0,q1,q2,q3,q4,q5,q6,q7,q8,q9,q10⟩:=(aK hM).1;have HR:=Hq hR;have HB:=Hq hB;have HMB:=Hq hM;clear hR hB hM
 have hcond:((!B.toList.isEmpty)&& !mo)=false:=by
  rcases Bool.or_eq_true_iff.1 hbd with h|h
  .have h1:=eq_empty B (aFa h);subst h1;rw [aFG];rfl
  .rw [h];simp
 clear hbd
 have HQ:Hid ((B.toList.isEmpty=true)\/(B.toList.isEmpty=false/\mo=true)):=by
  cases h1:B.toList.isEmpty
  .rw [h1] at hcond;exact .inr ⟨rfl,by simpa using hcond⟩
  .exact .inl rfl
 clear hcond;have XB:Hid (∀Q:Prop,(B.toList.isEmpty=true->Q)->(B.toList.isEmpty=false->mo=true->Q)->Q):=λQ h1 h2=>HQ.elim h1 (λh=>h2 h.1 h.2)
 clear HQ;refine XB _ (λhbe=>?_) (λhbe hmo=>?_)
 all_goals
  clear XB
  go_wp2_with fail
  refine(HP _).mono ?_
  rintro e w7 ⟨rfl,wB⟩
  have HR7:=Hq (aJ HR wB)
  have HM7:=Hq (aJ HMB wB)
  have Ie:=Hq (HB.trans (wB.mono HB.size))
  have aEq:=dx HM7
  have aEs:=dx HR7
  clear wB HR HMB HB q0 q1 q2 q3 q4 q5 q6 q7 q8 q9 q10 HP hzM hzR
  obtain⟨⟨d0,d1,d2,d3,d4,d5,d6,d7,d8,d9,d10⟩,f0,f1,f2,f3,f4,f5,f6,f7,f8,f9,f10⟩:=aK HR7
  by_cases hp:wW ⟨s[0].toNat,N1,TX,N2,⟨mK,mF,mT,mI,mL,mk,mN⟩⟩=s
  case' neg=>
   have hO:OK=false:=by rw [ah HO,aES hp,Bool.and_false]
   have yj:=Hq (HZ hO)
   have hq:((wW ⟨s[0].toNat,N1,TX,N2,⟨mK,mF,mT,mI,mL,mk,mN⟩⟩).toList == s.toList)=false:=by
    exact ain
   clear hO HO HZ HM HBD hp;generalize wW ⟨s[0].toNat,N1,TX,N2,⟨mK,mF,mT,mI,mL,mk,mN⟩⟩=pm at *;go_wp2_with fail;refine iD (λW' hW'=>?_);obtain⟨⟨r0,r1,r2,r3,r4,r5,r6,r7,r8,r9,r10⟩,_⟩:=aK (show W'.heap[w.heap.size]?=some (.cells (bV 0 0 ⟨#[]⟩ 0 0 0 0 0 0 ⟨#[]⟩ 0) 73 (0,0)) by rw [hW'];exact lS HR7);have hbb:aH w W':=by rw [hW'];exact iK Ie (aER _)
   exact aEY (v:= .tuple #[.agg (bV 0 0 ⟨#[]⟩ 0 0 0 0 0 0 ⟨#[]⟩ 0),.bool false]) Acn rfl ⟨Abj,hbb⟩
  have hO:OK=true:=by rw [ah HO,aET hE,ah HBD,aET hp];rfl
  have yj:=Hq (HM hO)
  have hq:((wW ⟨s[0].toNat,N1,TX,N2,⟨mK,mF,mT,mI,mL,mk,mN⟩⟩).toList == s.toList)=true:=by rw [hp];simp
  obtain⟨⟨q0,q1,q2,q3,q4,q5,q6,q7,q8,q9,q10⟩,_⟩:=aK HM7
  clear hO HO HZ HM HBD
  have HPX:=Hq hp
  clear hp
  generalize wW ⟨s[0].toNat,N1,TX,N2,⟨mK,mF,mT,mI,mL,mk,mN⟩⟩=pm at *
  go_wp2_with fail
  refine iD (λW' hW'=>?_)
  obtain⟨⟨r0,r1,r2,r3,r4,r5,r6,r7,r8,r9,r10⟩,_⟩:=aK (show W'.heap[w.heap.size]?=some (.cells (bV (s[0].toNat:Int) N1 TX N2 mK mF mT mI mL mk mN) 73 (0,0)) by rw [hW'];exact lS HR7)
  have hbb:aH w W':=by rw [hW'];exact iK Ie (aER _)
  exact aEY (v:= .tuple #[.agg (bV (s[0].toNat:Int) N1 TX N2 mK mF mT mI mL mk mN),.bool true]) Acn rfl ⟨Abj,hbb⟩):P:=h
theorem asU.AbN(h:P:=by
 go_upto_region 6 with fail;go_region
 go_upto_region 7 with fail;refine wp_at (λV hV=>?_);have hM:V.heap[w3.heap.size]?=some (.cells (bX (s[0].toNat:Int) N1 N2 N3 N4 TX N5) 70 (0,0)):=by rw [hV];exact aEP w3 _
 have hlt:=dx HR3
 have hR:V.heap[w.heap.size]?=some (.cells (bX 0 0 0 0 0 ⟨#[]⟩ 0) 70 (0,0)):=by
  rw [hV];show(w3.alloc _).heap[w.heap.size]?=_
  rw [aE4 _ _ _ hlt];exact HR3
 have hB:aH w V:=by
  rw [hV];have h1:=HB3.alloc HB3.size (.cells (bX (s[0].toNat:Int) N1 N2 N3 N4 TX N5) 70);exact⟨h1.os,h1.tape,h1.output,h1.size,h1.block⟩
 clear hV HR3 HB3 c0 c1 c2 c3 hg3 HN HT HG hw64 hb0;have hzM:=dx hM;have hzR:=dx hR;by_cases hE:0<=E6
 case' neg=>
  have hO:OK=false:=by rw [ah HO,aES hE];rfl
  have yj:=Hq (HZ hO)
  have hE2:E6 < 0:=Aaa
  obtain⟨⟨d0,d1,d2,d3,d4,d5,d6⟩,f0,f1,f2,f3,f4,f5,f6⟩:=eF hR
  have HR:=Hq hR
  have HB:=Hq hB
  clear hO HO HZ HM HP hM hR hB hE
  open ath in exact agG
 have hE2:¬(E6 < 0):=Aaa
 obtain⟨q0,q1,q2,q3,q4,q5,q6⟩:=uK hM;have HR:=Hq hR;have HB:=Hq hB;have HMB:=Hq hM;clear hR hB hM;open ar3 in exact agn):P:=h
theorem asV.AbN(h:P:=by
 open arp in exact axk):P:=h
theorem agB(h:P:=by
 go_wp2_with fail;refine bodyPost_at (λW' hW'=>?_);obtain⟨⟨r0,r1,r2,r3,r4,r5,r6⟩,_⟩:=eF (show W'.heap[w.heap.size]?=some (.cells (bX 0 0 0 0 0 ⟨#[]⟩ 0) 70 (0,0)) by rw [hW'];exact uq XE);have hbb:aH w W':=by rw [hW'];exact su gX (aER _)
 exact AcP):P:=h
theorem asW.AcP(h:P:=by
 exact ahW):P:=h
theorem asX.AcP(h:P:=by
 exact ahV):P:=h
theorem agC(h:P:=by
 have hn:=NH (Ep (tl s a));have HS:=Hq (λw1=>adB (Ep (tl s a)) (aEU (Gz _ _) Aaj) w1);have HCV:=Hq (λw1 g=>J3 w1 g (lu (Ep (tl s a))) 4 hn);have HCC:=Hq (λw1 (hb:aH w w1)=>uM (hc.below hg hb) a 4 4 Aaa);exact AdP):P:=h
theorem asY.AdP(h:P:=by
 have hqq:((mX (lu (Ep (tl s a)))).toList == (s.extract a (a+4)).toList)=false:=by
  rw [aGs];intro h;rw [aFG,aFG] at h;exact hq (aF8 (Array.ext' h))
 open aBA in exact awH):P:=h
theorem asZ.AdP(h:P:=by
 have hqq:((mX (lu (Ep (tl s a)))).toList == (s.extract a (a+4)).toList)=true:=by
  rw [hq];simp
 open aBz in exact awH):P:=h
theorem agD(h:P:=by
 have HS:Hid ((s.data.toList.take (k+1)).all Mth.keyByte=((s.data.toList.take k).all Mth.keyByte&&Mth.keyByte s[k])):=by rw [Mth.take_snoc s k hlt];exact Mth.all_snoc _ _
 have hc:s[k].toNat < 256:=s[k].toNat_lt;exact Adx):P:=h
theorem as0.Adx(h:P:=by
 rcases Mth.byte_cases s[k] with h|h
 .have HK:=Hq (Mth.keyByte_yes _ h);rcases h with⟨h1,h2⟩|⟨h1,h2⟩
  all_goals
   go_wp2_with (go_at_call 47;first|(refine(nP _ _ _ _ ?_ ?_).mono ?_;omega;omega;rintro e w' ⟨rfl,rfl⟩)|(refine(qQ _ _ _ _ ?_).mono ?_;omega;rintro e w' ⟨rfl,rfl⟩))
   go_round
   case rel=>exact⟨k+1,Aaa,Aaf,Acl⟩
   case measure=>simp[intOf];omega
 .have HK:=Hq (Mth.keyByte_no _ h);have HF:Hid (Mth.keyOk s.data.toList=false):=Mth.keyOk_bad _ (k+1) Acl;rcases h with h1|⟨h1,h2⟩|h1
  all_goals
   go_wp2_with (go_at_call 47;first|(refine(nP _ _ _ _ ?_ ?_).mono ?_;omega;omega;rintro e w' ⟨rfl,rfl⟩)|(refine(qQ _ _ _ _ ?_).mono ?_;omega;rintro e w' ⟨rfl,rfl⟩))
   go_ret
   exact⟨aF HF.symm,rfl⟩):P:=h
theorem as1.Adx(h:P:=by
 rcases Mth.byte_cases s[k] with h|h
 .have HK:=Hq (Mth.keyByte_yes _ h);rcases h with⟨h1,h2⟩|⟨h1,h2⟩
  all_goals
   go_wp2_with (first|(go_at_call 207;first|(refine(KY _ _ ?_ ?_).mono ?_;omega;omega;rintro e w' ⟨rfl,rfl⟩)|(refine(Q7 _ _ ?_).mono ?_;omega;rintro e w' ⟨rfl,rfl⟩))|(go_at_call 208;first|(refine(J4 _ _ ?_ ?_).mono ?_;omega;omega;rintro e w' ⟨rfl,rfl⟩)|(refine(Pn _ _ ?_).mono ?_;omega;rintro e w' ⟨rfl,rfl⟩)))
   go_round
   case rel=>exact⟨k+1,Aaa,Aaf,Acl⟩
   case measure=>simp[intOf];omega
 .have HK:=Hq (Mth.keyByte_no _ h);have HF:Hid (Mth.keyOk s.data.toList=false):=Mth.keyOk_bad _ (k+1) Acl;rcases h with h1|⟨h1,h2⟩|h1
  all_goals
   go_wp2_with (first|(go_at_call 207;first|(refine(KY _ _ ?_ ?_).mono ?_;omega;omega;rintro e w' ⟨rfl,rfl⟩)|(refine(Q7 _ _ ?_).mono ?_;omega;rintro e w' ⟨rfl,rfl⟩))|(go_at_call 208;first|(refine(J4 _ _ ?_ ?_).mono ?_;omega;omega;rintro e w' ⟨rfl,rfl⟩)|(refine(Pn _ _ ?_).mono ?_;omega;rintro e w' ⟨rfl,rfl⟩)))
   go_ret
   exact⟨aF HF.symm,rfl⟩):P:=h
theorem aaE(h:P:=by
 unfold je;have H9:=Hq h9;clear h9;have nA:=Hq (h.nine hB);clear h;go_in
 go_upto_region 1 with fail;refine wp_at (λW0 hW=>?_);exact Ab7):P:=h
theorem as3.Ab7(h:P:=by
 obtain⟨e1,e2,e3,e4⟩:=gG w (.cells (dD n A) 39) (.cells (bV K no k nn mK mF mT mI mL mk mN) 73) (.cells lC 39);open atW in exact aaK):P:=h
theorem as4.Ab7(h:P:=by
 obtain⟨e1,e2,e3,e4⟩:=gG w (.cells (dD n (⟨a_k,(some ⟨gp,0,none⟩),jm,jc,(some ⟨gr,0,none⟩),dH,fQ,eu,dJ,dR⟩:bq)) 39) (.cells (bV K no k nn mK mF mT mI mL mk mN) 73) (.cells lC 39);open atV in exact aaK):P:=h
theorem as5.Ab7(h:P:=by
 obtain⟨e1,e2,e3,e4⟩:=gG w (.cells (dD n (⟨a_k,rU,jm,jc,jy,dH,fQ,eu,dJ,dR⟩:bq)) 39) (.cells (bV K no k nn mK mF mT mI mL mk mN) 73) (.cells lC 39);open atU in exact aaK):P:=h
theorem VU(h:P:=by
 have ajo:=Hq (aj BN hbx);have zL:=Hq (pE.trans (hbx.mono pE.size));exact AbH):P:=h
theorem as6.AbH(h:P:=by
 have HI2:=Hq (GR.At.below HI1 hbx);clear hbx d0 d1 d2 c0 c1 c2 c3 c4 c5 c6 c7 c8 k0 k1 k2 k3 k4 k5 k6 k7 k8 m0 m1 m2 HW1 BN pE HI1 DZ HKI;cases hbv:bb
 case' true=>
  have HP:Hid (TT=false):=ah HBAD (by
   rw [ah iJ]
   have h:=ah eY
   rw [hbv] at h
   unfold wD
   dsimp only
   cases h1:NN fr<;>cases h2:pv<;>cases h3:fJ lo<;>cases h4:decide (ids.length<=40)<;>simp_all)
  clear HBAD iJ eY;subst hbv;go_wp2_with fail;go_ret;exact⟨aF HP.symm,zL⟩
 have HGD:Hid (ig PP RR (seen.take (k+1))=ig (Ed lo) iR ids):=by
  rw [ah iJ];have h:=ah eY;rw [hbv] at h;unfold wD;dsimp only;cases h1:NN fr<;>cases h2:pv<;>cases h3:fJ lo<;>cases h4:decide (ids.length<=40)<;>simp_all
 subst hbv;clear iJ eY;obtain⟨d0,d1,d2⟩:=three HW2;have aD0:=ah DW;go_wp2_with fail;go_loopw [6] (λi wr2=>∃m:Nat,m<=ids.length/\i= .int .i64 m/\ig (Ed lo) iR (ids.take m)=true/\aH wc wr2) (λi _=>ids.length - (intOf i).toNat)
 case atStart=>exact abf
 case round=>
  obtain⟨m,hm,rfl,hall,hbx⟩:=hrel;have jO:=Hq hbx;have alL:=Hq hall;have HW3:=Hq (aj HW2 hbx);obtain⟨d0,d1,d2⟩:=three HW3;clear hall;by_cases hlm:m < ids.length
  case' neg=>
   have hke:m=ids.length:=Aaa
   subst hke
   have hnlt:decide ((ids.length:Int) < (ids.length:Int))=false:=Aac
   have HF:Hid (ig PP RR (seen.take (k+1))=true):=by
    have h:=ah alL;rw [aFh] at h;exact HGD.trans h
   have HB9:=Hq (aj ajo hbx)
   have HL9:=Hq (zL.trans (hbx.mono zL.size))
   clear hbx
   go_wp2_with fail
   go_roundw
   case rel=>exact⟨k+1,Aaa,Aaf,HF,HB9,HL9⟩
   case measure=>simp[intOf];omega
  have HBM:Hid (ig (Ed lo) iR (ids.take (m+1))=false->TT=false):=λh=>HBAD (HGD.trans (qh _ _ _ _ h))
  have HL9:=Hq (zL.trans (hbx.mono zL.size));have Si:=GR.At.below HI2 hbx;clear hbx;cases m with
  |zero=>
   obtain⟨g2,off2,rfl,hg2,q0⟩:=bH.one Si 0 hlm;rw [aGB] at q0;have hgt:decide ((0:Int) < ((0:Nat):Int))=false:=rfl;have iJ:Hid (ig (Ed lo) iR (ids.take (0+1))=Ed lo ids[0]):=tu (Ed lo) iR ids hlm;clear Si;generalize ids[0]=x at *;cases h1:decide (lo<=x/\x<=1000000000)
   case' false=>
    exact ai3
   have HV:=Hq (show ig (Ed lo) iR (ids.take (0+1))=true by rw [ah iJ];simp[Ed,h1]);open aoN in exact ajT
  |succ j=>
   obtain⟨g2,off2,e1,hg2,q0⟩:=bH.one Si (j+1) hlm;obtain⟨g3,aEt,e2,hg3,q1⟩:=bH.one Si j Aaa;open avr in exact ahd):P:=h
theorem as7.AbH(h:P:=by
 clear hbx d0 d1 d2 d3 c0 c1 c2 c3 c4 c5 c6 c7 c8 k0 k1 k2 k3 k4 k5 k6 k7 k8 m0 m1 m2 m3 HW1 BN pE DZ
 have BJ:=Hq (show ig RQ RR (reqs.take (k+1))= !bb by
  rw [ah iJ,<-ah eY,ah nH]
  simp only[Bool.not_not])
 cases hbv:bb
 .have HG:Hid (ig RQ RR (reqs.take (k+1))=true):=by rw [ah BJ,hbv];exact Hq rfl
  exact ahN
 .exact ahJ):P:=h
theorem as8.AbH(h:P:=by
 clear hbx d0 d1 d2 d3 c0 c1 c2 c3 c4 c5 c6 c7 c8 k0 k1 k2 k3 k4 k5 k6 k7 k8 m0 m1 m2 m3 HW1 BN pE DZ
 have BJ:=Hq (show ig OT RO (out.take (k+1))= !bb by
  rw [ah iJ,<-ah eY,ah nH]
  simp only[Bool.not_not])
 cases hbv:bb
 .have HG:Hid (ig OT RO (out.take (k+1))=true):=by rw [ah BJ,hbv];exact Hq rfl
  exact ahN
 .exact ahJ):P:=h
theorem as9.AbH(h:P:=by
 have HW2:=Hq (aj HW1 hbx);clear hbx d0 d1 d2 d3 c0 c1 c2 c3 c4 c5 c6 c7 c8 HW1 BN pE eY;obtain⟨d0,d1,d2,d3⟩:=iI HW2;cases hbv:bb
 .have HG:=Hq (show ig KB RR (out.take (k+1))=true by rw [ah BJ,hbv];rfl);subst hbv;clear HBAD BJ;go_wp2_with fail;go_roundw
  case rel=>exact⟨k+1,si,Aaa,Aaf,rfl,zT.symm,HG,ajo,zL⟩
  case measure=>simp[intOf];omega
 .have HP:=Hq (HBAD (by rw [ah BJ,hbv];rfl));subst hbv;clear HBAD BJ;go_wp2_with fail;go_ret;exact⟨aF HP.symm,zL⟩):P:=h
theorem aaF(h:P:=by
 open awC in exact aaV):P:=h
theorem ata.AbX(h:P:=by
 cases h1:PL
 case' false=>
  have HP:=Hq (show TT=false by rw [ah HD];simp[h1]);clear h1 HD;go_wp2_with fail;go_ret;exact⟨aF HP.symm,vW⟩
 go_wp2_with fail;refine(HPU _ vW).mono ?_;rintro e w2 ⟨rfl,hb1⟩;open ato in exact aaG):P:=h
theorem atb.AbX(h:P:=by
 go_wp2_with fail;refine(XB _ _ vW Aaa).mono ?_;rintro e w2 ⟨rfl,hb1⟩;open atn in exact aaG):P:=h
theorem atc.AbX(h:P:=by
 rcases hcase with rfl|⟨p0,p1,p2,p3⟩
 case' inl=>
  go_wp2_with fail;go_ret;exact⟨-1,rfl,vW,.inl rfl⟩
 have K1:=Hq (And.intro p2 p3);have q3:decide (z1 < 0)=false:=aES Aaa;clear p2 p3;go_wp2_with fail;refine(HO _ _ vW Aaa Aaa).mono ?_;rintro e w2 ⟨z2,rfl,hb1,hcase⟩;open atm in exact aaG):P:=h
theorem agE(h:P:=by
 obtain⟨g,rest,rfl,hBg,hgg⟩:=xQ HO Aaa;have HG:=Hq (aj hgg aZ);have hkk:=ah Sy l[k] (aE8 hlt);exact AdG):P:=h
theorem atd.AdG(h:P:=by
 have HC:=Hq (fun(W:World) (h:W.heap[g]?=some (.cells (GR.flat eU l++rest).toArray 75 (0,0))) j (hj:j < 12)=>wV aR h k hlt j hj);clear hgg hBg;generalize l[k]=x at *;obtain⟨⟨K,no,k',n,mK,mF,mT,mI,mL,mk,mN⟩,c⟩:=x;dsimp only at hkk;have q0:wr.cell? ⟨g,k*12,none⟩=some (.int .i64 K):=ah HC wr HG 0 Aaa;have q1:wr.cell? ⟨g,k*12+1,none⟩=some (.int .i64 no):=ah HC wr HG 1 Aaa;have q2:wr.cell? ⟨g,k*12+2,none⟩=some (.string k'):=ah HC wr HG 2 Aaa;have q3:wr.cell? ⟨g,k*12+3,none⟩=some (.int .i64 n):=ah HC wr HG 3 Aaa;have q4:wr.cell? ⟨g,k*12+4,none⟩=some (.int .i64 mK):=ah HC wr HG 4 Aaa;have q5:wr.cell? ⟨g,k*12+5,none⟩=some (.int .i64 mF):=ah HC wr HG 5 Aaa;have q6:wr.cell? ⟨g,k*12+6,none⟩=some (.int .i64 mT):=ah HC wr HG 6 Aaa;have q7:wr.cell? ⟨g,k*12+7,none⟩=some (.int .i64 mI):=ah HC wr HG 7 Aaa;have q8:wr.cell? ⟨g,k*12+8,none⟩=some (.int .i64 mL):=ah HC wr HG 8 Aaa;have q9:wr.cell? ⟨g,k*12+9,none⟩=some (.string mk):=ah HC wr HG 9 Aaa;have q10:wr.cell? ⟨g,k*12+10,none⟩=some (.int .i64 mN):=ah HC wr HG 10 Aaa;go_wp2_with fail;refine(Uh ⟨K,no,k',n,mK,mF,mT,mI,mL,mk,mN⟩ _ hkk.1 hkk.2).mono ?_;rintro e w5 ⟨rfl,hb5⟩;have rR:=Hq (aj HG hb5);have fO:=Hq (aZ.trans (hb5.mono aZ.size));clear hb5 q0 q1 q2 q3 q4 q5 q6 q7 q8 q9 q10;have q0:w5.cell? ⟨g,k*12,none⟩=some (.int .i64 K):=ah HC w5 rR 0 Aaa;have q1:w5.cell? ⟨g,k*12+1,none⟩=some (.int .i64 no):=ah HC w5 rR 1 Aaa;have q2:w5.cell? ⟨g,k*12+2,none⟩=some (.string k'):=ah HC w5 rR 2 Aaa;have q3:w5.cell? ⟨g,k*12+3,none⟩=some (.int .i64 n):=ah HC w5 rR 3 Aaa;have q4:w5.cell? ⟨g,k*12+4,none⟩=some (.int .i64 mK):=ah HC w5 rR 4 Aaa;have q5:w5.cell? ⟨g,k*12+5,none⟩=some (.int .i64 mF):=ah HC w5 rR 5 Aaa;have q6:w5.cell? ⟨g,k*12+6,none⟩=some (.int .i64 mT):=ah HC w5 rR 6 Aaa;have q7:w5.cell? ⟨g,k*12+7,none⟩=some (.int .i64 mI):=ah HC w5 rR 7 Aaa;have q8:w5.cell? ⟨g,k*12+8,none⟩=some (.int .i64 mL):=ah HC w5 rR 8 Aaa;have q9:w5.cell? ⟨g,k*12+9,none⟩=some (.string mk):=ah HC w5 rR 9 Aaa;have q10:w5.cell? ⟨g,k*12+10,none⟩=some (.int .i64 mN):=ah HC w5 rR 10 Aaa;have f0:=aC rR (k*12);have f1:=aC rR (k*12+1);have f2:=aC rR (k*12+2);have f3:=aC rR (k*12+3);have f4:=aC rR (k*12+4);have f5:=aC rR (k*12+5);have f6:=aC rR (k*12+6);have f7:=aC rR (k*12+7);have f8:=aC rR (k*12+8);have f9:=aC rR (k*12+9);have f10:=aC rR (k*12+10)
 have HS:=Hq (fO.trans ((Pf [.int .i64 K,.int .i64 no,.string k',.int .i64 n,.int .i64 mK,.int .i64 mF,.int .i64 mT,.int .i64 mI,.int .i64 mL,.string mk,.int .i64 mN] (k*12) w5 _ rR (λj u hj=>by
  have h11:j < 11:=(aFK.1 hj).1
  have hc:=ah HC w5 rR j Aaa
  rw [hc,<-hj]
  exact(aGd (l₁:=([.int .i64 K,.int .i64 no,.string k',.int .i64 n,.int .i64 mK,.int .i64 mF,.int .i64 mT,.int .i64 mI,.int .i64 mL,.string mk,.int .i64 mN]:List Value)) (l₂:=([.int .i64 c]:List Value)) (by simpa using h11)))).mono fO.size))
 exact aiB):P:=h
theorem ate.AdG(h:P:=by
 have HC:=Hq (fun(W:World) (h:W.heap[g]?=some (.cells (GR.flat iH l++rest).toArray 70 (0,0))) j (hj:j < 7)=>wV dA h k hlt j hj);clear hgg hBg;generalize l[k]=x at *;obtain⟨mK,mF,mT,mI,mL,mk,mN⟩:=x;dsimp only at hkk;have q5:wr.cell? ⟨g,k*7+5,none⟩=some (.string mk):=ah HC wr HG 5 Aaa;go_wp2_with fail;refine(clone mk _ Aaa).mono ?_;rintro e w5 ⟨rfl,hb5⟩;have rR:=Hq (aj HG hb5);have fO:=Hq (aZ.trans (hb5.mono aZ.size));clear hb5 q5;have q5:w5.cell? ⟨g,k*7+5,none⟩=some (.string mk):=ah HC w5 rR 5 Aaa;have f5:=aC rR (k*7+5);have HS:=Hq (fO.trans ((nL rR q5).mono fO.size));exact aiB):P:=h
theorem agF(h:P:=by
 clear hr hc2;go_in
 go_wp2_with (first|(go_at_call_of 121 F;refine(H1 _).mono ?_;rintro e w1 ⟨rfl,rfl⟩)|(go_at_call_of 121 T;refine(H2 _).mono ?_;rintro e w1 ⟨rfl,rfl⟩)|(go_at_call_of 90 I;refine(Df _).mono ?_;rintro e w1 ⟨rfl,rfl⟩))
 exact Ad1):P:=h
theorem atf.Ad1(h:P:=by
 go_ret;exact⟨aF (by first|exact HP.symm|exact he.trans HP.symm),au w _⟩):P:=h
theorem atg.Ad1(h:P:=by
 exact yh):P:=h
theorem agG(h:P:=by
 go_wp2_with fail;refine bodyPost_at (λW' hW'=>?_);obtain⟨⟨r0,r1,r2,r3,r4,r5,r6⟩,_⟩:=eF (show W'.heap[w.heap.size]?=some (.cells (bX 0 0 0 0 0 ⟨#[]⟩ 0) 70 (0,0)) by rw [hW'];exact uq HR);have hbb:aH w W':=by rw [hW'];exact su HB (aER _)
 exact Ad2):P:=h
theorem ath.Ad2(h:P:=by
 exact ahW):P:=h
theorem ati.Ad2(h:P:=by
 exact ahV):P:=h
theorem agH(h:P:=by
 generalize BL s=B at *;generalize MW s=E at *;generalize KD s=X at *;generalize vF s (jg s (kJ s 1))=N2 at *;generalize jg s (kJ s 1)=E2 at *;generalize kN s (kJ s 1)=TX at *;generalize vF s 1=N1 at *;generalize kJ s 1=E1 at *;obtain⟨mK,mF,mT,mI,mL,mk,mN⟩:=m;exact AdJ):P:=h
theorem atj.AdJ(h:P:=by
 have HH0:=Hq (λW (k:dQ g w W)=>HH.keep1 k hg hge);go_in
 go_wp2_with fail;refine(HK _ H).mono ?_;rintro e w1 ⟨rfl,hr1,hk1⟩;have HR1:=Hq (hk1.obj (aEP w _) (show w.heap.size≠g by omega));have yO:=Hq ((dQ.of_below (au w _)).trans hk1);have HA1:=Hq hr1;have hz1:w.heap.size < w1.heap.size:=dx HR1;clear hr1 hk1 HK H;go_upto_region 2 with fail;refine wp_at (λV2 hV=>?_)
 have HS:Hid (OS w V2 g w1.heap.size s 1 (bV (s[0].toNat:Int) 0 ⟨#[]⟩ 0 0 0 0 0 0 ⟨#[]⟩ 0)):=by
  rw [hV];exact⟨aJ HA1 (au w1 _),aJ HR1 (au w1 _),aEP w1 _,yO.trans (dQ.of_below (au w1 _)),hz1⟩
 clear hV HR1 yO HA1;generalize w1.heap.size=o at *;clear w1;by_cases hE0:0<=E1
 case' neg=>
  have hno:OK=false:=ah nA (λhx=>hE0 (by have:=ah HX hx.1;omega));have HNN:=Hq (aAb V2 HS.rd (HH0 _ HS.keep) Aaa);clear hE0;exact ake
 have HNY:=Hq (aAc V2 HS.rd (HH0 _ HS.keep) hE0);go_wp2_with fail;refine HNY.mono ?_;rintro e u0 ⟨rfl,hr,hk⟩;have HT:=Hq (HS.step hr hk hg);clear hr hk HNY HS;have hz0:=dx HT.op;obtain⟨⟨c0,c1,c2,c3,c4,c5,c6,c7,c8,c9,c10⟩,f0,f1,f2,f3,f4,f5,f6,f7,f8,f9,f10⟩:=aK HT.op;go_upto_region 3 with fail;refine wp_at (λV3 hV=>?_);have HS:Hid (OS w V3 g o s E1 (bV (s[0].toNat:Int) N1 ⟨#[]⟩ 0 0 0 0 0 0 ⟨#[]⟩ 0)):=by rw [hV];exact HT.set hg 1 (.int .i64 N1)
 clear hV HT hz0 c0 c1 c2 c3 c4 c5 c6 c7 c8 c9 c10 f0 f1 f2 f3 f4 f5 f6 f7 f8 f9 f10 u0 V2;by_cases hE1:0<=E2
 case' neg=>
  have hno:OK=false:=ah nA (λhx=>hE1 (by have:=ah HX hx.1;omega));have HNN:=Hq (aAo V3 HS.rd (HH0 _ HS.keep) Aaa);clear hE1;exact ake
 have HNY:=Hq (aAp V3 HS.rd (HH0 _ HS.keep) hE1);go_wp2_with fail;refine HNY.mono ?_;rintro e u1 ⟨rfl,hr,hk⟩;have HT:=Hq (HS.step hr hk hg);clear hr hk HNY HS;have hz1:=dx HT.op;obtain⟨⟨c0,c1,c2,c3,c4,c5,c6,c7,c8,c9,c10⟩,f0,f1,f2,f3,f4,f5,f6,f7,f8,f9,f10⟩:=aK HT.op;go_upto_region 4 with fail;refine wp_at (λV4 hV=>?_);have HS:Hid (OS w V4 g o s E2 (bV (s[0].toNat:Int) N1 TX 0 0 0 0 0 0 ⟨#[]⟩ 0)):=by rw [hV];exact HT.set hg 2 (.string TX)
 clear hV HT hz1 c0 c1 c2 c3 c4 c5 c6 c7 c8 c9 c10 f0 f1 f2 f3 f4 f5 f6 f7 f8 f9 f10 u1 V3;by_cases hE2:0<=X
 case' neg=>
  have hno:OK=false:=ah nA (λhx=>hE2 (by have:=ah HX hx.1;omega));have HNN:=Hq (aAd V4 HS.rd (HH0 _ HS.keep) Aaa);clear hE2;exact ake
 have HNY:=Hq (aAe V4 HS.rd (HH0 _ HS.keep) hE2);go_wp2_with fail;refine HNY.mono ?_;rintro e u2 ⟨rfl,hr,hk⟩;have HT:=Hq (HS.step hr hk hg);clear hr hk HNY HS;have hz2:=dx HT.op;obtain⟨⟨c0,c1,c2,c3,c4,c5,c6,c7,c8,c9,c10⟩,f0,f1,f2,f3,f4,f5,f6,f7,f8,f9,f10⟩:=aK HT.op;go_upto_region 5 with fail;refine wp_at (λV5 hV=>?_);have HS:Hid (OS w V5 g o s X (bV (s[0].toNat:Int) N1 TX N2 0 0 0 0 0 ⟨#[]⟩ 0)):=by rw [hV];exact HT.set hg 3 (.int .i64 N2)
 clear hV HT hz2 c0 c1 c2 c3 c4 c5 c6 c7 c8 c9 c10 f0 f1 f2 f3 f4 f5 f6 f7 f8 f9 f10 u2 V4;have hgl:g < V5.heap.size:=aEZ hg HS.keep.size;have HMM:=Hq (HM V5 hgl HS.rd (HH0 _ HS.keep));go_wp2_with fail;refine HMM.mono ?_;rintro e w6 ⟨hcase,hk⟩;have Xv:=Hq hk;clear hk HMM;rcases hcase with⟨hyes,rfl,hr⟩|⟨hnot,p,rfl⟩
 case' inr=>
  have hno:=ah nA hnot;have HKK:=Hq (HS.keep.trans Xv);clear hnot;go_wp2_with fail;exact⟨rfl,.inr ⟨hno,_,rfl⟩,HKK⟩
 have HT:=Hq (HS.step hr Xv hg);have HYE:=Hq hyes;clear hr Xv HS hyes hgl;have hz6:=dx HT.op;obtain⟨⟨c0,c1,c2,c3,c4,c5,c6,c7,c8,c9,c10⟩,f0,f1,f2,f3,f4,f5,f6,f7,f8,f9,f10⟩:=aK HT.op;go_upto_region 6 with fail;refine wp_at (λV6 hV=>?_);have HS:Hid (OS w V6 g o s E (bV (s[0].toNat:Int) N1 TX N2 mK mF mT mI mL mk mN)):=by rw [hV];exact HT.tail hg
 clear hV HT hz6 c0 c1 c2 c3 c4 c5 c6 c7 c8 c9 c10 f0 f1 f2 f3 f4 f5 f6 f7 f8 f9 f10 w6 V5;obtain⟨e0,e1,_,_⟩:=HS.rd.two;obtain⟨⟨c0,c1,c2,c3,c4,c5,c6,c7,c8,c9,c10⟩,f0,f1,f2,f3,f4,f5,f6,f7,f8,f9,f10⟩:=aK HS.op;have hoV:=dx HS.op;have hgV:=dx HS.rd;clear f0 f1 f2 f3 f4 f5 f6 f7 f8 f9 f10;by_cases hEs:E=s.size
 case' neg=>
  have hno:OK=false:=by rw [aGO];intro hy;exact hEs (HG.1 hy).1
  have hq:(E == (s.size:Int))=false:=by simpa using hEs
  have hq2:(E != (s.size:Int))=true:=by simpa using hEs
  clear c0 c1 c2 c3 c4 c5 c6 c7 c8 c9 c10;refine wp_region_quiet_lit Aab Aab ?_;repeat (any_goals (first|go_big_quiet_step (fail)|quiet_step (fail)))
  refine aFy ?_;intro _ hw';obtain⟨nq,hw''⟩:=hw';subst hw'';go_wp2_with fail;refine(HF _ (aJ HS.rd (jB V6 _))).mono ?_;rintro e w9 ⟨rfl,rfl⟩;go_wp2_with fail;exact⟨rfl,.inr ⟨hno,_,rfl⟩,HS.keep.trans (dQ.of_below (jB V6 _))⟩
 have hq:(E == (s.size:Int))=true:=by simpa using hEs
 have hq2:(E != (s.size:Int))=false:=by simpa using hEs
 have HES:=Hq hEs;clear hEs;have x0:=aEQ e0;have x1:=aEQ e1;open anh in exact XL):P:=h
theorem atl.AdJ(h:P:=by
 go_in
 go_wp2_with fail;refine(yD _).mono ?_;rintro e w1 ⟨rfl,hb1⟩;have hR1:=aJ (aEP w _) hb1;have hB1:=(au w _).trans (hb1.mono Aac);clear hb1 yD;go_wp2_with fail;refine(HT1 _).mono ?_;rintro e w2 ⟨rfl,hb2⟩;have hR2:=aJ hR1 hb2;have hB2:=hB1.trans (hb2.mono hB1.size);clear hb2 hR1 hB1 HT1;go_wp2_with fail;refine(Ii _).mono ?_;rintro e w3 ⟨rfl,hb3⟩;have hR3:=aJ hR2 hb3;have hB3:=hB2.trans (hb3.mono hB2.size);clear hb3 hR2 hB2 Ii;go_wp2_with fail;refine(HT2 _).mono ?_;rintro e w4 ⟨rfl,hb4⟩;have hR4:=aJ hR3 hb4;have hB4:=hB3.trans (hb4.mono hB3.size);clear hb4 hR3 hB3 HT2;go_wp2_with fail;refine(HG _).mono ?_;rintro e w5 ⟨rfl,hb5⟩;have XE:=Hq (aJ hR4 hb5);have gX:=Hq (hB4.trans (hb5.mono hB4.size));clear hb5 hR4 hB4 HG;open asT in exact VT):P:=h
theorem aaG(h:P:=by
 have HB2:=Hq (aj HB1 hb1);have HL2:=Hq (vW.trans (hb1.mono vW.size));clear hb1 c0 c1 c2 c3 c4 c5 c6 c7 c8;obtain⟨c0,c1,c2,c3,c4,c5,c6,c7,c8⟩:=nine HB2;exact AcI):P:=h
theorem atm.AcI(h:P:=by
 rcases hcase with rfl|⟨p0,p1,p2,p3⟩
 case' inl=>
  go_wp2_with fail;go_ret;exact⟨-1,rfl,HL2,.inl rfl⟩
 have K2:=Hq (And.intro p2 p3);have q4:decide (z2 < 0)=false:=aES Aaa;clear p2 p3;go_wp2_with fail;refine(HS _ _ HL2 Aaa Aaa).mono ?_;rintro e w3 ⟨z3,rfl,hb1,hcase⟩;open atQ in exact aaJ):P:=h
theorem atn.AcI(h:P:=by
 go_wp2_with fail;refine(HOO _ _ HL2 Aaa).mono ?_;rintro e w3 ⟨rfl,hb1⟩;open atP in exact aaJ):P:=h
theorem ato.AcI(h:P:=by
 cases h2:PS
 case' false=>
  have HP:=Hq (show TT=false by rw [ah HD];simp[h2]);clear h2 HD;go_wp2_with fail;go_ret;exact⟨aF HP.symm,HL2⟩
 cases h3:fJ next
 case' false=>
  have HP:=Hq (show TT=false by rw [ah HD];simp[h3]);have H3:=Hq (λw1=>aO next false w1 h3);clear h3 HD;go_wp2_with (go_at_call 170;refine(H3 _).mono ?_;rintro e w9 ⟨rfl,rfl⟩)
  go_ret;exact⟨aF HP.symm,HL2⟩
 have H3:=Hq (λw1=>aO next true w1 h3);go_wp2_with (go_at_call 170;refine(H3 _).mono ?_;rintro e w9 ⟨rfl,rfl⟩)
 refine(HOT _ HL2 h1).mono ?_;rintro e w3 ⟨rfl,hb1⟩;open atO in exact aaJ):P:=h
theorem agI(h:P:=by
 have rG:Hid (Below B w W'):=wm.trans (fC.below (λx hx=>by have:x=w.heap.size+2:=Aag;omega) (aEU hB wm.size));have xZ:=Hq (Apart.keeps (c:=c) HKA wm.size fC (λx hx=>by have:x=w.heap.size+2:=Aag;omega));clear e4 fC;exact Aez):P:=h
theorem atp.Aez(h:P:=by
 exact⟨A1,ma,mc,rfl,HAT,EP,rG,xZ⟩):P:=h
theorem atq.Aez(h:P:=by
 exact⟨⟨A.k,A.p,a,A.s,A.r,A.ck,A.cp,cp,A.cs,A.cr⟩,some ⟨Z.heap.size,0,none⟩,0,rfl,HAT,λW'' _ i hi=>Aau,rG,xZ⟩):P:=h
theorem agJ(h:P:=by
 have rH:=Hq ((hap _ (ay wu) (by rw [ah Df];omega)).trans wu);have aad:=Hq hat;have yB:=Hq (Pe jO hb5 hap HC9);have hrx:=ay wu;clear hat hb5 hap c0 c1 c2 c3 c4 c5 c6 c7 c8 p0 p1 p2 p3 p4 p5 p6 p7 p8 p9 pz hnl hol jP iJ HOX wu BR HPR;exact Ad5):P:=h
theorem atr.Ad5(h:P:=by
 obtain⟨⟨d0,d1,d2,d3,d4,d5,d6,d7,d8⟩,f0,f1,f2,f3,f4,f5,f6,f7,f8⟩:=iT rH;have hrl:=ay rH;go_wp2_with fail;refine eP (u1:= .slice ma L1.length mc) (u2:= .int .i64 Di) results99 rfl rfl rfl rfl rH (λW' e4 fC=>?_);have HAT:=Hq (λW'' (ho:yA w W' W'')=>aad W'' (ho.out (c:=c) (fC) hrx HC9));have EP:=Hq (λW'' (ho:yA w W' W'')=>ad6 W'' (ho.out (c:=c) (fC) hrx HC9));have rG:Hid (aH w W'):=yB.trans (fC.below (λx hx=>by have:x=w.heap.size+2:=Aag;omega) yB.size);clear e4 fC;exact⟨A2,ma,mc,rfl,HAT,EP,rG⟩):P:=h
theorem att.Ad5(h:P:=by
 have Ob:=Hq (aEP W5 (.cells (dD N1 A2) 39));have yc:=Hq (aj rH (au W5 (.cells (dD N1 A2) 39)));have wm:=Hq (yB.trans ((au W5 (.cells (dD N1 A2) 39)).mono yB.size));obtain⟨c0,c1,c2,c3,c4,c5,c6,c7,c8⟩:=nine Ob;have hnl:=ay Ob;obtain⟨⟨d0,d1,d2,d3,d4,d5,d6,d7,d8⟩,f0,f1,f2,f3,f4,f5,f6,f7,f8⟩:=iT yc;have hrl:=ay yc;go_wp2_with fail;refine eP (u1:= .slice (some ⟨w.heap.size+1+1+1,0,none⟩) 0 0) (u2:= .int .i64 Di) results99 rfl rfl rfl rfl yc (λW' e4 fC=>?_);have HAT:=Hq (λW'' (ho:yA w W' W'')=>aad W'' (ho.out (c:=c) ((aA.of_below (au W5 (.cells (dD N1 A2) 39))).trans fC) hrx HC9));have rG:Hid (aH w W'):=wm.trans (fC.below (λx hx=>by have:x=w.heap.size+2:=Aag;omega) wm.size);clear e4 fC;exact⟨A2,some ⟨w.heap.size+1+1+1,0,none⟩,0,rfl,HAT,λW'' _ i hi=>Aau,rG⟩):P:=h
theorem agK(h:P:=by
 have mixed:prog.follows .mixedOrders=true:=Aab
 have hw1:IntKind.i64.wrap ((i:Int)+1)=(i:Int)+1:=IntWalk.i64_in _ ⟨Aaa,Aaa⟩;have hb1:(0:Int)<=(i:Int)+1:=Aaa
 have hin:i<=l.length:=Aaa
 have htn:((i:Int)+1).toNat=i+1:=Aaa
 exact AdV):P:=h
theorem atu.AdV(h:P:=by
 have hb2:¬(cap=i+1):=Aaa
 have hb3:(i:Int)<=(l.length:Int)+1:=Aaa
 have hb4:¬(cap=i):=Aaa
 have hc63:cap<=9223372036854775807:=Aca
 clear hcs hcl hdl hv hblk htake hcm hr1 abT akE hvr;go_in
 go_wp2_with (simp only[hov])
 go_region_law_o (refine step_copy_runI rfl _ _ 37 37 rfl _ _ Abv Abv (hcp1 _ _ _ _ _ Aaa Aaa) ?_)
 go_wp2_with (at_builtin;refine wpList_copy_runI _ rfl _ _ 37 37 rfl _ _ rfl rfl (hcp2 _ _ _ Aaa) ?_)
 go_ret;exact⟨rfl,hfin.1,hfin.2⟩):P:=h
theorem atv.AdV(h:P:=by
 have hb3:(i:Int)<=(l.length:Int):=Aaa
 have hGi:¬(G=i):=Aaa
 have hGim:¬(G=i+1):=Aaa
 have hci:¬(cap=i):=Aaa
 have hG63:G<=9223372036854775807:=by unfold maxLen at hGm;omega
 have hz3:(cap:Int) < (l.length:Int)+1:=Aaa
 have hA2:=hA ((w.alloc (.cells R 148)).drew) rfl;have hB2:=hB ((((w.alloc (.cells R 148)).drew).setRow w.heap.size (Bq R.toList i q).toArray).drew) rfl;clear hblk hv htake hcell hdl htl hRs hRl hRt hBb hi0 hz0 hz1 hz2 hA hB;go_in
 go_upto_region 10 with(at_builtin;refine Lib.wpList_append_run _ rfl _ _ _ _ rfl _ _ rfl rfl _ _ (hrz _) ?_)
 go_wp2_with (first
  |(at_builtin;refine wpList_copy_runI _ rfl _ _ 37 37 rfl _ _ rfl rfl (hA2 _ _ _ Aaa) ?_))
 go_region_law_o (refine step_copy_runI rfl _ _ 37 37 rfl _ _ Abv Abv (hB2 _ _ _ _ _ Aaa Aaa) ?_)
 go_wp2
 go_ret;obtain⟨f1,f2⟩:=ah zN ((((w.alloc (.cells R 148)).drew).setRow w.heap.size (Bq R.toList i q).toArray).drew) rfl rfl rfl rfl;exact⟨G,_,rfl,hGn,hGm,f1,wJ,OM,f2⟩):P:=h
theorem agL(h:P:=by
 obtain⟨b1,b2,b3,b4,b5,b6,b7,b8⟩:=Y6 h0 h1 hz;have HS:Hid (sPk s0 n=s0+n.kids.length/\sOk s0 n=sPk s0 n+4*n.pu.length/\QX s0 n=sOk s0 n+4*n.out.length/\sRk s0 n=jl (QX s0 n) n.seen/\eO s0 n=sRk s0 n+4*n.reqs.length):=⟨rfl,rfl,rfl,rfl,rfl⟩;exact Aes):P:=h
theorem atw.Aes(h:P:=by
 rw [show sQ s0 n=⟨n.id,n.par,jW mkInt 1 s0 n.kids n.kids.length,n.next,jW gF 4 (sPk s0 n) n.pu n.pu.length,jW iF 4 (sOk s0 n) n.out n.out.length,lF (QX s0 n) n.seen,n.old,jW jV 4 (sRk s0 n) n.reqs n.reqs.length⟩ from rfl] at ha;have HA:=Hq ha;have HZ:=Hq hz;have HB0:=Hq (aEP w (.cells (dD n A) 39));have pY:=Hq (au w (.cells (dD n A) 39));clear ha hz;generalize eO s0 n=EN at *;generalize sPk s0 n=s1 at *;generalize sOk s0 n=s2 at *;generalize QX s0 n=s3 at *;generalize sRk s0 n=s4 at *;have HKK:=Hq (λz W (hb:aH w W) (hz:z=(s0:Int))=>PE A.k G.k A.ck n.kids.length s0 z n.kids W hz rfl Aaa Aaa HZ.k (HA.below hb).k);have XB:=Hq (λz W (hb:aH w W) (hz:z=(s1:Int))=>Ub A.p G.p A.cp n.pu.length s1 z n.pu W hz rfl b1 Aaa HZ.p (HA.below hb).p);have HOO:=Hq (λz W (hb:aH w W) (hz:z=(s2:Int))=>Yv A.o G.o A.co n.out.length s2 z n.out W hz rfl b3 Aaa HZ.o (HA.below hb).o);have HSS:=Hq (λz W (hb:aH w W) (hz:z=(s3:Int))=>Yt A.s G.s A.cs n.seen.length s3 z G.i n.seen W hz rfl b5 b6 HZ.s HZ.sk (HA.below hb).s);have HRR:=Hq (λz W (hb:aH w W) (hz:z=(s4:Int))=>abX A.r G.r A.cr n.reqs.length s4 z n.reqs W hz rfl b7 Aaa HZ.r (HA.below hb).r);have hzk:=HZ.k;have hzp:=HZ.p;have hzo:=HZ.o;have hzs:=HZ.s;have hzr:=HZ.r;clear HA HZ;open an7 in exact vY):P:=h
theorem atx.Aes(h:P:=by
 have HMN:=Hq (show sQ s0 n=⟨n.id,n.par,jW mkInt 1 s0 n.kids n.kids.length,n.next,jW gF 4 (sPk s0 n) n.pu n.pu.length,jW iF 4 (sOk s0 n) n.out n.out.length,lF (QX s0 n) n.seen,n.old,jW jV 4 (sRk s0 n) n.reqs n.reqs.length⟩ from rfl);unfold aN.all at hnd;simp only[aF1,aFb] at hnd;obtain⟨_,⟨_,⟨_,⟨n4,⟨n5,n6,d6⟩,d5⟩,d4⟩,d3⟩,d2⟩:=hnd;have Oz:=Hq (ha.k.below hb0);have HP0:=Hq (ha.p.below hb0);have HO0:=Hq (ha.o.below hb0);have ajH:=Hq (ha.s.below hb0);have VB:=Hq (ha.r.below hb0);have HB0:=Hq (aEP w (.cells (dD n A) 39));have HL:=Hq (And.intro (XJ ha.k) (And.intro (XJ ha.p) (And.intro (XJ ha.o) (And.intro (aaA ha.s) (XJ ha.r)))));have al3:Hid (aA (G.all n) w (w.alloc (.cells (dD n A) 39))):=aA.of_below hb0;have jA:=Hq (λx=>(@aN.mem_all G n x).2);have HZ:=Hq hz;have HD2:=Hq d2;have HD3:=Hq d3;have HD4:=Hq d4;have HD5:=Hq d5;have HD6:=Hq d6;have al7:Hid ((fp G.s n.seen++nI G.i n.seen).Nodup):=aF1.2 ⟨n4,n5,λa ha b hb=>d5 a ha b (.inl hb)⟩;clear ha hz hb0 n4 n5 n6 d2 d3 d4 d5 d6;generalize G.all n=GA at *;generalize sQ s0 n=MN at *;generalize eO s0 n=EN at *;generalize sPk s0 n=s1 at *;generalize sOk s0 n=s2 at *;generalize QX s0 n=s3 at *;generalize sRk s0 n=s4 at *;open an8 in exact vY):P:=h
theorem aaH(h:P:=by
 have f0:=GR.Blk.free gX (k*4);have f1:=GR.Blk.free gX (k*4+1);have f2:=GR.Blk.free gX (k*4+2);have f3:=GR.Blk.free gX (k*4+3);go_wp2_with fail;exact AcO):P:=h
theorem aty.AcO(h:P:=by
 go_roundw
 case rel=>
  have h:=GR.Blk.set gX aW k Aaa ⟨pno,pk,pn,ps⟩;rw [ah TS] at h;exact⟨k+1,Aaa,Aaf,h,GR.setW_below (o:=k*4) (aER w.heap.size) (aL ⟨pno,pk,pn,ps⟩) fO⟩
 case measure=>simp[intOf];omega):P:=h
theorem atz.AcO(h:P:=by
 go_roundw
 case rel=>
  have h:=GR.Blk.set gX aT k Aaa ⟨pi,pt,pk,pn⟩;rw [ah TS] at h;exact⟨k+1,Aaa,Aaf,h,GR.setW_below (o:=k*4) (aER w.heap.size) (aM ⟨pi,pt,pk,pn⟩) fO⟩
 case measure=>simp[intOf];omega):P:=h
theorem atA.AcO(h:P:=by
 go_roundw
 case rel=>
  have h:=GR.Blk.set gX aQ k Aaa ⟨pk,pm,pf,ps⟩;rw [ah TS] at h;exact⟨k+1,Aaa,Aaf,h,GR.setW_below (o:=k*4) (aER w.heap.size) (fA ⟨pk,pm,pf,ps⟩) fO⟩
 case measure=>simp[intOf];omega):P:=h
theorem VW(h:P:=by
 obtain⟨c0,c1,c2,c3,c4,c5,c6,c7,c8,c9⟩:=jT HW1.blk;obtain⟨⟨p0,p1,p2,p3,p4,p5,p6,p7,p8,p9,pz⟩,_⟩:=aK wH;exact AbL):P:=h
theorem atC.AbL(h:P:=by
 have hwl:=ay HW.blk;have hne:wb≠w.heap.size:=Aaa
 exact Kk9):P:=h
theorem atD.AbL(h:P:=by
 go_in
 go_upto_region 1 with fail;have y1:=aEQ c1;open awr in exact aaU):P:=h
theorem atE.AbL(h:P:=by
 go_in
 go_upto_region 3 with fail;have y0:=aEQ c0;have y1:=aEQ c1;open awq in exact aaU):P:=h
theorem atF.AbL(h:P:=by
 have hwl:=ay HW.blk;have hne:wb≠w.heap.size:=Aaa
 go_in
 go_upto_region 1 with fail;have y1:=aEQ c1;have y4:=aEQ c4;open awp in exact aaU):P:=h
theorem agM(h:P:=by
 have HR:Hid (textOf s k (some (n,c))=some (s.extract (k+c) (k+c+n),k+c+n)):=by unfold textOf;exact aE2 hbad
 rw [aFX];have h1:¬1000 < n:=Aaa
 have h2:¬(s.size:Int) - ((k:Int)+(c:Int)) < (n:Int):=Aaa
 exact AcY):P:=h
theorem atH.AcY(h:P:=by
 clear hbad;open au1 in exact aaR):P:=h
theorem atI.AcY(h:P:=by
 have hz:(s.extract (k+c) (k+c+n)).size<=281474976710656:=by rw [aGw];omega
 clear hbad;go_in
 go_wp2_with (first|(go_at_call 266;refine(HS _).mono ?_;rintro e w1 ⟨rfl,rfl⟩;simp only[sU])|(go_at_call 59;refine(clone _ _ hz).mono ?_;rintro e w2 ⟨rfl,hb2⟩))
 go_ret3
 exact⟨by rw [ah HR];simp[uz],hb2⟩):P:=h
theorem agN(h:P:=by
 have ho:=h.own;rw [<-h.len] at ho;obtain⟨a',c',g,e,hW,hg,hgo⟩:=GR.W.of_own (enc:=eX) bE ho;cases e
 rw [h.len] at hgo;have hfe:∀x,x∈fp g l->x∈fp g T2:=λx hx=>by have:=dw hx;rw [this.1];exact dK (by rw [h.len];exact this.2)
 exact Ad8):P:=h
theorem atJ.Ad8(h:P:=by
 refine⟨g,⟨T2,hW,h.len,λi hi=>?_⟩,λx hx=>⟨(hg x (hfe x hx)).1,hgo x (hfe x hx)⟩,λx hx=>?_,?_⟩
 .obtain⟨b,c,e1,e2,_⟩:=h.dn i hi hi;exact⟨b,c,e1,e2⟩
 .obtain⟨i,hi,rfl,hpos⟩:=sV hx;obtain⟨_,_,_,_,e3⟩:=h.dn i hi hi;exact e3 _ (dK hpos)
 .rw [qB];exact λi j hi hj hij h1 h2=>h.nd i j hi hj hij hj h1 h2):P:=h
theorem atK.Ad8(h:P:=by
 refine⟨g,⟨⟨T2,hW,h.len,λi hi=>?_⟩,λhp=>?_⟩,λx hx=>(hg x (hfe x hx)).1,λx hx=>?_,?_⟩
 .obtain⟨b,c,e1,e2,_⟩:=h.dn i hi hi;exact⟨b,c,e1,e2⟩
 .have hx:=hgo g (dK (by rw [h.len];exact hp));rcases h.own.2 with⟨_,hn⟩|⟨g',cap,cur,hv,_,hgg,_⟩
  .omega
  .rw [hv] at hx;have e3:g'=g:=Abl
   rw [e3] at hgg;exact⟨cur,hgg⟩
 .obtain⟨i,hi,rfl,hpos⟩:=sV hx;obtain⟨_,_,_,_,e3⟩:=h.dn i hi hi;have q:=e3 _ (dK hpos);exact⟨q.1,q.2.1,λhm=>q.2.2 (hgo _ (hfe _ hm))⟩
 .rw [qB];exact λi j hi hj hij h1 h2=>h.nd i j hi hj hij hj h1 h2):P:=h
theorem aaI(h:P:=by
 go_in
 go_wp2_with fail;refine HBS.mono ?_;rintro e w1 ⟨rfl,q,rfl⟩;rw [hf];exact AcD):P:=h
theorem atL.AcD(h:P:=by
 go_wp2_with fail;go_ret;exact⟨⟨rfl,rfl,rfl,aER _,λ_ _=>rfl⟩,λ_ _ _ _=>rfl,.inl ⟨by first|trivial|rfl,rfl,HH.drewN⟩⟩):P:=h
theorem atM.AcD(h:P:=by
 clear HBS
 have HIN:=Hq (ak4 B (.slice a l.length cap) (l.map (·.k)) (place l key) key w.heap.size ((w.drewN q).alloc (.cells #[.string key] 9)) (by rw [aFQ];exact mP l key) (by rw [aFQ];exact hl) Aah
  (World.ownsRow.alloc (w:=w.drewN q) HH.row _) (aEP (w.drewN q) _) (λe=>by have:=HR.lt _ e;omega))
 go_wp2_with fail;refine HIN.mono ?_;rintro e w2 ⟨v',rfl,hown,hgr⟩;rw [aFQ,acv,<-Dp l key] at hown;obtain⟨g',cap',rfl,_,_⟩:=hown.form (by rw [Dp];omega)
 have hlt:∀k,k < w.heap.size->(Value.slice a l.length cap).ownBlock≠some k->w2.heap[k]?=w.heap[k]?:=λk hk hne=>by
  rw [hgr.block k Aah (Ne.symm hne)]
  exact aE4 (w.drewN q) _ _ hk
 have hm2:w2.heap[mp]?=some (.cells #[.slice a l.length cap,.map (some mb)] 356 (0,0)):=by rw [hlt mp hmp (own_ne (ah HR) (ah HH).blk Aae)];exact HH.blk
 have hb2:w2.heap[mb]?=w.heap[mb]?:=by
  obtain⟨es,clock,hbk⟩:=HH.map.blk;exact hlt mb hmb (zn HR hbk)
 have hbw:Below B w w2:=by
  refine⟨hgr.os,hgr.tape,hgr.output,aEU Aac hgr.size,λk hk=>hlt k Aaa (λe=>?_)⟩;have:=HR.lt _ e;omega
 have HO:=Hq hown;have Vw:=Hq hm2;have HB2:=Hq hb2;have iQ:=Hq hbw;have HLT:=Hq hlt;obtain⟨⟨n0,n1⟩,g0,g1⟩:=mW hm2;clear hown hgr hlt hm2 hb2 hbw HIN n1 g1;go_wp2_with fail;go_ret;refine⟨iQ.setCell (p:=⟨mp,0,none⟩) HH.lop _,λk hk hne1 hne2=>Fo.one_other (HLT k hk hne2) hne1,.inr (.inr ⟨by first|trivial|rfl,Aaa,rfl,.slice (some ⟨g',0,none⟩) (Qh l key).length cap',?_,?_,?_,HH.lop,HH.lom⟩)⟩
 .exact Fo.blk_set Vw 0 _
 .refine HO.kept (w':=w2.setCell ⟨mp,0,none⟩ _) (row:=some mp) ⟨rfl,rfl,rfl,by rw [Fo.setCell_size];exact aER _,λk _ hne=>Fo.one_other rfl (λe=>hne Aap)⟩ (.inr (own_ne HO Vw Aae))
 .refine HH.map.kept ?_;rw [Fo.one_other (ah HB2) (Ne.symm (ah HH).mpmb)]):P:=h
theorem atN.AcD(h:P:=by
 go_wp2_with fail;go_ret;exact⟨⟨rfl,rfl,rfl,aER _,λ_ _=>rfl⟩,λ_ _ _ _=>rfl,.inr (.inl ⟨by first|trivial|rfl,H20,rfl⟩)⟩):P:=h
theorem aaJ(h:P:=by
 have HB3:=Hq (aj HB2 hb1);have sH:=Hq (HL2.trans (hb1.mono HL2.size));clear hb1 c0 c1 c2 c3 c4 c5 c6 c7 c8;obtain⟨c0,c1,c2,c3,c4,c5,c6,c7,c8⟩:=nine HB3;exact AcH):P:=h
theorem atO.AcH(h:P:=by
 cases h4:OT
 case' false=>
  have HP:=Hq (show TT=false by rw [ah HD];simp[h4]);clear h4 HD;go_wp2_with fail;go_ret;exact⟨aF HP.symm,sH⟩
 go_wp2_with fail;refine(HSE _ sH h1).mono ?_;rintro e w4 ⟨rfl,hb1⟩;open auu in exact aaN):P:=h
theorem atP.AcH(h:P:=by
 go_wp2_with fail;refine(HSS _ _ sH Aaa).mono ?_;rintro e w4 ⟨rfl,hb1⟩;open aut in exact aaN):P:=h
theorem atQ.AcH(h:P:=by
 rcases hcase with rfl|⟨p0,p1,p2,p3⟩
 case' inl=>
  go_wp2_with fail;go_ret;exact⟨-1,rfl,sH,.inl rfl⟩
 have K3:=Hq (And.intro p2 p3);have q5:decide (z3 < 0)=false:=aES Aaa;clear p2 p3;go_wp2_with fail;refine(HR _ _ sH Aaa Aaa).mono ?_;rintro e w4 ⟨z4,rfl,hb1,hcase⟩;open aus in exact aaN):P:=h
theorem agO(h:P:=by
 clear hat hmt hb5;have hwp:wr.heap.size<=y5.heap.size:=HG2.size;refine tk [6,7,8,9] ?_;iterate 4 (refine EI 20 (QS _) (λK hK=>?_);go_simp;first|refine hK _ ?_|(apply Exists.intro;refine⟨λ_=>?_,hK _ ?_⟩;rfl);clear hK K)
 refine jh ?_;clear hwp;exact Ac2):P:=h
theorem atS.Ac2(h:P:=by
 refine jk 10 rfl Aab Aad Aae (λx10 Mj=>?_);have Ir:=Hq (Ge.trans HG2 Mj);have HD3:=Hq (show Ge y5 x10 from Mj);go_simp;refine⟨(au x10 _).mono Ir.size,?_⟩;have hqd:x10.heap.size < x5.heap.size\/y5.heap.size<=x10.heap.size:= .inr HD3.size;have hqV:wr.heap.size<=x10.heap.size:=Ir.size;have HGf:=Hq (Ge.trans Ir (au x10 (.cells lC 39)));have HDf:=Hq (Ge.trans HD3 (au x10 (.cells lC 39)));have HQf:=Hq (aEP x10 (.cells lC 39));clear Mj Ir HD3;generalize x10.heap.size=qf at *;exact axB):P:=h
theorem atT.Ac2(h:P:=by
 have HGf:=HG2;have HDf:=Hq (aE3 y5.heap.size y5);have HQf:=HQ2;exact axB):P:=h
theorem aaK(h:P:=by
 rw [<-hW] at e1 e2 e3 e4;have HN:=Hq e1;have HO:=Hq e2;have HR:=Hq e3;have HB0:=Hq e4;have Iw:=Hq (nA.kc (k:=9) (KC.of_below e4) Aaa);exact AcL):P:=h
theorem atU.AcL(h:P:=by
 clear hW e1 e2 e3 e4 nA;open arF in exact agl):P:=h
theorem atV.AcL(h:P:=by
 clear hW e1 e2 e3 e4;open arE in exact agl):P:=h
theorem atW.AcL(h:P:=by
 clear hW e1 e2 e3 e4 nA;obtain⟨⟨p0,p1,p2,p3,p4,p5,p6,p7,p8,p9,pz⟩,_⟩:=aK HO;have hol:=ay HO;obtain⟨c0,c1,c2,c3,c4,c5,c6,c7,c8⟩:=nine HN;obtain⟨⟨d0,d1,d2,d3,d4,d5,d6,d7,d8⟩,f0,f1,f2,f3,f4,f5,f6,f7,f8⟩:=iT HR;have hnl:=ay HN;have hrl:=ay HR;go_wp2_with fail;refine kR results128 rfl rfl rfl HR (λW' e4 fC=>?_);have HAT:=Hq (λW'' (ho:Out c w W' W'')=>(Iw.kc (k:=9) ((KC.keeps fC (λx hx=>by have:x=w.heap.size+2:=Aag;rw [this];exact aY Aaa)).trans (KC.out H9 ho)) Aaa).rm);have rG:Hid (Below B w W'):=(HB0.mono hB).trans (fC.below (λx hx=>by have:x=w.heap.size+2:=Aag;omega) (aEU hB (HB0.mono hB).size));have xZ:=Hq (Apart.keeps (c:=c) (Apart.of_below (HB0)) (HB0.mono hB).size fC (λx hx=>by have:x=w.heap.size+2:=Aag;omega));clear e4 fC;exact⟨A,rfl,HAT,rG,xZ⟩):P:=h
theorem VY(h:P:=by
 refine wp_at (λW hW=>?_);have iQ:Hid (aH w W):=by rw [hW];first|exact jL w _ _|exact(jL w _ _).drew
 exact AbD):P:=h
theorem atY.AbD(h:P:=by
 have hX:W.heap[w.heap.size+1]?=some (.cells (bV 2 no ⟨#[]⟩ 0 0 0 0 0 0 ⟨#[]⟩ 0) 73 (0,0)):=Abo
 have hY:W.heap[w.heap.size]?=some (.cells (bV 2 no k n mK mF mT mI mL mk mN) 73 (0,0)):=Abp
 open auY in exact aaQ):P:=h
theorem atZ.AbD(h:P:=by
 have hX:W.heap[w.heap.size+1]?=some (.cells (bV 5 0 ⟨#[]⟩ 0 0 0 0 0 0 ⟨#[]⟩ 0) 73 (0,0)):=Abo
 have hY:W.heap[w.heap.size]?=some (.cells (bV 5 no k n mK mF mT mI mL mk mN) 73 (0,0)):=Abp
 open asD in exact agx):P:=h
theorem at6.AbD(h:P:=by
 have hX:W.heap[w.heap.size+1]?=some (.cells (bV 1 no k n 0 0 0 0 0 ⟨#[]⟩ 0) 73 (0,0)):=Abo
 have hY:W.heap[w.heap.size]?=some (.cells (bV 1 no k n mK mF mT mI mL mk mN) 73 (0,0)):=Abp
 open auX in exact aaQ):P:=h
theorem at7.AbD(h:P:=by
 exact AbS):P:=h
theorem agP(h:P:=by
 generalize l[k]=x at *;generalize m[k]=y at *;obtain⟨x0,x1,x2,x3⟩:=x;obtain⟨y0,y1,y2,y3⟩:=y;dsimp only at s0 s1 s2 s3 t0 t1 t2 t3;clear hk2;by_cases hx:x0=y0
 case' neg=>
  have hq:(x0 == y0)=false:=Aag
  exact abh
 subst hx;exact Adt):P:=h
theorem aua.Adt(h:P:=by
 by_cases hx:x1=y1
 case' neg=>
  have hq:(x1 == y1)=false:=Aag
  exact abh
 subst hx;by_cases hx:x2=y2
 case' neg=>
  have hq:(x2.toList == y2.toList)=false:=C9 hx;have hr:¬x2.toList=y2.toList:=Abh
  exact akg
 exact axP):P:=h
theorem aub.Adt(h:P:=by
 by_cases hx:x1=y1
 case' neg=>
  have hq:(x1.toList == y1.toList)=false:=C9 hx;have hr:¬x1.toList=y1.toList:=Abh
  exact akg
 exact ait):P:=h
theorem agQ(h:P:=by
 cases hx1:uY x
 case' false=>
  exact axy
 by_cases hx2:x=id
 case' pos=>
  exact axt
 have hy2:(x == id)=false:=by simp[hx2]
 by_cases hx3:x=par
 case' pos=>
  exact axr
 have hy3:(x == par)=false:=by simp[hx3]
 exact Adg):P:=h
theorem auc.Adg(h:P:=by
 by_cases hx4:y < x
 case' neg=>
  have hy4:decide (x<=y)=true:=aET Aaa;have HP:=Hq (HBAD (by rw [ah iJ];simp[kU,iR,hx4]));clear HBAD iJ;exact aey
 have hy4:decide (x<=y)=false:=aES Aaa;have HG:=Hq (show ig (kU id par) iR (kids.take (j+1+1))=true by rw [ah iJ];simp[kU,hx1,hx2,hx3,iR,hx4]);clear HBAD iJ;open ao7 in exact ajW):P:=h
theorem aud.Adg(h:P:=by
 have HG:=Hq (show ig (kU id par) iR (kids.take (0+1))=true by rw [ah iJ];simp[kU,hx1,hx2,hx3]);clear HBAD iJ;open ao8 in exact ajW):P:=h
theorem agR(h:P:=by
 obtain⟨R,hR⟩:∃R,bQ ⟨6,no,k,n,m⟩=R:=⟨_,rfl⟩;rw [hR];have HP:=Hq (show R=(decide (k.toList=[])&&decide (n=0)&&decide (no=0)&&bY m) by rw [<-hR];simp[bQ]);clear hR;generalize bY m=OK at *;obtain⟨mK,mF,mT,mI,mL,mk,mN⟩:=m;exact Aee):P:=h
theorem aue.Aee(h:P:=by
 have HX:=Hq (aEP (w.alloc (.cells (bV 6 no k n mK mF mT mI mL mk mN) 73)) (.cells (bV 6 0 ⟨#[]⟩ 0 0 0 0 0 0 ⟨#[]⟩ 0) 73));have HY:=Hq (aJ (aEP w (.cells (bV 6 no k n mK mF mT mI mL mk mN) 73)) (au _ (.cells (bV 6 0 ⟨#[]⟩ 0 0 0 0 0 0 ⟨#[]⟩ 0) 73)));rw [show(w.alloc (.cells (bV 6 no k n mK mF mT mI mL mk mN) 73)).heap.size=w.heap.size+1 by simp] at HX;go_in
 go_wp2_with fail;refine(HM _).mono ?_;rintro e w1 ⟨rfl,hb1⟩;have zK:=Hq (aJ HX hb1);have XH:=Hq (aJ HY hb1);have HB1:=Hq ((jL w _ _).trans (hb1.mono Aah));clear hb1 HX HY;obtain⟨x0,x1,x2,x3,x4,x5,x6,x7,x8,x9,x10⟩:=Ey zK;obtain⟨y0,y1,y2,y3,y4,y5,y6,y7,y8,y9,y10⟩:=Ey XH;have f4:=vC zK 4;have f5:=vC zK 5;have f6:=vC zK 6;have f7:=vC zK 7;have f8:=vC zK 8;have f9:=vC zK 9;have f10:=vC zK 10;cases hOK:OK
 .go_wp2_with fail
  all_goals
   go_ret
   refine⟨aF ?_,?_⟩
   .rw [ah HP];simp[hOK]
   .exact OY
 have HKK:=Hq hOK;clear hOK;by_cases hno:no=0
 case' neg=>
  have hno':¬(0:Int)=no:=λe=>hno e.symm
  go_wp2_with fail
  all_goals
   go_ret
   refine⟨aF ?_,?_⟩
   .rw [ah HP];simp[hno]
   .exact OY
 subst hno;by_cases hk:k.toList=[]
 case' neg=>
  go_wp2_with fail
  all_goals
   go_ret
   refine⟨aF ?_,?_⟩
   .rw [ah HP];simp[hk]
   .exact OY
 by_cases hn:n=0
 case' neg=>
  have hn':¬(0:Int)=n:=λe=>hn e.symm
  go_wp2_with fail
  all_goals
   go_ret
   refine⟨aF ?_,?_⟩
   .rw [ah HP];simp[hn,hk]
   .exact OY
 subst hn;go_wp2_with fail
 all_goals
  go_ret
  refine⟨aF ?_,?_⟩
  .rw [ah HP];simp[hk,ah HKK]
  .exact OY):P:=h
theorem auf.Aee(h:P:=by
 go_in
 go_wp2_with (go_at_call 152;refine(HM _).mono ?_;rintro e w1 ⟨rfl,hb1⟩;have HB1:=Hq hb1;clear hb1)
 all_goals
  go_ret
  refine⟨aF ?_,by first|exact au w _|exact(au w _).trans (HB1.mono Aac)⟩
  rw [ah HP]
  simp[*]):P:=h
theorem aaL(h:P:=by
 obtain⟨K,no,k,nn,⟨mK,mF,mT,mI,mL,mk,mN⟩⟩:=o;have HW1:=Hq (h.step (au w (.cells (bV K no k nn mK mF mT mI mL mk mN) 73)));exact Ab1):P:=h
theorem aug.Ab1(h:P:=by
 have hq2:(n.par == -1)=true:=Abg
 clear h hR HSY hpar;obtain⟨c0,c1,c2,c3,c4,c5,c6,c7,c8,c9⟩:=jT HW1.blk;go_in
 go_wp2_with fail;go_ret;exact⟨rfl,c,v,HW1⟩):P:=h
theorem auh.Ab1(h:P:=by
 have hwl:=ay h.blk;have hne:wb≠w.heap.size:=Aaa
 have HBO:=Hq (show Below w0.heap.size w0 (w.alloc (.cells (bV K no k nn mK mF mT mI mL mk mN) 73)) from HW1.keep);have HSA:=Hq (λW c v L' (hW:WK w0 W wb n A G c v L')=>hW.no.at.o);clear h hz;generalize qU n=PM at *;obtain⟨ak,ap,ao,as',ar,ck,cp,co,cs,cr⟩:=A;obtain⟨c0,c1,c2,c3,c4,c5,c6,c7,c8,c9⟩:=jT HW1.blk;go_in
 go_wp2_with fail;go_loopw [13] (λi wr=>∃(k:Nat) (c':Nat->Nat) (v':Value),k<=n.out.length/\i= .int .i64 k/\WK w0 wr wb n ⟨ak,ap,ao,as',ar,ck,cp,co,cs,cr⟩ G c' v' (L++(n.out.take k).map PM)) (λi _=>n.out.length - (intOf i).toNat)
 case atStart=>exact⟨0,c,v,aE7 _,rfl,by simpa using ah HW1⟩
 case round=>
  obtain⟨k,cc,vv,hk,rfl,hS⟩:=hrel;have zJ:=Hq hS;clear hS c0 c1 c2 c3 c4 c5 c6 c7 c8 c9;have hwr:=ay zJ.blk;by_cases hlt:k < n.out.length
  .obtain⟨g,off,e0,hg,q0,q1,q2,q3⟩:=SentAt.four (HSA wr cc vv _ zJ) k hlt;have HKk:=Hq (HKK n.out[k] (aE8 hlt));have HT:=Hq (show L++(n.out.take (k+1)).map PM=L++(n.out.take k).map PM++[PM n.out[k]] by rw [aE0 hlt,List.map_append,aFx];rfl);have ajD:=Hq (IG n.out[k]);generalize n.out[k]=sk at *;generalize PM sk=mk' at *;obtain⟨si,st,sx,sn⟩:=sk;obtain⟨qK,qF,qT,qI,qL,qk,qN⟩:=mk';dsimp only at q0 q1 q2 q3 HKk e0;subst e0;go_upto_region 4 with fail;refine wp_at (λW3 hW3=>?_);have HR3:Hid (W3.heap[wr.heap.size]?=some (.cells (gN si st sx sn) 145 (0,0))):=by rw [hW3];exact aEP _ _
   have vQ:Hid (WK w0 W3 wb n ⟨ak,ap,some ⟨g,off,none⟩,as',ar,ck,cp,co,cs,cr⟩ G cc vv (L++(n.out.take k).map PM)):=by rw [hW3];exact zJ.step (au wr _)
   clear hW3 q0 q1 q2 q3;have aAl:=Hq (λp:Regrown=>ajD (Gr W3 p) (GR.At.below (HSA W3 cc vv _ vQ) (aFl W3 p.d p.os)));have hr3:=ay HR3;have hw3:=ay vQ.blk;have hnr:wb≠wr.heap.size:=Aaa
   obtain⟨c0,c1,c2,c3,c4,c5,c6,c7,c8,c9⟩:=jT vQ.blk;obtain⟨d0,d1,d2,d3⟩:=iI HR3;open anf in exact XL
  .open avt in exact ahe):P:=h
theorem aui.Ab1(h:P:=by
 have hq2:(n.par == -1)=true:=Abg
 clear h hR IG hpar;obtain⟨c0,c1,c2,c3,c4,c5,c6,c7,c8,c9⟩:=jT HW1.blk;go_in
 go_upto_region 1 with fail;have y1:=aEQ c1;clear c0 c1 c2 c3 c4 c5 c6 c7 c8 c9;refine bZ Aab ?_;show iZ _ _ _ _ 20 (Array.replicate 20 false) _ _
 refine tk [0,1,2,3,4,5,6,7,8,9,10,11,12,13,14,15,16,17,18,19] ?_;iterate 20 (refine lW (λK hK=>?_);go_simp;refine hK _ ?_;clear hK K)
 refine jh ?_;refine dW Aab (λz hz=>?_);have HZ:=Hq (HW1.step hz);clear hz y1;exact aiS):P:=h
theorem agS(h:P:=by
 have kQ:=Hq (aj nD hb2);have BQ:=Hq (aj Sz hb2);have nK:=Hq (aj BU hb2);have HB2:=Hq (HB1.trans (hb2.mono HB1.size));exact Ac3):P:=h
theorem auj.Ac3(h:P:=by
 have al8:=Hq (Xy.kc (k:=9) (KC.of_below hb2) Aaa);have amw:=Hq (ajK.below hb2);have hilt:∀x∈fp (G.i i) s0.ids,x < sb:=λx hx=>by rw [<-hsb];exact XJ ajK x hx
 rw [hsb] at *;clear hW2 hb2 hs2 u0 u1 u2 c0 c1 c2 c3 c4 c5 c6 c7 c8 hnl nD Sz BU HB1 Xy ajK;obtain⟨m0,m1,m2,m3,m4,m5,m6⟩:=jS BQ;obtain⟨s00,s01,s02⟩:=Da XG;have sf:=aC XG 1;have hml:=ay BQ;have hsl2:=ay XG;go_upto_if 35 with fail;go_cut [8] from 15 (λp wx=>p= .pointer (some ⟨sb,0,none⟩)/\wx.heap[sb]?=some (.cells #[.int .i64 mF,.int .i64 (gu s0 mL),.slice bi s0.ids.length ci] 130 (0,0))/\aA [sb] W2 wx)
 case first=>
  by_cases hlow:s0.l < mL
  .have hd:decide (s0.l < mL)=true:=aET hlow;have HLW:=Hq (show gu s0 mL=mL from aFc hlow);go_wp2_with fail;go_meet
   case rel=>exact⟨rfl,by rw [ah HLW];exact aP XG 1 _,aA.set _⟩
  .have hd:decide (s0.l < mL)=false:=aES hlow;have HLW:=Hq (show gu s0 mL=s0.l from aE2 hlow);go_wp2_with fail;go_meet
   case rel=>exact⟨rfl,by rw [ah HLW];exact XG,aA.refl _ _⟩
 case rest=>
  obtain⟨rfl,hs3,hk3⟩:=hcut;clear m0 m1 m2 m3 m4 m5 m6 s00 s01 s02 sf hml hsl2;go_upto_region 7 with fail;refine wp_at (λW3 hW3=>?_);subst hW3;have ael:=Hq hs3;have sZ:=Hq (hk3.obj kQ (λhx=>Aak));have Xx:=Hq (hk3.obj BQ (λhx=>Aak));have qH:=Hq (hk3.obj nK (λhx=>Aak));have HB3:=Hq (HB2.trans (hk3.below (B:=w.heap.size) (λx hx=>Aak) HB2.size));have al9:=Hq (al8.kc (k:=9) (KC.keeps hk3 (λx hx=>by have:x=sb:=Aag;rw [this];exact aY Aaa)) Aaa);have amx:=Hq (amw.keeps hk3 (λx hx hm=>by have h1:=hilt x hx;simp at hm;omega));clear hs3 hk3 kQ BQ nK HB2 al8 amw XG;have aEf:=ay ael;obtain⟨i0,hi0,hz0,hz1',hz2⟩:=aFt xL;go_upto_block 2 with fail;go_cut [9] from 15 (λv wx=>∃g cp,v= .slice (some ⟨g,0,none⟩) (cu s0 mL).length cp/\wx.ownsRow W3.heap.size 3 1 v (cu s0 mL).length (GR.flat bg (cu s0 mL))/\(cu s0 mL=[]->cp=0)/\aH W3 wx)
  case first=>
   go_wp2_with fail;go_loopw [9,10] (λv j wr=>∃k g cp:Nat,k<=s0.ids.length/\j= .int .i64 k/\v= .slice (some ⟨g,0,none⟩) (qc s0 mL k).length cp/\wr.ownsRow W3.heap.size 3 1 v (qc s0 mL k).length (GR.flat bg (qc s0 mL k))/\(qc s0 mL k=[]->cp=0)/\aH W3 wr) (λ_ j _=>s0.ids.length - (intOf j).toNat)
   case atStart=>exact⟨0,_,_,aE7 _,rfl,rfl,aFC _ #[] 0 (aER _) Aae rfl,λ_=>rfl,au _ _⟩
   case round=>
    obtain⟨k,g,cp,hk,rfl,rfl,hown,ayG,hbel⟩:=hrel;have ajr:=Hq ayG;clear ayG;have aZ:=Hq hbel;obtain⟨_,s31,s32⟩:=Da (aj ael hbel);clear hbel;by_cases hlt:k < s0.ids.length
    .obtain⟨eb,hgb,hcell⟩:=(amx.below aZ) k hlt;open arG in exact agm
    .have hke:k=s0.ids.length:=Aaa
     subst hke;have hd:decide ((s0.ids.length:Int) < (s0.ids.length:Int))=false:=Aac
     rw [Cq] at hown ajr;have aEh:(Value.slice (some ⟨g,0,none⟩) (qc s0 mL s0.ids.length).length cp)= .slice (some ⟨g,0,none⟩) (cu s0 mL).length cp:=by rw [Cq]
     rw [Cq];go_wp2_with fail;go_meet
     case rel=>exact⟨g,cp,rfl,hown,ajr,aZ⟩
  case rest=>
   obtain⟨gi,Ye,rfl,AA,aCf,hb4⟩:=hcut;have aar:=Hq (aj ael hb4);have DX:=Hq (aj sZ hb4);have al5:=Hq (aj Xx hb4);have SH:=Hq (aj qH hb4);have nC:=Hq (HB3.trans (hb4.mono HB3.size));have ajx:=Hq (al9.kc (k:=9) (KC.of_below hb4) Aaa);have hgi:W3.heap.size<=gi:=(AA.lt gi rfl).1;have aCn:gi < wc.heap.size:=(AA.lt gi rfl).2
   have aDN:(cu s0 mL).length<=Ye:=by
    rcases AA.2 with⟨h1,_⟩|⟨g1,aDD,aDE,hv1,_,_,aD8,_⟩
    .simp at h1
    .simp only[aFN] at hv1;omega
   have aEg:=ay aar;have hIL:(cu s0 mL).length<=1000:=aEU (aGK _ _) hil;have Sk:WO (wc.setCell ⟨sb,2,none⟩ (.slice (some ⟨gi,0,none⟩) (cu s0 mL).length Ye)) (some ⟨gi,0,none⟩) Ye gi (cu s0 mL):=(WO.of_own (agk aX AA) AA aCf).keeps (aA.set _) (λx hx hm=>by have h1:=(dw hx).1;simp at hm;omega);have BR:=Hq (ajx.kc (k:=9) (w':=wc.setCell ⟨sb,2,none⟩ (.slice (some ⟨gi,0,none⟩) (cu s0 mL).length Ye)) (KC.set (aY Aaa)) Aaa);have Xz:=Hq (BR.seenPut i hi ⟨mF,gu s0 mL,cu s0 mL⟩ (some ⟨gi,0,none⟩) Ye gi Sk (λx hx=>by rw [(dw hx).1];exact aY Aaa));have aDW:G.s≠w.heap.size:=Aaa
   obtain⟨T,hT,hlT,hrT⟩:=ajx.s;obtain⟨_,_,hcT⟩:=hT i Aaa;open anP in exact awQ):P:=h
theorem auk.Ac3(h:P:=by
 have Ii:=Hq (yD.kc (k:=9) (KC.of_below hb2) Aaa);clear hb2 Sz BU nD HB1 yD;clear m0 m1 m2 m3 m4 m5 m6 c0 c1 c2 c3 c4 c5 c6 c7 c8 hml hnl R6;obtain⟨m0,m1,m2,m3,m4,m5,m6⟩:=jS BQ;exact Kk3):P:=h
theorem aaM(h:P:=by
 have HW1:=Hq (h.step (au w (.cells (bX mK mF mT mI mL mk mN) 70)));have wH:=Hq (aEP w (.cells (bX mK mF mT mI mL mk mN) 70));exact AbZ):P:=h
theorem aul.AbZ(h:P:=by
 have hwl:=ay h.blk;have hne:wb≠w.heap.size:=Aaa
 have SK:=Hq (λp:Regrown=>HW1.no.at.below (aFl _ p.d p.os));clear h hp hz;obtain⟨c0,c1,c2,c3,c4,c5,c6,c7,c8,c9⟩:=jT HW1.blk;obtain⟨p0,p1,p2,p3,p4,p5,p6⟩:=jS wH;open ang in exact XL):P:=h
theorem aum.AbZ(h:P:=by
 clear h;obtain⟨c0,c1,c2,c3,c4,c5,c6,c7,c8,c9⟩:=jT HW1.blk;have hwl:=ay HW.blk;have hne:wb≠w.heap.size:=Aaa
 go_in
 go_wp2_with fail;refine(HIX w.heap.size _ HW1.no.at.s wH).mono ?_;rintro e w2 ⟨rfl,hb2⟩;have HW2:=Hq (HW1.step hb2);have rF:=Hq (aj wH hb2);have HJ2:Hid (∀j mm,jY w j mm->jY w2 j mm):=λj mm hj=>aj (aj hj (au w _)) hb2
 clear hb2 HW1 wH HIX c0 c1 c2 c3 c4 c5 c6 c7 c8 c9;obtain⟨c0,c1,c2,c3,c4,c5,c6,c7,c8,c9⟩:=jT HW2.blk;obtain⟨g,off,b,cc,e0,hg,q0,q1,q2,yt⟩:=HW2.no.at.s i hi;rw [ah Il] at q0 q1 q2 yt;have HSO:=Hq (setOf s0.f s0.l b cc s0.ids w2 aek.2.2.1 (λx hx=>by have:=aek.2.2.2.1 x hx;have:=aek.1;omega) yt);have akV:=ay HW2.blk;have hiI:(i:Int) < (n.seen.length:Int):=Aaa
 clear yt;rw [e0] at c6;go_wp2_with fail;refine HSO.mono ?_;rintro e w3 ⟨sb,mb,rfl,hsb,hmb,hS3,Si,hb3⟩;have HW3:Hid (rJ w0 w3 wb sb mb s0.ids.length n A G (newC w2.heap.size 9 c) v L s0.l s0.ids):=⟨(HW2.recol (c':=newC w2.heap.size 9 c) (λx hx=>fE hx)).step hb3,hS3,Si,aY hsb,aY hmb⟩;have SE:=Hq (aj rF hb3);have HJ3:Hid (∀j mm,jY w j mm->jY w3 j mm):=λj mm hj=>aj (HJ2 j mm hj) hb3
 have aB9:w.heap.size≠sb:=by have:=ay rF;omega
 have ayA:w.heap.size≠mb:=by have:=ay rF;omega
 clear hS3 Si hb3 hsb hmb q0 q1 q2 e0 HSO c0 c1 c2 c3 c4 c5 c6 c7 c8 c9;obtain⟨⟨p0,p1,p2,p3,p4,p5,p6⟩,_⟩:=eF SE;have hpl:=ay SE;go_wp2_with fail;refine(afp sb mb s0.ids.length s0.l mL (gu s0 mL) s0.ids w3 HMX HW3.bk HW3.si).mono ?_;rintro e w4 ⟨rfl,hS4,hI4,hk4⟩;have HW4:=Hq (HW3.lift hS4 hI4 hk4);have R8:=Hq (hk4.obj SE (by simp[aB9,ayA]))
 have HJ4:Hid (∀j mm,jY w j mm->jY w4 j mm):=λj mm hj=>hk4.obj (HJ3 j mm hj) (by
  have h1:=Ux (HJ3 j mm hj) HW3.bk
  have h2:=HW3.si.far (HJ3 j mm hj)
  simp[h1,h2])
 clear hS4 hI4 hk4 p0 p1 p2 p3 p4 p5 p6 hpl HJ2 HJ3;obtain⟨⟨p0,p1,p2,p3,p4,p5,p6⟩,_⟩:=eF R8;have hpl:=ay R8;go_wp2_with fail;refine(akD sb mb s0.ids.length (gu s0 mL) mI (cu s0 mL) w4 hI0 hI1 HW4.bk HW4.si).mono ?_;rintro e w5 ⟨rfl,hb5⟩;have HW5:=Hq (HW4.step hb5);have JQ:=Hq (aj R8 hb5);have HJ5:Hid (∀j mm,jY w j mm->jY w5 j mm):=λj mm hj=>aj (HJ4 j mm hj) hb5
 have hhs:(decide (mI < gu s0 mL)||decide (mI∈cu s0 mL))=tF s0 mL mI:=by
  unfold tF;congr 1
  rw [aF7,aFu,Au]
 rw [hhs];clear hhs hb5 p0 p1 p2 p3 p4 p5 p6 hpl HW4 R8 HW3 SE;cases hq:tF s0 mL mI
 case' true=>
  have HQ:=Hq hq;clear hq;go_wp2_with fail;obtain⟨n',A',G',c',kk,l2,HWS,adY,HLEN,HSL,HTE⟩:∃(n':Nd) (A':bq) (G':aN) (c':Nat->Nat) (kk:Nat) (l2:List Int),Hid (rJ w0 w5 wb sb mb kk n' A' G' c' v L (gu s0 mL) l2)/\Hid (l2.Pairwise (· < ·))/\Hid (l2.length<=1000)/\Hid (n'.seen.length=n.seen.length)/\Hid (TT=(dX n' (n'.seen.set i ⟨mF,gu s0 mL,l2⟩),true)):=⟨n,A,G,_,_,_,HW5,DW.2.2.2.2,aEU DW.2.2.1 Aaa,rfl,HTH HQ⟩;have eY:=Hq JQ;have HJW:=Hq HJ5;clear HTH SK HTN HGS HGF HQ HW5 JQ HW2 rF;exact Zk1
 have HQ:=Hq hq;clear hq;obtain⟨⟨p0,p1,p2,p3,p4,p5,p6⟩,_⟩:=eF JQ;have hpl:=ay JQ;have hnd:(cu s0 mL).Nodup:=DW.2.2.2.2.imp (λh=>Aaa);have HND:=Hq hnd;clear hnd;by_cases hf:(cu s0 mL).length=40
 case' pos=>
  have HF:=Hq hf;clear hf;go_wp2_with fail;refine(HGF w5 sb mb _ A G _ _ _ HND HF HW5).mono ?_;rintro e w6 ⟨rfl,hb6⟩;have eY:=Hq (aj JQ hb6);have HJW:Hid (∀j mm,jY w j mm->jY w6 j mm):=λj mm hj=>aj (HJ5 j mm hj) hb6
  have lD:Hid (mH n s0 ⟨mK,mF,mT,mI,mL,mk,mN⟩=false):=by
   show mH n s0 ⟨mK,mF,mT,mI,mL,mk,mN⟩=false
   unfold mH;rw [aES (by have:=ah HF;dsimp only;omega),Bool.and_false]
  go_wp2_with fail;obtain⟨n',A',G',c',kk,l2,HWS,adY,HLEN,HSL,HTE⟩:∃(n':Nd) (A':bq) (G':aN) (c':Nat->Nat) (kk:Nat) (l2:List Int),Hid (rJ w0 w6 wb sb mb kk n' A' G' c' v L (gu s0 mL) l2)/\Hid (l2.Pairwise (· < ·))/\Hid (l2.length<=1000)/\Hid (n'.seen.length=n.seen.length)/\Hid (TT=(dX n' (n'.seen.set i ⟨mF,gu s0 mL,l2⟩),false)):=⟨n,A,G,_,_,_,HW5.step hb6,DW.2.2.2.2,aEU DW.2.2.1 Aaa,rfl,HTN HQ lD⟩;clear hb6 HTH SK HTN HGS HGF HQ HW5 JQ HW2 rF lD HF HND p0 p1 p2 p3 p4 p5 p6 hpl;exact Zk1
 have HF:Hid ((cu s0 mL).length < 40):=by
  have:=DW.2.2.1;show(cu s0 mL).length < 40
  omega
 clear hf;go_wp2_with fail;refine(HGS w5 sb mb _ A G _ _ _ (by have:=aek.2.2.1;omega) HND HF HW5).mono ?_;rintro e w6 ⟨rfl,⟨A1,G1,c1,IW⟩,Sl⟩;have eY:=Hq (Sl w.heap.size _ Aaa ayA JQ);have HJW:Hid (∀j mm,jY w j mm->jY w6 j mm):=λj mm hj=>Sl j _ (YV (HJ5 j mm hj) HW5.wk.blk) (HW5.si.far (HJ5 j mm hj)) (HJ5 j mm hj)
 have VK:=Hq IW;clear IW Sl p0 p1 p2 p3 p4 p5 p6 hpl HGS HGF;cases hr:(dB n.pu mk 0 1 0 mN).2
 case' false=>
  have lD:Hid (mH n s0 ⟨mK,mF,mT,mI,mL,mk,mN⟩=false):=by
   show mH n s0 ⟨mK,mF,mT,mI,mL,mk,mN⟩=false
   unfold mH;rw [hr,Bool.false_and]
  rw [hr] at VK;clear hr;go_wp2_with fail;obtain⟨n',A',G',c',kk,l2,HWS,adY,HLEN,HSL,HTE⟩:∃(n':Nd) (A':bq) (G':aN) (c':Nat->Nat) (kk:Nat) (l2:List Int),Hid (rJ w0 w6 wb sb mb kk n' A' G' c' v L (gu s0 mL) l2)/\Hid (l2.Pairwise (· < ·))/\Hid (l2.length<=1000)/\Hid (n'.seen.length=n.seen.length)/\Hid (TT=(dX n' (n'.seen.set i ⟨mF,gu s0 mL,l2⟩),false)):=⟨n,A1,G1,c1,_,_,VK,DW.2.2.2.2,aEU DW.2.2.1 Aaa,rfl,HTN HQ lD⟩;clear HTH SK HTN HQ HW5 JQ HW2 rF lD HF HND VK;exact Zk1
 have lD:Hid (mH n s0 ⟨mK,mF,mT,mI,mL,mk,mN⟩=true):=by
  show mH n s0 ⟨mK,mF,mT,mI,mL,mk,mN⟩=true
  unfold mH;rw [hr,aET (ah HF),Bool.true_and]
 rw [hr] at VK;clear hr;have HNI:=Hq (WE HQ).2;go_wp2_with fail
 obtain⟨n',A',G',c',kk,l2,HWS,adY,HLEN,HSL,HTE⟩:∃(n':Nd) (A':bq) (G':aN) (c':Nat->Nat) (kk:Nat) (l2:List Int),Hid (rJ w0 w6 wb sb mb kk n' A' G' c' v L (gu s0 mL) l2)/\Hid (l2.Pairwise (· < ·))/\Hid (l2.length<=1000)/\Hid (n'.seen.length=n.seen.length)/\Hid (TT=(dX n' (n'.seen.set i ⟨mF,gu s0 mL,l2⟩),true)):=⟨setPu n (dB n.pu mk 0 1 0 mN).1,A1,G1,c1,_,lK (cu s0 mL) mI,⟨VK.wk,VK.bk,VK.si.same (λx=>by rw [Qg];exact aFd),VK.cs,VK.cm⟩,Qf DW.2.2.2.2 HNI,(by
  show(lK (cu s0 mL) mI).length<=1000
  rw [Dn]
  have:=ah HF
  omega),rfl,SK HQ lD⟩
 clear HTH SK HTN HQ HW5 JQ HW2 rF lD HF HND VK HNI;exact Zk1):P:=h
theorem aun.AbZ(h:P:=by
 obtain⟨c0,c1,c2,c3,c4,c5,c6,c7,c8,c9⟩:=jT HW1.wk.blk;obtain⟨⟨p0,p1,p2,p3,p4,p5,p6⟩,_⟩:=eF wH;obtain⟨⟨d0,d1⟩,_⟩:=mW HW1.bk;have hlen:=aCY HW1.si hnd;have hwl:=ay HW.wk.blk;have hsl:=ay HW.bk;have hne:wb≠w.heap.size:=Aaa
 have hne2:sb≠w.heap.size:=Aaa
 clear h;go_in
 go_upto_region 1 with fail;have y4:=aEQ c4;have z3:=aEQ p3;have z5:=aEQ p5;have z6:=aEQ p6;have x1:=aEQ d1;clear c0 c1 c2 c3 c4 c5 c6 c7 c8 c9 p0 p1 p2 p3 p4 p5 p6 d0 d1;exact AdZ):P:=h
theorem agT(h:P:=by
 obtain⟨⟨p0,p1,p2,p3,p4,p5,p6,p7,p8,p9,pz⟩,_⟩:=aK SG;have hpl:=ay SG;go_wp2_with fail;refine(yc z HZ).mono ?_;rintro e w1 ⟨rfl,hb1⟩;have HZ1:=Hq (HZ.step hb1);clear hb1 yc p0 p1 p2 p3 p4 p5 p6 p7 p8 p9 pz HZ SG;exact Aec):P:=h
theorem auo.Aec(h:P:=by
 obtain⟨g,hAr,hgw,hgl,⟨q0,q1,q2,q3⟩,qf⟩:=HZ1.reqRow i hil;obtain⟨d0,d1,d2,d3,d4,d5,d6,d7,d8,d9⟩:=jT HZ1.blk;rw [hAr] at d8;have aCV:=ay HZ1.blk;have aCq:(i:Int) < (n.reqs.length:Int):=Aaa
 rw [hs] at q3;go_upto_region 7 with fail;refine wp_at (λW hW=>?_);obtain rfl:=hW;exact Aem):P:=h
theorem aup.Aec(h:P:=by
 go_wp2_with fail;go_ret;exact⟨rfl,A,G,c,HZ1⟩):P:=h
theorem agU(h:P:=by
 refine bC 20 Aab ?_;show fV _ _ _ _ _ 23 (Array.replicate 23 false) _ _
 refine tk [0,1,2,3,4,5,6,7,8,9,10,11,12,13,14,15,16] ?_;iterate 17 (refine lW (λK hK=>?_);go_simp;refine hK _ ?_;clear hK K)
 refine jh ?_;exact AcX):P:=h
theorem auq.AcX(h:P:=by
 clear y1 y4 z2 z3;refine dP 17 rfl Aab Aad (λx hx=>?_);go_simp;have jO:=Hq ((au w (.cells (bV K no k nn mK mF mT mI mL mk mN) 73)).trans (hx.mono Aac));clear hx;refine(HMI x jO).mono ?_;rintro e y ⟨a,cp,g,hg,rfl,hp,hby⟩;refine⟨hby,?_⟩;have JL:=Hq (jO.trans (hby.mono jO.size));have HST:=Hq (λz (hz:Ge y z)=>Xj (cp:=cp) HW (JL.trans (hz.mono JL.size)) (aEU jO.size hg) (hp.below hz));clear hby hg hp HMI;refine tk [18,19] ?_;open arJ in exact zZ):P:=h
theorem aur.AcX(h:P:=by
 clear y4 z3 z5 z6 x1;refine dP 17 rfl Aab Aad (λx hx=>?_);go_simp;have jO:=Hq ((au w (.cells (bX mK mF mT mI mL mk mN) 70)).trans (hx.mono Aac));have HXP:=Hq (aj wH hx);clear hx;refine(HGN x jO).mono ?_;rintro e y ⟨a,cp,g,hg,rfl,hp,hby⟩;refine⟨hby,?_⟩;have JL:=Hq (jO.trans (hby.mono jO.size));have HYP:=Hq (aj HXP hby);have HST:=Hq (λz (hz:Ge y z)=>Xi (cp:=cp) HW.wk (JL.trans (hz.mono JL.size)) (aEU jO.size hg) (hp.below hz));clear hby hg hp HGN;refine tk [18,19] ?_;open arK in exact zZ):P:=h
theorem aaN(h:P:=by
 have nC:=Hq (aj HB3 hb1);have Iu:=Hq (sH.trans (hb1.mono sH.size));clear hb1 c0 c1 c2 c3 c4 c5 c6 c7 c8;obtain⟨c0,c1,c2,c3,c4,c5,c6,c7,c8⟩:=nine nC;exact Ab5):P:=h
theorem aus.Ab5(h:P:=by
 rcases hcase with rfl|⟨p0,p1,p2,p3⟩
 case' inl=>
  go_wp2_with fail;go_ret;exact⟨-1,rfl,Iu,.inl rfl⟩
 have K4:=Hq (And.intro p2 p3);have q6:decide (z4 < 0)=false:=aES Aaa;clear p2 p3;go_wp2_with fail;go_ret;exact⟨z4,rfl,Iu,.inr ⟨p0,p1,HQ Aaa K1 K2 K3 K4⟩⟩):P:=h
theorem aut.Ab5(h:P:=by
 rw [<-ah HQ4];have hn4:decide ((s4:Int) < 0)=false:=aES Aaa;go_wp2_with fail;refine(HRR _ _ Iu Aaa).mono ?_;open av9 in exact ahp):P:=h
theorem auu.Ab5(h:P:=by
 cases h5:TD
 case' false=>
  have HP:=Hq (show TT=false by rw [ah HD];simp[h5]);clear h5 HD;go_wp2_with fail;go_ret;exact⟨aF HP.symm,Iu⟩
 go_wp2_with fail;refine(HRE _ Iu).mono ?_;open av8 in exact ahp):P:=h
theorem aaO(h:P:=by
 rcases ho.2 with⟨_,hy⟩|⟨g,cp,cur,hx,hbg,hgg,hnc,hcm,hcs,htk⟩
 .omega
 simp only[aFN] at hx;obtain⟨rfl,_,rfl⟩:=hx;exact AbU):P:=h
theorem auv.AbU(h:P:=by
 by_cases hroom:l.length+1<=cap
 .refine(MI g cap i l q vb w cur hl hi2 hroom hcm (hne g rfl) hgg hcs htk hv).mono ?_;rintro e w' ⟨rfl,hb,hgr⟩;have hcl:(l.length+1)*4<=cur.toList.length:=Acs
  refine⟨some ⟨g,0,none⟩,cap,by rw [hlen],?_,hgr,λx hx=> .inl hx⟩;rw [hlen];refine⟨hfl,.inr ⟨g,cap,_,rfl,hbg,hb,hroom,hcm,?_,?_⟩⟩
  .rw [aFM,adk _ _ _ _ hi2 hcl,show cur.toList.length=cur.size from aFB,hcs]
  .exact Zm cur.toList l i q hi2 hcl htk
 .refine(Qj g cap i l q vb w cur hl hi2 hnc Aaa hgg htk hv).mono ?_;rintro e w' ⟨G,cur',rfl,hG,hGm,hb,hs,ht,hgr⟩;refine⟨some ⟨w.heap.size,0,none⟩,G,by rw [hlen],?_,⟨hgr.os,hgr.tape,hgr.output,hgr.size,λk hk _=>hgr.block k hk Aac⟩,λx hx=> .inr ?_⟩
  .rw [hlen];exact⟨hfl,.inr ⟨w.heap.size,G,cur',rfl,hB,hb,hG,hGm,hs,ht⟩⟩
  .have:w.heap.size=x:=Abl
   omega):P:=h
theorem auw.AbU(h:P:=by
 refine(Yg g cap l w cur h2 hl hnc hcm hgg hcs htk).mono ?_;rintro e w' ⟨rfl,hb,hgr⟩;have hcl:l.length*4<=cur.toList.length:=Acs
 refine⟨some ⟨g,0,none⟩,cap,by rw [hlen],?_,hgr,λx hx=> .inl hx⟩;rw [hlen];refine⟨by rw [iq,hlen],.inr ⟨g,cap,_,rfl,hbg,hb,Aaa,hcm,?_,?_⟩⟩
 .rw [aFM,adn _ _ h2 hcl,show cur.toList.length=cur.size from aFB,hcs]
 .exact Zo cur.toList l h2 hcl):P:=h
theorem auy.AbU(h:P:=by
 have hce:cur=(GR.flat aM l++cur.toList.drop (l.length*4)).toArray:=by
  rw [<-htk,aFJ,Array.toArray_toList]
 have hlr:l.length*4+(cur.toList.drop (l.length*4)).length=cap*4:=by
  rw [aFA,show cur.toList.length=cur.size from aFB,hcs];omega
 rw [hce] at hgg;have hlen:(l.eraseIdx (qM l m)).length=l.length - 1:=aFP h;refine(TM g cap l _ B (qM l m) m w hl h hno hnc hcm hlr hB hgg hix).mono ?_;rintro e w' ⟨rfl,⟨r2,hS2,hr2⟩,hgr⟩;refine⟨some ⟨g,0,none⟩,cap,by rw [hlen],?_,hgr,λx hx=>hx⟩;rw [hlen];refine⟨by rw [nO,hlen],.inr ⟨g,cap,_,rfl,hbg,hS2,Aaa,hcm,?_,?_⟩⟩
 .rw [aFM,aEW,nO,hlen];exact hr2
 .exact List.take_left' (by rw [nO,hlen])):P:=h
theorem OU(h:P:=by
 have y0:=aEQ p0;have y1:=aEQ p1;have y2:=aEQ p2;have y3:=aEQ p3;exact Aa4):P:=h
theorem auz.Aa4(h:P:=by
 have y4:=aEQ c4;clear HO p0 p1 p2 p3 c4;open aBp in exact SS):P:=h
theorem auA.Aa4(h:P:=by
 have y4:=aEQ p4;have y5:=aEQ p5;have y6:=aEQ p6;exact AaQ):P:=h
theorem auB.Aa4(h:P:=by
 clear HO p0 p1 p2 p3;open aBr in exact SS):P:=h
theorem auC.Aa4(h:P:=by
 clear HO p0 p1 p2 p3;open aBq in exact SS):P:=h
theorem auD.Aa4(h:P:=by
 have y4:=aEQ c4;clear HO p0 p1 p2 p3 c4;open aBv in exact SS):P:=h
theorem agV(h:P:=by
 rw [<-hW] at e1 e2 e3;have HN:=Hq e1;have HR:=Hq e2;have HB0:=Hq e3;have Iw:=Hq (nA.kc (k:=9) (KC.of_below e3) Aaa);clear hW e1 e2 e3 nA hbw0 hlo;obtain⟨c0,c1,c2,c3,c4,c5,c6,c7,c8⟩:=nine HN;have hnl:=ay HN;exact Adh):P:=h
theorem auE.Adh(h:P:=by
 have wu:=Hq HR;obtain⟨⟨d0,d1,d2,d3,d4,d5,d6,d7,d8⟩,f0,f1,f2,f3,f4,f5,f6,f7,f8⟩:=iT wu;have hrl:=ay wu;go_wp2_with fail;refine kR results129 rfl rfl rfl wu (λW' e4 fC=>?_);have HAT:=Hq (λW'' (ho:Out c w W' W'')=>(Iw.kc (k:=9) ((KC.keeps fC (λx hx=>by have:x=w.heap.size+1:=Aag;rw [this];exact aY Aaa)).trans (KC.out H9 ho)) Aaa).rm);have rG:Hid (Below B w W'):=(HB0.mono hB).trans (fC.below (λx hx=>by have:x=w.heap.size+1:=Aag;omega) (aEU hB (HB0.mono hB).size));have xZ:=Hq (Apart.keeps (c:=c) (Apart.of_below (HB0)) (HB0.mono hB).size fC (λx hx=>by have:x=w.heap.size+1:=Aag;omega));clear e4 fC;exact⟨A,rfl,HAT,rG,xZ⟩):P:=h
theorem auF.Adh(h:P:=by
 go_wp2_with fail;refine(OD W0 Iw.at.r).mono ?_;open avU in exact ahk):P:=h
theorem aaP(h:P:=by
 have yc:=Hq (λw1 (hw:WK w0 w1 wb n A G c v L)=>NY w0 w1 wb n A G c v L o.no hok h0 h1 hw);rw [hf] at yc;have hlen:=(iY hok).2.1;exact Ab2):P:=h
theorem auG.Ab2(h:P:=by
 clear hR h0 h1 hok hf hgd ae9;generalize dZ n.reqs o.no=i at *;open aAY in exact Yk9):P:=h
theorem auH.Ab2(h:P:=by
 generalize dZ n.reqs o.no=i at *;generalize GD n.reqs[i] o.k o.n=SQ at *;clear hR h0 h1 hok hf hgd;open aAV in exact Yk9):P:=h
theorem auI.Ab2(h:P:=by
 clear hR h0 h1 hok hf hgd ae9;generalize dZ n.reqs o.no=i at *;have HUN:=Hq (λw1 (hw:WK w0 w1 wb n A G c v L)=>Qd A.p A.cp n.pu n.reqs[i].k n.reqs[i].n E w1 hz.p hz.pk (hz.rk _ (aE8 hil)) hw.no.p.at (he.below hw.keep));unfold j6 at HUN;generalize dB n.pu n.reqs[i].k 0 1 (-1) n.reqs[i].n=r at *;open aAS in exact Yk9):P:=h
theorem agW(h:P:=by
 have hblk:V.heap[wr.heap.size]?=some (.cells (iX pk pm pf ps) 155 (0,0)):=by rw [hV];exact aEP wr _
 exact AdL):P:=h
theorem auJ.AdL(h:P:=by
 have hPV:=HP.below hbV;have XC:=Hq hPV;have Ig:=Hq hblk;have HVS:=Hq (show V.heap.size=wr.heap.size+1 by rw [hV];simp);have xD:=Hq (aZ.trans (hbV.mono aZ.size));obtain⟨⟨p0,p1,p2,p3⟩,_⟩:=fZ hblk;obtain⟨⟨n0,n1⟩,f0,f1⟩:=mW hPV.blk
 have HRW:=Hq (show V.ownsRow w.heap.size 9 1 (.slice aa k cc) k (((l.take k).map (·.k)).map Value.string) by
  have:=hPV.row
  rw [aFQ,aFj,aFZ hk] at this
  exact this)
 have HGR:=Hq (show∀w2:World,((V.alloc (.cells #[.string pk] 9)).drew).grownBy w2 (Value.slice aa k cc).ownBlock->
  w2.heap[w1.heap.size+1]?=some (.cells #[.slice aa k cc,.map (some w1.heap.size)] 356 (0,0))/\w2.heap[w1.heap.size]?=V.heap[w1.heap.size]?/\w2.heap[wr.heap.size]?=V.heap[wr.heap.size]?/\Below w.heap.size V w2 by
  intro w2 hg
  have hb:∀q,q < V.heap.size->(Value.slice aa k cc).ownBlock≠some q->w2.heap[q]?=V.heap[q]?:=λq hq hne=>by
   rw [hg.block q (by show q < (V.alloc _).heap.size;simp;omega) (Ne.symm hne)]
   exact aE4 V _ _ hq
  obtain⟨es,clock,hmap⟩:=hPV.map.blk
  refine⟨?_,hb _ hPV.map.lt (zn HRW hmap),hb _ (Fo.lt_of_blk hblk) (own_ne HRW hblk Aae),?_⟩
  .rw [hb _ (Fo.lt_of_blk hPV.blk) (own_ne (ah HRW) hPV.blk Aae)];exact hPV.blk
  .refine⟨hg.os,hg.tape,hg.output,aEU (by show V.heap.size<=(V.alloc _).heap.size;simp) hg.size,λq hq=>hb q (by have:=xD.size;omega) (λe=>?_)⟩;have:=HRW.lt _ e
   omega)
 have n2:(V.alloc (.cells #[.string pk] 9)).cell? ⟨w1.heap.size+1,0,none⟩=some (.slice aa k cc):=by rw [aE9 _ _ _ (Fo.lt_of_blk hPV.blk)];exact n0
 clear hblk hbV hPV hV c0 c1 c2 c3 n1 f1;go_region_law (refine step_append_lies _ rfl (.tmp 24) (.tmp 27) 354 rfl w.heap.size 9 i0 (.string ⟨#[]⟩) 1 16 underlying354 hi hz0 hz1 hz2 rfl Aae (.slice aa k cc) k (((l.take k).map (·.k)).map Value.string) Aao (HRW.alloc _).drew ⟨V.heap.size,0,none⟩ 1 1 [.string pk] Aao rfl (aFF (w:=(V.alloc (.cells #[.string pk] 9)).drew) (aEP V _)) (λu hu=>by rw [aE6.1 hu];rfl) Aaa Aaj Aaa (by have:=xD.size;simp;omega) (V.heap.size+1) Aac ?_;intro g' cap' w2 hown hgrow hat hlt2;have hK2:=ah HGR w2 hgrow;have HOW:=Hq hown;clear hown hgrow hat hlt2;have Vw:=Hq hK2.1;have JV:=Hq hK2;obtain⟨⟨y0,y1⟩,z0,z1⟩:=mW hK2.1;clear hK2 y1 z1)
 all_goals
  go_upto_region 8 with fail
  refine Fo.wp_at (λV3 hV3=>?_)
  obtain⟨hx1,hx2,hx3,hx4⟩:=ah JV
  have aD7:w1.heap.size+1 < wr.heap.size:=Fo.lt_of_blk HP.blk
  have hblk3:V3.heap[w1.heap.size+1]?=some (.cells #[.slice (some ⟨g',0,none⟩) (k+1) cap',.map (some w1.heap.size)] 356 (0,0)):=by rw [hV3];exact Fo.blk_set hx1 0 _
  have ayQ:V3.heap[wr.heap.size]?=some (.cells (iX pk pm pf ps) 155 (0,0)):=by
   rw [hV3,Fo.one_other rfl Aaa,hx3];exact Ig
  have abZ:iL V3 w1.heap.size k (aD (l.take k)):=XC.map.kept (by rw [hV3,Fo.one_other rfl Aaa,hx2])
  have hrow3:V3.ownsRow w.heap.size 9 1 (.slice (some ⟨g',0,none⟩) (k+1) cap') (k+1) (((l.take k).map (·.k)).map Value.string++[.string pk]):=by
   rw [hV3];exact HOW.kept (w':=w2.setCell ⟨w1.heap.size+1,0,none⟩ _) (row:=some (w1.heap.size+1)) ⟨rfl,rfl,rfl,by rw [Fo.setCell_size];exact aER _,λq _ hne=>Fo.one_other rfl (λe=>hne Aap)⟩ (.inr (own_ne HOW hx1 Aae))
  have hkeys:(l.take (k+1)).map (·.k)=(l.take k).map (·.k)++[pk]:=by rw [ah OM];simp
  have aAj:=Hq (show PM V3 w.heap.size (w1.heap.size+1) w1.heap.size k (.slice (some ⟨g',0,none⟩) (k+1) cap') ((l.take (k+1)).map (·.k)) (aD (l.take k)) by
   refine⟨hblk3,?_,abZ,HP.lop,HP.lom⟩
   rw [hkeys,List.map_append,aEW,aFQ,aFj,aFZ hk]
   exact hrow3)
  have HB3:=Hq (show aH w V3 by rw [hV3];exact(xD.trans hx4).setCell (p:=⟨w1.heap.size+1,0,none⟩) HP.lop _)
  have ajC:=Hq (WH (w1.heap.size+1) w1.heap.size k _ (aD (l.take k)) ⟨pk,pm,pf,ps⟩ V3 hkk Aaj hblk3 abZ)
  obtain⟨⟨r0,r1,r2,r3⟩,_⟩:=fZ ayQ
  clear hx1 hx2 hx3 hx4 hblk3 ayQ abZ hrow3 hkeys hV3 y0 z0 n0 n2 p0 p1 p2 p3 f0
  go_wp2_with fail
  refine ajC.mono ?_
  rintro e w5 ⟨rfl,hm5,hk5⟩
  have JQ:=Hq (aAj.turned hk5 hm5)
  have gX:=Hq (HB3.trans (Dr hk5 HP.lom HB3.size))
  clear hm5 hk5 r0 r1 r2 r3
  go_wp2_with fail
  go_roundw
  case rel=>
   have h:=ah JQ;rw [ah HUP] at h;exact⟨k+1,_,_,Aaa,Aaf,h,gX⟩
  case measure=>simp[intOf];omega):P:=h
theorem auK.AdL(h:P:=by
 have xD:=Hq (show aH w V by rw [hV];exact aZ.alloc aZ.size _);have hgV:=Fo.lt_of_blk hblk;obtain⟨⟨p0,p1,p2,p3⟩,_⟩:=fZ hblk;exact Aa7):P:=h
theorem agX(h:P:=by
 have HID:Hid ((takeN n o.m).1.id=n.id):=by
  exact axA
 have HSY:=Hq (λW A G c n' (hW:WK w0 W wb n' A G c v L)=>Xq w0 W wb n' A G c v L ⟨2,n'.id,o.m.F,o.m.I,0,ByteArray.empty,0⟩ Aac Aaa hW);rw [ah HR];exact Adl):P:=h
theorem auL.Adl(h:P:=by
 unfold Ya;rw [<-ah HID];open anq in exact awN):P:=h
theorem auM.Adl(h:P:=by
 open anr in exact awN):P:=h
theorem agY(h:P:=by
 clear c0 c1 c2 c3 c4 c5 c6 c7 c8;refine rE 4 (w.heap.size+2) Aab ?_;show jU _ _ _ _ _ _ 5 (Array.replicate 5 false) _ _
 exact Aed):P:=h
theorem auN.Aed(h:P:=by
 refine nX 0 20 rfl Aab Aab Aab Aab Aab (λ_ _ _ _ h=>h) Aad 39 _ rfl w.heap.size 0 rfl (wC n.id n.par a_k n.kids.length dH n.next pa PL.length pc jm n.out.length eu jc n.seen.length dJ n.old (some ⟨gv,0,none⟩) (n.reqs.length+1) vc).toList _ (Gt ou) ⟨hnl,Aaa⟩ underlying39 rfl Aab ?_;refine tk [1] ?_;(refine EI 20 (vH _) (λK hK=>?_);go_simp;first|refine hK _ ?_|(apply Exists.intro;refine⟨λ_=>?_,hK _ ?_⟩;rfl);clear hK K)
 refine jh ?_;have y3:=lJ (r:=w.heap.size+2) (iI aeh).2.2.2 Aaa;refine tk [2] ?_;(refine EI 20 (vH _) (λK hK=>?_);go_simp;first|refine hK _ ?_|(apply Exists.intro;refine⟨λ_=>?_,hK _ ?_⟩;rfl);clear hK K)
 refine jh ?_;clear y3;refine zF 3 rfl Aab Aad Aae 39 _ _ rfl (wC n.id n.par a_k n.kids.length dH n.next pa PL.length pc jm n.out.length eu jc n.seen.length dJ n.old (some ⟨gv,0,none⟩) (n.reqs.length+1) vc) rfl rfl rH rfl Aab Aab (λX fC e4=>?_);open asj in exact agt):P:=h
theorem auO.Aed(h:P:=by
 refine nX 0 20 rfl Aab Aab Aab Aab Aab (λ_ _ _ _ h=>h) Aad 39 _ rfl w.heap.size 0 rfl (wC n.id n.par a_k n.kids.length dH n.next pa PL.length pc jm n.out.length eu jc n.seen.length dJ IH.no (some ⟨g8,0,none⟩) n.reqs.length c8').toList _ (Gt DY) ⟨hnl,Aaa⟩ underlying39 rfl Aab ?_;refine tk [1] ?_;(refine EI 20 (vH _) (λK hK=>?_);go_simp;first|refine hK _ ?_|(apply Exists.intro;refine⟨λ_=>?_,hK _ ?_⟩;rfl);clear hK K)
 refine jh ?_;have y3:=lJ (r:=w.heap.size+2) (iI amg).2.2.2 Aaa;refine tk [2] ?_;(refine EI 20 (vH _) (λK hK=>?_);go_simp;first|refine hK _ ?_|(apply Exists.intro;refine⟨λ_=>?_,hK _ ?_⟩;rfl);clear hK K)
 refine jh ?_;clear y3;refine zF 3 rfl Aab Aad Aae 39 _ _ rfl (wC n.id n.par a_k n.kids.length dH n.next pa PL.length pc jm n.out.length eu jc n.seen.length dJ IH.no (some ⟨g8,0,none⟩) n.reqs.length c8') rfl rfl zU rfl Aab Aab (λX fC e4=>?_);open asl in exact agt):P:=h
theorem agZ(h:P:=by
 have hlit:(w.alloc (.cells #[] e)).ownsRow w.heap.size e sz (.slice (some ⟨w.heap.size,0,none⟩) 0 0) 0 []:=aFC (base:=w.heap.size) (e:=e) (size:=sz) w #[] 0 (aER _) Aaj Aac;exact Ad4):P:=h
theorem auP.Ad4(h:P:=by
 exact⟨some ⟨w.heap.size,0,none⟩,0,w.alloc (.cells #[] e),λty=>pU (w.alloc (.cells #[] e)) w.heap.size t ty e i sz ht hi _ 0 [] hlit a c,hlit,au w _,λ_=>rfl⟩):P:=h
theorem auQ.Ad4(h:P:=by
 by_cases hl0:l.length=0
 .have hn:l=[]:=aFk hl0;subst hn;refine⟨some ⟨w.heap.size,0,none⟩,0,w.alloc (.cells #[] e),λty=>pU (w.alloc (.cells #[] e)) w.heap.size t ty e i sz ht hi _ 0 [] hlit a c,hlit,au w _,⟨_,rfl⟩,aER _⟩
 .obtain⟨v',w',hr,ho,hg,_⟩:=qW (P:=P) hs hz (w.alloc (.cells #[] e)) w.heap.size t 0 e i z bytes ht hi hz0 hsize hby hzs _ 0 [] hlit a l c (GR.At.below ha (au w _)) h1 Aaa (by rw [aFE];exact hbytes) Aac;rw [aFE,aF5] at ho;obtain⟨a',c',rfl,_⟩:=GR.own_at (enc:=enc) (sz:=sz) hs ho;refine⟨a',c',w',λty=>hr,ho,(au w _).grown hg Aac (λk hk=>Acr),?_⟩;rcases ho.2 with⟨_,hn⟩|⟨g,cap,cur,hv,_,_,hnc,_⟩
  .omega
  .grind):P:=h
theorem ag0(h:P:=by
 have HAT:=Hq (λW'' (ho:yA w W' W'')=>((BR.kc (k:=9) (KC.keeps fC (λx hx=>by have:x=w.heap.size+2:=Aag;rw [this];exact Df)) Aaa).kc (k:=9) (ho.kc (λx hx=>HC9 x Aaa)) Aaa).rm);exact Adu):P:=h
theorem auR.Adu(h:P:=by
 have EP:=Hq (λW'' (ho:yA w W' W'')=>Tq (c:=c) (w:=w) HMZ (ho.out0 HC9) hmb);have rG:Hid (aH w W'):=jO.trans (fC.below (λx hx=>by have:x=w.heap.size+2:=Aag;omega) jO.size);obtain⟨x0,x1,x2,x3,x4,x5,x6,x7,x8⟩:=nine HRZ;clear fC;exact AdB):P:=h
theorem auS.Adu(h:P:=by
 have rG:Hid (aH w W'):=jO.trans (fC.below (λx hx=>by have:x=w.heap.size+2:=Aag;omega) jO.size);clear e4 fC;exact⟨A1,some ⟨w.heap.size+1+1+1,0,none⟩,0,rfl,HAT,λW'' _ i hi=>Aau,rG⟩):P:=h
theorem ag1(h:P:=by
 clear h1 HST zK JV;refine aE5 Aab Aab ?_;repeat (first|go_big_quiet_step ((first|(go_at_call 192;exact cS _ _)))|quiet_step ((first|(go_at_call 192;exact cS _ _))))
 exact Adw):P:=h
theorem auT.Adw(h:P:=by
 open avX in exact Wh):P:=h
theorem auU.Adw(h:P:=by
 exact ahI):P:=h
theorem ag2(h:P:=by
 obtain⟨k,y,hk,rfl,rfl,hy,hall,hblk,hbel⟩:=hrel;have jA:=Hq hall;have HY:=Hq hy;have aZ:=Hq hbel;have Ig:=Hq hblk;exact Ac7):P:=h
theorem auV.Ac7(h:P:=by
 have hy0:0<=y:=by rw [hy];exact HLB k hall
 clear hall hy hblk hbel;by_cases hlt:k < out.length
 case' neg=>
  open aqK in exact aa0
 obtain⟨g,off,e0,hgw,q0,q1,q2,q3⟩:=SentAt.four (HA.below aZ).o k hlt;(try dsimp only at e0 q0 q1 q2 q3)
 subst e0;have HBAD:Hid (ig KB RR (out.take (k+1))=false->TT=false):=λh=>nH.trans (yC _ h)
 have iJ:Hid (ig KB RR (out.take (k+1))=(KB out[k]&&decide (y < (out[k]).i))):=by
  exact aiK
 have zT:=Hq (zI k hlt);have zO:=Hq (Vv out[k]);clear jP zI yC Vv HLB;generalize out[k]=sk at *;generalize KB sk=OB at *;obtain⟨si,st,sx,sn⟩:=sk;dsimp only at q0 q1 q2 q3 iJ zT zO;obtain⟨bb,hbb⟩:∃bb,(!(decide (y < si)&&decide (si < next)&&NN st&&keyOk sx.data.toList&&fJ sn))=bb:=⟨_,rfl⟩;have eY:=Hq hbb
 have BJ:Hid (ig KB RR (out.take (k+1))= !bb):=by
  rw [ah iJ,<-ah eY,ah zO,Bool.not_not]
  have e1:(decide (1<=si/\si<=next - 1)&&decide (y < si))=(decide (y < si)&&decide (si < next)):=by
   rw [aF7];simp only[aEX,aFf];omega
  rw [<-e1];generalize decide (1<=si/\si<=next - 1)=z1;generalize decide (y < si)=z2;generalize NN st=z3;generalize keyOk sx.data.toList=z4;generalize fJ sn=z5;cases z1<;>cases z2<;>cases z3<;>cases z4<;>cases z5<;>exact Hq rfl
 clear hbb iJ zO;go_upto_region 7 with fail;refine wp_at (λW1 hW1=>?_);have HW1:Hid (W1.heap[wr.heap.size]?=some (.cells (gN si st sx sn) 145 (0,0))):=Abz
 open anp in exact aeu):P:=h
theorem auW.Ac7(h:P:=by
 have hy0:old<=y:=by rw [hy];exact HLB k hall
 clear hall hy hblk hbel;by_cases hlt:k < reqs.length
 case' neg=>
  have hke:k=reqs.length:=Aaa
  subst hke;have hnlt:decide ((reqs.length:Int) < (reqs.length:Int))=false:=Aac
  exact akh
 obtain⟨g,off,e0,hgw,q0,q1,q2,q3⟩:=gB.four (HA.below aZ).r k hlt;(try dsimp only at e0 q0 q1 q2 q3)
 subst e0;have HBAD:Hid (ig KB RR (reqs.take (k+1))=false->TT=false):=λh=>nH.trans (yC _ h)
 have iJ:Hid (ig KB RR (reqs.take (k+1))=(KB reqs[k]&&decide (y < (reqs[k]).no))):=by
  exact aiK
 have zT:=Hq (zI k hlt);have zO:=Hq (Vv reqs[k]);clear jP zI yC Vv HLB;generalize reqs[k]=sk at *;generalize KB sk=OB at *;obtain⟨si,sx,sn,st⟩:=sk;dsimp only at q0 q1 q2 q3 iJ zT zO;obtain⟨bb,hbb⟩:∃bb,(!(decide (y < si)&&rM si&&keyOk sx.data.toList&&fJ sn&&decide (0<=st)&&decide (st<=2)))=bb:=⟨_,rfl⟩;have eY:=Hq hbb
 have BJ:Hid (ig KB RR (reqs.take (k+1))= !bb):=by
  rw [ah iJ,<-ah eY,ah zO,Bool.not_not]
  have e1:(decide (old+1<=si/\si<=1000000000)&&decide (y < si))=(decide (y < si)&&rM si):=by
   rw [aF7];unfold rM;simp only[aEX,aFf];omega
  have e2:decide (0<=st/\st<=2)=(decide (0<=st)&&decide (st<=2)):=by
   rw [aF7];simp only[aEX,aFf]
  rw [<-e1,e2];generalize decide (old+1<=si/\si<=1000000000)=z1;generalize decide (y < si)=z2;generalize decide (0<=st)=z3;generalize decide (st<=2)=z6;generalize keyOk sx.data.toList=z4;generalize fJ sn=z5;cases z1<;>cases z2<;>cases z3<;>cases z4<;>cases z5<;>cases z6<;>exact Hq rfl
 clear hbb iJ zO;go_upto_region 7 with fail;refine wp_at (λW1 hW1=>?_);have HW1:Hid (W1.heap[wr.heap.size]?=some (.cells (gY si sx sn st) 148 (0,0))):=Abz
 open ano in exact aeu):P:=h
theorem aaQ(h:P:=by
 clear hW;obtain⟨x0,x1,x2,x3,x4,x5,x6,x7,x8,x9,x10⟩:=Ey hX;obtain⟨y0,y1,y2,y3,y4,y5,y6,y7,y8,y9,y10⟩:=Ey hY;clear hX hY;exact AcN):P:=h
theorem auX.AcN(h:P:=by
 exact Zk8):P:=h
theorem auY.AcN(h:P:=by
 exact axC):P:=h
theorem auZ.AcN(h:P:=by
 by_cases hno:no=0
 case' neg=>
  have hno':¬(0:Int)=no:=λe=>hno e.symm
  go_wp2_with fail;go_ret;exact⟨aF (by rw [ah HP];simp[mq,hno]),iQ⟩
 subst hno;exact Adp):P:=h
theorem aaR(h:P:=by
 go_in
 go_wp2_with (go_at_call 123;refine(HS _).mono ?_;rintro e w1 ⟨rfl,hb1⟩;simp only[wO])
 go_ret2
 exact AcF):P:=h
theorem au0.AcF(h:P:=by
 exact⟨rfl,hb1⟩):P:=h
theorem au1.AcF(h:P:=by
 exact⟨by rw [ah HR];simp[EH],hb1⟩):P:=h
theorem au2.AcF(h:P:=by
 exact⟨by rw [ah HR];rfl,hb1⟩):P:=h
theorem ag3(h:P:=by
 clear HR;clear hk hn;go_in
 go_wp2_with (first|(go_at_call_of 190 k;refine(HK _).mono ?_;rintro e w1 ⟨rfl,rfl⟩)|(go_at_call_of 170 n;refine(HN _).mono ?_;rintro e w1 ⟨rfl,rfl⟩))
 exact Aex):P:=h
theorem au3.Aex(h:P:=by
 go_region
 go_upto_region 23 with fail;open at7 in exact VY):P:=h
theorem au4.Aex(h:P:=by
 go_ret;exact⟨aF (by rw [ah HP];simp),by first|exact jL w _ _|exact Below.setNew (jL w _ _) Aaa⟩):P:=h
theorem ag4(h:P:=by
 clear ha he hks hok hb0 hd1 hd2 hd3 hkk;go_in
 go_wp2_with fail;refine HOF.mono ?_;rintro e w1 ⟨mp,mb,v,rfl,Iq,hb1⟩;have HB1:=Hq (Fo.one_block hb1).2.2;exact AcQ):P:=h
theorem au5.AcQ(h:P:=by
 have ve:=(HE.below HB1).var 2 Aaa;clear hb1 Iq HOF;go_wp2_with (first|(go_at_call 190;refine(HK _).mono ?_;rintro e w2 ⟨rfl,rfl⟩)|(go_at_call 170;refine(Ll _).mono ?_;rintro e w2 ⟨rfl,rfl⟩))
 go_quiet (fail);go_wp2_with fail;go_ret2
 exact⟨HB1.trans ⟨rfl,rfl,rfl,aER _,λ_ _=>rfl⟩,.inl ⟨by rw [ah HAD],_,Aaa,rfl⟩⟩):P:=h
theorem au6.AcQ(h:P:=by
 have ve:=(HE.below HB1).var 1 Aaa;clear hb1 Iq HOF;go_wp2_with (go_at_call 190;refine(HK _).mono ?_;rintro e w2 ⟨rfl,rfl⟩)
 go_quiet (fail);go_wp2_with fail;go_ret2
 exact⟨HB1.trans ⟨rfl,rfl,rfl,aER _,λ_ _=>rfl⟩,.inl ⟨HAD,_,Aaa,rfl⟩⟩):P:=h
theorem ag5(h:P:=by
 go_in
 go_wp2_with fail;refine HG.mono ?_;rintro e w1 ⟨rfl,hb1⟩;clear hr HG;go_upto_region 7 with fail;refine wp_at (λV hV=>?_);obtain rfl:=hV;have xD:=Hq hb1;clear hb1;exact AcZ):P:=h
theorem au7.AcZ(h:P:=by
 have hcc:=λd os=>HCC (Sort.grow (redrawn V d) os) (Ge.trans xD (aFl V d os))
 refine bZ Aab ?_;show iZ _ _ _ _ 10 (Array.replicate 10 false) _ _
 refine tk [0,1,2,3,6,7] ?_;open avw in exact JX):P:=h
theorem au8.AcZ(h:P:=by
 refine bZ Aab ?_;show iZ _ _ _ _ 10 (Array.replicate 10 false) _ _
 refine tk [0,1,2,3,4,5,6,7,8,9] ?_;iterate 10 (refine lW (λK hK=>?_);go_simp;refine hK _ ?_;clear hK K)
 refine jh ?_;refine dW Aab (λx hx=>?_);have uH:=Hq (Ge.trans xD hx);clear hx xD;go_simp;go_wp2_with fail;exact aEY (v:= .tuple #[.string ⟨#[]⟩,.int .i64 (-1)]) Acg rfl ⟨rfl,uH⟩):P:=h
theorem VZ(h:P:=by
 subst e0;have EP:=Hq (λz w1 (hz:z=((m+2:Nat):Int))=>kV (m+2) z w1 hz Aaa Aaa);exact AbG):P:=h
theorem au9.AbG(h:P:=by
 have HMU:=Hq (λz w1 (hz:z=((m+9:Nat):Int))=>kV (m+9) z w1 hz Aaa Aaa);clear hm;open aou in exact aev):P:=h
theorem ava.AbG(h:P:=by
 exact aj6):P:=h
theorem avb.AbG(h:P:=by
 have HMU:=Hq (λz w1 (hz:z=((m+9:Nat):Int))=>kV (m+9) z w1 hz Aaa Aaa);have HML:=Hq hml;clear hm hml hfl;open aov in exact aev):P:=h
theorem avc.AbG(h:P:=by
 open ao4 in exact aew):P:=h
theorem ag6(h:P:=by
 go_in
 go_wp2_with (first|(go_at_call 121;refine(nZ _ true _ h1).mono ?_;rintro e w1 ⟨rfl,rfl⟩)|(go_at_call 47;refine(zf _ _ _ true _ h2).mono ?_;rintro e w1 ⟨rfl,rfl⟩))
 exact Ad7):P:=h
theorem avd.Ad7(h:P:=by
 go_loopw [3] (λi wr=>∃k:Nat,k<=kids.length/\i= .int .i64 k/\ig (kU id par) iR (kids.take k)=true/\wr.heap[w.heap.size]?=some (.cells (dD ⟨id,par,kids,next,pu,out,seen,old,reqs⟩ ⟨ak,ap,ao,as',ar,ck,cp,co,cs,cr⟩) 39 (0,0))/\aH w wr) (λi _=>kids.length - (intOf i).toNat)
 case atStart=>exact⟨0,aE7 _,rfl,rfl,aEP w _,au w _⟩
 case round=>
  open arv in exact aex):P:=h
theorem ave.Ad7(h:P:=by
 exact yh):P:=h
theorem ag7(h:P:=by
 obtain⟨rl,rb⟩:=r;dsimp only at HZ ⊢;refine aI 21 rfl Aab Aad ?_;go_simp;refine aI 22 rfl Aab Aad ?_;go_simp;refine wpAny_done Aab ?_;go_simp;exact AeC):P:=h
theorem avf.AeC(h:P:=by
 cases rb
 .go_wp2_with fail;go_ret;exact⟨rfl,⟨A',G',c',HZ.wk,HZ.bk,HZ.si.mono (Nat.le_succ k),HZ.cs,HZ.cm⟩,λj o h1 _ h3=>HKO j o h1 h3⟩
 .obtain⟨⟨p0,p1,p2,p3,p4,p5,p6⟩,_⟩:=eF rF;obtain⟨⟨d0,d1⟩,_⟩:=mW HZ.bk;have hsl2:=ay HZ.bk;have akT:=ay rF;have hI1:fH z2.drew mb k l:=HZ.si.kept rfl;obtain⟨z3,hrun,Si,hK3⟩:=hI1.store mI hi0 hi1 Aaj;have HR:=Hq (HZ.put Si (Keeps.trans (b:=z2.drew) (Keeps.of_below (aE3 _ _).drew) hK3))
  have HK4:Hid (∀j o,j≠wb->j≠mb->w.heap[j]?=some o->z3.heap[j]?=some o):=λj o h1 h2 h3=>by
   have h4:=ah HKO j o h1 h3
   rw [hK3.block j (ay h4) h2]
   exact h4
  clear hI1 Si hK3 rF;go_wp2_with fail;go_region
  all_goals
   go_wp2_with fail
   go_ret
   exact⟨rfl,⟨A',G',c',HR⟩,HK4⟩):P:=h
theorem avg.AeC(h:P:=by
 cases rb
 all_goals
  go_wp2_with fail
  go_ret
  exact⟨rfl,A',G',c',HZ⟩):P:=h
theorem ag8(h:P:=by
 have cO:∀d os,Calls prog 188 #[yx ⟨pk,pm,pf,ps⟩] (Sort.grow (redrawn V d) os) λe w''=>e= .returned (.bool false)/\∃p:Regrown,w''=Sort.grow (redrawn V p.d) p.os:=λd os=>aFr (HO _)
 exact AcR):P:=h
theorem avh.AcR(h:P:=by
 open auB in exact OU):P:=h
theorem avi.AcR(h:P:=by
 exact axN):P:=h
theorem ag9(h:P:=by
 have cO:∀d os,Calls prog 188 #[yx ⟨pk,pm,pf,ps⟩] (Sort.grow (redrawn V d) os) λe w''=>e= .returned (.bool true)/\∃p:Regrown,w''=Sort.grow (redrawn V p.d) p.os:=λd os=>aFr (HO _)
 exact Aen):P:=h
theorem avj.Aen(h:P:=by
 exact Aeb):P:=h
theorem avk.Aen(h:P:=by
 open auC in exact OU):P:=h
theorem aha(h:P:=by
 have hlit:(w.alloc (.cells #[] 155)).ownsRow w.heap.size 155 4 (.slice (some ⟨w.heap.size,0,none⟩) 0 0) 0 []:=aFC (base:=w.heap.size) (e:=155) (size:=4) w #[] 0 (aER _) Aae rfl;exact Aea):P:=h
theorem avl.Aea(h:P:=by
 cases a with
 |none=>
  have hl0:l=[]:=GR.none_nil ha;subst hl0;clear ha hlit;go_in
  exact Tk
 |some x=>
  have HN:=Hq (aG.news (GR.At.below ha (dS w (.cells #[] 155))));clear ha;go_in
  open aqE in exact axb):P:=h
theorem avm.Aea(h:P:=by
 cases a with
 |none=>
  obtain⟨h1,h2⟩:=hn rfl;have hl0:l=[]:=aFk h1;subst hl0 h2;go_in
  go_wp2_with (at_builtin;refine wpList_append_own_none rfl _ _ 34 rfl w.heap.size 155 i0 4 underlying34 hi _ 0 [] rfl hlit rfl ?_)
  go_ret;exact⟨_,rfl,(by intro h;cases h),hlit,dS w _⟩
 |some x=>
  have HN:=Hq (aG.news (GR.At.below ha (dS w (.cells #[] 155))));clear ha;go_in
  open aqF in exact axb):P:=h
theorem ahb(h:P:=by
 clear h1 h2;go_in
 go_wp2_with (first|(go_at_call_of 187 F;refine(H1 _).mono ?_;rintro e w1 ⟨rfl,rfl⟩)|(go_at_call_of 187 T;refine(H2 _).mono ?_;rintro e w1 ⟨rfl,rfl⟩))
 exact AdW):P:=h
theorem avn.AdW(h:P:=by
 go_ret;exact⟨aF (by first|exact HP.symm|exact he.trans HP.symm),au w _⟩):P:=h
theorem avo.AdW(h:P:=by
 exact yh):P:=h
theorem ahc(h:P:=by
 refine wp_at (λW1 hW1=>?_);have HW1:Hid (W1.heap[wr.heap.size]?=some (.cells #[.int .i64 fr,.int .i64 lo,.slice b ids.length c] 130 (0,0))):=Abz
 exact AdI):P:=h
theorem avp.AdI(h:P:=by
 open anl in exact aeu):P:=h
theorem avq.AdI(h:P:=by
 have hbw:aH wr W1:=by rw [hW1];exact au wr _
 have alS:=Hq (jO.trans (hbw.mono jO.size));have HI1:=Hq (GR.At.below HI hbw);have p1:=(hbw.cell (p:=⟨g2,off2+k,none⟩) akK).trans p0;have pE:=Hq (aZ.trans (hbw.mono aZ.size));clear hW1 hbw q0 q1 q2 p0 HI;obtain⟨d0,d1,d2⟩:=three HW1;have m0:=cell_grown' d0;have m1:=cell_grown' d1;have m2:=cell_grown' d2;have m3:=cell_grown' p1;by_cases h1:fr=y
 case' neg=>
  have hb1:(fr != y)=true:=Abb
  have HP:=Hq (show TT=false by rw [ah HD,aES (ah zK h1)];rfl);clear h1 HST zK JV;refine aE5 Aab Aab ?_;repeat (first|go_big_quiet_step (fail)|quiet_step (fail))
  exact ahI
 have hb1:(fr != y)=false:=Abb
 cases h2:wD ⟨fr,lo,ids⟩
 case' false=>
  have HP:=Hq (show TT=false by rw [ah HD,ah JV h2];simp)
  have cS:=ajg ⟨fr,lo,ids⟩ b c false W1 yt HI1 h2
  open auU in exact ag1
 have HG:=Hq (HST h1 h2);have cS:=ajg ⟨fr,lo,ids⟩ b c true W1 yt HI1 h2;open auT in exact ag1):P:=h
theorem ahd(h:P:=by
 rw [e1] at e2;injection e2 with e2
 injection e2 with e2 e3
 subst e2 e3 e1;have hgt:decide ((0:Int) < ((j+1:Nat):Int))=true:=aET Aaa;exact Aeq):P:=h
theorem avr.Aeq(h:P:=by
 have iJ:Hid (ig (Ed lo) iR (ids.take (j+1+1))=(Ed lo ids[j+1]&&iR ids[j] ids[j+1])):=by
  have h:=wK (Ed lo) iR ids j hlm;rw [ah alL] at h;exact h
 clear Si;generalize ids[j]=y at *;generalize ids[j+1]=x at *;cases h1:decide (lo<=x/\x<=1000000000)
 case' false=>
  exact ai3
 by_cases h2:y < x
 case' neg=>
  have hy:decide (x<=y)=true:=aET Aaa;have HV:=Hq (HBM (by rw [ah iJ];simp[iR,h2]));exact axH
 have hy:decide (x<=y)=false:=aES Aaa;have HV:=Hq (show ig (Ed lo) iR (ids.take (j+1+1))=true by rw [ah iJ];simp[Ed,h1,iR,h2]);open aoM in exact ajT):P:=h
theorem avs.Aeq(h:P:=by
 have iJ:Hid (ig (kU id par) iR (kids.take (j+1+1))=(kU id par kids[j+1]&&iR kids[j] kids[j+1])):=by
  have h:=ah BP j hlt;rw [ah jA] at h;exact h
 clear Ov BP yC;generalize kids[j]=y at *;generalize kids[j+1]=x at *;open auc in exact agQ):P:=h
theorem ahe(h:P:=by
 have hke:k=n.out.length:=Aaa
 subst hke;have hnlt:decide ((n.out.length:Int) < (n.out.length:Int))=false:=Aac
 exact Aey):P:=h
theorem avt.Aey(h:P:=by
 go_wp2_with fail;go_ret;have hS:=ah zJ;rw [aFh] at hS;exact⟨rfl,cc,vv,hS⟩):P:=h
theorem avu.Aey(h:P:=by
 have qH:=Hq (aj nK iQ);have HN3:=Hq (Ii.kc (k:=9) (KC.of_below iQ) Aaa);have HB3:=Hq (HB2.trans (iQ.mono HB2.size));have h2r:=ay nK;clear hlt hk HNK HFS HFN HF0 pY iQ kQ BQ nK Ii HB2;have f5n:=aC sZ 5;go_upto_region 14 with fail;refine wp_at (λZ hZ=>?_);have DX:Hid (Z.heap[w.heap.size]?=some (.cells (wC n.id n.par A.k n.kids.length A.ck n.next A.p n.pu.length A.cp a (FL n.out.length).length cp A.s n.seen.length A.cs n.old A.r n.reqs.length A.cr) 39 (0,0))):=by rw [hZ];exact Dv sZ
 have SH:Hid (Z.heap[w.heap.size+2]?=some (.cells lC 39 (0,0))):=by rw [hZ];exact jq qH Aaa
 have HN4:Hid (NQ Z B n A G (newC w.heap.size 9 c)):=by rw [hZ];exact HN3.kc (k:=9) (KC.set (aY (aER _))) Aaa
 have HO4:Hid (Z.ownsRow W2.heap.size 145 4 (.slice a (FL n.out.length).length cp) (FL n.out.length).length (GR.flat aM (FL n.out.length))):=by rw [hZ];exact dM HO (aA.set _) (λy hy=>by have:y=w.heap.size:=Aar;omega)
 have nC:Hid (Below B w Z):=by rw [hZ];exact(HB3.mono hB).setCell (p:=⟨w.heap.size,5,none⟩) hB _
 have HK4:Hid (Apart c w Z):=by rw [hZ];exact(Apart.of_below HB3).keeps HB3.size (aA.set _) (λy hy=>by have:y=w.heap.size:=Aar;omega)
 clear hZ f5n c0 c1 c2 c3 c4 c5 c6 c7 c8 m0 m1 m2 m3 m4 m5 m6 hml hnl sZ Xx qH HN3 HB3 HO;have yc:=Hq (aj SH (au Z (.cells #[] 70)));have wm:=Hq (nC.trans ((au Z (.cells #[] 70)).mono (aEU hB nC.size)));have HKA:=Hq (HK4.step nC.size (au Z (.cells #[] 70)));have Ob:=Hq (HN4.kc (k:=9) (KC.of_below (au Z (.cells #[] 70))) Aaa);have HOA:=Hq (GR.own_below HO4 (au Z (.cells #[] 70)));obtain⟨c0,c1,c2,c3,c4,c5,c6,c7,c8⟩:=nine DX;obtain⟨⟨d0,d1,d2,d3,d4,d5,d6,d7,d8⟩,f0,f1,f2,f3,f4,f5,f6,f7,f8⟩:=iT yc;have hnl:=ay DX;have hrl:=ay yc;go_wp2_with fail;refine eP (u1:= .slice (some ⟨Z.heap.size,0,none⟩) 0 0) (u2:= .int .i64 0) results131 rfl rfl rfl rfl yc (λW' e4 fC=>?_)
 have HAT:=Hq (λW'' (ho:Out c w W' W'')=>(show RM W'' ⟨A.k,A.p,a,A.s,A.r,A.ck,A.cp,cp,A.cs,A.cr⟩ (setOut n (FL n.out.length)) from by
  have kF:KC (newC w.heap.size 9 c) 9 (Z.alloc (.cells #[] 70)) W'':=(KC.keeps fC (λy hy=>by have:y=w.heap.size+2:=Aar;rw [this];exact aY Aaa)).trans (KC.out H9 ho)
  have hoF:W''.ownsRow W2.heap.size 145 4 (.slice a (FL n.out.length).length cp) (FL n.out.length).length (GR.flat aM (FL n.out.length)):=by
   obtain⟨F,hk,hF⟩:=ho;exact(dM (dM HOA fC (λy hy=>by have:y=w.heap.size+2:=Aar;omega)) hk (λy hy=>by have:=(hF y hy).1;omega))
  have h5:=Ob.kc (k:=9) kF Aaa
  exact NQ.put h5 h5 (setOut n (FL n.out.length)) ⟨A.k,A.p,a,A.s,A.r,A.ck,A.cp,cp,A.cs,A.cr⟩ rfl rfl rfl rfl h5.p.at (λg' hg' hp'=> .inl (h5.cpB h5 g' hg' hp')) hoF (λy hy=> .inr (by have h1:=vD hoF hy;rw [aY Aaa];omega)) h5.r (λy hy=> .inl (h5.cr y hy))
   (λg' hg' hp' h6=>by have:=h5.cpB h5 g' hg' hp';omega) (λy hy h6 e=>by have:=h5.cr y e;omega)))
 open atq in exact agI):P:=h
theorem JX(h:P:=by
 iterate 6 (refine lW (λK hK=>?_);go_simp;refine hK _ ?_;clear hK K)
 refine jh ?_;exact AaV):P:=h
theorem avv.AaV(h:P:=by
 refine aS Aab (λx hx=>?_);have aCc:=hap x (aj ajp hx);have aCe:=hcl x (aj ajp hx);have HF2:=Hq (zN x hx);clear hap hcl hx zN ajp;refine aI 6 rfl Aab Aad ?_;refine aGP x (.tmp 22) (.tmp 25) 37 37 rfl (.slice (some ⟨g,0,none⟩) 0 cap) (.slice (some ⟨g,4,none⟩) (l.length - 1) (cap - 1)) Aao Aao _ _ (aCc _ _) ?_;refine aI 7 rfl Aab Aad ?_;go_simp;refine wpAny_done Aab ?_;go_simp;go_wp2_with (simp only[akx,aCe])
 go_ret;exact⟨rfl,HF2.1,HF2.2⟩):P:=h
theorem avw.AaV(h:P:=by
 refine fP 4 rfl Aab Aad (λx hx=>?_);go_simp;refine(HS _).mono ?_;rintro e y ⟨g2,rfl,hg2,hblk,hby⟩;refine⟨hby,?_⟩;have JL:=Hq (Ge.trans (Ge.trans xD hx) hby);have hgy:=dx hblk;obtain⟨c0,c1,c2,c3⟩:=LK hblk;have hcv:=λd os=>HCV (Sort.grow (redrawn y d) os) g2 (aEQ c0 d os) (aEQ c1 d os) (aEQ c2 d os) (aEQ c3 d os)
 clear hx hby hblk c0 c1 c2 c3 HCV xD HS hcc HCC hg2;refine tk [5,8,9] ?_;iterate 3 (refine lW (λK hK=>?_);go_simp;refine hK _ ?_;clear hK K)
 refine jh ?_;refine dW Aab (λx2 hx=>?_);have uH:=Hq (Ge.trans JL hx);clear hx JL hcv;go_simp;go_wp2_with fail;exact AaJ):P:=h
theorem avx.AaV(h:P:=by
 refine dW Aab (λz hz=>?_);have uH:=Hq (Ge.trans jO hz);clear hz jO hcv a1 a2 a3 a4;go_simp;go_wp2_with fail;go_ret;exact⟨rfl,uH⟩):P:=h
theorem avy.AaV(h:P:=by
 clear z1 z2 z3;exact AdQ):P:=h
theorem avz.AaV(h:P:=by
 refine gJ 6 rfl Aab Aab Aab (λ_ _ _ _ h=>h) (λK hK=>?_);go_simp
 first
  |(refine hK _ ?_;clear hK K)
  |(apply Exists.intro
    refine⟨λ_=>?_,hK _ ?_⟩
    (exact HKD _ (SK _))
    clear hK K)
 refine tk [7] ?_;(refine lW (λK hK=>?_);go_simp;refine hK _ ?_;clear hK K)
 refine jh ?_;refine dW Aab (λz hz=>?_);have HZ:=Hq (HW1.step hz);exact AaG):P:=h
theorem avA.AaV(h:P:=by
 refine fK 6 20 rfl Aab Aab Aab Aab Aab (λ_ _ _ _ h=>h) (λK hK=>?_);go_simp
 first
  |(refine hK _ ?_;clear hK K)
  |(apply Exists.intro
    refine⟨λ_=>?_,hK _ ?_⟩
    (exact aAl _)
    clear hK K)
 clear y0 y1 y2 y3 y4 y5 y6 y7 y8 x0 x1 x2 x3;refine aS Aab (λx hx=>?_);have JU:=Hq (HSY x cc vv k hk ⟨qK,qF,qT,qI,qL,qk,qN⟩ HKk (vQ.step hx));clear hx vQ;refine aI 7 rfl Aab Aad ?_;go_simp;refine JU.mono ?_;rintro e y ⟨rfl,c',v',hY⟩;have HY:=Hq hY;clear hY JU;refine wpAny_done Aab ?_;go_simp;go_wp2_with fail;go_roundw
 case rel=>exact⟨k+1,c',v',Aaa,Aaf,by rw [ah HT];exact HY⟩
 case measure=>simp[intOf];omega):P:=h
theorem JY(h:P:=by
 iterate 5 (refine lW (λK hK=>?_);go_simp;refine hK _ ?_;clear hK K)
 refine jh ?_;exact AaW):P:=h
theorem avB.AaW(h:P:=by
 clear y0;refine dP 6 rfl Aab Aad (λx hx=>?_);go_simp;refine(HO _ ((HH.keep1 (HF2.step hx).keep hfb hne))).mono ?_;rintro e y ⟨hcase,hby⟩;have HFX:=Hq (HF2.step hx);clear hx;rcases hcase with⟨hyes,rfl⟩|⟨hno,p,rfl⟩
 case' inr=>
  have HST:=Hq (HN hno);exact⟨rfl,.inr ⟨_,rfl⟩,HFX.found HS HST hby⟩
 have HST:=Hq (HY hyes);have HSN:=Hq (iJ HST);obtain⟨hz5,hz6⟩:=ah HGT HST;clear hyes HY HN iJ HGT HO HF2;refine⟨hby,?_⟩;have HFY:=Hq (HFX.step hby);clear hby HFX;refine dP 7 rfl Aab Aad (λx2 hx2=>?_);go_simp;refine⟨au x2 _,?_⟩;have HFZ:=Hq ((HFY.step hx2).step (au x2 (.cells (bV K no k n mK mF mT mI mL mk mN) 73)));have Iz:=Hq (aEP x2 (.cells (bV K no k n mK mF mT mI mL mk mN) 73));clear hx2 HFY;generalize x2.alloc (.cells (bV K no k n mK mF mT mI mL mk mN) 73)=y2 at *;refine aS Aab (λu hu=>?_);have HFU:=Hq (HFZ.step hu);have HNU:=Hq (aJ Iz hu);clear hu HFZ Iz;have hLl:=ah HL;refine aI 8 rfl Aab Aad ?_;refine pX u (.tmp 37) (.tmp 40) 93 rfl (w.heap.size+1) 73 i0 (.agg (bV 0 0 ByteArray.empty 0 0 0 0 0 0 ByteArray.empty 0)) 11 104 underlying93 hi hz0 hz1 hz2 rfl Aae (.slice va L.length vc) L.length (GR.flat oD L) Aao HFU.own ⟨x2.heap.size,0,none⟩ 1 1 (oD ⟨K,no,k,n,⟨mK,mF,mT,mI,mL,mk,mN⟩⟩) Aao rfl (aFF HNU) (Pq _) Aaj Aaa (by have:=HFU.gl;omega) ?_;intro v6 w6 hown6 rP _;obtain⟨va6,vc6,hv6,_⟩:=GR.own_at (enc:=oD) (sz:=11) (l:=L++[⟨K,no,k,n,⟨mK,mF,mT,mI,mL,mk,mN⟩⟩]) kC (by rw [aEW,yV];exact hown6);rw [aEW] at hv6;have hv7:v6= .slice va6 (L.length+1) vc6:=hv6;subst hv7;clear hv6;obtain⟨hb6,hF6⟩:=HFU.app ⟨K,no,k,n,⟨mK,mF,mT,mI,mL,mk,mN⟩⟩ hown6 rP;have HF6:=Hq (hF6 z);obtain⟨k0,k1⟩:=ZQ hb6;have kf0:=ai6 hb6 0;have kf1:=ai6 hb6 1;clear hown6 rP hb6 hF6 HFU HNU;refine aI 9 rfl Aab Aad ?_;go_simp;refine aI 10 rfl Aab Aad ?_;go_simp;refine aI 11 rfl Aab Aad ?_;go_simp;refine wpAny_done Aab ?_;go_simp;go_wp2_with fail;go_roundw
 case rel=>exact⟨z,_,_,HF6,HSN⟩
 case measure=>
  have h1:=ah HEA;have h2:=HF6.endOf;rw [h1,h2];omega):P:=h
theorem avC.AaW(h:P:=by
 clear y9 z0 z1 z2 z3 z4 z5 z6;refine dP 6 rfl Aab Aad (λx hx=>?_);go_simp;refine⟨au x _,?_⟩;have JU:=Hq ((HSW.step hx).step (au x (.cells (bX mK mF mT mI mL mk mN) 70)));have iJ:=Hq (aEP x (.cells (bX mK mF mT mI mL mk mN) 70));have hbs:w0.heap.size<=x.heap.size:=(HSW.step hx).keep.size;clear hx HSW HXW iQ HS;generalize x.alloc (.cells (bX mK mF mT mI mL mk mN) 70)=y at *;refine aS Aab (λz hz=>?_);have wJ:=Hq (JU.step hz);have Iz:=Hq (aj iJ hz);clear hz JU iJ;refine aI 7 rfl Aab Aad ?_;refine pX z (.tmp 12) (.tmp 14) 40 rfl w0.heap.size 70 i0 (.agg (bX 0 0 0 0 0 ByteArray.empty 0)) 7 64 underlying40 hi hz0 hz1 hz2 rfl Aae (.slice va L.length vc) L.length (GR.flat jC L) Aao wJ.m ⟨x.heap.size,0,none⟩ 1 1 (jC ⟨mK,mF,mT,mI,mL,mk,mN⟩) Aao rfl (aFF Iz) (Pp _) Aaj Aaa wJ.keep.size ?_;intro v6 w6 hown6 rP PU;obtain⟨va6,vc6,hv6,_⟩:=GR.own_at (enc:=jC) (sz:=7) (l:=L++[⟨mK,mF,mT,mI,mL,mk,mN⟩]) ku (by rw [aEW,jr];exact hown6);rw [aEW] at hv6;have hv7:v6= .slice va6 (L.length+1) vc6:=hv6;subst hv7;clear hv6;obtain⟨hb6,hS6⟩:=wJ.app ⟨mK,mF,mT,mI,mL,mk,mN⟩ hown6 rP PU;have SI:=Hq hS6;obtain⟨k0,k1,k2,k3,k4,k5,k6,k7,k8,k9⟩:=jT hb6;have kf:=aC hb6 9;clear hown6 rP PU hb6 hS6 wJ Iz;refine aI 8 rfl Aab Aad ?_;go_simp;refine aI 9 rfl Aab Aad ?_;go_simp;refine aI 10 rfl Aab Aad ?_;go_simp;refine wpAny_done Aab ?_;go_simp;go_wp2_with fail;exact aGJ (v:= .tuple #[]) (by simp[results,results220,go_sem]) rfl ⟨rfl,_,_,SI⟩):P:=h
theorem avD.AaW(h:P:=by
 refine dW Aab (λz hz=>?_);have HZ:=Hq hz;have HRZ:=Hq (aJ H hz);clear hz y0 y1 SK HC H;go_simp;go_wp2_with fail;refine(HG _ HRZ).mono ?_;rintro e w1 ⟨rfl,rfl⟩;go_wp2_with fail;exact Aef):P:=h
theorem avE.AaW(h:P:=by
 refine dW Aab (λz hz=>?_);have HZ:=Hq (Ge.trans HXY hz);have HRZ:=Hq (GR.own_below HRW hz);have OC:=Hq (aj nD HZ);have aei:=Hq (aj wu HZ);have Iz:=Hq (yD.kc (k:=9) (KC.of_below HZ) Aaa);have uH:=Hq (HB1.trans (HZ.mono HB1.size));have hgz:g < z.heap.size:=aEZ hg HZ.size;clear hz HXY HRW;go_simp;obtain⟨c0,c1,c2,c3,c4,c5,c6,c7,c8⟩:=nine OC;obtain⟨⟨d0,d1,d2,d3,d4,d5,d6,d7,d8⟩,f0,f1,f2,f3,f4,f5,f6,f7,f8⟩:=iT aei;have hnl:=ay OC;have hrl:=ay aei;exact AdF):P:=h
theorem avF.AaW(h:P:=by
 refine gJ 7 rfl Aab Aab Aab (λ_ _ _ _ h=>h) (λK hK=>?_);go_simp
 first
  |(refine hK _ ?_;clear hK K)
  |(apply Exists.intro
    refine⟨λ_=>?_,hK _ ?_⟩
    (exact N1 _)
    clear hK K)
 refine tk [9,10] ?_;iterate 2 (refine lW (λK hK=>?_);go_simp;refine hK _ ?_;clear hK K)
 refine jh ?_;refine gJ 11 rfl Aab Aab Aab (λ_ _ _ _ h=>h) (λK hK=>?_);go_simp
 first
  |(refine hK _ ?_;clear hK K)
  |(apply Exists.intro
    refine⟨λ_=>?_,hK _ ?_⟩
    (exact N2 _)
    clear hK K)
 refine tk [13,14] ?_;iterate 2 (refine lW (λK hK=>?_);go_simp;refine hK _ ?_;clear hK K)
 refine jh ?_;refine gJ 15 rfl Aab Aab Aab (λ_ _ _ _ h=>h) (λK hK=>?_);go_simp
 first
  |(refine hK _ ?_;clear hK K)
  |(apply Exists.intro
    refine⟨λ_=>?_,hK _ ?_⟩
    (exact N3 _)
    clear hK K)
 refine tk [17,18] ?_;open arO in exact zZ):P:=h
theorem avG.AaW(h:P:=by
 clear y0 z0 z1 z2 z3 z4 z5 z6 z7 z8 z9 z10;refine aS Aab (λx hx=>?_);have HXX:=Hq (HX x (HW4.step hx));clear hx;refine aI 5 rfl Aab Aad ?_;go_simp;refine HXX.mono ?_;rintro e y ⟨rfl,A',G',c',v',hY⟩;have HY:=Hq hY;clear hY HXX;refine aI 6 rfl Aab Aad ?_;go_simp;refine wpAny_done Aab ?_;go_simp;go_wp2_with fail;go_ret;exact⟨rfl,A',G',c',v',HY⟩):P:=h
theorem ahf(h:P:=by
 go_simp;refine aI 6 rfl Aab Aad ?_;go_simp;refine aI 7 rfl Aab Aad ?_;go_simp;refine wpAny_done Aab ?_;go_simp;exact Adm):P:=h
theorem avH.Adm(h:P:=by
 clear d0 d1 d2 d3 d4 d5 d6 d7 d8 f0 f1 f2 f3 f4 f5 f6 f7 f8;go_wp2_with fail;refine iE (λW' hW'=>?_)
 obtain⟨SW,hSW,hsz,hk0,e3⟩:∃SW:World,W'=SW.alloc (.cells (bX qK qF qT qI qL qk qN) 70)/\SW.heap.size=z.heap.size/\aA [w.heap.size+1] z SW/\SW.heap[w.heap.size+1]?=some (.cells (wC n.id n.par a_k n.kids.length dH (n.next+1) av RL.length cv a6 (n.out.length+1) c6 jc n.seen.length dJ n.old jy n.reqs.length dR) 39 (0,0)):=
  ⟨GR.setW z (w.heap.size+1) 0 (wC n.id n.par a_k n.kids.length dH (n.next+1) av RL.length cv a6 (n.out.length+1) c6 jc n.seen.length dJ n.old jy n.reqs.length dR).toList,hW',by simp[GR.setW],gI (wC n.id n.par a_k n.kids.length dH (n.next+1) av RL.length cv a6 (n.out.length+1) c6 jc n.seen.length dJ n.old jy n.reqs.length dR).toList z 0,GR.setW_blk (wC n.id n.par a_k n.kids.length dH (n.next+1) av RL.length cv a6 (n.out.length+1) c6 jc n.seen.length dJ n.old jy n.reqs.length dR).toList (o:=0) (xs:=lC.toList) OE⟩
 have e4:W'.heap[w.heap.size+1]?=some (.cells (wC n.id n.par a_k n.kids.length dH (n.next+1) av RL.length cv a6 (n.out.length+1) c6 jc n.seen.length dJ n.old jy n.reqs.length dR) 39 (0,0)):=by rw [hSW];exact aj e3 (au SW _)
 have fC:aA [w.heap.size+1] z W':=by rw [hSW];exact hk0.trans (aA.of_below (au SW _))
 have hm:W'.heap[z.heap.size]?=some (.cells (bX qK qF qT qI qL qk qN) 70 (0,0)):=by rw [hSW,<-hsz];exact aEP SW _
 have HFI:=Hq (zN W' z.heap.size ((aA.of_below HZ).trans fC) hm (by have:=ay OE;omega));obtain⟨x0,x1,x2,x3,x4,x5,x6,x7,x8⟩:=nine e4;clear hW' e4 fC hm hSW hsz hk0 e3;exact aEY (v:= .tuple #[.agg (wC n.id n.par a_k n.kids.length dH (n.next+1) av RL.length cv a6 (n.out.length+1) c6 jc n.seen.length dJ n.old jy n.reqs.length dR),.slice (some ⟨z.heap.size,0,none⟩) 1 1,.int .i64 0]) (by simp[results,results132,go_sem,x0,x1,x2,x3,x4,x5,x6,x7,x8]) rfl ⟨⟨a_k,av,a6,jc,jy,dH,cv,c6,dJ,dR⟩,some ⟨z.heap.size,0,none⟩,1,by rw [ah HNV],HFI.1,HFI.2.1,HFI.2.2.1,HFI.2.2.2⟩):P:=h
theorem avI.Adm(h:P:=by
 clear d0 d1 d2 d3 d4 d5 d6 d7 d8 f0 f1 f2 f3 f4 f5 f6 f7 f8 hrl;go_wp2_with fail;refine eP (u1:= .slice (some ⟨z.heap.size,0,none⟩) 1 1) (u2:= .int .i64 0) results132 rfl rfl rfl rfl OE (λW' e4 fC=>?_);have HFI:=Hq (zN W' z.heap.size ((aA.of_below HZ2).trans fC) (fC.obj Vw (λhm=>by have:z.heap.size=w.heap.size+1:=Aaz;omega)) Aaa);clear e4 fC;exact⟨⟨a_k,av,a6,jc,jy,dH,cv,c6,dJ,dR⟩,some ⟨z.heap.size,0,none⟩,1,by rw [ah HNV],HFI.1,HFI.2.1,HFI.2.2.1,HFI.2.2.2⟩):P:=h
theorem ahg(h:P:=by
 rw [Mth.take_all s k hlt] at HA;have HF:Hid (Mth.keyOk s.data.toList=decide (1<=s.data.toList.length/\s.data.toList.length<=10)):=Mth.keyOk_all _ HA;rw [bf s] at HF;exact Ac1):P:=h
theorem avJ.Ac1(h:P:=by
 by_cases hin:(1:Int)<=(s.size:Int)/\(s.size:Int)<=10
 .obtain⟨hi1,hi2⟩:=hin;exact ahw
 .exact ahw):P:=h
theorem avK.Ac1(h:P:=by
 go_wp2
 go_ret;exact⟨aF (by rw [ah HF];simp;omega),rfl⟩):P:=h
theorem ahh(h:P:=by
 generalize l[k]=pu at *;have nH:=Hq (λw1=>FW pu w1 hkk);clear hkk;obtain⟨pk,pm,pf,ps⟩:=pu;exact Aet):P:=h
theorem avL.Aet(h:P:=by
 dsimp only at c0 c1 c2 c3 hf;go_wp2_with fail;refine(nH _).mono ?_;rintro e w1 ⟨rfl,hb1⟩;have hb2:=aZ.trans ((Below.mono (Fo.one_block hb1).2.2 aZ.size));have hB:w1.heap[w.heap.size]?=some (.cells (iX ⟨#[]⟩ 0 0 0) 155 (0,0)):=by rw [(Fo.one_block hb1).2.2.block _ afa];exact Ig
 have HB:=Hq hB;have HB2:=Hq hb2;obtain⟨⟨r0,r1,r2,r3⟩,s0,s1,s2,s3⟩:=fZ hB;clear hB hb1 hb2;go_wp2_with fail;clear r0 r1 r2 r3;refine Fo.bodyPost_at (λW' hW'=>?_);obtain⟨⟨r0,r1,r2,r3⟩,_⟩:=fZ (show W'.heap[w.heap.size]?=some (.cells (iX pk pm pf ps) 155 (0,0)) by rw [hW'];exact Fo.four_set HB);have hbb:aH w W':=by rw [hW'];exact Fo.four_below HB2 (aER _)
 refine aEY (v:= .agg (iX pk pm pf ps)) (by simp[results,results244,go_sem,r0,r1,r2,r3]) rfl ⟨by rw [ah HX],hbb⟩):P:=h
theorem avM.Aet(h:P:=by
 dsimp only at q0 q1 q2 q3;go_wp2_with fail;refine(nH _).mono ?_;rintro e w5 ⟨rfl,hb5⟩;obtain⟨_,_,hb6⟩:=Fo.one_block hb5;have gX:=Hq (yg.below HB hb6);have fO:=Hq (aZ.trans (hb6.mono aZ.size));clear hb5 hb6 q0 q1 q2 q3;obtain⟨_,aDY,⟨s0,s1,s2,s3⟩,f0,f1,f2,f3⟩:=yg.four gX k hlt;go_wp2_with fail;go_roundw
 case rel=>
  have h:=yg.set gX k ⟨pk,pm,pf,ps⟩ hlt;rw [ah HSE] at h;exact⟨k+1,Aaa,Aaf,h,GR.setW_below (o:=k*4) hg (fA ⟨pk,pm,pf,ps⟩) fO⟩
 case measure=>simp[intOf];omega):P:=h
theorem ahi(h:P:=by
 have HK:=Hq ((dQ.of_below (au w _)).trans hk1);have HR1:=Hq hr1;have HH1:=Hq (PK HH HK hg hge);clear hr1 hk1;go_wp2_with fail;refine(HGM _ HH1).mono ?_;rintro e w2 ⟨rfl,hb2⟩;exact AdA):P:=h
theorem avN.AdA(h:P:=by
 have HR2:=Hq (aJ HR hb2);have HA2:=Hq (aJ HR1 hb2);have oq:=Hq (HK.trans (dQ.of_below hb2));have hz2:=dx HR2;have hz3:=dx HA2;clear hb2 HR HK HR1 HH1;go_upto_region 7 with fail;refine wp_at (λV hV=>?_);have HMV:Hid (V.heap[w2.heap.size]?=some (.cells (bX mK mF mT mI mL mk mN) 70 (0,0))):=by rw [hV];exact aEP w2 _
 have HRV:Hid (V.heap[w.heap.size]?=some (.cells (bX 0 0 0 0 0 ⟨#[]⟩ 0) 70 (0,0))):=by rw [hV];exact aJ HR2 (au w2 _)
 have HAV:Hid (jQ V g s E):=by rw [hV];exact aJ HA2 (au w2 _)
 have Xw:Hid (dQ g w V):=by rw [hV];exact oq.trans (dQ.of_below (au w2 _))
 clear hV HR2 HA2 oq;have BK:=dx HMV;obtain⟨q0,q1,q2,q3,q4,q5,q6⟩:=uK HMV;obtain⟨⟨d0,d1,d2,d3,d4,d5,d6⟩,f0,f1,f2,f3,f4,f5,f6⟩:=eF HRV;go_wp2_with fail;refine iD (λW' hW'=>?_);obtain⟨⟨r0,r1,r2,r3,r4,r5,r6⟩,_⟩:=eF (show W'.heap[w.heap.size]?=some (.cells (bX mK mF mT mI mL mk mN) 70 (0,0)) by rw [hW'];exact uq HRV);have qC:dQ g w W':=by rw [hW'];exact Dw Xw
 have hRR:jQ W' g s E:=by rw [hW'];exact Bw (Ne.symm hg2) HAV
 exact aEY (v:= .agg (bX mK mF mT mI mL mk mN)) Ade rfl ⟨rfl,hRR,qC⟩):P:=h
theorem avP.AdA(h:P:=by
 have HR2:=Hq (aJ (aJ HR1 hb2) (au w2 (.cells (bX 0 0 0 0 0 ⟨#[]⟩ 0) 70)));have oq:=Hq (HK.trans (dQ.of_below ((hb2.trans ((au w2 (.cells (bX 0 0 0 0 0 ⟨#[]⟩ 0) 70)).mono hb2.size)))));clear hb2;go_wp2_with fail;refine(HF _ HR2).mono ?_;rintro e w3 ⟨rfl,rfl⟩;go_wp2_with fail;exact⟨rfl,⟨_,rfl⟩,oq⟩):P:=h
theorem ahj(h:P:=by
 have e2:b=g1:=by injection e1 with e1;injection e1 with e1 e2
 have e3:off=o1:=by injection e1 with e1;injection e1 with e1 e2
 subst e2 e3;exact AcT):P:=h
theorem avQ.AcT(h:P:=by
 have HT:=Hq (aE0 hlt);have Oc:=Hq (λh2=>(place_at l pk k Aaa jA h2).1);clear s1 s2 s3 e1;cases hbl:Op.bytesLess l[k].k.toList pk.toList with
 |true=>
  clear Oc;generalize l[k]=pu at *;obtain⟨qk,qm,qf,qs⟩:=pu;dsimp only at s0 hbl;go_wp2_with fail;go_quiet (fail);go_wp2
  go_roundw
  case rel=>
   refine⟨k+1,_,Aaa,Aaf,?_,rfl⟩;intro x hx;rw [ah HT] at hx;rcases aFb.1 hx with hx|hx
   .exact jA x hx
   .rw [aE6] at hx;subst hx;exact hbl
  case measure=>simp[intOf];omega
 |false=>
  have Sb:=Hq (Oc (λ_=>hbl));clear Oc HT;generalize l[k]=pu at *;obtain⟨qk,qm,qf,qs⟩:=pu;dsimp only at s0 hbl;exact aif):P:=h
theorem avS.AcT(h:P:=by
 have hae:=hAe hlt;subst hae;have HF:=Hq hf;have hpos:decide (0 < l.length - place l pk)=true:=aET Aaa;have aCP:0 < l.length - place l pk:=Aaa
 clear s1 s2 s3 e1 hf hAe hAd;generalize l[place l pk]=pu at *;obtain⟨qk,qm,qf,qs⟩:=pu;dsimp only at s0 HF;cases heq:qk.toList == pk.toList
 all_goals
  go_quiet (fail)
  go_wp2_with fail
  go_meet
  case rel=>exact⟨by rw [ah HF,heq],_,Ce w1 _ _⟩):P:=h
theorem ahk(h:P:=by
 rintro e W1 ⟨rfl,hb1⟩;have nD:=Hq (aj HN hb1);have wu:=Hq (aj HR hb1);have HB1:=Hq (HB0.trans (hb1.mono HB0.size));have yD:=Hq (Iw.kc (k:=9) (KC.of_below hb1) Aaa);exact Ad9):P:=h
theorem avU.Ad9(h:P:=by
 clear hb1 c0 c1 c2 c3 c4 c5 c6 c7 c8 hnl OD HN HR Iw HB0;exact AbQ):P:=h
theorem avV.Ad9(h:P:=by
 clear hb1 c0 c1 c2 c3 c4 c5 c6 c7 c8 hnl JR HN HR Iw HB0;exact AdM):P:=h
theorem Wh(h:P:=by
 refine aFy ?_;intro _ hw';obtain⟨⟨dq,osq⟩,hw''⟩:=hw';subst hw'';go_wp2_with fail;exact AbF):P:=h
theorem avW.AbF(h:P:=by
 go_roundw
 case rel=>exact⟨k+1,Aaa,Aaf,aZ.trans ((aFl _ dq osq).mono aZ.size)⟩
 case measure=>simp[intOf];omega):P:=h
theorem avX.AbF(h:P:=by
 go_roundw
 case rel=>exact⟨k+1,Aaa,Aaf,HG.1,HG.2,alS.trans ((aFl _ dq osq).mono alS.size)⟩
 case measure=>simp[intOf];omega):P:=h
end Go.Proofs.YtbolgdleijjgfaaGreatDoor
