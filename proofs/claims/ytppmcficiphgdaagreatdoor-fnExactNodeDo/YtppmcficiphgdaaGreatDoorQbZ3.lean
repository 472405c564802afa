/-
  Parts of proofs that stand more than once, each said once.
-/
import Derived.Test.YtppmcficiphgdaaGreatDoorQbZ2
namespace Go.Proofs.YtppmcficiphgdaaGreatDoor
set_option maxRecDepth 100000
variable{P:Prop}
theorem Sb262.Kb80(h:P:=by
 have e4:W'.heap[w.heap.size+2]?=some (.cells #[.int .i64 N1.id,.int .i64 N1.par,.slice A2.k N1.kids.length A2.ck,.int .i64 N1.next,.slice A2.p N1.pu.length A2.cp,.slice A2.o N1.out.length A2.co,.slice A2.s N1.seen.length A2.cs,.int .i64 N1.old,.slice A2.r N1.reqs.length A2.cr] 30 (0,0)):=by
  rw [hW'];exact GR.setW_blk [.int .i64 N1.id,.int .i64 N1.par,.slice A2.k N1.kids.length A2.ck,.int .i64 N1.next,.slice A2.p N1.pu.length A2.cp,.slice A2.o N1.out.length A2.co,.slice A2.s N1.seen.length A2.cs,.int .i64 N1.old,.slice A2.r N1.reqs.length A2.cr] (o:=0) (xs:=[.int .i64 0,.int .i64 0,.slice none 0 0,.int .i64 0,.slice none 0 0,.slice none 0 0,.slice none 0 0,.int .i64 0,.slice none 0 0]) HR_6
 have hkf:KeepsL [w.heap.size+2] W5 W':=by
  rw [hW'];exact setW_keeps [.int .i64 N1.id,.int .i64 N1.par,.slice A2.k N1.kids.length A2.ck,.int .i64 N1.next,.slice A2.p N1.pu.length A2.cp,.slice A2.o N1.out.length A2.co,.slice A2.s N1.seen.length A2.cs,.int .i64 N1.old,.slice A2.r N1.reqs.length A2.cr] W5 0
 have HAT:=hide (fun W'' (ho:Aft w W' W'')=>HAT1 W'' (ho.out (c:=c) (hkf) hrx HC9));have HMT:=hide (fun W'' (ho:Aft w W' W'')=>HMT1 W'' (ho.out (c:=c) (hkf) hrx HC9));open Sb349 in exact Yb119):P:=h
theorem Yb81(h:P:=by
 have hp0:w1.cell? ⟨w.heap.size,0,none⟩=some (.string pk):=by rw [cell_of_row w1 _ _ _ _ (0,0) (unhide HP1)];rfl
 exact Kb81):P:=h
theorem Sb263.Kb81(h:P:=by
 go_upto_region 7 with fail;go_cut [51] (fun r wx=>r= .bool (found l pk)∧∃q,wx=w1.drewN q)
 case first=>
  by_cases hlt:place l pk < l.length
  ·have hf:found l pk=(l[place l pk].k.toList == pk.toList):=by
    unfold found;rw [from_drop,List.drop_eq_getElem_cons hlt]
   obtain⟨g1,o1,e1,hg1,s0,s1,s2,s3⟩:=PursesAt.four (GR.At.below HA HB1) (place l pk) hlt;open Sb348 in exact Yb118
  ·have hf:found l pk=false:=by
    unfold found;rw [from_drop,List.drop_eq_nil_of_le (by omega)]
   have HF:=hide hf;have hpos:decide (0 < l.length - place l pk)=false:=decide_eq_false (by omega);have hps2:l.length - place l pk=0:=by omega
   clear hf;go_quiet (fail);go_wp2_with fail;go_meet
   case rel=>exact⟨by rw [unhide HF],_,drewN_two w1 _ _⟩
 case rest=>
  obtain⟨rfl,q2,rfl⟩:=hcut;go_upto_if 51 with fail;go_cut [9] (fun r wx=>∃(ad':Addr) (cc:Nat),r= .slice (some ad') (tailP l pk).length cc∧PursesAt w1 (some ad') (tailP l pk)∧∃q,wx=w1.drewN q)
  case first=>
   have HA1:=hide (GR.At.below HA HB1);cases hf:found l pk
   ·have HTL:=hide (tail_not hf);have HAE:=hide hAe;clear hAe hAd;go_wp2_with fail;go_meet
    case rel=>
     refine⟨ad,cap - place l pk,by rw [unhide HTL,List.length_drop],?_,_,rfl⟩;rw [unhide HTL];by_cases hlt:place l pk < l.length
     ·rw [unhide HAE hlt];exact At_drop HA1 (place l pk)
     ·exact At_none (List.drop_eq_nil_of_le (by omega))
   ·obtain⟨hlt,htl⟩:=tail_found hf;have HTL:=hide htl;have hae:=hAe hlt;subst hae;clear htl hAe hAd
    obtain⟨ad2,hAd2,hAe2⟩:∃ad2:Addr,(if cap - place l pk=1 then some (⟨b,off+place l pk*4,none⟩:Addr) else some ⟨b,off+place l pk*4+4,none⟩)=some ad2∧(place l pk+1 < l.length→ad2=⟨b,off+place l pk*4+4,none⟩):=by
     by_cases h:cap - place l pk=1
     ·rw [if_pos h];exact⟨_,rfl,fun h2=>by omega⟩
     ·rw [if_neg h];exact⟨_,rfl,fun _=>rfl⟩
    have hone:1≤l.length - place l pk:=by omega
    go_wp2_with fail;go_meet
    case rel=>
     refine⟨ad2,cap - place l pk - 1,by rw [unhide HTL,List.length_drop,Nat.sub_sub],?_,_,rfl⟩;rw [unhide HTL];by_cases hlt2:place l pk+1 < l.length
     ·rw [hAe2 hlt2];have:=At_drop HA1 (place l pk+1);rwa [show off+(place l pk+1)*4=off+place l pk*4+4 by omega] at this
     ·exact At_none (List.drop_eq_nil_of_le (by omega))
  case rest=>
   obtain⟨ad',cc,rfl,hta,q3,rfl⟩:=hcut;obtain⟨i0,hi,hz0,hz1,hz2⟩:=info_parts infoPu;obtain⟨hpf,hpn⟩:=put_flat l ⟨pk,pm,pf,ps⟩;have htl:(l.take (place l pk)).length=place l pk:=by simp;omega
   have hkt:∀q∈putP l ⟨pk,pm,pf,ps⟩,q.k.size≤maxLen:=fun q hq=>by
    rcases put_mem' hq with rfl|hq
    ·exact hpk
    ·exact hk q hq
   go_upto_region 9 with fail;refine Fo.wp_at (fun V hV=>?_);have hVs:w.heap.size < V.heap.size:=by rw [hV];exact Fo.lt_of_blk HP1
   have HBV:=hide (show Below w.heap.size w V by rw [hV];exact HB1.trans ⟨rfl,rfl,rfl,Nat.le_refl _,fun _ _=>rfl⟩);have hblk:V.heap[w.heap.size]?=some (.cells #[.string pk,.int .i64 pm,.int .i64 pf,.int .i64 ps] 141 (0,0)):=by rw [hV];exact HP1
   have HTA:=hide (show PursesAt V (some ad') (tailP l pk) by rw [hV];exact hta);obtain⟨⟨c0,c1,c2,c3⟩,_⟩:=four_at hblk;have HNW:=hide (fun X (hb:Below V.heap.size V X)=>PursesAt.news (GR.At.below HTA hb));have HC0:=hide (fun X (hb:Below V.heap.size V X)=>l03Copy (some ⟨b,off,none⟩) cap (l.take (place l pk)) X (by omega) (fun h=>by cases h) (GR.At.below (At_take (GR.At.below HA HBV) _) hb));have HCA:=hide (fun X (hb:Below w.heap.size w X)=>l03Copy (some ⟨b,off,none⟩) cap l X (by omega) (fun h=>by cases h) (GR.At.below HA hb));have HPF:=hide hpf;have HPN:=hide hpn;rw [htl] at HC0;have hnw:w.heap.size≠V.heap.size:=by omega
   have hmw:V.heap.size≠w.heap.size:=by omega
   have htlen:(tailP l pk).length≤20:=by
    have h3:=tail_len l pk;omega
   clear hV hblk hta hp0 HOK HP1 htl hAd hAe hpf hpn
   go_region_held_law (fun w'=>w'.cell? ⟨w.heap.size,0,none⟩=some (.string pk)∧w'.cell? ⟨w.heap.size,1,none⟩=some (.int .i64 pm)∧w'.cell? ⟨w.heap.size,2,none⟩=some (.int .i64 pf)∧w'.cell? ⟨w.heap.size,3,none⟩=some (.int .i64 ps)) (go_keep)
    (first
     |((go_at_call 115);(refine(HC0 _ (by exact⟨rfl,rfl,rfl,by simp,fun k hk=>by first|rfl|exact Below.heap_alloc _ _ _ hk⟩)).mono ?_);(rintro e w4 ⟨vc,rfl,hv4,hown4,hb4⟩);(have hs4:=hb4.size);(try simp at hs4);(have HB4:=hide (show Below V.heap.size V w4 from Below.trans (b:=_) (by exact⟨rfl,rfl,rfl,by simp,fun k hk=>by first|rfl|exact Below.heap_alloc _ _ _ hk⟩) (hb4.mono (by simp))));(have HO4:=hide (own_lower (b':=V.heap.size) hown4 (by simp)));(first|(guard_hyp hs4:V.heap.size+1≤w4.heap.size;have HN4:=hide (Fo.one_block (show Below (V.alloc (.cells #[.string pk,.int .i64 pm,.int .i64 pf,.int .i64 ps] 141)).heap.size (V.alloc (.cells #[.string pk,.int .i64 pm,.int .i64 pf,.int .i64 ps] 141)) w4 from⟨hb4.os,hb4.tape,hb4.output,hb4.size,hb4.block⟩)).1)|skip);(have d0:=(HB4.cell (p:=⟨w.heap.size,0,none⟩) hVs).trans c0);(have d1:=(HB4.cell (p:=⟨w.heap.size,1,none⟩) hVs).trans c1);(have d2:=(HB4.cell (p:=⟨w.heap.size,2,none⟩) hVs).trans c2);(have d3:=(HB4.cell (p:=⟨w.heap.size,3,none⟩) hVs).trans c3);(have hn4:w.heap.size≠w4.heap.size:=by omega);(have hm4:w4.heap.size≠w.heap.size:=by omega);(clear hb4 hown4 hv4))
     |((guard_hyp hs4:V.heap.size+1≤w4.heap.size);(refine step_append_own _ rfl (.tmp 57) (.tmp 59) 25 rfl V.heap.size 141 i0 (.agg #[.string ByteArray.empty,.int .i64 0,.int .i64 0,.int .i64 0]) 4 40 Tryz.underlying25 hi hz0 hz1 hz2 rfl (by decide) vc (place l pk) (GR.flat encP (l.take (place l pk))) (by simp[Act.eval]) HO4 ⟨V.heap.size,0,none⟩ 1 1 (encP ⟨pk,pm,pf,ps⟩) (by simp[Act.eval]) rfl (World.news_of_block HN4) (encP_one1 ⟨pk,pm,pf,ps⟩) (by unfold maxLen;omega) (by omega) HB4.size ?_);(intro v5 w5 hown5 hgr5 hnil5);(have HO5:=hide hown5);(have HV5:=hide (show v5≠ .slice none 0 0 by first|exact hnil5|exact fun h=>absurd (hnil5.1 h).2 (by decide)));(have HB5:=hide (show Below V.heap.size V w5 from HB4.trans (grown_below' hgr5 (fun k e=>(HO4.lt k e).1) HB4.size)));(have e0:=(HB5.cell (p:=⟨w.heap.size,0,none⟩) hVs).trans c0);(have e1:=(HB5.cell (p:=⟨w.heap.size,1,none⟩) hVs).trans c1);(have e2:=(HB5.cell (p:=⟨w.heap.size,2,none⟩) hVs).trans c2);(have e3:=(HB5.cell (p:=⟨w.heap.size,3,none⟩) hVs).trans c3);(clear hown5 hgr5 hnil5))
     |((guard_hyp hs4:V.heap.size≤w4.heap.size);(refine step_append_own _ rfl (.tmp 57) (.tmp 59) 25 rfl V.heap.size 141 i0 (.agg #[.string ByteArray.empty,.int .i64 0,.int .i64 0,.int .i64 0]) 4 40 Tryz.underlying25 hi hz0 hz1 hz2 rfl (by decide) vc (place l pk) (GR.flat encP (l.take (place l pk))) (by simp[Act.eval]) (HO4.alloc _) ⟨w4.heap.size,0,none⟩ 1 1 (encP ⟨pk,pm,pf,ps⟩) (by simp[Act.eval]) rfl (World.news_of_block (heap_alloc_new w4 _)) (encP_one1 ⟨pk,pm,pf,ps⟩) (by unfold maxLen;omega) (by omega) (Nat.le_trans HB4.size (by simp)) ?_);(intro v5 w5 hown5 hgr5 hnil5);(have HO5:=hide hown5);(have HV5:=hide (show v5≠ .slice none 0 0 by first|exact hnil5|exact fun h=>absurd (hnil5.1 h).2 (by decide)));(have HB5:=hide (show Below V.heap.size V w5 from(HB4.alloc HB4.size _).trans (grown_below' hgr5 (fun k e=>(HO4.lt k e).1) (Nat.le_trans HB4.size (by simp)))));(have e0:=(HB5.cell (p:=⟨w.heap.size,0,none⟩) hVs).trans c0);(have e1:=(HB5.cell (p:=⟨w.heap.size,1,none⟩) hVs).trans c1);(have e2:=(HB5.cell (p:=⟨w.heap.size,2,none⟩) hVs).trans c2);(have e3:=(HB5.cell (p:=⟨w.heap.size,3,none⟩) hVs).trans c3);(clear hown5 hgr5 hnil5))
     |((refine step_append_own _ rfl (.tmp 60) (.tmp 61) 25 rfl V.heap.size 141 i0 (.agg #[.string ByteArray.empty,.int .i64 0,.int .i64 0,.int .i64 0]) 4 40 Tryz.underlying25 hi hz0 hz1 hz2 rfl (by decide) v5 (place l pk+1) (GR.flat encP (l.take (place l pk))++encP ⟨pk,pm,pf,ps⟩) (by simp[Act.eval,Act.put]) HO5 ad' (tailP l pk).length cc (GR.flat encP (tailP l pk)) (by simp[Act.eval,Act.put]) (GR.flat_length encP 4 encP_length _) (HNW _ HB5) (encP_one _) (by unfold maxLen;omega) (by omega) HB5.size ?_);(intro v6 w6 hown6 hgr6 hnil6);(have HB6:=hide (show Below V.heap.size V w6 from HB5.trans (grown_below' hgr6 (fun k e=>(HO5.lt k e).1) HB5.size)));(have HV6:=hide (show v6≠ .slice none 0 0 by first|exact fun h=>HV5 (hnil6.1 h).1|exact fun h=>HV5 (hnil6 h).1));(rw [unhide HPF,unhide HPN] at hown6);(obtain⟨a6,cap6,rfl,hat6⟩:=GR.own_at encP_length hown6);(have HO6:=hide hown6);(have HT6:=hide hat6);(have f0:=(HB6.cell (p:=⟨w.heap.size,0,none⟩) hVs).trans c0);(have f1:=(HB6.cell (p:=⟨w.heap.size,1,none⟩) hVs).trans c1);(have f2:=(HB6.cell (p:=⟨w.heap.size,2,none⟩) hVs).trans c2);(have f3:=(HB6.cell (p:=⟨w.heap.size,3,none⟩) hVs).trans c3);(clear hown6 hgr6 hnil6 hat6))
     |fail)
   all_goals
    have hplen:(putP l ⟨pk,pm,pf,ps⟩).length≤1048600:=by have:=unhide HPN;omega
    have HBW6:=hide (HBV.trans (HB6.mono (by omega)))
    have HSO:=hide (specPursesOk a6 cap6 (putP l ⟨pk,pm,pf,ps⟩) w6 hplen hkt HT6)
    clear hplen d0 d1 d2 d3 e0 e1 e2 e3 f0 f1 f2 f3 c0 c1 c2 c3 HNW HC0
    go_wp2_with fail
    refine HSO.mono ?_
    rintro e w7 ⟨rfl,hb7⟩
    have HB7:=hide (HBW6.trans (hb7.mono HBW6.size))
    have HO7:=hide (own_lower (b':=w.heap.size) (HO6.kept (row:=none) ⟨hb7.os,hb7.tape,hb7.output,hb7.size,fun k hk _=>hb7.block k hk⟩ (own_none _)) (by omega))
    clear hb7 HSO
    cases hps:psOk (putP l ⟨pk,pm,pf,ps⟩)
    ·have HWF:=hide (show withP l ⟨pk,pm,pf,ps⟩ n=(l,false) by rw [unhide HW,hps];rfl);have HCX:=hide (HCA _ HB7);clear hps HW HCA;go_wp2_with fail;refine HCX.mono ?_;rintro e w8 ⟨v8,rfl,hv8,hown8,hb8⟩;have HV8:=hide hv8;have HO8:=hide (own_lower (b':=w.heap.size) hown8 HB7.size);have HB8:=hide (HB7.trans (hb8.mono HB7.size));clear hown8 hb8 hv8;go_wp2_with fail;rw [unhide HWF];exact bodyPost_ret (v:= .tuple #[v8,.bool false]) (by simp[results,Tryz.results179,go_sem]) rfl ⟨v8,rfl,HV8,HO8,HB8⟩
    ·have HWF:=hide (show withP l ⟨pk,pm,pf,ps⟩ n=(putP l ⟨pk,pm,pf,ps⟩,true) by rw [unhide HW,hps];rfl);clear hps HW HCA;go_wp2_with fail;rw [unhide HWF];exact bodyPost_ret (v:= .tuple #[.slice a6 (putP l ⟨pk,pm,pf,ps⟩).length cap6,.bool true]) (by simp[results,Tryz.results179,go_sem]) rfl ⟨_,rfl,HV6,HO7,HB7⟩):P:=h
theorem Sb264.Kb81(h:P:=by
 by_cases hlt:k < l.length
 ·obtain⟨g1,o1,e1,hg1,s0,s1,s2,s3⟩:=PursesAt.four (GR.At.below HA HB1) k hlt;open Sb347 in exact Yb118
 ·open Sb317 in exact Yb104):P:=h
theorem Yb82(h:P:=by
 obtain⟨d0,d1,d2,d3,d4,d5,d6,d7,d8⟩:=nine HRY;have f0:=obj_free HRY 0;have f1:=obj_free HRY 1;have f2:=obj_free HRY 2;have f3:=obj_free HRY 3;have f4:=obj_free HRY 4;have f5:=obj_free HRY 5;have f6:=obj_free HRY 6;have f7:=obj_free HRY 7;have f8:=obj_free HRY 8;have hrl:=obj_lt HRY;go_simp;exact Kb82):P:=h
theorem Sb265.Kb82(h:P:=by
 have hkx:KeepsL [w.heap.size+2] x (GR.setW x (w.heap.size+2) 0 [.int .i64 n.id,.int .i64 n.par,.slice A1.k n.kids.length A1.ck,.int .i64 n.next,.slice A1.p n.pu.length A1.cp,.slice A1.o n.out.length A1.co,.slice A1.s n.seen.length A1.cs,.int .i64 n.old,.slice A1.r n.reqs.length A1.cr]):=setW_keeps [.int .i64 n.id,.int .i64 n.par,.slice A1.k n.kids.length A1.ck,.int .i64 n.next,.slice A1.p n.pu.length A1.cp,.slice A1.o n.out.length A1.co,.slice A1.s n.seen.length A1.cs,.int .i64 n.old,.slice A1.r n.reqs.length A1.cr] x 0;refine⟨hkx.below (fun x hx=>by have:x=w.heap.size+2:=(by simpa using hx);omega) (by have:=obj_lt HRY;omega),?_⟩;have HK1:=hide ((KeepsL.of_below hx).trans hkx);have HR1:=hide (GR.setW_blk [.int .i64 n.id,.int .i64 n.par,.slice A1.k n.kids.length A1.ck,.int .i64 n.next,.slice A1.p n.pu.length A1.cp,.slice A1.o n.out.length A1.co,.slice A1.s n.seen.length A1.cs,.int .i64 n.old,.slice A1.r n.reqs.length A1.cr] (o:=0) (xs:=[.int .i64 0,.int .i64 0,.slice none 0 0,.int .i64 0,.slice none 0 0,.slice none 0 0,.slice none 0 0,.int .i64 0,.slice none 0 0]) HRY);clear hx hkx d0 d1 d2 d3 d4 d5 d6 d7 d8 f0 f1 f2 f3 f4 f5 f6 f7 f8 hrl HRY;refine wpMixB_one 10 rfl (by kernel_rfl) (by rfl) (by decide) (fun y hy=>?_);go_simp;have HK2:=hide (HK1.trans (KeepsL.of_below hy));have HR2:=hide (obj_step HR1 hy);clear hy HK1 HR1;refine⟨(below_one y _).mono (by have:=obj_lt HR2;omega),?_⟩;refine wpMixB_leave (by kernel_rfl) (fun z hz=>?_);have HRZ:=hide (obj_step (obj_step HR2 (below_one y (.cells #[.int .i64 0,.int .i64 n.id,.int .i64 n.par,.int .i64 0,.int .i64 0,.string k,.int .i64 nn] 32))) hz);have hkf:KeepsL [w.heap.size+2] X z:=HK2.trans ((KeepsL.of_below (below_one y (.cells #[.int .i64 0,.int .i64 n.id,.int .i64 n.par,.int .i64 0,.int .i64 0,.string k,.int .i64 nn] 32))).trans (KeepsL.of_below hz));have HMZ:=hide (obj_step (heap_alloc_new y (.cells #[.int .i64 0,.int .i64 n.id,.int .i64 n.par,.int .i64 0,.int .i64 0,.string k,.int .i64 nn] 32)) hz);have hmb:w.heap.size≤y.heap.size:=by have:=obj_lt HR2;omega
 clear hz HK2 HR2;open Sb142 in exact Yb34):P:=h
theorem Sb266.Kb82(h:P:=by
 have hkf:KeepsL [w.heap.size+2] y (GR.setW y (w.heap.size+2) 0 [.int .i64 n.id,.int .i64 n.par,.slice A1.k n.kids.length A1.ck,.int .i64 n.next,.slice A1.p n.pu.length A1.cp,.slice A1.o n.out.length A1.co,.slice A1.s n.seen.length A1.cs,.int .i64 n.old,.slice A1.r n.reqs.length A1.cr]):=setW_keeps [.int .i64 n.id,.int .i64 n.par,.slice A1.k n.kids.length A1.ck,.int .i64 n.next,.slice A1.p n.pu.length A1.cp,.slice A1.o n.out.length A1.co,.slice A1.s n.seen.length A1.cs,.int .i64 n.old,.slice A1.r n.reqs.length A1.cr] y 0;refine⟨hkf.below (fun x hx=>by have:x=w.heap.size+2:=(by simpa using hx);omega) (by have:=obj_lt HRY;omega),?_⟩;clear hkf d0 d1 d2 d3 d4 d5 d6 d7 d8 f0 f1 f2 f3 f4 f5 f6 f7 f8 hrl;refine wpMixB_leave (by kernel_rfl) (fun z hz=>?_);have HRZ:=hide (obj_step (GR.setW_blk [.int .i64 n.id,.int .i64 n.par,.slice A1.k n.kids.length A1.ck,.int .i64 n.next,.slice A1.p n.pu.length A1.cp,.slice A1.o n.out.length A1.co,.slice A1.s n.seen.length A1.cs,.int .i64 n.old,.slice A1.r n.reqs.length A1.cr] (o:=0) (xs:=[.int .i64 0,.int .i64 0,.slice none 0 0,.int .i64 0,.slice none 0 0,.slice none 0 0,.slice none 0 0,.int .i64 0,.slice none 0 0]) HRY) hz);have hkf:KeepsL [w.heap.size+2] X z:=(KeepsL.of_below HY).trans ((setW_keeps [.int .i64 n.id,.int .i64 n.par,.slice A1.k n.kids.length A1.ck,.int .i64 n.next,.slice A1.p n.pu.length A1.cp,.slice A1.o n.out.length A1.co,.slice A1.s n.seen.length A1.cs,.int .i64 n.old,.slice A1.r n.reqs.length A1.cr] y 0).trans (KeepsL.of_below hz));have HMZ:=hide (obj_step ((setW_keeps [.int .i64 n.id,.int .i64 n.par,.slice A1.k n.kids.length A1.ck,.int .i64 n.next,.slice A1.p n.pu.length A1.cp,.slice A1.o n.out.length A1.co,.slice A1.s n.seen.length A1.cs,.int .i64 n.old,.slice A1.r n.reqs.length A1.cr] y 0).obj HMY (fun hm=>by have:x.heap.size=w.heap.size+2:=(by simpa using hm);omega)) hz);clear hz HY HRY HMY;have hmb:w.heap.size≤x.heap.size:=by omega
 open Sb143 in exact Yb34):P:=h
theorem Yb83(h:P:=by
 rw [hL1] at hsly4;subst hsly4;clear hry4 hoy4 hgy4 hwy4;refine wpMixB_one 13 rfl (by kernel_rfl) (by rfl) (by decide) (fun x5 hx5=>?_);have HGx5:=hide (HGy4.trans (hx5.mono HGy4.size));have hsx5:wc.heap.size≤x5.heap.size:=HGx5.size;have HVx5:=hide (GR.own_below HVy4 hx5);have HQx5:=hide (obj_step HQy4 hx5);clear hx5;exact Kb83):P:=h
theorem Sb267.Kb83(h:P:=by
 obtain⟨v5,y5,hry5,hoy5,hgy5,hwy5⟩:=run_append_row encRq_length (by omega) x5 wc.heap.size 28 28 49 i0 (.agg #[.int .i64 0,.string ByteArray.empty,.int .i64 0,.int .i64 0]) 40 Tryz.underlying28 hi hz0 hz1 hz2 rfl (.slice avO (pos+1) cvO) (pos+1) (GR.flat encRq (n.reqs.take pos++[(⟨no,k,nn,1⟩:Rq)])) HVx5 AD (n.reqs.drop pos) (a_cr - pos) (GR.At.below HDR HGx5) (flatRq_one _) (by unfold maxLen;omega) (by omega) hsx5;open Sb282 in exact Yb89):P:=h
theorem Sb268.Kb83(h:P:=by
 obtain⟨v5,y5,hry5,hoy5,hgy5,hwy5⟩:=run_append_row encRq_length (by omega) x5 wc.heap.size 28 28 49 i0 (.agg #[.int .i64 0,.string ByteArray.empty,.int .i64 0,.int .i64 0]) 40 Tryz.underlying28 hi hz0 hz1 hz2 rfl (.slice avO (pos+1) cvO) (pos+1) (GR.flat encRq (n.reqs.take pos++[(⟨no,k,nn,0⟩:Rq)])) HVx5 AD (n.reqs.drop pos) (a_cr - pos) (GR.At.below HDR HGx5) (flatRq_one _) (by unfold maxLen;omega) (by omega) hsx5;open Sb281 in exact Yb89):P:=h
theorem Yb84(h:P:=by
 have hlo:=h.o.lt;have HNO:=hide (h.nine hB);clear h;go_enter Tryz.func60,Tryz.ntmps60
 go_upto_region 1 with fail;refine wp_at (fun W0 hW=>?_);exact Kb84):P:=h
theorem Sb269.Kb84(h:P:=by
 obtain⟨e1,e2,e3⟩:=allocsE2 w (.cells (ndc n A) 30) (.cells zc9 30);open Sb86 in exact Yb22):P:=h
theorem Sb270.Kb84(h:P:=by
 obtain⟨e1,e2,e3⟩:=allocsE2 w (.cells (ndc n A) 30) (.cells zc9 30);open Sb328 in exact Yb109):P:=h
theorem Sb271.Kb84(h:P:=by
 obtain⟨e1,e2,e3⟩:=allocsE2 w (.cells (ndc n (⟨a_k,(some ⟨gp,0,none⟩),a_o,a_s,a_r,a_ck,a_cp,a_co,a_cs,a_cr⟩:Ads)) 30) (.cells zc9 30);open Sb87 in exact Yb22):P:=h
theorem Sb272.Kb84(h:P:=by
 obtain⟨e1,e2,e3⟩:=allocsE2 w (.cells (ndc n (⟨a_k,a_p,a_o,a_s,a_r,a_ck,a_cp,a_co,a_cs,a_cr⟩:Ads)) 30) (.cells zc9 30);open Sb88 in exact Yb22):P:=h
theorem Yb85(h:P:=by
 have HBZ:Hid (Below B w Z9):=by rw [hZ];exact HB9.setCell (p:=⟨w.heap.size,5,none⟩) hB _
 have HKZ:Hid (Apart c w Z9):=by rw [hZ];exact HK9.keeps HB9.size (KeepsL.set _) (fun y hy=>by have:y=w.heap.size:=(by simpa using hy);omega)
 clear hZ HK9 HNX HRUN HN_9 HR_9 HS_9 HB9 c5n s0 s1 s2 s3 c5w f5w hn8 hs8 HN_8 HR_8 HS8 hZ8;exact Kb85):P:=h
theorem Sb273.Kb85(h:P:=by
 have HNV:Hid (ndv ⟨n.id,n.par,n.kids,n.next+1,RL,n.out++[⟨n.next,dst,key,most⟩],n.seen,n.old,n.reqs⟩ ⟨a_k,av,a6,a_s,a_r,a_ck,cv,c6,a_cs,a_cr⟩= .agg #[.int .i64 n.id,.int .i64 n.par,.slice a_k n.kids.length a_ck,.int .i64 (n.next+1),.slice av RL.length cv,.slice a6 (n.out.length+1) c6,.slice a_s n.seen.length a_cs,.int .i64 n.old,.slice a_r n.reqs.length a_cr]):=by unfold Hid;simp[ndv,ndc]
 have HPY:Hid (∀x,Ge Z9 x→Calls Tryz.prog 134 #[.agg #[.int .i64 n.id,.int .i64 n.par,.slice a_k n.kids.length a_ck,.int .i64 (n.next+1),.slice av RL.length cv,.slice a6 (n.out.length+1) c6,.slice a_s n.seen.length a_cs,.int .i64 n.old,.slice a_r n.reqs.length a_cr],.agg #[.int .i64 n.next,.int .i64 dst,.string key,.int .i64 most]] x fun e w'=>e= .returned (mgv PM)∧Below x.heap.size x w'):=fun x hx=>by
  have h1:=specPay ⟨n.id,n.par,n.kids,n.next+1,RL,n.out++[⟨n.next,dst,key,most⟩],n.seen,n.old,n.reqs⟩ ⟨a_k,av,a6,a_s,a_r,a_ck,cv,c6,a_cs,a_cr⟩ ⟨n.next,dst,key,most⟩ x (by simp;omega) (GR.At.below (HNZ Z9 Z9 (KeepsL.refl _ _) Out.refl).o hx)
  rw [unhide HPM,unhide HNV] at h1
  exact h1
 obtain⟨qK,qF,qT,qI,qL,qk,qN⟩:=PM;unfold mgv at HPY
 have HFIN:Hid (∀W' mb,KeepsL [w.heap.size+1] Z9 W'→W'.heap[mb]?=some (.cells #[.int .i64 qK,.int .i64 qF,.int .i64 qT,.int .i64 qI,.int .i64 qL,.string qk,.int .i64 qN] 32 (0,0))→w.heap.size≤mb→(∀W'',Out c w W' W''→NodeAt W'' ⟨a_k,av,a6,a_s,a_r,a_ck,cv,c6,a_cs,a_cr⟩ ⟨n.id,n.par,n.kids,n.next+1,RL,n.out++[⟨n.next,dst,key,most⟩],n.seen,n.old,n.reqs⟩)∧(∀W'',Out c w W' W''→GR.At encM 7 W'' (some ⟨mb,0,none⟩) [⟨qK,qF,qT,qI,qL,qk,qN⟩])∧Below B w W'∧Apart c w W'):=fun W' mb hk hm hmb=>by
  refine⟨fun W'' ho=>HNZ W' W'' hk ho,fun W'' ho i hi=>?_,HBZ.trans (hk.below (fun x hx=>by have:x=w.heap.size+1:=(by simpa using hx);omega) (Nat.le_trans hB HBZ.size)),HKZ.keeps HBZ.size hk (fun x hx=>by have:x=w.heap.size+1:=(by simpa using hx);omega)⟩
  obtain⟨F,hk2,hF⟩:=ho
  have hm2:=hk2.obj hm (fun hx=>by have:=(hF mb hx).1;omega)
  refine⟨mb,0,rfl,obj_lt hm2,fun j hj=>?_⟩
  have hi0:i=0:=by simp at hi;omega
  subst hi0
  have h1:=cell_of_row W'' mb (0+(0*7+j)) _ _ (0,0) hm2
  rw [h1]
  simp[encM]
 exact Zb8):P:=h
theorem Sb274.Kb85(h:P:=by
 have HNV:Hid (ndv ⟨n.id,n.par,n.kids,n.next+1,RL,n.out++[⟨n.next,dst,key,pf⟩],n.seen,n.old,n.reqs⟩ ⟨a_k,av,a6,a_s,a_r,a_ck,cv,c6,a_cs,a_cr⟩= .agg #[.int .i64 n.id,.int .i64 n.par,.slice a_k n.kids.length a_ck,.int .i64 (n.next+1),.slice av RL.length cv,.slice a6 (n.out.length+1) c6,.slice a_s n.seen.length a_cs,.int .i64 n.old,.slice a_r n.reqs.length a_cr]):=by unfold Hid;simp[ndv,ndc]
 have HPY:Hid (∀x,Ge Z9 x→Calls Tryz.prog 134 #[.agg #[.int .i64 n.id,.int .i64 n.par,.slice a_k n.kids.length a_ck,.int .i64 (n.next+1),.slice av RL.length cv,.slice a6 (n.out.length+1) c6,.slice a_s n.seen.length a_cs,.int .i64 n.old,.slice a_r n.reqs.length a_cr],.agg #[.int .i64 n.next,.int .i64 dst,.string key,.int .i64 pf]] x fun e w'=>e= .returned (mgv PM)∧Below x.heap.size x w'):=fun x hx=>by
  have h1:=specPay ⟨n.id,n.par,n.kids,n.next+1,RL,n.out++[⟨n.next,dst,key,pf⟩],n.seen,n.old,n.reqs⟩ ⟨a_k,av,a6,a_s,a_r,a_ck,cv,c6,a_cs,a_cr⟩ ⟨n.next,dst,key,pf⟩ x (by simp;omega) (GR.At.below (HNZ Z9 Z9 (KeepsL.refl _ _) Out.refl).o hx)
  rw [unhide HPM,unhide HNV] at h1
  exact h1
 obtain⟨qK,qF,qT,qI,qL,qk,qN⟩:=PM;unfold mgv at HPY
 have HFIN:Hid (∀W' mb,KeepsL [w.heap.size+1] Z9 W'→W'.heap[mb]?=some (.cells #[.int .i64 qK,.int .i64 qF,.int .i64 qT,.int .i64 qI,.int .i64 qL,.string qk,.int .i64 qN] 32 (0,0))→w.heap.size≤mb→(∀W'',Out c w W' W''→NodeAt W'' ⟨a_k,av,a6,a_s,a_r,a_ck,cv,c6,a_cs,a_cr⟩ ⟨n.id,n.par,n.kids,n.next+1,RL,n.out++[⟨n.next,dst,key,pf⟩],n.seen,n.old,n.reqs⟩)∧(∀W'',Out c w W' W''→GR.At encM 7 W'' (some ⟨mb,0,none⟩) [⟨qK,qF,qT,qI,qL,qk,qN⟩])∧Below B w W'∧Apart c w W'):=fun W' mb hk hm hmb=>by
  refine⟨fun W'' ho=>HNZ W' W'' hk ho,fun W'' ho i hi=>?_,HBZ.trans (hk.below (fun x hx=>by have:x=w.heap.size+1:=(by simpa using hx);omega) (Nat.le_trans hB HBZ.size)),HKZ.keeps HBZ.size hk (fun x hx=>by have:x=w.heap.size+1:=(by simpa using hx);omega)⟩
  obtain⟨F,hk2,hF⟩:=ho
  have hm2:=hk2.obj hm (fun hx=>by have:=(hF mb hx).1;omega)
  refine⟨mb,0,rfl,obj_lt hm2,fun j hj=>?_⟩
  have hi0:i=0:=by simp at hi;omega
  subst hi0
  have h1:=cell_of_row W'' mb (0+(0*7+j)) _ _ (0,0) hm2
  rw [h1]
  simp[encM]
 exact Zb8):P:=h
theorem Yb86(h:P:=by
 have HBF:Hid (Below B w W'):=HBA.trans (hkf.below (fun x hx=>by have:x=w.heap.size+2:=(by simpa using hx);omega) (Nat.le_trans hB HBA.size));have HKF:=hide (Apart.keeps (c:=c) HKA HBA.size hkf (fun x hx=>by have:x=w.heap.size+2:=(by simpa using hx);omega));obtain⟨x0,x1,x2,x3,x4,x5,x6,x7,x8⟩:=nine e4;clear hW' e4 hkf;exact Kb86):P:=h
theorem Sb275.Kb86(h:P:=by
 exact bodyPost_ret (v:= .tuple #[.agg #[.int .i64 N1.id,.int .i64 N1.par,.slice A1.k N1.kids.length A1.ck,.int .i64 N1.next,.slice A1.p N1.pu.length A1.cp,.slice A1.o N1.out.length A1.co,.slice A1.s N1.seen.length A1.cs,.int .i64 N1.old,.slice A1.r N1.reqs.length A1.cr],.slice ma L1.length mc,.int .i64 0]) (by simp[results,Tryz.results62,go_sem,x0,x1,x2,x3,x4,x5,x6,x7,x8]) rfl ⟨A1,ma,mc,rfl,HAT,HMT,HBF,HKF⟩):P:=h
theorem Sb276.Kb86(h:P:=by
 exact bodyPost_ret (v:= .tuple #[.agg #[.int .i64 n.id,.int .i64 n.par,.slice A.k n.kids.length A.ck,.int .i64 n.next,.slice A.p n.pu.length A.cp,.slice a (FL n.out.length).length cp,.slice A.s n.seen.length A.cs,.int .i64 n.old,.slice A.r n.reqs.length A.cr],.slice (some ⟨Z.heap.size,0,none⟩) 0 0,.int .i64 0]) (by simp[results,Tryz.results62,go_sem,x0,x1,x2,x3,x4,x5,x6,x7,x8]) rfl ⟨⟨A.k,A.p,a,A.s,A.r,A.ck,A.cp,cp,A.cs,A.cr⟩,some ⟨Z.heap.size,0,none⟩,0,rfl,HAT,fun W'' _ i hi=>by simp at hi,HBF,HKF⟩):P:=h
theorem Yb87(h:P:=by
 refine(HOK W1 HB1).mono ?_;rintro e W2 ⟨rfl,hb2⟩;have HN_2:=hide (obj_step HN hb2);have HO_2:=hide (obj_step HO hb2);have HR_2:=hide (obj_step HR hb2);have HB2:=hide (HB1.trans (hb2.mono HB1.size));clear hb2 c0 c1 c2 c3 c4 c5 c6 c7 c8 p0 p1 p2 p3 p4 p5 p6 p7 p8 p9 p10 hnl hol HOK HN HO HR HB1;exact Kb87):P:=h
theorem Sb277.Kb87(h:P:=by
 exact Kb10):P:=h
theorem Sb278.Kb87(h:P:=by
 open Sb202 in exact Yb56):P:=h
theorem Yb88(h:P:=by
 clear hge c0 c1 c2 c3 c4 c5 c6 c7 c8 p0 p1 p2 p3 p4 p5 p6 p7 p8 p9 p10 hnl hol HN_4 HO_4 HR_4 HQ_4 HB4 HA4;obtain⟨c0,c1,c2,c3,c4,c5,c6,c7,c8⟩:=nine HN_5;obtain⟨q0,q1,q2,q3⟩:=fourC HQ_5;have hnl:=obj_lt HN_5;have hql5:=obj_lt HQ_5;exact Kb88):P:=h
theorem Sb279.Kb88(h:P:=by
 have HIQ:=hide (show insQ n.reqs ⟨no,k,nn,1⟩=n.reqs.take (reqI n.reqs no)++⟨no,k,nn,1⟩::n.reqs.drop (reqI n.reqs no) from rfl);generalize reqI n.reqs no=pos at *;obtain⟨IQ,hIQ0⟩:∃IQ,insQ n.reqs ⟨no,k,nn,1⟩=IQ:=⟨_,rfl⟩;rw [hIQ0] at HIQ;have HIN:=hide hIQ0;clear hIQ0;go_upto_region 16 with fail;go_cut [10] from 11 (fun i wx=>i= .int .i64 pos∧∃va vc,(∃g,va=some ⟨g,0,none⟩)∧n.reqs.length+1≤vc∧wx.heap[w.heap.size]?=some (.cells #[.int .i64 n.id,.int .i64 n.par,.slice a_k n.kids.length a_ck,.int .i64 n.next,.slice (some ⟨gp,0,none⟩) n.pu.length a_cp,.slice a_o n.out.length a_co,.slice a_s n.seen.length a_cs,.int .i64 n.old,.slice va (n.reqs.length+1) vc] 30 (0,0))∧wx.heap[w.heap.size+2]?=some (.cells zc9 30 (0,0))∧wx.heap[W1.heap.size]?=some (.cells #[.int .i64 no,.string k,.int .i64 nn,.int .i64 1] 49 (0,0))∧Lies encRq 4 (w.heap.size+3) wx va IQ∧Below w.heap.size w wx)
 case first=>
  open Sb110 in exact Yb27
 case rest=>
  clear c0 c1 c2 c3 c4 c5 c6 c7 c8 q0 q1 q2 q3 hnl hql5 HN_5 HR_5 HQ_5 HB5 HA5;obtain⟨rfl,va,vc,⟨gv,rfl⟩,hvc,hN6,hR6,hQ6,hL6,hB6⟩:=hcut;open Sb370 in exact Yb127):P:=h
theorem Sb280.Kb88(h:P:=by
 have HIQ:=hide (show insQ n.reqs ⟨no,k,nn,0⟩=n.reqs.take (reqI n.reqs no)++⟨no,k,nn,0⟩::n.reqs.drop (reqI n.reqs no) from rfl);generalize reqI n.reqs no=pos at *;obtain⟨IQ,hIQ0⟩:∃IQ,insQ n.reqs ⟨no,k,nn,0⟩=IQ:=⟨_,rfl⟩;rw [hIQ0] at HIQ;have HIN:=hide hIQ0;clear hIQ0;go_upto_region 16 with fail;go_cut [10] from 11 (fun i wx=>i= .int .i64 pos∧∃va vc,(∃g,va=some ⟨g,0,none⟩)∧n.reqs.length+1≤vc∧wx.heap[w.heap.size]?=some (.cells #[.int .i64 n.id,.int .i64 n.par,.slice a_k n.kids.length a_ck,.int .i64 n.next,.slice av RL.length cv,.slice a_o n.out.length a_co,.slice a_s n.seen.length a_cs,.int .i64 n.old,.slice va (n.reqs.length+1) vc] 30 (0,0))∧wx.heap[w.heap.size+2]?=some (.cells zc9 30 (0,0))∧wx.heap[W1.heap.size]?=some (.cells #[.int .i64 no,.string k,.int .i64 nn,.int .i64 0] 49 (0,0))∧Lies encRq 4 (w.heap.size+3) wx va IQ∧Lies encP 4 (w.heap.size+3) wx av RL∧Below w.heap.size w wx)
 case first=>
  open Sb109 in exact Yb27
 case rest=>
  clear c0 c1 c2 c3 c4 c5 c6 c7 c8 q0 q1 q2 q3 hnl hql5 HN_5 HR_5 HQ_5 HB5 HA5 HP5;obtain⟨rfl,va,vc,⟨gv,rfl⟩,hvc,hN6,hR6,hQ6,hL6,hP6,hB6⟩:=hcut;open Sb369 in exact Yb127):P:=h
theorem Yb89(h:P:=by
 rw [hld1] at hry5 hoy5;refine Lib.wp_append_run x5 (.tmp 101) (.tmp 105) 28 28 rfl _ _ (by simp[Act.eval]) (by simp[Act.eval]) v5 y5 hry5 ?_;refine⟨(Below.refl _ _).grown hgy5 hsx5 (fun b hb=>(HVx5.lt b hb).1),?_⟩;go_simp;have HGy5:=hide (HGx5.grown hgy5 hsx5 (fun b hb=>(HVx5.lt b hb).1));exact Kb89):P:=h
theorem Sb281.Kb89(h:P:=by
 have HVy5:Hid (y5.ownsRow wc.heap.size 49 4 v5 (pos+1+(n.reqs.length - pos)) (GR.flat encRq (n.reqs.take pos++[(⟨no,k,nn,0⟩:Rq)]++n.reqs.drop pos))):=hide (by rw [GR.flat_append];exact hoy5);have HQy5:=hide (show y5.heap[rb]?=some (.cells #[.int .i64 no,.string k,.int .i64 nn,.int .i64 0] 49 (0,0)) from by rw [hgy5.block _ (obj_lt (unhide HQx5)) (fun hm=>unhide HEy4 _ hm.symm rfl)];exact HQx5);open Sb353 in exact Yb120):P:=h
theorem Sb282.Kb89(h:P:=by
 have HVy5:Hid (y5.ownsRow wc.heap.size 49 4 v5 (pos+1+(n.reqs.length - pos)) (GR.flat encRq (n.reqs.take pos++[(⟨no,k,nn,1⟩:Rq)]++n.reqs.drop pos))):=hide (by rw [GR.flat_append];exact hoy5);have HQy5:=hide (show y5.heap[rb]?=some (.cells #[.int .i64 no,.string k,.int .i64 nn,.int .i64 1] 49 (0,0)) from by rw [hgy5.block _ (obj_lt (unhide HQx5)) (fun hm=>unhide HEy4 _ hm.symm rfl)];exact HQx5);open Sb352 in exact Yb120):P:=h
theorem Yb90(h:P:=by
 have e1:(m:Int)+1+1=m+2:=by omega
 have e2:(m:Int)+2+1=m+3:=by omega
 have e3:(m:Int)+3+1=m+4:=by omega
 have e4:(m:Int)+4+1=m+5:=by omega
 have e5:(m:Int)+5+1=m+6:=by omega
 have e6:(m:Int)+6+1=m+7:=by omega
 exact Kb90):P:=h
theorem Sb283.Kb90(h:P:=by
 go_wp2_with fail;go_region_with (go_at_call 81;refine(HMT _ _ (by omega)).mono ?_;rintro e w1 ⟨rfl,hb1⟩;have hc0:=(bcell hb1).1 g (k*7) (by simpa using hgl);have hc1:=(bcell hb1).1 g (k*7+1) (by simpa using hgl);have hc2:=(bcell hb1).1 g (k*7+2) (by simpa using hgl);have hc3:=(bcell hb1).1 g (k*7+3) (by simpa using hgl);have hc4:=(bcell hb1).1 g (k*7+4) (by simpa using hgl);have hc5:=(bcell hb1).1 g (k*7+5) (by simpa using hgl);have hc6:=(bcell hb1).1 g (k*7+6) (by simpa using hgl);have HBL1:=hide (HBL.trans (((Below.refl _ _).drew.trans hb1).mono HBL.size));clear hb1)
 all_goals
  go_wp2_with fail
  go_roundw
  case rel=>exact⟨k+1,m+7,by omega,by go_num,by go_num,by have:=unhide HM;omega,HBL1⟩
  case measure=>simp[intOf];omega):P:=h
theorem Sb284.Kb90(h:P:=by
 (try simp only[e1,e2,e3,e4,e5,e6] at HB1 ⊢)
 have h1:=GR.C.set h0 (k*7) (.int .i64 (mkMsg m).K);have h2:=GR.C.set h1 (k*7+1) (.int .i64 (mkMsg m).F);have h3:=GR.C.set h2 (k*7+2) (.int .i64 (mkMsg m).T);have h4:=GR.C.set h3 (k*7+3) (.int .i64 (mkMsg m).I);have h5:=GR.C.set h4 (k*7+4) (.int .i64 (mkMsg m).L);have hB:=GR.C.below h5 HB1;have h6:=GR.C.set hB (k*7+5) (.string (mkMsg m).k);have h7:=GR.C.set h6 (k*7+6) (.int .i64 (mkMsg m).N);have hf:=GR.flat_set encM 7 encM_length (mks mkMsg 7 s l k) k (mkMsg m) (by rw [unhide HML];exact hlt);have h9:=GR.C.toW (enc:=encM) (l:=(mks mkMsg 7 s l k).set k (mkMsg m)) encM_length (by omega) (by rw [←hf];exact h7);have hmk:mkMsg m=mkMsg (s+7*k):=by rw [unhide HM]
 rw [hmk,mks_set mkMsg 7 s l k hlt,←hmk] at h9;refine⟨k+1,m+7,by omega,by go_num,by go_num,by have:=unhide HM;omega,h9,?_⟩;exact((((((((HK.trans (fp_keeps (KeepsL.set _) hpos)).trans (fp_keeps (KeepsL.set _) hpos)).trans (fp_keeps (KeepsL.set _) hpos)).trans (fp_keeps (KeepsL.set _) hpos)).trans (fp_keeps (KeepsL.set _) hpos)).trans (KeepsL.of_below HB1)).trans (fp_keeps (KeepsL.set _) hpos)).trans (fp_keeps (KeepsL.set _) hpos))):P:=h
theorem Yb91(h:P:=by
 have HQy2:=hide (obj_step HQx2 hby2);have hrby2:=obj_lt HQx2;have HEy2:=hide (show∀b,(Value.slice (some ⟨x2.heap.size,0,none⟩) 0 0).ownBlock=some b→b≠x1.heap.size from fun b hb=>by simp[Value.ownBlock] at hb;omega);have HGy2:=hide (HGx2.trans (hby2.mono HGx2.size));clear hby2;exact Kb91):P:=h
theorem Sb285.Kb91(h:P:=by
 generalize hyy2:x2.alloc (.cells #[] 3)=y2 at *;open Sb296 in exact Yb96):P:=h
theorem Sb286.Kb91(h:P:=by
 generalize hyy2:x2.alloc (.cells #[] 49)=y2 at *;open Sb298 in exact Yb97):P:=h
theorem Yb92(h:P:=by
 have HNW:Hid (NO W6 B (setSeen n (n.seen.set i ⟨mF,lowS s0 mL,idsS s0 mL⟩)) (⟨a_k,(some ⟨gp,0,none⟩),a_o,(some ⟨G.s,0,none⟩),a_r,a_ck,a_cp,a_co,a_cs,a_cr⟩:Ads) ⟨G.k,G.p,G.o,G.s,G.r,setI G.i i gi⟩ (col5 gi (idsS s0 mL) (newC w.heap.size 9 c))):=by rw [hW6];exact HNO6
 exact Kb92):P:=h
theorem Sb287.Kb92(h:P:=by
 open Sb8 in exact Yb1):P:=h
theorem Sb288.Kb92(h:P:=by
 open Sb7 in exact Yb1):P:=h
theorem Yb93(h:P:=by
 go_simp;have HGx1:=hide (HG0.trans (hx1.mono HG0.size));have hsx1:wc.heap.size≤x1.heap.size:=HGx1.size;clear hx1;refine⟨(below_one x1 _).mono hsx1,?_⟩;exact Kb93):P:=h
theorem Sb289.Kb93(h:P:=by
 have hby1:=below_one x1 (.cells #[] 49);have HVy1:=hide (show(x1.alloc (.cells #[] 49)).ownsRow wc.heap.size 49 4 (.slice (some ⟨x1.heap.size,0,none⟩) 0 0) 0 (GR.flat encRq []) from World.ownsRow_lit (base:=wc.heap.size) (e:=49) (size:=4) x1 #[] 0 hsx1 (by unfold maxLen;omega) (by simp));have HGy1:=hide (HGx1.trans (hby1.mono HGx1.size));clear hby1;generalize hyy1:x1.alloc (.cells #[] 49)=y1 at *;clear hyy1;exact Kb50):P:=h
theorem Sb290.Kb93(h:P:=by
 have hby1:=below_one x1 (.cells #[.int .i64 no,.string k,.int .i64 nn,.int .i64 1] 49);have HQy1:=hide (heap_alloc_new x1 (.cells #[.int .i64 no,.string k,.int .i64 nn,.int .i64 1] 49));have HGy1:=hide (HGx1.trans (hby1.mono HGx1.size));clear hby1;generalize hyy1:x1.alloc (.cells #[.int .i64 no,.string k,.int .i64 nn,.int .i64 1] 49)=y1 at *;open Sb37 in exact Yb8):P:=h
theorem Sb291.Kb93(h:P:=by
 have hby1:=below_one x1 (.cells #[.int .i64 no,.string k,.int .i64 nn,.int .i64 0] 49);have HQy1:=hide (heap_alloc_new x1 (.cells #[.int .i64 no,.string k,.int .i64 nn,.int .i64 0] 49));have HGy1:=hide (HGx1.trans (hby1.mono HGx1.size));clear hby1;generalize hyy1:x1.alloc (.cells #[.int .i64 no,.string k,.int .i64 nn,.int .i64 0] 49)=y1 at *;open Sb38 in exact Yb8):P:=h
theorem Yb94(h:P:=by
 obtain⟨d0,d1,d2,d3,d4,d5,d6,d7,d8⟩:=nine HR_7;have f0:=obj_free HR_7 0;have f1:=obj_free HR_7 1;have f2:=obj_free HR_7 2;have f3:=obj_free HR_7 3;have f4:=obj_free HR_7 4;have f5:=obj_free HR_7 5;have f6:=obj_free HR_7 6;have f7:=obj_free HR_7 7;have f8:=obj_free HR_7 8;exact Kb94):P:=h
theorem Sb292.Kb94(h:P:=by
 have hrl:=obj_lt HR_7;go_wp2_with fail;refine bodyPost_atN (fun W' hW'=>?_)
 have e4:W'.heap[w.heap.size+2]?=some (.cells #[.int .i64 n.id,.int .i64 n.par,.slice A1.k n.kids.length A1.ck,.int .i64 n.next,.slice pa RL.length pc,.slice A1.o n.out.length A1.co,.slice A1.s n.seen.length A1.cs,.int .i64 n.old,.slice A1.r n.reqs.length A1.cr] 30 (0,0)):=by
  rw [hW'];exact GR.setW_blk [.int .i64 n.id,.int .i64 n.par,.slice A1.k n.kids.length A1.ck,.int .i64 n.next,.slice pa RL.length pc,.slice A1.o n.out.length A1.co,.slice A1.s n.seen.length A1.cs,.int .i64 n.old,.slice A1.r n.reqs.length A1.cr] (o:=0) (xs:=[.int .i64 0,.int .i64 0,.slice none 0 0,.int .i64 0,.slice none 0 0,.slice none 0 0,.slice none 0 0,.int .i64 0,.slice none 0 0]) HR_7
 have hkf:KeepsL [w.heap.size+2] Y W':=by
  rw [hW'];exact setW_keeps [.int .i64 n.id,.int .i64 n.par,.slice A1.k n.kids.length A1.ck,.int .i64 n.next,.slice pa RL.length pc,.slice A1.o n.out.length A1.co,.slice A1.s n.seen.length A1.cs,.int .i64 n.old,.slice A1.r n.reqs.length A1.cr] Y 0
 have HAT:=hide (fun W'' (ho:Aft w W' W'')=>(show NodeAt W'' ⟨A1.k,pa,A1.o,A1.s,A1.r,A1.ck,pc,A1.co,A1.cs,A1.cr⟩ (setPu n RL) from(by
  have h:=((HNO7.kc (k:=9) (KC.keeps hkf (fun x hx=>by have:x=w.heap.size+2:=(by simpa using hx);rw [this];exact HC2)) (by omega)).kc (k:=9) (ho.kc (fun x hx=>HC9 x (by omega))) (by omega)).at
  obtain⟨F,hk2,hF⟩:=ho
  exact⟨h.k,GR.own_ati encP_length (own_keepsL (own_keepsL HPO7 hkf (fun x hx=>by have:x=w.heap.size+2:=(by simpa using hx);omega)) hk2 (fun x hx=>by have:=hF x hx;omega)),h.o,h.s,h.r⟩)))
 have HBF:Hid (Below w.heap.size w W'):=HB7.trans (hkf.below (fun x hx=>by have:x=w.heap.size+2:=(by simpa using hx);omega) HB7.size);obtain⟨x0,x1,x2,x3,x4,x5,x6,x7,x8⟩:=nine e4;clear hW' e4 hkf;exact bodyPost_ret (v:= .tuple #[.agg #[.int .i64 n.id,.int .i64 n.par,.slice A1.k n.kids.length A1.ck,.int .i64 n.next,.slice pa RL.length pc,.slice A1.o n.out.length A1.co,.slice A1.s n.seen.length A1.cs,.int .i64 n.old,.slice A1.r n.reqs.length A1.cr],.slice (some ⟨W0.heap.size,0,none⟩) 0 0,.int .i64 0]) (by simp[results,Tryz.results19,go_sem,x0,x1,x2,x3,x4,x5,x6,x7,x8]) rfl ⟨⟨A1.k,pa,A1.o,A1.s,A1.r,A1.ck,pc,A1.co,A1.cs,A1.cr⟩,some ⟨W0.heap.size,0,none⟩,0,rfl,HAT,fun W'' _ i hi=>by simp at hi,HBF⟩):P:=h
theorem Sb293.Kb94(h:P:=by
 have hnl:=obj_lt HN_7;have hrl:=obj_lt HR_7;by_cases hm:mI < lowS s0 mL
 ·have hd:decide (mI < lowS s0 mL)=true:=decide_eq_true hm;go_wp2_with fail;exact Zb16
 ·have hd:decide (mI < lowS s0 mL)=false:=decide_eq_false hm;have hb:hasB (idsS s0 mL) mI=true:=by unfold hasS at hhas;rw [hd] at hhas;simpa using hhas
  rw [hb] at HHAS;go_wp2_with (go_at_call 124;refine(HHAS _ HIW7.at).mono ?_;rintro e wh ⟨rfl,rfl⟩)
  exact Zb16):P:=h
theorem Yb95(h:P:=by
 have h2I:¬(40:Int)≤(n.out.length:Int):=by omega
 have q2:decide ((40:Int)≤(n.out.length:Int))=false:=by simpa using h2I
 have q3:decide ((1000000000:Int)≤n.next)=false:=by simpa using h3
 obtain⟨gp,hgp⟩:=hP;subst hgp;obtain⟨i0,hi,hz0,hz1,hz2⟩:=info_parts infoSnt;exact Kb95):P:=h
theorem Sb294.Kb95(h:P:=by
 have HPT:=hide (fun W (ha:PursesAt W (some ⟨gp,0,none⟩) n.pu)=>specPart gp 0 a_cp n.pu key pf W (Nat.le_trans hz.p (by omega)) hPc hz.pk hkey ha);unfold GivesO at HPT;rw [hu] at HPT;obtain⟨PM,hPM⟩:∃PM,payM ⟨n.id,n.par,n.kids,n.next+1,RL,n.out++[⟨n.next,dst,key,pf⟩],n.seen,n.old,n.reqs⟩ ⟨n.next,dst,key,pf⟩=PM:=⟨_,rfl⟩;have HPM:=hide hPM;rw [hPM];clear hz hPc hu hPM;unfold GivesT;have H9:=hide h9;clear h9;open Sb31 in exact Yb5):P:=h
theorem Sb295.Kb95(h:P:=by
 have HPT:=hide (fun W (ha:PursesAt W (some ⟨gp,0,none⟩) n.pu)=>specPart gp 0 a_cp n.pu key most W (Nat.le_trans hz.p (by omega)) hPc hz.pk hkey ha);unfold GivesO at HPT;rw [hu] at HPT;obtain⟨PM,hPM⟩:∃PM,payM ⟨n.id,n.par,n.kids,n.next+1,RL,n.out++[⟨n.next,dst,key,most⟩],n.seen,n.old,n.reqs⟩ ⟨n.next,dst,key,most⟩=PM:=⟨_,rfl⟩;have HPM:=hide hPM;rw [hPM];clear hz hPc hu hPM;unfold GivesT;have H9:=hide h9;clear h9;open Sb32 in exact Yb5):P:=h
theorem Yb96(h:P:=by
 clear hyy2;refine wpMixB_one 4 rfl (by kernel_rfl) (by rfl) (by decide) (fun x3 hx3=>?_);have HGx3:=hide (HGy2.trans (hx3.mono HGy2.size));have hsx3:W10.heap.size≤x3.heap.size:=HGx3.size;have HVx3:=hide (GR.own_below HVy2 hx3);have HQx3:=hide (obj_step HQy2 hx3);clear hx3;exact Kb96):P:=h
theorem Sb296.Kb96(h:P:=by
 obtain⟨v3,y3,hry3,hoy3,hgy3,hwy3⟩:=run_append_row encNum_length (by omega) x3 W10.heap.size 24 24 3 i0 (.int .i64 0) 8 Tryz.underlying24 hi0 hz0 hz1' hz2 rfl (.slice (some ⟨x2.heap.size,0,none⟩) 0 0) 0 (GR.flat encNum ([])) HVx3 (some ⟨gi,0,none⟩) ((idsS s0 mL).take pos) ccp (GR.At.below HTL HGx3) (flatNum_one _) (by unfold maxLen;omega) (by omega) hsx3;open Sb244 in exact Yb72):P:=h
theorem Sb297.Kb96(h:P:=by
 obtain⟨v3,y3,hry3,hoy3,hgy3,hwy3⟩:=run_append_row encNum_length (by omega) x3 W10.heap.size 24 24 3 i0 (.int .i64 0) 8 Tryz.underlying24 hi0 hz0 hz1' hz2 rfl (.slice (some ⟨x1.heap.size,0,none⟩) 0 0) 0 (GR.flat encNum ([])) HVx3 (some ⟨gi,0,none⟩) ((idsS s0 mL).take pos) ccp (GR.At.below HTL HGx3) (flatNum_one _) (by unfold maxLen;omega) (by omega) hsx3;open Sb243 in exact Yb72):P:=h
theorem Yb97(h:P:=by
 clear hyy2;refine wpMixB_one 5 rfl (by kernel_rfl) (by rfl) (by decide) (fun x3 hx3=>?_);have HGx3:=hide (HGy2.trans (hx3.mono HGy2.size));have hsx3:wc.heap.size≤x3.heap.size:=HGx3.size;have HVx3:=hide (GR.own_below HVy2 hx3);have HQx3:=hide (obj_step HQy2 hx3);clear hx3;exact Kb97):P:=h
theorem Sb298.Kb97(h:P:=by
 obtain⟨v3,y3,hry3,hoy3,hgy3,hwy3⟩:=run_append_row encRq_length (by omega) x3 wc.heap.size 28 28 49 i0 (.agg #[.int .i64 0,.string ByteArray.empty,.int .i64 0,.int .i64 0]) 40 Tryz.underlying28 hi hz0 hz1 hz2 rfl (.slice (some ⟨x2.heap.size,0,none⟩) 0 0) 0 (GR.flat encRq ([])) HVx3 (some ⟨gr,0,none⟩) (n.reqs.take pos) a_cr (GR.At.below HTL HGx3) (flatRq_one _) (by unfold maxLen;omega) (by omega) hsx3;open Sb226 in exact Yb64):P:=h
theorem Sb299.Kb97(h:P:=by
 obtain⟨v3,y3,hry3,hoy3,hgy3,hwy3⟩:=run_append_row encRq_length (by omega) x3 wc.heap.size 28 28 49 i0 (.agg #[.int .i64 0,.string ByteArray.empty,.int .i64 0,.int .i64 0]) 40 Tryz.underlying28 hi hz0 hz1 hz2 rfl (.slice (some ⟨x1.heap.size,0,none⟩) 0 0) 0 (GR.flat encRq ([])) HVx3 (some ⟨gr,0,none⟩) (n.reqs.take pos) a_cr (GR.At.below HTL HGx3) (flatRq_one _) (by unfold maxLen;omega) (by omega) hsx3;open Sb225 in exact Yb64):P:=h
theorem Yb98(h:P:=by
 have HB9:Hid (Below w.heap.size w W9):=by rw [hW9];exact HB8.setCell (p:=⟨w.heap.size,8,none⟩) (Nat.le_refl _) _
 have HL9:Hid (Lies encRq 4 (w.heap.size+3) W9 (some ⟨g8,0,none⟩) IT):=by rw [hW9];exact((HL8.lower hz7).keeps (KeepsL.set _) (fun x hx=>by simp at hx;omega))
 exact Kb98):P:=h
theorem Sb300.Kb98(h:P:=by
 skip
 clear hW9 k8 kf8 HN_8 HR_8 HQ_8 HB8 HL8 HN_7 HR_7 HQ_7 HB7 HTA7 HRUN c0 c1 c2 c3 c4 c5 c6 c7 c8 cf hnl;have hITn:IT.length=n.reqs.length:=hIT;clear hIT;obtain⟨c0,c1,c2,c3,c4,c5,c6,c7,c8⟩:=nine HN_9;open Sb97 in exact Yb25):P:=h
theorem Sb301.Kb98(h:P:=by
 have HP9:Hid (Lies encP 4 (w.heap.size+3) W9 av RL):=by rw [hW9];exact HP8.keeps (KeepsL.set _) (fun x hx=>by simp at hx;omega)
 clear hW9 k8 kf8 HN_8 HR_8 HQ_8 HB8 HL8 HN_7 HR_7 HQ_7 HB7 HTA7 HRUN c0 c1 c2 c3 c4 c5 c6 c7 c8 cf hnl HP8 HP7;have hITn:IT.length=n.reqs.length:=hIT;clear hIT;obtain⟨c0,c1,c2,c3,c4,c5,c6,c7,c8⟩:=nine HN_9;open Sb95 in exact Yb25):P:=h
theorem Yb99(h:P:=by
 have HR_6:=hide ((hap _ (obj_lt HRX) (by rw [unhide HC2];omega)).trans HRX);have HAT1:=hide hat;have HB6:=hide (below_apart HBX hb5 hap HC9);have hrx:=obj_lt HRX;clear hat hb5 hap c0 c1 c2 c3 c4 c5 c6 c7 c8 p0 p1 p2 p3 p4 p5 p6 p7 p8 p9 p10 hnl hol HCL HNX HOX HRX HNO5 HPR;exact Kb99):P:=h
theorem Sb302.Kb99(h:P:=by
 have HNA:=hide (heap_alloc_new W5 (.cells #[.int .i64 N1.id,.int .i64 N1.par,.slice A2.k N1.kids.length A2.ck,.int .i64 N1.next,.slice A2.p N1.pu.length A2.cp,.slice A2.o N1.out.length A2.co,.slice A2.s N1.seen.length A2.cs,.int .i64 N1.old,.slice A2.r N1.reqs.length A2.cr] 30));have HRA:=hide (obj_step HR_6 (below_one W5 (.cells #[.int .i64 N1.id,.int .i64 N1.par,.slice A2.k N1.kids.length A2.ck,.int .i64 N1.next,.slice A2.p N1.pu.length A2.cp,.slice A2.o N1.out.length A2.co,.slice A2.s N1.seen.length A2.cs,.int .i64 N1.old,.slice A2.r N1.reqs.length A2.cr] 30)));have HBA:=hide (HB6.trans ((below_one W5 (.cells #[.int .i64 N1.id,.int .i64 N1.par,.slice A2.k N1.kids.length A2.ck,.int .i64 N1.next,.slice A2.p N1.pu.length A2.cp,.slice A2.o N1.out.length A2.co,.slice A2.s N1.seen.length A2.cs,.int .i64 N1.old,.slice A2.r N1.reqs.length A2.cr] 30)).mono HB6.size));obtain⟨c0,c1,c2,c3,c4,c5,c6,c7,c8⟩:=nine HNA;have hnl:=obj_lt HNA;open Sb115 in exact Yb28):P:=h
theorem Sb303.Kb99(h:P:=by
 open Sb262 in exact Yb80):P:=h
theorem Yb100(h:P:=by
 refine Lib.wp_append_run x4 (.tmp 98) (.tmp 100) 28 28 rfl _ _ (by simp[Act.eval]) (by simp[Act.eval]) v4 y4 hry4 ?_;refine⟨(Below.refl _ _).grown hgy4 hsx4 (fun b hb=>(HVx4.lt b hb).1),?_⟩;go_simp;have HGy4:=hide (HGx4.grown hgy4 hsx4 (fun b hb=>(HVx4.lt b hb).1));exact Kb100):P:=h
theorem Sb304.Kb100(h:P:=by
 have HVy4:Hid (y4.ownsRow wc.heap.size 49 4 v4 (pos+1) (GR.flat encRq (n.reqs.take pos++[(⟨no,k,nn,1⟩:Rq)]))):=hide (by rw [GR.flat_append,GR.flat_one];exact hoy4);have HQy4:=hide (show y4.heap[rb]?=some (.cells #[.int .i64 no,.string k,.int .i64 nn,.int .i64 1] 49 (0,0)) from by rw [hgy4.block _ (obj_lt (unhide HQx4)) (fun hm=>unhide HEy3 _ hm.symm rfl)];exact HQx4);open Sb339 in exact Yb114):P:=h
theorem Sb305.Kb100(h:P:=by
 have HVy4:Hid (y4.ownsRow wc.heap.size 49 4 v4 (pos+1) (GR.flat encRq (n.reqs.take pos++[(⟨no,k,nn,0⟩:Rq)]))):=hide (by rw [GR.flat_append,GR.flat_one];exact hoy4);have HQy4:=hide (show y4.heap[rb]?=some (.cells #[.int .i64 no,.string k,.int .i64 nn,.int .i64 0] 49 (0,0)) from by rw [hgy4.block _ (obj_lt (unhide HQx4)) (fun hm=>unhide HEy3 _ hm.symm rfl)];exact HQx4);open Sb338 in exact Yb114):P:=h
theorem Yb101(h:P:=by
 rw [←hW] at e1 e2 e3 e4;have HN:=hide e1;have HO:=hide e2;have HR:=hide e3;have HB0:=hide e4;have HN0:=hide (HNO.kc (k:=9) (KC.of_below e4) (by omega));exact Kb101):P:=h
theorem Sb306.Kb101(h:P:=by
 clear hW e1 e2 e3 e4 HNO;obtain⟨⟨p0,p1,p2,p3,p4,p5,p6,p7,p8,p9,p10⟩,_⟩:=eleven_at HO;have hol:=obj_lt HO;obtain⟨c0,c1,c2,c3,c4,c5,c6,c7,c8⟩:=nine HN;obtain⟨d0,d1,d2,d3,d4,d5,d6,d7,d8⟩:=nine HR;have f0:=obj_free HR 0;have f1:=obj_free HR 1;have f2:=obj_free HR 2;have f3:=obj_free HR 3;have f4:=obj_free HR 4;have f5:=obj_free HR 5;have f6:=obj_free HR 6;have f7:=obj_free HR 7;have f8:=obj_free HR 8;have hnl:=obj_lt HN;have hrl:=obj_lt HR;go_wp2_with fail;refine bodyPost_atN (fun W' hW'=>?_)
 have e4:W'.heap[w.heap.size+2]?=some (.cells #[.int .i64 n.id,.int .i64 n.par,.slice A.k n.kids.length A.ck,.int .i64 n.next,.slice A.p n.pu.length A.cp,.slice A.o n.out.length A.co,.slice A.s n.seen.length A.cs,.int .i64 n.old,.slice A.r n.reqs.length A.cr] 30 (0,0)):=by
  rw [hW'];exact GR.setW_blk [.int .i64 n.id,.int .i64 n.par,.slice A.k n.kids.length A.ck,.int .i64 n.next,.slice A.p n.pu.length A.cp,.slice A.o n.out.length A.co,.slice A.s n.seen.length A.cs,.int .i64 n.old,.slice A.r n.reqs.length A.cr] (o:=0) (xs:=[.int .i64 0,.int .i64 0,.slice none 0 0,.int .i64 0,.slice none 0 0,.slice none 0 0,.slice none 0 0,.int .i64 0,.slice none 0 0]) HR
 have hkf:KeepsL [w.heap.size+2] W0 W':=by
  exact Zb32
 have HAT:=hide (fun W'' (ho:Out c w W' W'')=>(HN0.kc (k:=9) ((KC.keeps hkf (fun x hx=>by have:x=w.heap.size+2:=(by simpa using hx);rw [this];exact newC_new (by omega))).trans (KC.out H9 ho)) (by omega)).at);have HBF:Hid (Below B w W'):=(HB0.mono hB).trans (hkf.below (fun x hx=>by have:x=w.heap.size+2:=(by simpa using hx);omega) (Nat.le_trans hB (HB0.mono hB).size));have HKF:=hide (Apart.keeps (c:=c) (Apart.of_below (HB0)) (HB0.mono hB).size hkf (fun x hx=>by have:x=w.heap.size+2:=(by simpa using hx);omega));obtain⟨x0,x1,x2,x3,x4,x5,x6,x7,x8⟩:=nine e4;clear hW' e4 hkf;exact bodyPost_ret (v:= .tuple #[.agg #[.int .i64 n.id,.int .i64 n.par,.slice A.k n.kids.length A.ck,.int .i64 n.next,.slice A.p n.pu.length A.cp,.slice A.o n.out.length A.co,.slice A.s n.seen.length A.cs,.int .i64 n.old,.slice A.r n.reqs.length A.cr],.int .i64 2]) (by simp[results,Tryz.results59,go_sem,x0,x1,x2,x3,x4,x5,x6,x7,x8]) rfl ⟨A,rfl,HAT,HBF,HKF⟩):P:=h
theorem Sb307.Kb101(h:P:=by
 clear hW e1 e2 e3 e4;open Sb239 in exact Yb70):P:=h
theorem Sb308.Kb101(h:P:=by
 clear hW e1 e2 e3 e4 HNO;open Sb240 in exact Yb70):P:=h
theorem Yb102(h:P:=by
 have HGx2:=hide (HGy1.trans (hx2.mono HGy1.size));have hsx2:wc.heap.size≤x2.heap.size:=HGx2.size;have HVx2:=hide (GR.own_below HVy1 hx2);clear hx2;exact Kb102):P:=h
theorem Sb309.Kb102(h:P:=by
 refine⟨(below_one x2 _).mono hsx2,?_⟩;have hby2:=below_one x2 (.cells #[.int .i64 no,.string k,.int .i64 nn,.int .i64 0] 49);have HQy2:=hide (heap_alloc_new x2 (.cells #[.int .i64 no,.string k,.int .i64 nn,.int .i64 0] 49));open Sb214 in exact Yb60):P:=h
theorem Sb310.Kb102(h:P:=by
 refine⟨(below_one x2 _).mono hsx2,?_⟩;have hby2:=below_one x2 (.cells #[.int .i64 no,.string k,.int .i64 nn,.int .i64 1] 49);have HQy2:=hide (heap_alloc_new x2 (.cells #[.int .i64 no,.string k,.int .i64 nn,.int .i64 1] 49));open Sb215 in exact Yb60):P:=h
theorem Sb311.Kb102(h:P:=by
 obtain⟨v2,y2,hry2,hoy2,hgy2,hwy2⟩:=run_append_row encRq_length (by omega) x2 wc.heap.size 28 28 49 i0 (.agg #[.int .i64 0,.string ByteArray.empty,.int .i64 0,.int .i64 0]) 40 Tryz.underlying28 hi hz0 hz1 hz2 rfl (.slice (some ⟨x1.heap.size,0,none⟩) 0 0) 0 (GR.flat encRq ([])) HVx2 (some ⟨gr,0,none⟩) (n.reqs.take pos) a_cr (GR.At.below HTL HGx2) (flatRq_one _) (by unfold maxLen;omega) (by omega) hsx2;rw [hlt1] at hry2 hoy2;refine Lib.wp_append_run x2 (.tmp 93) (.tmp 97) 28 28 rfl _ _ (by simp[Act.eval]) (by simp[Act.eval]) v2 y2 hry2 ?_;refine⟨(Below.refl _ _).grown hgy2 hsx2 (fun b hb=>(HVx2.lt b hb).1),?_⟩;go_simp;have HGy2:=hide (HGx2.grown hgy2 hsx2 (fun b hb=>(HVx2.lt b hb).1));have HVy2:Hid (y2.ownsRow wc.heap.size 49 4 v2 (pos) (GR.flat encRq (n.reqs.take pos))):=hide (by simpa [GR.flat_nil] using hoy2);obtain⟨avR,cvR,hsly2,_⟩:=GR.own_at (enc:=encRq) (sz:=4) (l:=n.reqs.take pos) encRq_length (by rw [hlt1];exact HVy2);open Sb345 in exact Yb117):P:=h
theorem Yb103(h:P:=by
 have y0:=(hcell 0 (by omega)).1;rw [Nat.mul_one,Nat.add_zero] at y0;simp only[List.getElem?_cons_zero] at y0;clear hcell;exact Kb103):P:=h
theorem Sb312.Kb103(h:P:=by
 have HUP:=hide (fun(h:¬(idsS s0 mL)[x] < mI)=>tw_len (l:=idsS s0 mL) (x:=mI) hx HLO (fun _=>h))
 have HMORE:=hide (fun(h:(idsS s0 mL)[x] < mI)=>show∀y (hy:y < (idsS s0 mL).length),y < x+1→(idsS s0 mL)[y] < mI from fun y hy h2=>by
  by_cases e:y=x
  ·subst e;exact h
  ·exact HLO y hy (by omega))
 generalize (idsS s0 mL)[x]=rn at *;by_cases hcmp:rn < mI
 ·go_wp2_with fail;go_quiet (fail);go_wp2_with fail;go_roundw
  case rel=>exact⟨x+1,_,by omega,by go_num,HMORE hcmp,rfl⟩
  case measure=>simp[intOf];omega
 ·have hcmp':decide (rn < mI)=false:=decide_eq_false hcmp;have HJ:=hide (HUP hcmp);exact Zb34):P:=h
theorem Sb313.Kb103(h:P:=by
 subst eb;have hlen:=idsTo_len s0 mL k;by_cases hge:lowS s0 mL≤s0.ids[k]
 ·have HY:=hide (idsTo_yes s0 mL k hlt hge);generalize s0.ids[k]=x at *;have hd:decide (lowS s0 mL≤x)=true:=decide_eq_true hge;go_wp2_with fail;go_quiet (fail);go_wp2_with (at_builtin;refine wpList_append_own _ rfl _ _ 24 rfl W3.heap.size 3 i0 (.int .i64 0) 1 8 Tryz.underlying24 hi0 hz0 hz1' hz2 rfl (by decide) _ _ _ rfl (own_drewN_alloc hown) ⟨wr.heap.size,0,none⟩ 1 1 [.int .i64 x] rfl rfl ?c1 ?c2 ?c3 ?c4 ?c5 ?_)
  case c1=>exact cell_one_new _ _ _
  case c2=>intro u hu;simp at hu;subst hu;rfl
  case c3=>unfold maxLen;omega
  case c4=>omega
  case c5=>have:=HBL.size;simp;omega
  intro v' w2 hown' hgrow _;have HB2':=hide (GR.below_append (wr:=wr.drewN nq) (HBL.trans ⟨rfl,rfl,rfl,Nat.le_refl _,fun _ _=>rfl⟩) HBL.size hown hgrow)
  obtain⟨g',cp',rfl⟩:∃g' cp',v'= .slice (some ⟨g',0,none⟩) ((idsTo s0 mL k).length+1) cp':=by
   rcases hown'.2 with⟨_,hn⟩|⟨g',cap',cur,hv,_⟩
   ·omega
   ·exact⟨g',cap',hv⟩
  have HO2:=hide hown';clear hown' hgrow;go_wp2_with fail;go_roundw
  case rel=>exact⟨k+1,g',cp',by omega,by go_num,by rw [unhide HY,List.length_append];rfl,by rw [unhide HY,List.length_append,GR.flat_append,GR.flat_one];exact HO2,HB2'⟩
  case measure=>simp[intOf];omega
 ·have HY:=hide (idsTo_no s0 mL k hlt hge);generalize s0.ids[k]=x at *;have hd:decide (lowS s0 mL≤x)=false:=decide_eq_false hge;go_wp2_with fail;go_quiet (fail);go_wp2_with fail;go_roundw
  case rel=>exact⟨k+1,g,cp,by omega,by go_num,by rw [unhide HY],by rw [unhide HY];exact hown,HBL.trans ⟨rfl,rfl,rfl,Nat.le_refl _,fun _ _=>rfl⟩⟩
  case measure=>simp[intOf];omega):P:=h
theorem Yb104(h:P:=by
 have hke:k=l.length:=by omega
 subst hke;have hnlt:decide ((l.length:Int) < (l.length:Int))=false:=by simp
 exact Kb104):P:=h
theorem Sb314.Kb104(h:P:=by
 clear hm;go_wp2_with fail;go_ret;exact⟨ret_int (by have:=unhide HM;omega),HBL⟩):P:=h
theorem Sb315.Kb104(h:P:=by
 clear hm;go_wp2_with fail;go_ret;exact⟨ret_int (by have:=unhide HM;omega),HR,HK⟩):P:=h
theorem Sb316.Kb104(h:P:=by
 go_wp2_with fail;go_ret;exact⟨rfl,HBL⟩):P:=h
theorem Sb317.Kb104(h:P:=by
 have HPK:=hide (place_at l pk l.length (Nat.le_refl _) HALL (fun h=>absurd h (Nat.lt_irrefl _))).1;go_wp2_with fail;go_quiet (fail);go_wp2_with fail;go_meet
 case rel=>exact⟨by rw [unhide HPK],_,drewN_two w1 _ _⟩):P:=h
theorem Yb105(h:P:=by
 have HEy3:=hide (show∀b,(v3).ownBlock=some b→b≠x1.heap.size from fun b hb=>(hwy3 b hb).elim (fun h=>HEy2 b h) (fun h=>by have:=obj_lt HQx3;omega));exact Kb105):P:=h
theorem Sb318.Kb105(h:P:=by
 open Sb368 in exact Yb126):P:=h
theorem Sb319.Kb105(h:P:=by
 open Sb229 in exact Yb65):P:=h
theorem Sb320.Kb105(h:P:=by
 open Sb230 in exact Yb65):P:=h
theorem Yb106(h:P:=by
 have HEy3:=hide (show∀b,(v3).ownBlock=some b→b≠x2.heap.size from fun b hb=>(hwy3 b hb).elim (fun h=>HEy2 b h) (fun h=>by have:=obj_lt HQx3;omega));exact Kb106):P:=h
theorem Sb321.Kb106(h:P:=by
 open Sb367 in exact Yb126):P:=h
theorem Sb322.Kb106(h:P:=by
 open Sb227 in exact Yb65):P:=h
theorem Sb323.Kb106(h:P:=by
 open Sb228 in exact Yb65):P:=h
theorem Yb107(h:P:=by
 unfold GivesT;have H9:=hide h9;clear h9;have HNO:=hide (h.nine hB);have HGS:=hide (h.s);have hc4:c G.s=4:=h.c4 G.s (fp_mem (by omega));clear h;go_enter Tryz.func135,Tryz.ntmps135
 go_upto_region 1 with fail;refine wp_at (fun W0 hW=>?_);exact Kb107):P:=h
theorem Sb324.Kb107(h:P:=by
 obtain⟨e1,e2,e3,e4⟩:=allocs3E w (.cells (ndc n (⟨a_k,a_p,a_o,a_s,a_r,a_ck,a_cp,a_co,a_cs,a_cr⟩:Ads)) 30) (.cells #[.int .i64 mK,.int .i64 mF,.int .i64 mT,.int .i64 mI,.int .i64 mL,.string mk,.int .i64 mN] 32) (.cells zc9 30);open Sb187 in exact Yb49):P:=h
theorem Sb325.Kb107(h:P:=by
 obtain⟨e1,e2,e3,e4⟩:=allocs3E w (.cells (ndc n (⟨a_k,(some ⟨gp,0,none⟩),a_o,a_s,a_r,a_ck,a_cp,a_co,a_cs,a_cr⟩:Ads)) 30) (.cells #[.int .i64 mK,.int .i64 mF,.int .i64 mT,.int .i64 mI,.int .i64 mL,.string mk,.int .i64 mN] 32) (.cells zc9 30);open Sb188 in exact Yb49):P:=h
theorem Yb108(h:P:=by
 refine wpMixB_one 8 rfl (by kernel_rfl) (by rfl) (by decide) (fun x4 hx4=>?_);have HGx4:=hide (HGy3.trans (hx4.mono HGy3.size));have hsx4:wc.heap.size≤x4.heap.size:=HGx4.size;have HVx4:=hide (GR.own_below HVy3 hx4);have HQx4:=hide (obj_step HQy3 hx4);clear hx4;exact Kb108):P:=h
theorem Sb326.Kb108(h:P:=by
 obtain⟨v4,y4,hry4,hoy4,hgy4,hwy4⟩:=run_append_where x4 wc.heap.size 28 28 49 i0 (.agg #[.int .i64 0,.string ByteArray.empty,.int .i64 0,.int .i64 0]) 4 40 Tryz.underlying28 hi hz0 hz1 hz2 rfl (by decide) (.slice avR (pos) cvR) (pos) (GR.flat encRq (n.reqs.take pos)) HVx4 ⟨rb,0,none⟩ 1 1 (encRq ⟨no,k,nn,1⟩) rfl (World.news_of_block HQx4) (encRq_one _) (by unfold maxLen;omega) (by omega) hsx4;open Sb304 in exact Yb100):P:=h
theorem Sb327.Kb108(h:P:=by
 obtain⟨v4,y4,hry4,hoy4,hgy4,hwy4⟩:=run_append_where x4 wc.heap.size 28 28 49 i0 (.agg #[.int .i64 0,.string ByteArray.empty,.int .i64 0,.int .i64 0]) 4 40 Tryz.underlying28 hi hz0 hz1 hz2 rfl (by decide) (.slice avR (pos) cvR) (pos) (GR.flat encRq (n.reqs.take pos)) HVx4 ⟨rb,0,none⟩ 1 1 (encRq ⟨no,k,nn,0⟩) rfl (World.news_of_block HQx4) (encRq_one _) (by unfold maxLen;omega) (by omega) hsx4;open Sb305 in exact Yb100):P:=h
theorem Yb109(h:P:=by
 rw [←hW] at e1 e2 e3;have HN:=hide e1;have HR:=hide e2;have HB0:=hide e3;have HN0:=hide (HNO.kc (k:=9) (KC.of_below e3) (by omega));clear hW e1 e2 e3 HNO hbw0 hlo;obtain⟨c0,c1,c2,c3,c4,c5,c6,c7,c8⟩:=nine HN;have hnl:=obj_lt HN;exact Kb109):P:=h
theorem Sb328.Kb109(h:P:=by
 have HRX:=hide HR;open Sb129 in exact Yb31):P:=h
theorem Sb329.Kb109(h:P:=by
 go_wp2_with fail;refine(HRQ W0 HN0.at.r).mono ?_;open Sb354 in exact Yb121):P:=h
theorem Yb110(h:P:=by
 have k8:=(nine HN_8).2.2.2.2.2.2.2.2;have kf8:=obj_free HN_8 8;clear hrun hb8 hown8;go_upto_region 20 with(at_builtin;refine wpList_append_eq rfl (.tmp 118) (.tmp 121) 28 rfl _ _ rfl rfl _ _ (HRUN _) ?_)
 refine wp_at (fun W9 hW9=>?_);exact Kb110):P:=h
theorem Sb330.Kb110(h:P:=by
 have HN_9:Hid (W9.heap[w.heap.size]?=some (.cells #[.int .i64 n.id,.int .i64 n.par,.slice a_k n.kids.length a_ck,.int .i64 n.next,.slice (some ⟨gp,0,none⟩) n.pu.length a_cp,.slice a_o n.out.length a_co,.slice a_s n.seen.length a_cs,.int .i64 IH.no,.slice (some ⟨g8,0,none⟩) n.reqs.length c8'] 30 (0,0))):=by rw [hW9];exact blk_setO HN_8 8 _
 have HR_9:Hid (W9.heap[w.heap.size+2]?=some (.cells zc9 30 (0,0))):=by rw [hW9];exact obj_set _ (by omega) HR_8
 have HQ_9:Hid (W9.heap[W1.heap.size]?=some (.cells #[.int .i64 no,.string k,.int .i64 nn,.int .i64 1] 49 (0,0))):=by rw [hW9];exact obj_set _ (by omega) HQ_8
 open Sb300 in exact Yb98):P:=h
theorem Sb331.Kb110(h:P:=by
 have HN_9:Hid (W9.heap[w.heap.size]?=some (.cells #[.int .i64 n.id,.int .i64 n.par,.slice a_k n.kids.length a_ck,.int .i64 n.next,.slice av RL.length cv,.slice a_o n.out.length a_co,.slice a_s n.seen.length a_cs,.int .i64 IH.no,.slice (some ⟨g8,0,none⟩) n.reqs.length c8'] 30 (0,0))):=by rw [hW9];exact blk_setO HN_8 8 _
 have HR_9:Hid (W9.heap[w.heap.size+2]?=some (.cells zc9 30 (0,0))):=by rw [hW9];exact obj_set _ (by omega) HR_8
 have HQ_9:Hid (W9.heap[W1.heap.size]?=some (.cells #[.int .i64 no,.string k,.int .i64 nn,.int .i64 0] 49 (0,0))):=by rw [hW9];exact obj_set _ (by omega) HQ_8
 open Sb301 in exact Yb98):P:=h
theorem Yb111(h:P:=by
 obtain⟨rfl,hge⟩:=hcut;have HN_5:=hide (obj_step HN_4 hge);have HR_5:=hide (obj_step HR_4 hge);have HQ_5:=hide (obj_step HQ_4 hge);have HB5:=hide (HB4.trans (hge.mono HB4.size));have HA5:=hide (GR.At.below HA4 hge);exact Kb111):P:=h
theorem Sb332.Kb111(h:P:=by
 skip
 open Sb279 in exact Yb88):P:=h
theorem Sb333.Kb111(h:P:=by
 have HP5:=hide (HP4.below hge);clear HP4;open Sb280 in exact Yb88):P:=h
theorem Yb112(h:P:=by
 obtain⟨rfl,e4,hkf⟩:=hcut;rename_i wz _ _ _
 have HBZ:=hide (HB6.trans (hkf.below (B:=w.heap.size) (fun x hx=>by simp at hx;omega) HB6.size));have HLZ:=hide (HL6.keeps hkf (fun x hx=>by simp at hx;omega));exact Kb112):P:=h
theorem Sb334.Kb112(h:P:=by
 skip
 obtain⟨x0,x1,x2,x3,x4,x5,x6,x7,x8⟩:=nine e4;clear e4 hkf;go_wp2_with fail;refine bodyPost_ret (v:= .tuple #[.agg #[.int .i64 n.id,.int .i64 n.par,.slice a_k n.kids.length a_ck,.int .i64 n.next,.slice (some ⟨gp,0,none⟩) n.pu.length a_cp,.slice a_o n.out.length a_co,.slice a_s n.seen.length a_cs,.int .i64 n.old,.slice (some ⟨gv,0,none⟩) (n.reqs.length+1) vc],.int .i64 1]) (by simp[results,Tryz.results59,go_sem,x0,x1,x2,x3,x4,x5,x6,x7,x8]) rfl ?_;rw [unhide HK];refine⟨⟨a_k,(some ⟨gp,0,none⟩),a_o,a_s,(some ⟨gv,0,none⟩),a_ck,a_cp,a_co,a_cs,vc⟩,?_,fun W'' ho=>?_,HBZ.mono hB,Apart.of_below HBZ⟩
 ·simp[ndv,ndc,setReqs,unhide hITn]
 ·exact Zb45):P:=h
theorem Sb335.Kb112(h:P:=by
 have HPZ:=hide (HP6.keeps hkf (fun x hx=>by simp at hx;omega));obtain⟨x0,x1,x2,x3,x4,x5,x6,x7,x8⟩:=nine e4;clear e4 hkf;go_wp2_with fail;refine bodyPost_ret (v:= .tuple #[.agg #[.int .i64 n.id,.int .i64 n.par,.slice a_k n.kids.length a_ck,.int .i64 n.next,.slice av RL.length cv,.slice a_o n.out.length a_co,.slice a_s n.seen.length a_cs,.int .i64 n.old,.slice (some ⟨gv,0,none⟩) (n.reqs.length+1) vc],.int .i64 0]) (by simp[results,Tryz.results59,go_sem,x0,x1,x2,x3,x4,x5,x6,x7,x8]) rfl ?_;rw [unhide HK];refine⟨⟨a_k,av,a_o,a_s,(some ⟨gv,0,none⟩),a_ck,cv,a_co,a_cs,vc⟩,?_,fun W'' ho=>?_,HBZ.mono hB,Apart.of_below HBZ⟩
 ·simp[ndv,ndc,setReqs,setPu,unhide hITn]
 ·exact Zb38):P:=h
theorem Yb113(h:P:=by
 obtain⟨rfl,e4,hkf⟩:=hcut;rename_i wz _ _ _
 have HBZ:=hide (HB9.trans (hkf.below (B:=w.heap.size) (fun x hx=>by simp at hx;omega) HB9.size));have HLZ:=hide (HL9.keeps hkf (fun x hx=>by simp at hx;omega));exact Kb113):P:=h
theorem Sb336.Kb113(h:P:=by
 skip
 obtain⟨x0,x1,x2,x3,x4,x5,x6,x7,x8⟩:=nine e4;clear e4 hkf;go_wp2_with fail;refine bodyPost_ret (v:= .tuple #[.agg #[.int .i64 n.id,.int .i64 n.par,.slice a_k n.kids.length a_ck,.int .i64 n.next,.slice (some ⟨gp,0,none⟩) n.pu.length a_cp,.slice a_o n.out.length a_co,.slice a_s n.seen.length a_cs,.int .i64 IH.no,.slice (some ⟨g8,0,none⟩) n.reqs.length c8'],.int .i64 1]) (by simp[results,Tryz.results59,go_sem,x0,x1,x2,x3,x4,x5,x6,x7,x8]) rfl ?_;rw [unhide HK];refine⟨⟨a_k,(some ⟨gp,0,none⟩),a_o,a_s,(some ⟨g8,0,none⟩),a_ck,a_cp,a_co,a_cs,c8'⟩,?_,fun W'' ho=>?_,HBZ.mono hB,Apart.of_below HBZ⟩
 ·simp[ndv,ndc,setReqs,setOld,hITn]
 ·exact Zb45):P:=h
theorem Sb337.Kb113(h:P:=by
 have HPZ:=hide (HP9.keeps hkf (fun x hx=>by simp at hx;omega));obtain⟨x0,x1,x2,x3,x4,x5,x6,x7,x8⟩:=nine e4;clear e4 hkf;go_wp2_with fail;refine bodyPost_ret (v:= .tuple #[.agg #[.int .i64 n.id,.int .i64 n.par,.slice a_k n.kids.length a_ck,.int .i64 n.next,.slice av RL.length cv,.slice a_o n.out.length a_co,.slice a_s n.seen.length a_cs,.int .i64 IH.no,.slice (some ⟨g8,0,none⟩) n.reqs.length c8'],.int .i64 0]) (by simp[results,Tryz.results59,go_sem,x0,x1,x2,x3,x4,x5,x6,x7,x8]) rfl ?_;rw [unhide HK];refine⟨⟨a_k,av,a_o,a_s,(some ⟨g8,0,none⟩),a_ck,cv,a_co,a_cs,c8'⟩,?_,fun W'' ho=>?_,HBZ.mono hB,Apart.of_below HBZ⟩
 ·simp[ndv,ndc,setReqs,setOld,setPu,hITn]
 ·exact Zb38):P:=h
theorem Yb114(h:P:=by
 have HEy4:=hide (show∀b,(v4).ownBlock=some b→b≠rb from fun b hb=>(hwy4 b hb).elim (fun h=>HEy3 b h) (fun h=>by have:=obj_lt HQx4;omega));exact Kb114):P:=h
theorem Sb338.Kb114(h:P:=by
 obtain⟨avO,cvO,hsly4,_⟩:=GR.own_at (enc:=encRq) (sz:=4) (l:=n.reqs.take pos++[(⟨no,k,nn,0⟩:Rq)]) encRq_length (by rw [hL1];exact HVy4);open Sb268 in exact Yb83):P:=h
theorem Sb339.Kb114(h:P:=by
 obtain⟨avO,cvO,hsly4,_⟩:=GR.own_at (enc:=encRq) (sz:=4) (l:=n.reqs.take pos++[(⟨no,k,nn,1⟩:Rq)]) encRq_length (by rw [hL1];exact HVy4);open Sb267 in exact Yb83):P:=h
theorem Sb340.Kb114(h:P:=by
 obtain⟨avO,cvO,hsly4,_⟩:=GR.own_at (enc:=encNum) (sz:=1) (l:=(idsS s0 mL).take pos++[mI]) encNum_length (by rw [hL1];exact HVy4);rw [hL1] at hsly4;subst hsly4;clear hry4 hoy4 hgy4 hwy4;refine wpMixB_one 12 rfl (by kernel_rfl) (by rfl) (by decide) (fun x5 hx5=>?_);have HGx5:=hide (HGy4.trans (hx5.mono HGy4.size));have hsx5:W10.heap.size≤x5.heap.size:=HGx5.size;have HVx5:=hide (GR.own_below HVy4 hx5);have HQx5:=hide (obj_step HQy4 hx5);clear hx5;obtain⟨v5,y5,hry5,hoy5,hgy5,hwy5⟩:=run_append_row encNum_length (by omega) x5 W10.heap.size 24 24 3 i0 (.int .i64 0) 8 Tryz.underlying24 hi0 hz0 hz1' hz2 rfl (.slice avO (pos+1) cvO) (pos+1) (GR.flat encNum ((idsS s0 mL).take pos++[mI])) HVx5 AD ((idsS s0 mL).drop pos) (ccp - pos) (GR.At.below HDR HGx5) (flatNum_one _) (by unfold maxLen;omega) (by omega) hsx5;rw [hld1] at hry5 hoy5;refine Lib.wp_append_run x5 (.tmp 135) (.tmp 138) 24 24 rfl _ _ (by simp[Act.eval]) (by simp[Act.eval]) v5 y5 hry5 ?_;refine⟨(Below.refl _ _).grown hgy5 hsx5 (fun b hb=>(HVx5.lt b hb).1),?_⟩;go_simp;have HGy5:=hide (HGx5.grown hgy5 hsx5 (fun b hb=>(HVx5.lt b hb).1));have HVy5:Hid (y5.ownsRow W10.heap.size 3 1 v5 (pos+1+((idsS s0 mL).length - pos)) (GR.flat encNum ((idsS s0 mL).take pos++[mI]++(idsS s0 mL).drop pos))):=hide (by rw [GR.flat_append];exact hoy5);have HQy5:=hide (show y5.heap[rb]?=some (.cells #[.int .i64 mI] 3 (0,0)) from by rw [hgy5.block _ (obj_lt (unhide HQx5)) (fun hm=>unhide HEy4 _ hm.symm rfl)];exact HQx5);open Sb351 in exact Yb120):P:=h
theorem Yb115(h:P:=by
 have HAT:=hide (fun W'' (ho:Aft w W' W'')=>((HNO5.kc (k:=9) (KC.keeps hkf (fun x hx=>by have:x=w.heap.size+2:=(by simpa using hx);rw [this];exact HC2)) (by omega)).kc (k:=9) (ho.kc (fun x hx=>HC9 x (by omega))) (by omega)).at);exact Kb115):P:=h
theorem Sb341.Kb115(h:P:=by
 have HMT:=hide (fun W'' (ho:Aft w W' W'')=>ack_at (c:=c) (w:=w) HMZ (ho.out0 HC9) hmb);have HBF:Hid (Below w.heap.size w W'):=HBX.trans (hkf.below (fun x hx=>by have:x=w.heap.size+2:=(by simpa using hx);omega) HBX.size);obtain⟨x0,x1,x2,x3,x4,x5,x6,x7,x8⟩:=nine HRZ;clear hkf;exact Kb34):P:=h
theorem Sb342.Kb115(h:P:=by
 have HBF:Hid (Below w.heap.size w W'):=HBX.trans (hkf.below (fun x hx=>by have:x=w.heap.size+2:=(by simpa using hx);omega) HBX.size);obtain⟨x0,x1,x2,x3,x4,x5,x6,x7,x8⟩:=nine e4;clear hW' e4 hkf;exact bodyPost_ret (v:= .tuple #[.agg #[.int .i64 n.id,.int .i64 n.par,.slice A1.k n.kids.length A1.ck,.int .i64 n.next,.slice A1.p n.pu.length A1.cp,.slice A1.o n.out.length A1.co,.slice A1.s n.seen.length A1.cs,.int .i64 n.old,.slice A1.r n.reqs.length A1.cr],.slice (some ⟨W0.heap.size,0,none⟩) 0 0,.int .i64 1]) (by simp[results,Tryz.results19,go_sem,x0,x1,x2,x3,x4,x5,x6,x7,x8]) rfl ⟨A1,some ⟨W0.heap.size,0,none⟩,0,rfl,HAT,fun W'' _ i hi=>by simp at hi,HBF⟩):P:=h
theorem Yb116(h:P:=by
 obtain⟨e1,e2,e3,e4⟩:=allocs3E w (.cells (ndc n A) 30) (.cells #[.int .i64 K,.int .i64 no,.string k,.int .i64 nn,.int .i64 mK,.int .i64 mF,.int .i64 mT,.int .i64 mI,.int .i64 mL,.string mk,.int .i64 mN] 34) (.cells zc9 30);exact Kb116):P:=h
theorem Sb343.Kb116(h:P:=by
 open Sb306 in exact Yb101):P:=h
theorem Sb344.Kb116(h:P:=by
 have hsz:(((w.alloc (.cells (ndc n A) 30)).alloc (.cells #[.int .i64 K,.int .i64 no,.string k,.int .i64 nn,.int .i64 mK,.int .i64 mF,.int .i64 mT,.int .i64 mI,.int .i64 mL,.string mk,.int .i64 mN] 34)).alloc (.cells zc9 30)).heap.size=w.heap.size+3:=by simp
 generalize hW0:((w.alloc (.cells (ndc n A) 30)).alloc (.cells #[.int .i64 K,.int .i64 no,.string k,.int .i64 nn,.int .i64 mK,.int .i64 mF,.int .i64 mT,.int .i64 mI,.int .i64 mL,.string mk,.int .i64 mN] 34)).alloc (.cells zc9 30)=W0 at *;open Sb56 in exact Yb13):P:=h
theorem Yb117(h:P:=by
 rw [hlt1] at hsly2;subst hsly2;clear hry2 hoy2 hgy2 hwy2;refine wpMixB_one 7 rfl (by kernel_rfl) (by rfl) (by decide) (fun x3 hx3=>?_);go_simp;have HGx3:=hide (HGy2.trans (hx3.mono HGy2.size));exact Kb117):P:=h
theorem Sb345.Kb117(h:P:=by
 have hsx3:wc.heap.size≤x3.heap.size:=HGx3.size;have HVx3:=hide (GR.own_below HVy2 hx3);clear hx3;refine⟨(below_one x3 _).mono hsx3,?_⟩;exact Kb9):P:=h
theorem Sb346.Kb117(h:P:=by
 have hsx3:W10.heap.size≤x3.heap.size:=HGx3.size;have HVx3:=hide (GR.own_below HVy2 hx3);clear hx3;refine⟨(below_one x3 _).mono hsx3,?_⟩;have hby3:=below_one x3 (.cells #[.int .i64 mI] 3);have HQy3:=hide (heap_alloc_new x3 (.cells #[.int .i64 mI] 3));open Sb220 in exact Yb62):P:=h
theorem Yb118(h:P:=by
 have e2:b=g1:=by injection e1 with e1;injection e1 with e1 e2
 have e3:off=o1:=by injection e1 with e1;injection e1 with e1 e2
 subst e2 e3;exact Kb118):P:=h
theorem Sb347.Kb118(h:P:=by
 have HT:=hide (List.take_succ_eq_append_getElem hlt);have HPL:=hide (fun h2=>(place_at l pk k (by omega) HALL h2).1);clear s1 s2 s3 e1;cases hbl:Op.bytesLess l[k].k.toList pk.toList with
 |true=>
  clear HPL
  generalize l[k]=pu at *
  obtain⟨qk,qm,qf,qs⟩:=pu
  dsimp only at s0 hbl
  go_wp2_with fail
  go_quiet (fail)
  go_wp2
  go_roundw
  case rel=>
   refine⟨k+1,_,by omega,by go_num,?_,rfl⟩;intro x hx;rw [unhide HT] at hx;rcases List.mem_append.1 hx with hx|hx
   ·exact HALL x hx
   ·rw [List.mem_singleton] at hx;subst hx;exact hbl
  case measure=>simp[intOf];omega
 |false=>
  have HPK:=hide (HPL (fun _=>hbl))
  clear HPL HT
  generalize l[k]=pu at *
  obtain⟨qk,qm,qf,qs⟩:=pu
  dsimp only at s0 hbl
  go_wp2_with fail
  go_quiet (fail)
  go_wp2_with fail
  go_meet
  case rel=>exact⟨by rw [unhide HPK],_,drewN_two w1 _ _⟩):P:=h
theorem Sb348.Kb118(h:P:=by
 have hae:=hAe hlt;subst hae;have HF:=hide hf;have hpos:decide (0 < l.length - place l pk)=true:=decide_eq_true (by omega);have hps2:0 < l.length - place l pk:=by omega
 clear s1 s2 s3 e1 hf hAe hAd;generalize l[place l pk]=pu at *;obtain⟨qk,qm,qf,qs⟩:=pu;dsimp only at s0 HF;cases heq:qk.toList == pk.toList
 all_goals
  go_quiet (fail)
  go_wp2_with fail
  go_meet
  case rel=>exact⟨by rw [unhide HF,heq],_,drewN_two w1 _ _⟩):P:=h
theorem Yb119(h:P:=by
 have HBF:Hid (Below w.heap.size w W'):=HB6.trans (hkf.below (fun x hx=>by have:x=w.heap.size+2:=(by simpa using hx);omega) HB6.size);obtain⟨x0,x1,x2,x3,x4,x5,x6,x7,x8⟩:=nine e4;clear hW' e4 hkf;exact Kb119):P:=h
theorem Sb349.Kb119(h:P:=by
 exact bodyPost_ret (v:= .tuple #[.agg #[.int .i64 N1.id,.int .i64 N1.par,.slice A2.k N1.kids.length A2.ck,.int .i64 N1.next,.slice A2.p N1.pu.length A2.cp,.slice A2.o N1.out.length A2.co,.slice A2.s N1.seen.length A2.cs,.int .i64 N1.old,.slice A2.r N1.reqs.length A2.cr],.slice ma L1.length mc,.int .i64 code1]) (by simp[results,Tryz.results19,go_sem,x0,x1,x2,x3,x4,x5,x6,x7,x8]) rfl ⟨A2,ma,mc,rfl,HAT,HMT,HBF⟩):P:=h
theorem Sb350.Kb119(h:P:=by
 exact bodyPost_ret (v:= .tuple #[.agg #[.int .i64 n.id,.int .i64 n.par,.slice A1.k n.kids.length A1.ck,.int .i64 n.next,.slice A1.p n.pu.length A1.cp,.slice A1.o n.out.length A1.co,.slice A1.s n.seen.length A1.cs,.int .i64 n.old,.slice A1.r n.reqs.length A1.cr],.slice (some ⟨W0.heap.size,0,none⟩) 0 0,.int .i64 1]) (by simp[results,Tryz.results19,go_sem,x0,x1,x2,x3,x4,x5,x6,x7,x8]) rfl ⟨A1,some ⟨W0.heap.size,0,none⟩,0,rfl,HAT,fun W'' _ i hi=>by simp at hi,HBF⟩):P:=h
theorem Yb120(h:P:=by
 have HEy5:=hide (show∀b,(v5).ownBlock=some b→b≠rb from fun b hb=>(hwy5 b hb).elim (fun h=>HEy4 b h) (fun h=>by have:=obj_lt HQx5;omega));exact Kb120):P:=h
theorem Sb351.Kb120(h:P:=by
 obtain⟨avT,cvT,hsly5,_⟩:=GR.own_at (enc:=encNum) (sz:=1) (l:=(idsS s0 mL).take pos++[mI]++(idsS s0 mL).drop pos) encNum_length (by rw [hL2];exact HVy5);rw [hL2] at hsly5;subst hsly5;clear hry5 hoy5 hgy5 hwy5;have hwb2:W10.heap.size≤y5.heap.size:=HGy5.size;refine tk [13] ?_;open Sb203 in exact Yb57):P:=h
theorem Sb352.Kb120(h:P:=by
 obtain⟨avT,cvT,hsly5,_⟩:=GR.own_at (enc:=encRq) (sz:=4) (l:=n.reqs.take pos++[(⟨no,k,nn,1⟩:Rq)]++n.reqs.drop pos) encRq_length (by rw [hL2];exact HVy5);rw [hL2] at hsly5;subst hsly5;clear hry5 hoy5 hgy5 hwy5;have hwb2:wc.heap.size≤y5.heap.size:=HGy5.size;refine tk [14] ?_;open Sb204 in exact Yb57):P:=h
theorem Sb353.Kb120(h:P:=by
 obtain⟨avT,cvT,hsly5,_⟩:=GR.own_at (enc:=encRq) (sz:=4) (l:=n.reqs.take pos++[(⟨no,k,nn,0⟩:Rq)]++n.reqs.drop pos) encRq_length (by rw [hL2];exact HVy5);rw [hL2] at hsly5;subst hsly5;clear hry5 hoy5 hgy5 hwy5;have hwb2:wc.heap.size≤y5.heap.size:=HGy5.size;refine tk [14] ?_;open Sb205 in exact Yb57):P:=h
theorem Yb121(h:P:=by
 rintro e W1 ⟨rfl,hb1⟩;have HN_1:=hide (obj_step HN hb1);have HRX:=hide (obj_step HR hb1);have HB1:=hide (HB0.trans (hb1.mono HB0.size));have HN1:=hide (HN0.kc (k:=9) (KC.of_below hb1) (by omega));exact Kb121):P:=h
theorem Sb354.Kb121(h:P:=by
 clear hb1 c0 c1 c2 c3 c4 c5 c6 c7 c8 hnl HRQ HN HR HN0 HB0;exact Kb22):P:=h
theorem Sb355.Kb121(h:P:=by
 clear hb1 c0 c1 c2 c3 c4 c5 c6 c7 c8 hnl HPO HN HR HN0 HB0;exact Kb54):P:=h
theorem Yb122(h:P:=by
 have HCP:=hide (fun W (h:Below w.heap.size w W)=>specCopyNode n A W hz (ha.below h));clear hz ha hok;go_enter Tryz.func19,Tryz.ntmps19
 go_upto_region 2 with fail;refine wp_at (fun W1 hW=>?_);exact Kb122):P:=h
theorem Sb356.Kb122(h:P:=by
 exact Kb26):P:=h
theorem Sb357.Kb122(h:P:=by
 open Sb344 in exact Yb116):P:=h
theorem Yb123(h:P:=by
 have q0:(mT != n.id)=false:=by simp[h1]
 have q0':(mT == n.id)=true:=by simp[h1]
 clear h1;exact Kb123):P:=h
theorem Sb358.Kb123(h:P:=by
 subst h3;have q4:(mF == n.par)=false:=by simpa using h4
 clear h4;open Sb372 in exact Yb128):P:=h
theorem Sb359.Kb123(h:P:=by
 subst h3;have q4:(mF == n.par)=true:=by simp[h4]
 clear h4;unfold GivesT;have H9:=hide h9;clear h9;have HMO:=hide (fun W=>specMsgOk ⟨0,mF,mT,mI,mL,mk,mN⟩ W (by unfold maxLen;dsimp only;omega));open Sb135 in exact Yb32):P:=h
theorem Sb360.Kb123(h:P:=by
 unfold GivesT;have H9:=hide h9;clear h9;have HMO:=hide (fun W=>specMsgOk ⟨mK,mF,mT,mI,mL,mk,mN⟩ W (by unfold maxLen;dsimp only;omega));open Sb136 in exact Yb32):P:=h
theorem Sb361.Kb123(h:P:=by
 subst h3;obtain⟨FL,hFL⟩:∃FL:Nat→List Snt,∀k,FL k=(n.out.take k).filter (fun s=> !outB2 ⟨2,mF,mT,mI,mL,mk,mN⟩ s):=⟨_,fun _=>rfl⟩;have HFE:Hid (n.out.filter (fun s=> !outB2 ⟨2,mF,mT,mI,mL,mk,mN⟩ s)=FL n.out.length):=by unfold Hid;rw [hFL,List.take_length]
 rw [unhide HFE];have HF0:Hid (FL 0=[]):=by unfold Hid;rw [hFL];rfl
 have HFS:Hid (∀k (hk:k < n.out.length),FL (k+1)=if n.out[k].i=mI∧n.out[k].t=mF then FL k else FL k++[n.out[k]]):=fun k hk=>by
  rw [hFL,hFL,List.take_succ_eq_append_getElem hk,List.filter_append]
  by_cases e:n.out[k].i=mI∧n.out[k].t=mF
  ·rw [if_pos e];have e2:(!outB2 ⟨2,mF,mT,mI,mL,mk,mN⟩ n.out[k])=false:=by unfold outB2;rw [decide_eq_true e];rfl
   rw [List.filter_cons,e2];simp
  ·rw [if_neg e];have e2:(!outB2 ⟨2,mF,mT,mI,mL,mk,mN⟩ n.out[k])=true:=by unfold outB2;rw [decide_eq_false e];rfl
   rw [List.filter_cons,e2];simp
 have HFN:Hid (∀k,(FL k).length≤n.out.length):=fun k=>by
  rw [hFL]
  exact Nat.le_trans (List.length_filter_le _ _) (by rw [List.length_take];omega)
 clear hFL HFE;obtain⟨i0,hi,hz0,hz1,hz2⟩:=info_parts infoSnt;have HI:=hide (And.intro hi (And.intro hz0 (And.intro hz1 hz2)));clear hi hz0 hz1 hz2;unfold GivesT;have H9:=hide h9;clear h9;have HMO:=hide (fun W=>specMsgOk ⟨2,mF,mT,mI,mL,mk,mN⟩ W (by unfold maxLen;dsimp only;omega));open Sb137 in exact Yb32):P:=h
theorem Sb362.Kb123(h:P:=by
 subst h3;open Sb371 in exact Yb128):P:=h
theorem Yb124(h:P:=by
 have HB7:Hid (Below w.heap.size w W7):=by rw [hW7];exact HB6.setCell (p:=⟨w.heap.size,7,none⟩) (Nat.le_refl _) _
 have HTA7:Hid (ReqAt W7 (some ⟨gv,1*4,none⟩) IT):=by
  exact Zb36
 exact Kb124):P:=h
theorem Sb363.Kb124(h:P:=by
 skip
 clear hW7 HTA y0 cf c0 c1 c2 c3 c4 c5 c6 c7 c8 hnl HN_6 HR_6 HQ_6 HB6 HL6;open Sb154 in exact Yb39):P:=h
theorem Sb364.Kb124(h:P:=by
 have HP7:Hid (Lies encP 4 (w.heap.size+3) W7 av RL):=by rw [hW7];exact HP6.keeps (KeepsL.set _) (fun x hx=>by simp at hx;omega)
 clear hW7 HTA y0 cf c0 c1 c2 c3 c4 c5 c6 c7 c8 hnl HN_6 HR_6 HQ_6 HB6 HL6 HP6;open Sb153 in exact Yb39):P:=h
theorem Yb125(h:P:=by
 have kc:=(nine HNz).2.2.2.2.2.2.2.2;have kf:=obj_free HNz 8;refine wpAny_one 15 rfl (by kernel_rfl) (by rfl) ?_;go_simp;refine wpAny_done (by kernel_rfl) ?_;go_simp;go_wp2_with fail;exact Kb125):P:=h
theorem Sb365.Kb125(h:P:=by
 go_meet
 case rel=>
  refine⟨rfl,avT,cvT,?_,?_,?_,?_,?_,?_,?_,?_⟩
  ·rcases HVz.2 with⟨_,hn⟩|⟨g,cap,cur,hv,_⟩
   ·omega
   ·simp only[Value.slice.injEq] at hv;exact⟨g,hv.1⟩
  ·rcases HVz.2 with⟨_,hn⟩|⟨g,cap,cur,hv,_,_,hnc,_⟩
   ·omega
   ·simp only[Value.slice.injEq] at hv;omega
  ·have h:=blk_setO HNz 8 (.slice avT (pos+1+(n.reqs.length - pos)) cvT);rw [show pos+1+(n.reqs.length - pos)=n.reqs.length+1 by omega] at h ⊢;exact h
  ·exact obj_set _ (by omega) HRz
  ·exact obj_set _ (by omega) HQz
  ·have h:=Lies.own (l:=n.reqs.take pos++[(⟨no,k,nn,0⟩:Rq)]++n.reqs.drop pos) encRq_length (by rw [hL2];exact HVz);rw [unhide HIQ];rw [List.append_assoc] at h;exact(h.keeps (KeepsL.set _) (fun x hx=>by simp at hx;omega)).lower (by omega)
  ·exact(HP5.below HGz).keeps (KeepsL.set _) (fun x hx=>by simp at hx;omega)
  ·exact(HB5.trans (HGz.mono HB5.size)).setCell (p:=⟨w.heap.size,8,none⟩) (Nat.le_refl _) _):P:=h
theorem Sb366.Kb125(h:P:=by
 go_meet
 case rel=>
  refine⟨rfl,avT,cvT,?_,?_,?_,?_,?_,?_,?_⟩
  ·rcases HVz.2 with⟨_,hn⟩|⟨g,cap,cur,hv,_⟩
   ·omega
   ·simp only[Value.slice.injEq] at hv;exact⟨g,hv.1⟩
  ·rcases HVz.2 with⟨_,hn⟩|⟨g,cap,cur,hv,_,_,hnc,_⟩
   ·omega
   ·simp only[Value.slice.injEq] at hv;omega
  ·have h:=blk_setO HNz 8 (.slice avT (pos+1+(n.reqs.length - pos)) cvT);rw [show pos+1+(n.reqs.length - pos)=n.reqs.length+1 by omega] at h ⊢;exact h
  ·exact obj_set _ (by omega) HRz
  ·exact obj_set _ (by omega) HQz
  ·have h:=Lies.own (l:=n.reqs.take pos++[(⟨no,k,nn,1⟩:Rq)]++n.reqs.drop pos) encRq_length (by rw [hL2];exact HVz);rw [unhide HIQ];rw [List.append_assoc] at h;exact(h.keeps (KeepsL.set _) (fun x hx=>by simp at hx;omega)).lower (by omega)
  ·exact(HB5.trans (HGz.mono HB5.size)).setCell (p:=⟨w.heap.size,8,none⟩) (Nat.le_refl _) _):P:=h
theorem Yb126(h:P:=by
 obtain⟨avR,cvR,hsly3,_⟩:=GR.own_at (enc:=encNum) (sz:=1) (l:=(idsS s0 mL).take pos) encNum_length (by rw [hlt1];exact HVy3);rw [hlt1] at hsly3;subst hsly3;clear hry3 hoy3 hgy3 hwy3;exact Kb126):P:=h
theorem Sb367.Kb126(h:P:=by
 generalize x2.heap.size=rb at *;exact Zb3):P:=h
theorem Sb368.Kb126(h:P:=by
 generalize x1.heap.size=rb at *;exact Zb3):P:=h
theorem Yb127(h:P:=by
 have HLQ:=hide (show IQ.length=n.reqs.length+1 by rw [unhide HIQ];simp;omega);have HN_6:=hide hN6;have HR_6:=hide hR6;have HQ_6:=hide hQ6;have HL6:=hide hL6;exact Kb127):P:=h
theorem Sb369.Kb127(h:P:=by
 have HP6:=hide hP6;have HB6:=hide hB6;clear hN6 hR6 hQ6 hL6 hP6 hB6;rename_i wo _ _ _
 by_cases h30:30 < n.reqs.length+1
 ·have HK:=hide (show keepN (setPu n RL) ⟨no,k,nn,0⟩=setReqs (setOld (setPu n RL) (IQ.headD default).no) IQ.tail by unfold keepN;rw [show((setPu n RL)).reqs=n.reqs from rfl,unhide HIN,unhide HLQ,if_pos h30]);open Sb185 in exact Yb48
 ·have HK:=hide (show keepN (setPu n RL) ⟨no,k,nn,0⟩=setReqs (setPu n RL) IQ by unfold keepN;rw [show((setPu n RL)).reqs=n.reqs from rfl,unhide HIN,unhide HLQ,if_neg h30]);open Sb223 in exact Yb63):P:=h
theorem Sb370.Kb127(h:P:=by
 have HB6:=hide hB6;clear hN6 hR6 hQ6 hL6 hB6;rename_i wo _ _ _
 by_cases h30:30 < n.reqs.length+1
 ·have HK:=hide (show keepN n ⟨no,k,nn,1⟩=setReqs (setOld n (IQ.headD default).no) IQ.tail by unfold keepN;rw [show(n).reqs=n.reqs from rfl,unhide HIN,unhide HLQ,if_pos h30]);open Sb186 in exact Yb48
 ·have HK:=hide (show keepN n ⟨no,k,nn,1⟩=setReqs n IQ by unfold keepN;rw [show(n).reqs=n.reqs from rfl,unhide HIN,unhide HLQ,if_neg h30]);open Sb224 in exact Yb63):P:=h
theorem Yb128(h:P:=by
 have h9n:∀x,6 < newC w.heap.size 9 c x→newC w.heap.size 9 c x=9:=fun x hx=>by
  by_cases hlt:x < w.heap.size
  ·rw [newC_old hlt] at hx ⊢;exact h9 x hx
  ·exact newC_new (by omega)
 exact Kb128):P:=h
theorem Sb371.Kb128(h:P:=by
 have HTK:=hide (fun W (hBW:B≤W.heap.size) (hN:NO W B n A G (newC w.heap.size 9 c))=>specTake n A G (newC w.heap.size 9 c) 1 mF mT mI mL mk mN W B hBW h9n hz hmk hP hPc hok h2 hN);clear h9n hz hP hPc hok;unfold GivesT at HTK;dsimp only at HTK ⊢;generalize (takeN n ⟨1,mF,mT,mI,mL,mk,mN⟩).1=N1 at *;generalize (if (takeN n ⟨1,mF,mT,mI,mL,mk,mN⟩).2=true then[ackM n ⟨1,mF,mT,mI,mL,mk,mN⟩] else[])=L1 at *;generalize (if (takeN n ⟨1,mF,mT,mI,mL,mk,mN⟩).2=true then(0:Int) else 1)=code1 at *;unfold GivesT;have H9:=hide h9;clear h9;have HMO:=hide (fun W=>specMsgOk ⟨1,mF,mT,mI,mL,mk,mN⟩ W (by unfold maxLen;dsimp only;omega));open Sb138 in exact Yb32):P:=h
theorem Sb372.Kb128(h:P:=by
 have HGV:=hide (fun W (hBW:B≤W.heap.size) (hN:NO W B n A G (newC w.heap.size 9 c))=>specGive n A G (newC w.heap.size 9 c) mF mk mN W B hBW h9n hz hmk hP hPc h0 hN);clear h9n hz hP hPc;unfold GivesT at HGV;generalize giveN n mF mk mN=GV at *;obtain⟨N1,L1,b1⟩:=GV;dsimp only at HGV ⊢;generalize (if b1=true then(0:Int) else 1)=code1 at *;unfold GivesT;have H9:=hide h9;clear h9;have HMO:=hide (fun W=>specMsgOk ⟨0,mF,mT,mI,mL,mk,mN⟩ W (by unfold maxLen;dsimp only;omega));open Sb134 in exact Yb32):P:=h
end Go.Proofs.YtppmcficiphgdaaGreatDoor
