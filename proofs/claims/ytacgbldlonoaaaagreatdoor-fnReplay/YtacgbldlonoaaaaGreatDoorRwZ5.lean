/-
  Parts of proofs that stand more than once, each said once.
-/
import Derived.Test.YtacgbldlonoaaaaGreatDoorRwZ4
namespace Go.Proofs.YtacgbldlonoaaaaGreatDoor
open Go.Proofs.Tryz
set_option maxRecDepth 100000
variable{P:Prop}
theorem aub.AcJ(h:P:=by
 by_cases hroom:l.length+1<=cap
 .refine(Ma g cap i l q vb w cur hl hi2 hroom hcm (hne g rfl) hgg hcs htk hv).mono ?_;rintro e w' ⟨rfl,hb,hgr⟩;have hcl:(l.length+1)*4<=cur.toList.length:=Adt
  refine⟨some ⟨g,0,none⟩,cap,by rw [hlen],?_,hgr,λx hx=> .inl hx⟩;rw [hlen];refine⟨hfl,.inr ⟨g,cap,_,rfl,hbg,hb,hroom,hcm,?_,?_⟩⟩
  .rw [List.size_toArray,acK _ _ _ _ hi2 hcl,show cur.toList.length=cur.size from Array.length_toList,hcs]
  .exact Yh cur.toList l i q hi2 hcl htk
 .refine(PZ g cap i l q vb w cur hl hi2 hnc Aaa hgg htk hv).mono ?_;rintro e w' ⟨G,cur',rfl,hG,hGm,hb,hs,ht,hgr⟩;refine⟨some ⟨w.heap.size,0,none⟩,G,by rw [hlen],?_,⟨hgr.os,hgr.tape,hgr.output,hgr.size,λk hk _=>hgr.block k hk Aac⟩,λx hx=> .inr ?_⟩
  .rw [hlen];exact⟨hfl,.inr ⟨w.heap.size,G,cur',rfl,hB,hb,hG,hGm,hs,ht⟩⟩
  .have:w.heap.size=x:=Abo
   omega):P:=h
theorem auc.AcJ(h:P:=by
 refine(WY g cap l w cur h2 hl hnc hcm hgg hcs htk).mono ?_;rintro e w' ⟨rfl,hb,hgr⟩;have hcl:l.length*4<=cur.toList.length:=Adt
 refine⟨some ⟨g,0,none⟩,cap,by rw [hlen],?_,hgr,λx hx=> .inl hx⟩;rw [hlen];refine⟨by rw [iC,hlen],.inr ⟨g,cap,_,rfl,hbg,hb,Aaa,hcm,?_,?_⟩⟩
 .rw [List.size_toArray,acM _ _ h2 hcl,show cur.toList.length=cur.size from Array.length_toList,hcs]
 .exact Yj cur.toList l h2 hcl):P:=h
theorem aud.AcJ(h:P:=by
 have hce:cur=(GR.flat aW l++cur.toList.drop (l.length*4)).toArray:=by
  rw [<-htk,List.take_append_drop,Array.toArray_toList]
 have hlr:l.length*4+(cur.toList.drop (l.length*4)).length=cap*4:=by
  rw [List.length_drop,show cur.toList.length=cur.size from Array.length_toList,hcs];omega
 rw [hce] at hgg;have hlen:(l.eraseIdx (qD l m)).length=l.length - 1:=List.length_eraseIdx_of_lt h;refine(SN g cap l _ B (qD l m) m w hl h hno hnc hcm hlr hB hgg hix).mono ?_;rintro e w' ⟨rfl,⟨r2,hS2,hr2⟩,hgr⟩;refine⟨some ⟨g,0,none⟩,cap,by rw [hlen],?_,hgr,λx hx=>hx⟩;rw [hlen];refine⟨by rw [nX,hlen],.inr ⟨g,cap,_,rfl,hbg,hS2,Aaa,hcm,?_,?_⟩⟩
 .rw [List.size_toArray,List.length_append,nX,hlen];exact hr2
 .exact List.take_left' (by rw [nX,hlen])):P:=h
theorem aam(h:P:=by
 iterate 2 (refine vJ (λK hK=>?_);go_simp;refine hK _ ?_;clear hK K)
 refine jc ?_;refine fE Aab (λz hz=>?_);exact AbX):P:=h
theorem aue.AbX(h:P:=by
 have pQ:=Hq (iA.trans (hz.mono iA.size));have HOZ:=Hq (aJ HOW hz);clear hz iA HOW;obtain⟨⟨c0,c1,c2,c3,c4,c5,c6,c7,c8,c9,c10⟩,_⟩:=aQ HOZ;have hzl:=bH HOZ;have aiB:=Hq (own_below HOWN pQ);have adf:=Hq (gI.trans (pQ.mono gI.size));have hLl:=HS.1;go_simp;go_wp2_with (at_builtin;refine wpList_append_own _ rfl _ _ 55 rfl w.heap.size 34 i0 (.agg (cu 0 0 ByteArray.empty 0 0 0 0 0 0 ByteArray.empty 0)) 11 104 underlying55 hi hz0 hz1 hz2 rfl Aae _ _ _ rfl (aiB.alloc _) ⟨z.heap.size,0,none⟩ 1 1 (nV ⟨K,no,k,n,⟨mK,mF,mT,mI,mL,mk,mN⟩⟩) rfl rfl ?c1 ?c2 ?c3 ?c4 ?c5 ?_)
 case c1=>exact World.news_of_block (heap_alloc_new z _)
 case c2=>exact O6 _
 case c3=>unfold maxLen;omega
 case c4=>omega
 case c5=>have:=adf.size;simp;omega
 intro v' w6 hown' hgrow _;have Nz:=Hq (GR.below_append adf adf.size aiB hgrow);have akR:Hid (w6.ownsRow w.heap.size 34 11 v' (L++[(⟨K,no,k,n,⟨mK,mF,mT,mI,mL,mk,mN⟩⟩:fP)]).length (GR.flat nV (L++[(⟨K,no,k,n,⟨mK,mF,mT,mI,mL,mk,mN⟩⟩:fP)]))):=by rw [List.length_append,yt];exact hown'
 clear hgrow hown' aiB adf gI HOWN pQ HOZ c0 c1 c2 c3 c4 c5 c6 c7 c8 c9 c10;go_wp2_with fail;go_roundw
 case rel=>exact⟨E,_,rfl,akR,Nz,.inl ⟨hsm,gU⟩⟩
 case measure=>simp[intOf];omega):P:=h
theorem auf.AbX(h:P:=by
 have JE:=Hq (HS.below hz hg);clear hz x0 x1 y0 y1 y2 y3 y4 y5 y6 y7 y8 y9 y10 HS lD;go_simp;cases hbo:bo
 .have hno:OK=false:=by rw [Bool.eq_false_iff];intro hy;have:=(HG.1 hy).2.2;rw [hbo] at this;cases this
  subst hbo;go_wp2_with fail;refine(HF _ JE.rd).mono ?_;rintro e w9 ⟨rfl,rfl⟩;go_wp2_with fail;exact⟨rfl,.inr ⟨hno,_,rfl⟩,JE.keep⟩
 .have hyes:OK=true:=HG.2 ⟨HES,HYE.2,hbo⟩;subst hbo;have azc:=Hq hyes;clear hyes;have hzo:=bH JE.op;have hlo:=JE.lo;obtain⟨⟨c0,c1,c2,c3,c4,c5,c6,c7,c8,c9,c10⟩,_⟩:=aQ JE.op;obtain⟨⟨d0,d1,d2,d3,d4,d5,d6,d7,d8,d9,d10⟩,f0,f1,f2,f3,f4,f5,f6,f7,f8,f9,f10⟩:=aQ JE.res;go_wp2_with fail;refine iJ (λW' hW'=>?_);obtain⟨⟨r0,r1,r2,r3,r4,r5,r6,r7,r8,r9,XY⟩,_⟩:=aQ (show W'.heap[w.heap.size]?=some (.cells (cu (s[0].toNat:Int) N1 TX N2 mK mF mT mI mL mk mN) 34 (0,0)) by rw [hW'];exact gF JE.res)
  have hKK:dS g w W':=by
   rw [hW'];exact(((((((((((JE.keep.setNew (Nat.le_refl _)).setNew (Nat.le_refl _)).setNew (Nat.le_refl _)).setNew (Nat.le_refl _)).setNew (Nat.le_refl _)).setNew (Nat.le_refl _)).setNew (Nat.le_refl _)).setNew (Nat.le_refl _)).setNew (Nat.le_refl _)).setNew (Nat.le_refl _)).setNew (Nat.le_refl _))
  exact bodyPost_ret (v:= .agg (cu (s[0].toNat:Int) N1 TX N2 mK mF mT mI mL mk mN)) (by simp[results,results185,go_sem,r0,r1,r2,r3,r4,r5,r6,r7,r8,r9,XY]) rfl ⟨.inl ⟨azc,rfl⟩,hKK⟩):P:=h
theorem aug.AbX(h:P:=by
 have HZ:=Hq ((au w (.cells (cK mK mF mT mI mL mk mN) 32)).trans (hz.mono Aac));clear hz y0 y1 y2 y3 y4 y5 y6 y7 y8 z1 z2 Sc;go_simp;go_wp2_with fail;go_ret;exact⟨rfl,HZ⟩):P:=h
theorem OD(h:P:=by
 have y0:=cell_regrown p0;have y1:=cell_regrown p1;have y2:=cell_regrown p2;have y3:=cell_regrown p3;exact Aa1):P:=h
theorem auh.Aa1(h:P:=by
 have y4:=cell_regrown c4;clear HO p0 p1 p2 p3 c4;open aAq in exact Sl):P:=h
theorem aui.Aa1(h:P:=by
 have y4:=cell_regrown p4;have y5:=cell_regrown p5;have y6:=cell_regrown p6;exact AaV):P:=h
theorem auj.Aa1(h:P:=by
 clear HO p0 p1 p2 p3;open aAs in exact Sl):P:=h
theorem auk.Aa1(h:P:=by
 clear HO p0 p1 p2 p3;open aAr in exact Sl):P:=h
theorem aul.Aa1(h:P:=by
 have y4:=cell_regrown c4;clear HO p0 p1 p2 p3 c4;open aAw in exact Sl):P:=h
theorem agm(h:P:=by
 rw [<-hW] at e1 e2 e3;have HN:=Hq e1;have HR:=Hq e2;have HB0:=Hq e3;have Jv:=Hq (kS.kc (k:=9) (KC.of_below e3) Aaa);clear hW e1 e2 e3 kS hbw0 hlo;obtain⟨c0,c1,c2,c3,c4,c5,c6,c7,c8⟩:=nine HN;have hnl:=aA HN;exact Afa):P:=h
theorem aum.Afa(h:P:=by
 have qZ:=Hq HR;open amV in exact aav):P:=h
theorem aun.Afa(h:P:=by
 go_wp2_with fail;refine(Oe W0 Jv.at.r).mono ?_;open avp in exact agN):P:=h
theorem aan(h:P:=by
 have rT:=Hq (λw1 (hw:WK w0 w1 wb n A G c v L)=>Nr w0 w1 wb n A G c v L o.no hok h0 h1 hw);rw [hf] at rT;have hlen:=(jl hok).2.1;exact AbZ):P:=h
theorem auo.AbZ(h:P:=by
 clear hR h0 h1 hok hf hgd aec;generalize dZ n.reqs o.no=i at *;open aAf in exact Sk):P:=h
theorem aup.AbZ(h:P:=by
 generalize dZ n.reqs o.no=i at *;generalize Gb n.reqs[i] o.k o.n=SQ at *;clear hR h0 h1 hok hf hgd;open aAc in exact Sk):P:=h
theorem auq.AbZ(h:P:=by
 clear hR h0 h1 hok hf hgd aec;generalize dZ n.reqs o.no=i at *;have HUN:=Hq (λw1 (hw:WK w0 w1 wb n A G c v L)=>PK A.p A.cp n.pu n.reqs[i].k n.reqs[i].n E w1 hz.p hz.pk (hz.rk _ (List.getElem_mem hil)) hw.no.p.at (he.below hw.keep));unfold ku at HUN;generalize dJ n.pu n.reqs[i].k 0 1 (-1) n.reqs[i].n=r at *;open az9 in exact Sk):P:=h
theorem agn(h:P:=by
 have k8:=(nine rR).2.2.2.2.2.2.2.2;have kf8:=aj rR 8;clear hrun Ep CY;go_upto_region 20 with(at_builtin;refine gu rfl (.tmp 118) (.tmp 121) 28 rfl _ _ rfl rfl _ _ (Wt _) ?_)
 refine wp_at (λW9 Tk=>?_);exact Ael):P:=h
theorem aur.Ael(h:P:=by
 have xX:Hid (W9.heap[w.heap.size]?=some (.cells (gH n.id n.par a_k n.kids.length aL n.next av RL.length cv eD n.out.length aP eO n.seen.length aM IH.no (some ⟨g8,0,none⟩) n.reqs.length EW) 30 (0,0))):=by rw [Tk];exact aT rR 8 _
 have lY:Hid (W9.heap[w.heap.size+2]?=some (.cells fU 30 (0,0))):=by rw [Tk];exact gY _ Aaa zn
 have KT:Hid (W9.heap[W1.heap.size]?=some (.cells (eG no k nn 0) 97 (0,0))):=by rw [Tk];exact gY _ Aaa adw
 open as3 in exact af8):P:=h
theorem aus.Ael(h:P:=by
 have xX:Hid (W9.heap[w.heap.size]?=some (.cells (gH n.id n.par a_k n.kids.length aL n.next (some ⟨gp,0,none⟩) n.pu.length bE eD n.out.length aP eO n.seen.length aM IH.no (some ⟨g8,0,none⟩) n.reqs.length EW) 30 (0,0))):=by rw [Tk];exact aT rR 8 _
 have lY:Hid (W9.heap[w.heap.size+2]?=some (.cells fU 30 (0,0))):=by rw [Tk];exact gY _ Aaa zn
 have KT:Hid (W9.heap[W1.heap.size]?=some (.cells (eG no k nn 1) 97 (0,0))):=by rw [Tk];exact gY _ Aaa adw
 open as4 in exact af8):P:=h
theorem agp(h:P:=by
 obtain⟨rfl,hge⟩:=hcut;have Dz:=Hq (ay BD hge);have zl:=Hq (ay Og hge);have Ws:=Hq (ay aiH hge);have iX:=Hq (lI.trans (hge.mono lI.size));have HA5:=Hq (GR.At.below HA4 hge);exact Aew):P:=h
theorem aut.Aew(h:P:=by
 skip
 open aso in exact afS):P:=h
theorem auu.Aew(h:P:=by
 have Nw:=Hq (Wp.below hge);clear Wp;open asq in exact afS):P:=h
theorem agq(h:P:=by
 have hblk:V.heap[wr.heap.size]?=some (.cells (iM pk pm pf ps) 143 (0,0)):=by rw [hV];exact heap_alloc_new wr _
 exact AeC):P:=h
theorem auv.AeC(h:P:=by
 have hPV:=HP.below hbV;have Wq:=Hq hPV;have GL:=Hq hblk;have HVS:=Hq (show V.heap.size=wr.heap.size+1 by rw [hV];simp);have vS:=Hq (gI.trans (hbV.mono gI.size));obtain⟨⟨p0,p1,p2,p3⟩,_⟩:=gG hblk;obtain⟨⟨n0,n1⟩,f0,f1⟩:=nM hPV.blk
 have HRW:=Hq (show V.ownsRow w.heap.size 9 1 (.slice aa k cc) k (((l.take k).map (·.k)).map Value.string) by
  have:=hPV.row
  rw [List.length_map,List.length_take,Nat.min_eq_left hk] at this
  exact this)
 have HGR:=Hq (show∀w2:World,((V.alloc (.cells #[.string pk] 9)).drew).grownBy w2 (Value.slice aa k cc).ownBlock->
  w2.heap[w1.heap.size+1]?=some (.cells #[.slice aa k cc,.map (some w1.heap.size)] 306 (0,0))/\w2.heap[w1.heap.size]?=V.heap[w1.heap.size]?/\w2.heap[wr.heap.size]?=V.heap[wr.heap.size]?/\Below w.heap.size V w2 by
  intro w2 hg
  have hb:∀q,q < V.heap.size->(Value.slice aa k cc).ownBlock≠some q->w2.heap[q]?=V.heap[q]?:=λq hq hne=>by
   rw [hg.block q (by show q < (V.alloc _).heap.size;simp;omega) (Ne.symm hne)]
   exact Below.heap_alloc V _ _ hq
  obtain⟨es,clock,hmap⟩:=hPV.map.blk
  refine⟨?_,hb _ hPV.map.lt (yH HRW hmap),hb _ (Fo.lt_of_blk hblk) (own_ne HRW hblk Aae),?_⟩
  .rw [hb _ (Fo.lt_of_blk hPV.blk) (own_ne (ah HRW) hPV.blk Aae)];exact hPV.blk
  .refine⟨hg.os,hg.tape,hg.output,Nat.le_trans (by show V.heap.size<=(V.alloc _).heap.size;simp) hg.size,λq hq=>hb q (by have:=vS.size;omega) (λe=>?_)⟩;have:=HRW.lt _ e
   omega)
 have n2:(V.alloc (.cells #[.string pk] 9)).cell? ⟨w1.heap.size+1,0,none⟩=some (.slice aa k cc):=by rw [World.cell?_alloc_lt _ _ _ (Fo.lt_of_blk hPV.blk)];exact n0
 clear hblk hbV hPV hV c0 c1 c2 c3 n1 f1;go_region_law (refine step_append_lies _ rfl (.tmp 24) (.tmp 27) 50 rfl w.heap.size 9 i0 (.string ⟨#[]⟩) 1 16 underlying50 hi hz0 hz1 hz2 rfl Aae (.slice aa k cc) k (((l.take k).map (·.k)).map Value.string) Aaj (HRW.alloc _).drew ⟨V.heap.size,0,none⟩ 1 1 [.string pk] Aaj rfl (World.news_of_block (w:=(V.alloc (.cells #[.string pk] 9)).drew) (heap_alloc_new V _)) (λu hu=>by rw [List.mem_singleton.1 hu];rfl) Aaa Aah Aaa (by have:=vS.size;simp;omega) (V.heap.size+1) Aac ?_;intro g' cap' w2 hown hgrow hat hlt2;have hK2:=ah HGR w2 hgrow;have HOW:=Hq hown;clear hown hgrow hat hlt2;have HM2:=Hq hK2.1;have HX2:=Hq hK2;obtain⟨⟨y0,y1⟩,z0,z1⟩:=nM hK2.1;clear hK2 y1 z1)
 all_goals
  go_upto_region 8 with fail
  refine Fo.wp_at (λV3 hV3=>?_)
  obtain⟨hx1,hx2,hx3,hx4⟩:=ah HX2
  have aCB:w1.heap.size+1 < wr.heap.size:=Fo.lt_of_blk HP.blk
  have hblk3:V3.heap[w1.heap.size+1]?=some (.cells #[.slice (some ⟨g',0,none⟩) (k+1) cap',.map (some w1.heap.size)] 306 (0,0)):=by rw [hV3];exact Fo.blk_set hx1 0 _
  have ayh:V3.heap[wr.heap.size]?=some (.cells (iM pk pm pf ps) 143 (0,0)):=by
   rw [hV3,Fo.one_other rfl Aaa,hx3];exact GL
  have abv:iN V3 w1.heap.size k (aG (l.take k)):=Wq.map.kept (by rw [hV3,Fo.one_other rfl Aaa,hx2])
  have hrow3:V3.ownsRow w.heap.size 9 1 (.slice (some ⟨g',0,none⟩) (k+1) cap') (k+1) (((l.take k).map (·.k)).map Value.string++[.string pk]):=by
   rw [hV3];exact HOW.kept (w':=w2.setCell ⟨w1.heap.size+1,0,none⟩ _) (row:=some (w1.heap.size+1)) ⟨rfl,rfl,rfl,by rw [Fo.setCell_size];exact Nat.le_refl _,λq _ hne=>Fo.one_other rfl (λe=>hne Aao)⟩ (.inr (own_ne HOW hx1 Aae))
  have hkeys:(l.take (k+1)).map (·.k)=(l.take k).map (·.k)++[pk]:=by rw [ah UW];simp
  have ayW:=Hq (show PM V3 w.heap.size (w1.heap.size+1) w1.heap.size k (.slice (some ⟨g',0,none⟩) (k+1) cap') ((l.take (k+1)).map (·.k)) (aG (l.take k)) by
   refine⟨hblk3,?_,abv,HP.lop,HP.lom⟩
   rw [hkeys,List.map_append,List.length_append,List.length_map,List.length_take,Nat.min_eq_left hk]
   exact hrow3)
  have HB3:=Hq (show aY w V3 by rw [hV3];exact(vS.trans hx4).setCell (p:=⟨w1.heap.size+1,0,none⟩) HP.lop _)
  have aiE:=Hq (Vx (w1.heap.size+1) w1.heap.size k _ (aG (l.take k)) ⟨pk,pm,pf,ps⟩ V3 hkk Aah hblk3 abv)
  obtain⟨⟨r0,r1,r2,r3⟩,_⟩:=gG ayh
  clear hx1 hx2 hx3 hx4 hblk3 ayh abv hrow3 hkeys hV3 y0 z0 n0 n2 p0 p1 p2 p3 f0
  go_wp2_with fail
  refine aiE.mono ?_
  rintro e w5 ⟨rfl,hm5,hk5⟩
  have Nw:=Hq (ayW.turned hk5 hm5)
  have iX:=Hq (HB3.trans (Dc hk5 HP.lom HB3.size))
  clear hm5 hk5 r0 r1 r2 r3
  go_wp2_with fail
  go_roundw
  case rel=>
   have h:=ah Nw;rw [ah HUP] at h;exact⟨k+1,_,_,Aaa,Aai,h,iX⟩
  case measure=>simp[intOf];omega):P:=h
theorem auw.AeC(h:P:=by
 have vS:=Hq (show aY w V by rw [hV];exact gI.alloc gI.size _);have hgV:=Fo.lt_of_blk hblk;obtain⟨⟨p0,p1,p2,p3⟩,_⟩:=gG hblk;exact Aa8):P:=h
theorem agr(h:P:=by
 have hwp:wr.heap.size<=y5.heap.size:=HG2.size;refine tk [6,7,8,9] ?_;iterate 4 (refine tkB hwp (λK hK=>?_);go_simp;first|refine hK _ ?_|(apply Exists.intro;refine⟨λ_=>?_,hK _ ?_⟩;rfl);clear hK K)
 refine jc ?_;clear hwp;exact Ad6):P:=h
theorem auy.Ad6(h:P:=by
 have HGf:=HG2;have HDf:=Hq (Below.refl y5.heap.size y5);have HQf:=HQ2;exact Zw8):P:=h
theorem auz.Ad6(h:P:=by
 refine fC 10 rfl Aab Aad Aae (λx10 Tz=>?_);have NC:=Hq (Ge.trans HG2 Tz);have HD3:=Hq (show Ge y5 x10 from Tz);go_simp;refine⟨(au x10 _).mono NC.size,?_⟩;have hqd:x10.heap.size < x5.heap.size\/y5.heap.size<=x10.heap.size:= .inr HD3.size;have hqV:wr.heap.size<=x10.heap.size:=NC.size;have HGf:=Hq (Ge.trans NC (au x10 (.cells fU 30)));have HDf:=Hq (Ge.trans HD3 (au x10 (.cells fU 30)));have HQf:=Hq (heap_alloc_new x10 (.cells fU 30));clear Tz NC HD3;generalize x10.heap.size=qf at *;exact Zw8):P:=h
theorem ags(h:P:=by
 refine wp_at (λW1 hW1=>?_);have HW1:Hid (W1.heap[wr.heap.size]?=some (.cells #[.int .i64 fr,.int .i64 lo,.slice b ids.length c] 90 (0,0))):=Acl
 exact Ae0):P:=h
theorem auA.Ae0(h:P:=by
 have hbw:aY wr W1:=by rw [hW1];exact au wr _
 have akw:=Hq (lU.trans (hbw.mono lU.size));have HI1:=Hq (GR.At.below HI hbw);have p1:=(hbw.cell (p:=⟨g2,off2+k,none⟩) ajy).trans p0;have vL:=Hq (gI.trans (hbw.mono gI.size));clear hW1 hbw q0 q1 q2 p0 HI;obtain⟨d0,d1,d2⟩:=three HW1;have m0:=cell_grown' d0;have m1:=cell_grown' d1;have m2:=cell_grown' d2;have m3:=cell_grown' p1;by_cases h1:fr=y
 case' neg=>
  have hb1:(fr != y)=true:=Abf
  have HP:=Hq (show TT=false by rw [ah HD,decide_eq_false (ah GU h1)];rfl)
  clear h1 HST GU HX2
  refine wp_region_quiet_below Aab Aab ?_
  repeat (first|go_big_quiet_step (fail)|quiet_step (fail))
  refine wpQuiet_nil ?_
  intro _ hw'
  obtain⟨⟨dq,osq⟩,hw''⟩:=hw'
  subst hw''
  go_wp2_with fail
  go_ret
  exact⟨aD HP.symm,vL.trans ((below_regrown _ dq osq).mono vL.size)⟩
 have hb1:(fr != y)=false:=Abf
 cases h2:vO ⟨fr,lo,ids⟩
 case' false=>
  have HP:=Hq (show TT=false by rw [ah HD,ah HX2 h2];simp)
  have cS:=aik ⟨fr,lo,ids⟩ b c false W1 Ie HI1 h2
  clear h1 HST GU HX2
  refine wp_region_quiet_below Aab Aab ?_
  repeat (first|go_big_quiet_step ((first|(go_at_call 132;exact cS _ _)))|quiet_step ((first|(go_at_call 132;exact cS _ _))))
  refine wpQuiet_nil ?_
  intro _ hw'
  obtain⟨⟨dq,osq⟩,hw''⟩:=hw'
  subst hw''
  go_wp2_with fail
  go_ret
  exact⟨aD HP.symm,vL.trans ((below_regrown _ dq osq).mono vL.size)⟩
 have HG:=Hq (HST h1 h2);have cS:=aik ⟨fr,lo,ids⟩ b c true W1 Ie HI1 h2;clear h1 HST GU HX2;refine wp_region_quiet_below Aab Aab ?_;repeat (first|go_big_quiet_step ((first|(go_at_call 132;exact cS _ _)))|quiet_step ((first|(go_at_call 132;exact cS _ _))))
 refine wpQuiet_nil ?_;intro _ hw';obtain⟨⟨dq,osq⟩,hw''⟩:=hw';subst hw'';go_wp2_with fail;go_roundw
 case rel=>exact⟨k+1,Aaa,Aai,HG.1,HG.2,akw.trans ((below_regrown _ dq osq).mono akw.size)⟩
 case measure=>simp[intOf];omega):P:=h
theorem auB.Ae0(h:P:=by
 open amo in exact adJ):P:=h
theorem agt(h:P:=by
 obtain⟨rfl,e4,gL⟩:=hcut;rename_i wz _ _ _
 have pQ:=Hq (vP.trans (gL.below (B:=w.heap.size) (λx hx=>Aak) vP.size));have HLZ:=Hq (HL6.keeps gL (λx hx=>Aak));exact Ac9):P:=h
theorem auC.Ac9(h:P:=by
 skip
 obtain⟨x0,x1,x2,x3,x4,x5,x6,x7,x8⟩:=nine e4;clear e4 gL;go_wp2_with fail;refine bodyPost_ret (v:= .tuple #[.agg (gH n.id n.par a_k n.kids.length aL n.next (some ⟨gp,0,none⟩) n.pu.length bE eD n.out.length aP eO n.seen.length aM n.old (some ⟨gv,0,none⟩) (n.reqs.length+1) vc),.int .i64 1]) Abs rfl ?_;rw [ah HK];refine⟨⟨a_k,(some ⟨gp,0,none⟩),eD,eO,(some ⟨gv,0,none⟩),aL,bE,aP,aM,vc⟩,?_,λW'' ho=>?_,pQ.mono hB,Apart.of_below pQ⟩
 .simp[fT,dD,eH,ah Xg]
 .exact axt):P:=h
theorem auD.Ac9(h:P:=by
 have R4:=Hq (Zv.keeps gL (λx hx=>Aak));obtain⟨x0,x1,x2,x3,x4,x5,x6,x7,x8⟩:=nine e4;clear e4 gL;go_wp2_with fail;refine bodyPost_ret (v:= .tuple #[.agg (gH n.id n.par a_k n.kids.length aL n.next av RL.length cv eD n.out.length aP eO n.seen.length aM n.old (some ⟨gv,0,none⟩) (n.reqs.length+1) vc),.int .i64 0]) Abs rfl ?_;rw [ah HK];refine⟨⟨a_k,av,eD,eO,(some ⟨gv,0,none⟩),aL,cv,aP,aM,vc⟩,?_,λW'' ho=>?_,pQ.mono hB,Apart.of_below pQ⟩
 .simp[fT,dD,eH,setPu,ah Xg]
 .exact axj):P:=h
theorem agu(h:P:=by
 obtain⟨rfl,e4,gL⟩:=hcut;rename_i wz _ _ _
 have pQ:=Hq (Zc.trans (gL.below (B:=w.heap.size) (λx hx=>Aak) Zc.size));have HLZ:=Hq (HL9.keeps gL (λx hx=>Aak));exact Afw):P:=h
theorem auE.Afw(h:P:=by
 skip
 obtain⟨x0,x1,x2,x3,x4,x5,x6,x7,x8⟩:=nine e4;clear e4 gL;go_wp2_with fail;refine bodyPost_ret (v:= .tuple #[.agg (gH n.id n.par a_k n.kids.length aL n.next (some ⟨gp,0,none⟩) n.pu.length bE eD n.out.length aP eO n.seen.length aM IH.no (some ⟨g8,0,none⟩) n.reqs.length EW),.int .i64 1]) Abs rfl ?_;rw [ah HK];refine⟨⟨a_k,(some ⟨gp,0,none⟩),eD,eO,(some ⟨g8,0,none⟩),aL,bE,aP,aM,EW⟩,?_,λW'' ho=>?_,pQ.mono hB,Apart.of_below pQ⟩
 .simp[fT,dD,eH,nJ,Xg]
 .exact axt):P:=h
theorem auF.Afw(h:P:=by
 have R4:=Hq (HP9.keeps gL (λx hx=>Aak));obtain⟨x0,x1,x2,x3,x4,x5,x6,x7,x8⟩:=nine e4;clear e4 gL;go_wp2_with fail;refine bodyPost_ret (v:= .tuple #[.agg (gH n.id n.par a_k n.kids.length aL n.next av RL.length cv eD n.out.length aP eO n.seen.length aM IH.no (some ⟨g8,0,none⟩) n.reqs.length EW),.int .i64 0]) Abs rfl ?_;rw [ah HK];refine⟨⟨a_k,av,eD,eO,(some ⟨g8,0,none⟩),aL,cv,aP,aM,EW⟩,?_,λW'' ho=>?_,pQ.mono hB,Apart.of_below pQ⟩
 .simp[fT,dD,eH,nJ,setPu,Xg]
 .exact axj):P:=h
theorem agv(h:P:=by
 obtain⟨k,y,hk,rfl,rfl,hy,hall,hblk,hbel⟩:=hrel;have mU:=Hq hall;have HY:=Hq hy;have gI:=Hq hbel;have GL:=Hq hblk;exact Afj):P:=h
theorem auG.Afj(h:P:=by
 have hy0:0<=y:=by rw [hy];exact HLB k hall
 clear hall hy hblk hbel;by_cases hlt:k < out.length
 case' neg=>
  have hke:k=out.length:=Aaa
  subst hke
  have hnlt:decide ((out.length:Int) < (out.length:Int))=false:=Aac
  have HF:Hid (TT=true):=by
   exact WH
  go_wp2_with fail
  go_ret
  exact⟨aD HF.symm,gI⟩
 obtain⟨g,off,e0,hgw,q0,q1,q2,q3⟩:=SentAt.four (HA.below gI).o k hlt;(try dsimp only at e0 q0 q1 q2 q3)
 subst e0;have HBAD:Hid (iB KB RR (out.take (k+1))=false->TT=false):=λh=>lD.trans (xG _ h)
 have gU:Hid (iB KB RR (out.take (k+1))=(KB out[k]&&decide (y < (out[k]).i))):=by
  exact ahC
 have Ef:=Hq (yY k hlt);have Dy:=Hq (UJ out[k]);clear kR yY xG UJ HLB;generalize out[k]=sk at *;generalize KB sk=OB at *;obtain⟨si,st,sx,sn⟩:=sk;dsimp only at q0 q1 q2 q3 gU Ef Dy;obtain⟨bb,hbb⟩:∃bb,(!(decide (y < si)&&decide (si < next)&&NN st&&keyOk sx.data.toList&&fV sn))=bb:=⟨_,rfl⟩;have fO:=Hq hbb
 have Bh:Hid (iB KB RR (out.take (k+1))= !bb):=by
  rw [ah gU,<-ah fO,ah Dy,Bool.not_not]
  have e1:(decide (1<=si/\si<=next - 1)&&decide (y < si))=(decide (y < si)&&decide (si < next)):=by
   rw [Bool.eq_iff_iff];exact aaL
  rw [<-e1];generalize decide (1<=si/\si<=next - 1)=z1;generalize decide (y < si)=z2;generalize NN st=z3;generalize keyOk sx.data.toList=z4;generalize fV sn=z5;cases z1<;>cases z2<;>cases z3<;>cases z4<;>cases z5<;>exact Hq rfl
 clear hbb gU Dy;go_upto_region 7 with fail;refine wp_at (λW1 hW1=>?_);have HW1:Hid (W1.heap[wr.heap.size]?=some (.cells (fI si st sx sn) 95 (0,0))):=Acl
 open ams in exact adJ):P:=h
theorem auH.Afj(h:P:=by
 have hy0:old<=y:=by rw [hy];exact HLB k hall
 clear hall hy hblk hbel;by_cases hlt:k < reqs.length
 case' neg=>
  have hke:k=reqs.length:=Aaa
  subst hke
  have hnlt:decide ((reqs.length:Int) < (reqs.length:Int))=false:=Aac
  have HF:Hid (TT=true):=by
   exact WH
  go_wp2_with fail
  go_ret
  exact⟨aD HF.symm,gI⟩
 obtain⟨g,off,e0,hgw,q0,q1,q2,q3⟩:=jf.four (HA.below gI).r k hlt;(try dsimp only at e0 q0 q1 q2 q3)
 subst e0;have HBAD:Hid (iB KB RR (reqs.take (k+1))=false->TT=false):=λh=>lD.trans (xG _ h)
 have gU:Hid (iB KB RR (reqs.take (k+1))=(KB reqs[k]&&decide (y < (reqs[k]).no))):=by
  exact ahC
 have Ef:=Hq (yY k hlt);have Dy:=Hq (UJ reqs[k]);clear kR yY xG UJ HLB;generalize reqs[k]=sk at *;generalize KB sk=OB at *;obtain⟨si,sx,sn,st⟩:=sk;dsimp only at q0 q1 q2 q3 gU Ef Dy;obtain⟨bb,hbb⟩:∃bb,(!(decide (y < si)&&ru si&&keyOk sx.data.toList&&fV sn&&decide (0<=st)&&decide (st<=2)))=bb:=⟨_,rfl⟩;have fO:=Hq hbb
 have Bh:Hid (iB KB RR (reqs.take (k+1))= !bb):=by
  rw [ah gU,<-ah fO,ah Dy,Bool.not_not]
  have e1:(decide (old+1<=si/\si<=1000000000)&&decide (y < si))=(decide (y < si)&&ru si):=by
   rw [Bool.eq_iff_iff];unfold ru;exact aaL
  have e2:decide (0<=st/\st<=2)=(decide (0<=st)&&decide (st<=2)):=by
   rw [Bool.eq_iff_iff];simp only[Bool.and_eq_true,decide_eq_true_eq]
  rw [<-e1,e2];generalize decide (old+1<=si/\si<=1000000000)=z1;generalize decide (y < si)=z2;generalize decide (0<=st)=z3;generalize decide (st<=2)=z6;generalize keyOk sx.data.toList=z4;generalize fV sn=z5;cases z1<;>cases z2<;>cases z3<;>cases z4<;>cases z5<;>cases z6<;>exact Hq rfl
 clear hbb gU Dy;go_upto_region 7 with fail;refine wp_at (λW1 hW1=>?_);have HW1:Hid (W1.heap[wr.heap.size]?=some (.cells (eG si sx sn st) 97 (0,0))):=Acl
 open amr in exact adJ):P:=h
theorem agw(h:P:=by
 go_wp2_with fail;refine(Ob _ NK).mono ?_;rintro e w1 ⟨rfl,hb1⟩;have HB1:=Hq (ay HB0 hb1);have Zn:=Hq (NK.trans (hb1.mono NK.size));exact AfG):P:=h
theorem auI.AfG(h:P:=by
 clear hb1 c0 c1 c2 c3 c4 c5 c6 c7 c8 Ob;obtain⟨c0,c1,c2,c3,c4,c5,c6,c7,c8⟩:=nine HB1;cases h1:PL
 case' false=>
  have HV:=Hq (show bb=true by rw [<-ah fO];simp[h1])
  clear fO h1
  go_wp2_with fail
  go_meet
  case rel=>exact⟨Aam,HB1,Zn⟩
 go_wp2_with fail;refine(HPU _ Zn).mono ?_;rintro e w2 ⟨rfl,hb1⟩;have HB2:=Hq (ay HB1 hb1);have HL2:=Hq (Zn.trans (hb1.mono Zn.size));clear hb1 c0 c1 c2 c3 c4 c5 c6 c7 c8 HPU;obtain⟨c0,c1,c2,c3,c4,c5,c6,c7,c8⟩:=nine HB2;cases h2:PS
 case' false=>
  have HV:=Hq (show bb=true by rw [<-ah fO];simp[h2])
  clear fO h2
  go_wp2_with fail
  go_meet
  case rel=>exact⟨Aam,HB2,HL2⟩
 go_wp2_with fail;refine(HTO _ HL2).mono ?_;rintro e w3 ⟨rfl,hb1⟩;have HB3:=Hq (ay HB2 hb1);have UK:=Hq (HL2.trans (hb1.mono HL2.size));clear hb1 c0 c1 c2 c3 c4 c5 c6 c7 c8 HTO;obtain⟨c0,c1,c2,c3,c4,c5,c6,c7,c8⟩:=nine HB3;cases h3:TD
 case' false=>
  have HV:=Hq (show bb=true by rw [<-ah fO];simp[h3])
  clear fO h3
  go_wp2_with fail
  go_meet
  case rel=>exact⟨Aam,HB3,UK⟩
 cases h4:fV next
 case' false=>
  have HV:=Hq (show bb=true by rw [<-ah fO];simp[h4])
  clear fO h1 h2 h3
  go_wp2_with (go_at_call 61;refine(eU _ _ _ h4).mono ?_;rintro e w9 ⟨rfl,rfl⟩)
  go_meet
  case rel=>exact⟨Aam,HB3,UK⟩
 by_cases h5:out.length<=40
 case' neg=>
  have hq:decide ((40:Int) < out.length)=true:=decide_eq_true Aaa
  have HV:=Hq (show bb=true by rw [<-ah fO];simp[h5])
  clear fO h1 h2 h3
  go_wp2_with (go_at_call 61;refine(eU _ _ _ h4).mono ?_;rintro e w9 ⟨rfl,rfl⟩)
  go_meet
  case rel=>exact⟨Aam,HB3,UK⟩
 have hq:decide ((40:Int) < out.length)=false:=decide_eq_false Aaa;cases h6:ru old
 case' false=>
  have GK:=Hq (λw1=>ab1 old false w1 h6)
  have HV:=Hq (show bb=true by rw [<-ah fO];simp[h6])
  clear fO h1 h2 h3
  go_wp2_with (first|(go_at_call 61;refine(eU _ _ _ h4).mono ?_;rintro e w9 ⟨rfl,rfl⟩)|(go_at_call 62;refine(GK _).mono ?_;rintro e w9 ⟨rfl,rfl⟩))
  go_meet
  case rel=>exact⟨Aam,HB3,UK⟩
 have GK:=Hq (λw1=>ab1 old true w1 h6);by_cases h7:reqs.length<=30
 case' neg=>
  have hq2:decide ((30:Int) < reqs.length)=true:=decide_eq_true Aaa
  have HV:=Hq (show bb=true by rw [<-ah fO];simp[h7])
  clear fO h1 h2 h3
  go_wp2_with (first|(go_at_call 61;refine(eU _ _ _ h4).mono ?_;rintro e w9 ⟨rfl,rfl⟩)|(go_at_call 62;refine(GK _).mono ?_;rintro e w9 ⟨rfl,rfl⟩))
  go_meet
  case rel=>exact⟨Aam,HB3,UK⟩
 have hq2:decide ((30:Int) < reqs.length)=false:=decide_eq_false Aaa;have HV:=Hq (show bb=false by rw [<-ah fO];simp[h1,h2,h3,h4,h5,h6,h7]);clear fO h1 h2 h3;go_wp2_with (first|(go_at_call 61;refine(eU _ _ _ h4).mono ?_;rintro e w9 ⟨rfl,rfl⟩)|(go_at_call 62;refine(GK _).mono ?_;rintro e w9 ⟨rfl,rfl⟩))
 go_meet
 case rel=>exact⟨Aam,HB3,UK⟩):P:=h
theorem auJ.AfG(h:P:=by
 clear hb1 c0 c1 c2 c3 c4 c5 c6 c7 c8;obtain⟨c0,c1,c2,c3,c4,c5,c6,c7,c8⟩:=nine HB1;cases h1:PL
 case' false=>
  have HP:=Hq (show TT=false by rw [ah HD];simp[h1])
  clear h1 HD
  go_wp2_with fail
  go_ret
  exact⟨aD HP.symm,Zn⟩
 go_wp2_with fail;refine(HPU _ Zn).mono ?_;rintro e w2 ⟨rfl,hb1⟩;have HB2:=Hq (ay HB1 hb1);have HL2:=Hq (Zn.trans (hb1.mono Zn.size));clear hb1 c0 c1 c2 c3 c4 c5 c6 c7 c8;obtain⟨c0,c1,c2,c3,c4,c5,c6,c7,c8⟩:=nine HB2;cases h2:PS
 case' false=>
  have HP:=Hq (show TT=false by rw [ah HD];simp[h2])
  clear h2 HD
  go_wp2_with fail
  go_ret
  exact⟨aD HP.symm,HL2⟩
 cases h3:fV next
 case' false=>
  have HP:=Hq (show TT=false by rw [ah HD];simp[h3])
  have H3:=Hq (λw1=>aU next false w1 h3)
  clear h3 HD
  go_wp2_with (go_at_call 54;refine(H3 _).mono ?_;rintro e w9 ⟨rfl,rfl⟩)
  go_ret
  exact⟨aD HP.symm,HL2⟩
 have H3:=Hq (λw1=>aU next true w1 h3);go_wp2_with (go_at_call 54;refine(H3 _).mono ?_;rintro e w9 ⟨rfl,rfl⟩)
 refine(HOT _ HL2 h1).mono ?_;rintro e w3 ⟨rfl,hb1⟩;have HB3:=Hq (ay HB2 hb1);have UK:=Hq (HL2.trans (hb1.mono HL2.size));clear hb1 c0 c1 c2 c3 c4 c5 c6 c7 c8;obtain⟨c0,c1,c2,c3,c4,c5,c6,c7,c8⟩:=nine HB3;cases h4:OT
 case' false=>
  have HP:=Hq (show TT=false by rw [ah HD];simp[h4])
  clear h4 HD
  go_wp2_with fail
  go_ret
  exact⟨aD HP.symm,UK⟩
 go_wp2_with fail;refine(HSE _ UK h1).mono ?_;rintro e w4 ⟨rfl,hb1⟩;have lI:=Hq (ay HB3 hb1);have HL4:=Hq (UK.trans (hb1.mono UK.size));clear hb1 c0 c1 c2 c3 c4 c5 c6 c7 c8;obtain⟨c0,c1,c2,c3,c4,c5,c6,c7,c8⟩:=nine lI;cases h5:TD
 case' false=>
  have HP:=Hq (show TT=false by rw [ah HD];simp[h5])
  clear h5 HD
  go_wp2_with fail
  go_ret
  exact⟨aD HP.symm,HL4⟩
 go_wp2_with fail;refine(HRE _ HL4).mono ?_;rintro e w5 ⟨rfl,hb1⟩;have iX:=Hq (ay lI hb1);have HL5:=Hq (HL4.trans (hb1.mono HL4.size));clear hb1 c0 c1 c2 c3 c4 c5 c6 c7 c8;obtain⟨c0,c1,c2,c3,c4,c5,c6,c7,c8⟩:=nine iX;have HP:=Hq (show TT=RQ by rw [ah HD];simp[h1,h2,h3,h4,h5]);clear h1 h2 h3 h4 h5 HD;go_wp2_with fail;go_ret;exact⟨aD HP.symm,HL5⟩):P:=h
theorem agx(h:P:=by
 have HID:Hid ((takeN n o.m).1.id=n.id):=by
  exact aw4
 have Bg:=Hq (λW A G c n' (hW:WK w0 W wb n' A G c v L)=>VW w0 W wb n' A G c v L ⟨2,n'.id,o.m.F,o.m.I,0,ByteArray.empty,0⟩ Aac Aaa hW);rw [ah HR];exact AfB):P:=h
theorem auK.AfB(h:P:=by
 unfold WJ;rw [<-ah HID];open amL in exact awo):P:=h
theorem auL.AfB(h:P:=by
 open amM in exact awo):P:=h
theorem aao(h:P:=by
 have adg:=Hq (show∀b,(v4).ownBlock=some b->b≠rb from λb hb=>(abG b hb).elim (λh=>VZ b h) (λh=>by have:=aA EJ;omega));exact AbS):P:=h
theorem auM.AbS(h:P:=by
 obtain⟨avO,cvO,JR,_⟩:=GR.own_at (enc:=aN) (sz:=4) (l:=n.reqs.take pos++[(⟨no,k,nn,0⟩:Rq)]) bX (by rw [hL1];exact Sd);open arX in exact afM):P:=h
theorem auN.AbS(h:P:=by
 obtain⟨avO,cvO,JR,_⟩:=GR.own_at (enc:=aN) (sz:=4) (l:=n.reqs.take pos++[(⟨no,k,nn,1⟩:Rq)]) bX (by rw [hL1];exact Sd);open arW in exact afM):P:=h
theorem auO.AbS(h:P:=by
 obtain⟨avO,cvO,JR,_⟩:=GR.own_at (enc:=aS) (sz:=1) (l:=(bg s0 mL).take pos++[mI]) aR (by rw [hL1];exact Sd);rw [hL1] at JR;subst JR;clear Xq Tv Fw abG;refine fC 12 rfl Aab Aad Aae (λx5 hx5=>?_);have NH:=Hq (Zk.trans (hx5.mono Zk.size));have Po:vw.heap.size<=x5.heap.size:=NH.size;have Ou:=Hq (GR.own_below Sd hx5);have Oc:=Hq (ay ady hx5);clear hx5;obtain⟨v5,y5,LD,Ig,DW,Xt⟩:=fK aR Aaa x5 vw.heap.size 24 24 3 i0 (.int .i64 0) 8 underlying24 hi0 hz0 hz1' hz2 rfl (.slice avO (pos+1) cvO) (pos+1) (GR.flat aS ((bg s0 mL).take pos++[mI])) Ou AD ((bg s0 mL).drop pos) (OV - pos) (GR.At.below HDR NH) (rF _) Aah Aaa Po;rw [Xn] at LD Ig;refine Lib.wp_append_run x5 (.tmp 135) (.tmp 138) 24 24 rfl _ _ Aaj Aaj v5 y5 LD ?_;refine⟨(Below.refl _ _).grown DW Po (λb hb=>(Ou.lt b hb).1),?_⟩;go_simp;have Wi:=Hq (NH.grown DW Po (λb hb=>(Ou.lt b hb).1));have Wx:Hid (y5.ownsRow vw.heap.size 3 1 v5 (pos+1+((bg s0 mL).length - pos)) (GR.flat aS ((bg s0 mL).take pos++[mI]++(bg s0 mL).drop pos))):=Hq Adq;have akT:=Hq (show y5.heap[rb]?=some (.cells #[.int .i64 mI] 3 (0,0)) from by rw [DW.block _ (aA (ah Oc)) (λhm=>ah adg _ hm.symm rfl)];exact Oc);open auR in exact aap):P:=h
theorem agy(h:P:=by
 have hlit:(w.alloc (.cells #[] e)).ownsRow w.heap.size e sz (.slice (some ⟨w.heap.size,0,none⟩) 0 0) 0 []:=World.ownsRow_lit (base:=w.heap.size) (e:=e) (size:=sz) w #[] 0 (Nat.le_refl _) Aah Aac;exact Afr):P:=h
theorem auP.Afr(h:P:=by
 exact⟨some ⟨w.heap.size,0,none⟩,0,w.alloc (.cells #[] e),λty=>lX (w.alloc (.cells #[] e)) w.heap.size t ty e i sz ht hi _ 0 [] hlit a c,hlit,au w _,λ_=>rfl⟩):P:=h
theorem auQ.Afr(h:P:=by
 by_cases hl0:l.length=0
 .have hn:l=[]:=List.eq_nil_of_length_eq_zero hl0;subst hn;refine⟨some ⟨w.heap.size,0,none⟩,0,w.alloc (.cells #[] e),λty=>lX (w.alloc (.cells #[] e)) w.heap.size t ty e i sz ht hi _ 0 [] hlit a c,hlit,au w _,⟨_,rfl⟩,Nat.le_refl _⟩
 .obtain⟨v',w',hr,ho,hg,_⟩:=fK (P:=P) hs hz (w.alloc (.cells #[] e)) w.heap.size t 0 e i z bytes ht hi hz0 hsize hby hzs _ 0 [] hlit a l c (GR.At.below ha (au w _)) h1 Aaa (by rw [Nat.zero_add];exact hbytes) Aac;rw [Nat.zero_add,List.nil_append] at ho;obtain⟨a',c',rfl,_⟩:=GR.own_at (enc:=enc) (sz:=sz) hs ho;refine⟨a',c',w',λty=>hr,ho,(au w _).grown hg Aac (λk hk=>Abp),?_⟩;rcases ho.2 with⟨_,hn⟩|⟨g,cap,cur,hv,_,_,hnc,_⟩
  .omega
  .simp only[Value.slice.injEq] at hv;exact⟨⟨g,hv.1⟩,by rw [hv.2.2];exact hnc⟩):P:=h
theorem aap(h:P:=by
 have aB9:=Hq (show∀b,(v5).ownBlock=some b->b≠rb from λb hb=>(Xt b hb).elim (λh=>adg b h) (λh=>by have:=aA Oc;omega));exact AcI):P:=h
theorem auR.AcI(h:P:=by
 obtain⟨avT,cvT,CZ,_⟩:=GR.own_at (enc:=aS) (sz:=1) (l:=(bg s0 mL).take pos++[mI]++(bg s0 mL).drop pos) aR (by rw [hL2];exact Wx);rw [hL2] at CZ;subst CZ;clear LD Ig DW Xt;have ajI:vw.heap.size<=y5.heap.size:=Wi.size;refine tk [13] ?_;open aps in exact aiX):P:=h
theorem auS.AcI(h:P:=by
 obtain⟨avT,cvT,CZ,_⟩:=GR.own_at (enc:=aN) (sz:=4) (l:=n.reqs.take pos++[(⟨no,k,nn,1⟩:Rq)]++n.reqs.drop pos) bX (by rw [hL2];exact Wx);rw [hL2] at CZ;subst CZ;clear LD Ig DW Xt;have ajI:wc.heap.size<=y5.heap.size:=Wi.size;refine tk [14] ?_;open apt in exact aiX):P:=h
theorem auT.AcI(h:P:=by
 obtain⟨avT,cvT,CZ,_⟩:=GR.own_at (enc:=aN) (sz:=4) (l:=n.reqs.take pos++[(⟨no,k,nn,0⟩:Rq)]++n.reqs.drop pos) bX (by rw [hL2];exact Wx);rw [hL2] at CZ;subst CZ;clear LD Ig DW Xt;have ajI:wc.heap.size<=y5.heap.size:=Wi.size;refine tk [14] ?_;open apu in exact aiX):P:=h
theorem agz(h:P:=by
 have HAT:=Hq (λW'' (ho:Dr w W' W'')=>((BA.kc (k:=9) (KC.keeps gL (λx hx=>by have:x=w.heap.size+2:=Aag;rw [this];exact oI)) Aaa).kc (k:=9) (ho.kc (λx hx=>Zg x Aaa)) Aaa).rm);exact Ae2):P:=h
theorem auU.Ae2(h:P:=by
 have HMT:=Hq (λW'' (ho:Dr w W' W'')=>Sv (c:=c) (w:=w) HMZ (ho.out0 Zg) hmb);have nO:Hid (aY w W'):=lU.trans (gL.below (λx hx=>by have:x=w.heap.size+2:=Aag;omega) lU.size);obtain⟨x0,x1,x2,x3,x4,x5,x6,x7,x8⟩:=nine JB;clear gL;exact Afn):P:=h
theorem auV.Ae2(h:P:=by
 have nO:Hid (aY w W'):=lU.trans (gL.below (λx hx=>by have:x=w.heap.size+2:=Aag;omega) lU.size);obtain⟨x0,x1,x2,x3,x4,x5,x6,x7,x8⟩:=nine e4;clear hW' e4 gL;exact bodyPost_ret (v:= .tuple #[(fT n A1),.slice (some ⟨W0.heap.size,0,none⟩) 0 0,.int .i64 1]) Abc rfl ⟨A1,some ⟨W0.heap.size,0,none⟩,0,rfl,HAT,λW'' _ i hi=>Aav,nO⟩):P:=h
theorem agA(h:P:=by
 have hrl:=aA qZ;go_wp2_with fail;refine aO (λW' hW'=>?_)
 have e4:W'.heap[w.heap.size+1]?=some (.cells (dD n A) 30 (0,0)):=by
  rw [hW'];exact GR.setW_blk (dD n A).toList (o:=0) (xs:=fU.toList) qZ
 exact AdJ):P:=h
theorem auW.AdJ(h:P:=by
 have gL:aC [w.heap.size+1] W1 W':=by
  rw [hW'];exact aK (dD n A).toList W1 0
 open ao6 in exact awK):P:=h
theorem auX.AdJ(h:P:=by
 have gL:aC [w.heap.size+1] W0 W':=by
  rw [hW'];exact aK (dD n A).toList W0 0
 have HAT:=Hq (λW'' (ho:Out c w W' W'')=>(Jv.kc (k:=9) ((KC.keeps gL (λx hx=>by have:x=w.heap.size+1:=Aag;rw [this];exact aZ Aaa)).trans (KC.out H9 ho)) Aaa).rm);have nO:Hid (Below B w W'):=(HB0.mono hB).trans (gL.below (λx hx=>by have:x=w.heap.size+1:=Aag;omega) (Nat.le_trans hB (HB0.mono hB).size));have tZ:=Hq (Apart.keeps (c:=c) (Apart.of_below (HB0)) (HB0.mono hB).size gL (λx hx=>by have:x=w.heap.size+1:=Aag;omega));obtain⟨x0,x1,x2,x3,x4,x5,x6,x7,x8⟩:=nine e4;clear hW' e4 gL;exact bodyPost_ret (v:= .tuple #[(fT n A),.int .i64 2]) Abw rfl ⟨A,rfl,HAT,nO,tZ⟩):P:=h
theorem aaq(h:P:=by
 clear hW;obtain⟨x0,x1,x2,x3,x4,x5,x6,x7,x8,x9,x10⟩:=En hX;obtain⟨y0,y1,y2,y3,y4,y5,y6,y7,y8,y9,y10⟩:=En hY;clear hX hY;exact AcM):P:=h
theorem auY.AcM(h:P:=by
 exact awY):P:=h
theorem auZ.AcM(h:P:=by
 exact axc):P:=h
theorem au0.AcM(h:P:=by
 by_cases hno:no=0
 case' neg=>
  have hno':¬(0:Int)=no:=λe=>hno e.symm
  go_wp2_with fail
  go_ret
  exact⟨aD (by rw [ah HP];simp[mh,hno]),iA⟩
 subst hno;exact AcS):P:=h
theorem agB(h:P:=by
 clear HR;clear hk hn;go_in
 go_wp2_with (first|(go_at_call_of 131 k;refine(HK _).mono ?_;rintro e w1 ⟨rfl,rfl⟩)|(go_at_call_of 54 n;refine(HN _).mono ?_;rintro e w1 ⟨rfl,rfl⟩))
 exact Afg):P:=h
theorem au1.Afg(h:P:=by
 go_region
 go_upto_region 23 with fail;open atA in exact Vk):P:=h
theorem au2.Afg(h:P:=by
 go_ret;exact⟨aD (by rw [ah HP];simp),by first|exact jR w _ _|exact Below.setNew (jR w _ _) Aaa⟩):P:=h
theorem agC(h:P:=by
 go_in
 go_wp2_with fail;refine HG.mono ?_;rintro e w1 ⟨rfl,hb1⟩;clear hr HG;go_upto_region 7 with fail;refine wp_at (λV hV=>?_);obtain rfl:=hV;have vS:=Hq hb1;clear hb1;exact Aez):P:=h
theorem au3.Aez(h:P:=by
 have hcc:=λd os=>HCC (Sort.grow (redrawn V d) os) (Ge.trans vS (below_regrown V d os))
 refine dz Aab ?_;show iL _ _ _ _ 10 (Array.replicate 10 false) _ _
 refine tk [0,1,2,3,6,7] ?_;iterate 6 (refine vJ (λK hK=>?_);go_simp;refine hK _ ?_;clear hK K)
 refine jc ?_;refine xw 4 rfl Aab Aad (λx hx=>?_);go_simp;refine(HS _).mono ?_;rintro e y ⟨g2,rfl,hg2,hblk,hby⟩;refine⟨hby,?_⟩;have yX:=Hq (Ge.trans (Ge.trans vS hx) hby);have hgy:=bH hblk;obtain⟨c0,c1,c2,c3⟩:=EY hblk;have hcv:=λd os=>HCV (Sort.grow (redrawn y d) os) g2 (cell_regrown c0 d os) (cell_regrown c1 d os) (cell_regrown c2 d os) (cell_regrown c3 d os)
 clear hx hby hblk c0 c1 c2 c3 HCV vS HS hcc HCC hg2;refine tk [5,8,9] ?_;iterate 3 (refine vJ (λK hK=>?_);go_simp;refine hK _ ?_;clear hK K)
 refine jc ?_;refine fE Aab (λx2 hx=>?_);have pQ:=Hq (Ge.trans yX hx);clear hx yX hcv;go_simp;go_wp2_with fail;exact AaK):P:=h
theorem au4.Aez(h:P:=by
 refine dz Aab ?_;show iL _ _ _ _ 10 (Array.replicate 10 false) _ _
 refine tk [0,1,2,3,4,5,6,7,8,9] ?_;iterate 10 (refine vJ (λK hK=>?_);go_simp;refine hK _ ?_;clear hK K)
 refine jc ?_;refine fE Aab (λx hx=>?_);have pQ:=Hq (Ge.trans vS hx);clear hx vS;go_simp;go_wp2_with fail;exact bodyPost_ret (v:= .tuple #[.string ⟨#[]⟩,.int .i64 (-1)]) Acv rfl ⟨rfl,pQ⟩):P:=h
theorem agD(h:P:=by
 obtain⟨rl,rb⟩:=r;dsimp only at HZ ⊢;refine aF 21 rfl Aab Aad ?_;go_simp;refine aF 22 rfl Aab Aad ?_;go_simp;refine wpAny_done Aab ?_;go_simp;exact Afc):P:=h
theorem au5.Afc(h:P:=by
 cases rb
 .go_wp2_with fail;go_ret;exact⟨rfl,⟨A',G',c',HZ.wk,HZ.bk,HZ.si.mono (Nat.le_succ k),HZ.cs,HZ.cm⟩,λj o h1 _ h3=>HKO j o h1 h3⟩
 .obtain⟨⟨p0,p1,p2,p3,p4,p5,p6⟩,_⟩:=dQ Bf;obtain⟨⟨d0,d1⟩,_⟩:=nM HZ.bk;have hsl2:=aA HZ.bk;have ajH:=aA Bf;have hI1:gB z2.drew mb k l:=HZ.si.kept rfl;obtain⟨z3,hrun,hI3,hK3⟩:=hI1.store mI hi0 hi1 Aah;have HR:=Hq (HZ.put hI3 (Keeps.trans (b:=z2.drew) (Keeps.of_below (Below.refl _ _).drew) hK3))
  have HK4:Hid (∀j o,j≠wb->j≠mb->w.heap[j]?=some o->z3.heap[j]?=some o):=λj o h1 h2 h3=>by
   have h4:=ah HKO j o h1 h3
   rw [hK3.block j (aA h4) h2]
   exact h4
  clear hI1 hI3 hK3 Bf;go_wp2_with fail;go_region
  all_goals
   go_wp2_with fail
   go_ret
   exact⟨rfl,⟨A',G',c',HR⟩,HK4⟩):P:=h
theorem au6.Afc(h:P:=by
 cases rb
 all_goals
  go_wp2_with fail
  go_ret
  exact⟨rfl,A',G',c',HZ⟩):P:=h
theorem agE(h:P:=by
 have cO:∀d os,Calls prog 129 #[Al ⟨pk,pm,pf,ps⟩] (Sort.grow (redrawn V d) os) λe w''=>e= .returned (.bool false)/\∃p:Regrown,w''=Sort.grow (redrawn V p.d) p.os:=λd os=>Calls.regrown_of (HO _)
 exact Ac2):P:=h
theorem au7.Ac2(h:P:=by
 open auj in exact OD):P:=h
theorem au8.Ac2(h:P:=by
 exact axk):P:=h
theorem agF(h:P:=by
 have cO:∀d os,Calls prog 129 #[Al ⟨pk,pm,pf,ps⟩] (Sort.grow (redrawn V d) os) λe w''=>e= .returned (.bool true)/\∃p:Regrown,w''=Sort.grow (redrawn V p.d) p.os:=λd os=>Calls.regrown_of (HO _)
 exact Aeq):P:=h
theorem au9.Aeq(h:P:=by
 exact Ac4):P:=h
theorem ava.Aeq(h:P:=by
 open auk in exact OD):P:=h
theorem agG(h:P:=by
 have hlit:(w.alloc (.cells #[] 143)).ownsRow w.heap.size 143 4 (.slice (some ⟨w.heap.size,0,none⟩) 0 0) 0 []:=World.ownsRow_lit (base:=w.heap.size) (e:=143) (size:=4) w #[] 0 (Nat.le_refl _) Aae rfl;exact AdV):P:=h
theorem avb.AdV(h:P:=by
 cases a with
 |none=>
  have hl0:l=[]:=GR.none_nil ha
  subst hl0
  clear ha hlit
  go_in
  go_wp2_with fail
  go_ret
  exact⟨_,rfl,World.ownsRow_nil _ _ _ _,Below.refl _ _⟩
 |some x=>
  have HN:=Hq (aI.news (GR.At.below ha (dU w (.cells #[] 143))))
  clear ha
  go_in
  go_wp2_with (at_builtin;refine wpList_append_own _ rfl _ _ 25 rfl w.heap.size 143 i0 (.agg (iM ByteArray.empty 0 0 0)) 4 40 underlying25 hi hz0 hz1 hz2 rfl Aae _ 0 [] rfl hlit x l.length cap (GR.flat fH l) rfl ?c0 ?c1 ?c2 ?c3 ?c4 ?c5 ?_)
  case c0=>exact GR.flat_length fH 4 aX l
  case c1=>exact HN
  case c2=>exact zF l
  case c3=>unfold maxLen;omega
  case c4=>omega
  case c5=>simp
  intro v' w1 hown' hgrow _
  have HO:=Hq (show w1.ownsRow w.heap.size 143 4 v' l.length (GR.flat fH l) by simpa using hown')
  have hb:aY w w1:=(dU w _).grown hgrow Aac (λk hk=>Abp)
  clear hown' hgrow hlit
  go_wp2
  go_ret
  exact⟨_,rfl,HO,hb⟩):P:=h
theorem avc.AdV(h:P:=by
 cases a with
 |none=>
  obtain⟨h1,h2⟩:=hn rfl
  have hl0:l=[]:=List.eq_nil_of_length_eq_zero h1
  subst hl0 h2
  go_in
  go_wp2_with (at_builtin;refine wpList_append_own_none rfl _ _ 25 rfl w.heap.size 143 i0 4 underlying25 hi _ 0 [] rfl hlit rfl ?_)
  go_ret
  exact⟨_,rfl,(by intro h;cases h),hlit,dU w _⟩
 |some x=>
  have HN:=Hq (aI.news (GR.At.below ha (dU w (.cells #[] 143))))
  clear ha
  go_in
  go_wp2_with (at_builtin;refine wpList_append_own _ rfl _ _ 25 rfl w.heap.size 143 i0 (.agg (iM ByteArray.empty 0 0 0)) 4 40 underlying25 hi hz0 hz1 hz2 rfl Aae _ 0 [] rfl hlit x l.length cap (GR.flat fH l) rfl ?c0 ?c1 ?c2 ?c3 ?c4 ?c5 ?_)
  case c0=>exact GR.flat_length fH 4 aX l
  case c1=>exact HN
  case c2=>exact zF l
  case c3=>unfold maxLen;omega
  case c4=>omega
  case c5=>simp
  intro v' w1 hown' hgrow hnil
  have Rp:=Hq (show v'≠ .slice none 0 0 from hnil)
  have HO:=Hq (show w1.ownsRow w.heap.size 143 4 v' l.length (GR.flat fH l) by simpa using hown')
  have hb:aY w w1:=(dU w _).grown hgrow Aac (λk hk=>Abp)
  clear hown' hgrow hlit hnil
  go_wp2
  go_ret
  exact⟨_,rfl,Rp,HO,hb⟩):P:=h
theorem agH(h:P:=by
 rw [hlt1] at abC;subst abC;clear Xp Xo Xm ayq;refine fC 7 rfl Aab Aad Aae (λx3 hx3=>?_);go_simp;have zf:=Hq (KN.trans (hx3.mono KN.size));exact Ac1):P:=h
theorem avd.Ac1(h:P:=by
 have Cg:wc.heap.size<=x3.heap.size:=zf.size;have BI:=Hq (GR.own_below Hr hx3);clear hx3;refine⟨(au x3 _).mono Cg,?_⟩;exact Ae8):P:=h
theorem ave.Ac1(h:P:=by
 have Cg:vw.heap.size<=x3.heap.size:=zf.size;have BI:=Hq (GR.own_below Hr hx3);clear hx3;refine⟨(au x3 _).mono Cg,?_⟩;have abp:=au x3 (.cells #[.int .i64 mI] 3);have Hf:=Hq (heap_alloc_new x3 (.cells #[.int .i64 mI] 3));open ap0 in exact ZY):P:=h
theorem agI(h:P:=by
 have e2:b=g1:=by injection e1 with e1;injection e1 with e1 e2
 have e3:off=o1:=by injection e1 with e1;injection e1 with e1 e2
 subst e2 e3;exact Ae5):P:=h
theorem avf.Ae5(h:P:=by
 have HT:=Hq (List.take_succ_eq_append_getElem hlt);have Ob:=Hq (λh2=>(place_at l pk k Aaa mU h2).1);clear s1 s2 s3 e1;cases hbl:Op.bytesLess l[k].k.toList pk.toList with
 |true=>
  clear Ob
  generalize l[k]=pu at *
  obtain⟨qk,qm,qf,qs⟩:=pu
  dsimp only at s0 hbl
  go_wp2_with fail
  go_quiet (fail)
  go_wp2
  go_roundw
  case rel=>
   refine⟨k+1,_,Aaa,Aai,?_,rfl⟩;intro x hx;rw [ah HT] at hx;rcases List.mem_append.1 hx with hx|hx
   .exact mU x hx
   .rw [List.mem_singleton] at hx;subst hx;exact hbl
  case measure=>simp[intOf];omega
 |false=>
  have xL:=Hq (Ob (λ_=>hbl))
  clear Ob HT
  generalize l[k]=pu at *
  obtain⟨qk,qm,qf,qs⟩:=pu
  dsimp only at s0 hbl
  go_wp2_with fail
  go_quiet (fail)
  go_wp2_with fail
  go_meet
  case rel=>exact⟨by rw [ah xL],_,sH w1 _ _⟩):P:=h
theorem avg.Ae5(h:P:=by
 have hae:=hAe hlt;subst hae;have HF:=Hq hf;have hpos:decide (0 < l.length - place l pk)=true:=decide_eq_true Aaa;have aBH:0 < l.length - place l pk:=Aaa
 clear s1 s2 s3 e1 hf hAe hAd;generalize l[place l pk]=pu at *;obtain⟨qk,qm,qf,qs⟩:=pu;dsimp only at s0 HF;cases heq:qk.toList == pk.toList
 all_goals
  go_quiet (fail)
  go_wp2_with fail
  go_meet
  case rel=>exact⟨by rw [ah HF,heq],_,sH w1 _ _⟩):P:=h
theorem agJ(h:P:=by
 go_upto_region 1 with fail;refine wp_at (λW0 hW=>?_);obtain⟨e1,e3,e4⟩:=iO w (.cells (dD n A) 30) (.cells fU 30);rw [<-hW] at e1 e3 e4;have HN:=Hq e1;have HR:=Hq e3;have HB:=Hq e4;exact AdN):P:=h
theorem avh.AdN(h:P:=by
 clear hW e1 e3 e4;go_wp2_with fail;refine(Ru W0 (HH.below HB)).mono ?_;rintro e W1 ⟨v,rfl,hown,hb1⟩;obtain⟨a1,cp1,hv,hat⟩:=GR.own_at (enc:=nV) (sz:=11) jh hown;subst hv;have NA:=Hq (HRP a1 cp1 W1 (HB.trans (hb1.mono HB.size)) hat);have HB1:=Hq (HB.trans (hb1.mono HB.size));have yZ:=Hq (ay HN hb1);have HR1:=Hq (ay HR hb1);clear hown hat hb1 Ru HRP HH HN HR HB;generalize (dW s).1.length=len at *;generalize (dW s).2=fin at *;obtain⟨c0,c1,c2,c3,c4,c5,c6,c7,c8⟩:=nine yZ;go_wp2_with fail;refine NA.mono ?_;rintro e W2 ⟨A1,G1,cc1,rfl,Hz,hb2⟩;have hres:=ay HR1 hb2;have kS:=Hq Hz;have HB2:=Hq (HB1.trans (hb2.mono HB1.size));have hrl:=aA HR1;have qZ:=Hq hres;open arP in exact afK):P:=h
theorem avi.AdN(h:P:=by
 have HO0:=Hq (GR.At.below HO e4);have HE0:=Hq (HE.below e4);clear hW e1 e3 e4 HO HE;have hl0:=aA HR;obtain⟨c0,c1,c2,c3,c4,c5,c6,c7,c8⟩:=nine HN;go_wp2_with fail;refine(Du W0 HB).mono ?_;rintro e y ⟨A1,G1,cc1,rfl,Hz,hby⟩;have kS:=Hq Hz;have yX:=Hq hby;clear Hz hby c0 c1 c2 c3 c4 c5 c6 c7 c8 Du;go_upto_region 2 with fail;refine wp_at (λW hW=>?_);have e5:W.heap[y.heap.size]?=some (.cells (RI n A1 (.slice none 0 0)) 74 (0,0)):=Aby
 have e6:aY y W:=by rw [hW];exact au _ _
 have HK:=Hq (WK.start yX kS (Nat.le_refl y.heap.size) e6 e5);have GZ:=Hq (ay HN HK.keep);have hys:W0.heap.size<=y.heap.size:=yX.size;clear hW e5 e6 kS HN yX;generalize newC y.heap.size 8 cc1=GX at *;generalize y.heap.size=wb at *;obtain⟨c0,c1,c2,c3,c4,c5,c6,c7,c8⟩:=nine GZ;have hnl:=aA GZ;go_wp2_with fail;refine(lD W (HB.trans (HK.keep.mono HB.size))).mono ?_;rintro e W2 ⟨rfl,hb2⟩;have qY:=Hq (HK.step hb2);clear hb2 c0 c1 c2 c3 c4 c5 c6 c7 c8 lD GZ hnl HK;cases hok:dY n with
 |false=>
  have hpb:=ah KQ hok
  clear RY Zw KQ HPE
  obtain⟨c0,c1,c2,c3,c4,c5,c6,c7,c8,c9⟩:=jr qY.blk
  have hres:=ay HR qY.keep
  have qZ:=Hq hres
  have hrl:=aA hres
  have hwl:=aA qY.blk
  obtain⟨d0,d1,d2,d3,d4,d5,d6,d7,d8⟩:=nine hres
  have f0:=aj hres 0
  have f1:=aj hres 1
  have f2:=aj hres 2
  have f3:=aj hres 3
  have f4:=aj hres 4
  have f5:=aj hres 5
  have f6:=aj hres 6
  have f7:=aj hres 7
  have f8:=aj hres 8
  clear hres
  go_wp2_with fail
  refine aO (λW' hW'=>?_)
  have e9:W'.heap[w.heap.size+1]?=some (.cells (dD n A1) 30 (0,0)):=by rw [hW'];exact oL qZ
  obtain⟨r0,r1,r2,r3,r4,r5,r6,r7,r8⟩:=nine e9
  have jZ:NO W' w.heap.size n A1 G1 GX:=by rw [hW'];exact(qY.no.keepsN Aaa kD).base HB.size
  have hBB:aY w W':=by rw [hW'];exact nU (HB.trans (qY.keep.mono HB.size)) Aaa
  exact bodyPost_ret (v:=fT n A1) Aea rfl ⟨A1,G1,GX,by rw [hpb],by rw [hpb];exact jZ,hBB⟩
 |true=>
  have HD:=Hq (RY hok)
  have HP:=Hq (Zw hok)
  have hK0:∃A G c,WK W0 W2 wb (fJ n (L.take 0)) A G c (.slice none 0 0) []:=⟨A1,G1,GX,qY⟩
  have HK0:=Hq hK0
  clear RY Zw KQ hok qY hK0
  go_wp2_with fail
  go_loopw [18] (λi wr=>∃k:Nat,k<=L.length/\i= .int .i64 k/\∃A G c,WK W0 wr wb (fJ n (L.take k)) A G c (.slice none 0 0) []) (λi _=>L.length - (intOf i).toNat)
  case atStart=>exact⟨0,Nat.zero_le _,rfl,HK0⟩
  case round=>
   clear HK0;obtain⟨k,hkl,rfl,A2,G2,cc3,hK⟩:=hrel;have HK:=Hq hK;clear hK;by_cases hlt:k < L.length
   .obtain⟨g1,o1,rfl,hg1,s0,s1,s2,s3,s4,s5,s6,s7,s8,s9,s10⟩:=CR.eleven (GR.At.below HO0 HK.keep) k hlt;have HDk:=Hq (HD k hlt);have HPk:=Hq (HP k hlt);generalize nQ (fJ n (L.take k)) L[k]=RR at *;generalize fJ n (L.take k)=m at *;generalize L[k]=oo at *;obtain⟨K,no,kk,nn,⟨mK,mF,mT,mI,mL,mk,mN⟩⟩:=oo;dsimp only at s0 s1 s2 s3 s4 s5 s6 s7 s8 s9 s10;go_upto_region 7 with fail;refine wp_at (λV hV=>?_);have hbv:aY wr V:=by rw [hV];exact au _ _
    have HV:=Hq (show V.heap[wr.heap.size]?=some (.cells (cu K no kk nn mK mF mT mI mL mk mN) 34 (0,0)) by rw [hV];exact heap_alloc_new _ _);have qY:=Hq (HK.step hbv);have NA:=Hq (HDk V W0 wb A2 G2 cc3 _ qY HE0);clear hV hbv HK HDk s0 s1 s2 s3 s4 s5 s6 s7 s8 s9 s10;obtain⟨⟨p0,p1,p2,p3,p4,p5,p6,p7,p8,p9,oD⟩,_⟩:=aQ HV;go_wp2_with fail;refine NA.mono ?_;rintro e W3 ⟨rfl,A3,G3,cc4,v3,hK3⟩;have HK3:=Hq hK3;obtain⟨q0,q1,q2,q3,q4,q5,q6,q7,q8,q9⟩:=jr hK3.blk;have f9:=aj hK3.blk 9;clear hK3 NA qY HV p0 p1 p2 p3 p4 p5 p6 p7 p8 p9 oD q0 q1 q2 q3 q4 q5 q6 q7 q8;go_wp2_with fail;go_roundw
    case rel=>exact⟨k+1,Aaa,Aai,A3,G3,cc4,by have h:=HK3.mute;rw [ah HPk] at h;exact h⟩
    case measure=>simp[intOf];omega
   .open as7 in exact aad):P:=h
theorem agK(h:P:=by
 rw [Mth.take_all s k hlt] at HA;have HF:Hid (Mth.keyOk s.data.toList=decide (1<=s.data.toList.length/\s.data.toList.length<=10)):=Mth.keyOk_all _ HA;rw [aH s] at HF;exact AcW):P:=h
theorem avj.AcW(h:P:=by
 by_cases hin:(1:Int)<=(s.size:Int)/\(s.size:Int)<=10
 .obtain⟨hi1,hi2⟩:=hin;exact axC
 .exact axC):P:=h
theorem avk.AcW(h:P:=by
 go_wp2
 go_ret;exact⟨aD (by rw [ah HF];simp;omega),rfl⟩):P:=h
theorem agL(h:P:=by
 generalize l[k]=pu at *;have lD:=Hq (λw1=>FI pu w1 hkk);clear hkk;obtain⟨pk,pm,pf,ps⟩:=pu;exact AcZ):P:=h
theorem avl.AcZ(h:P:=by
 dsimp only at c0 c1 c2 c3 hf;go_wp2_with fail;refine(lD _).mono ?_;rintro e w1 ⟨rfl,hb1⟩;have hb2:=gI.trans ((Below.mono (Fo.one_block hb1).2.2 gI.size));have hB:w1.heap[w.heap.size]?=some (.cells (iM ⟨#[]⟩ 0 0 0) 143 (0,0)):=by rw [(Fo.one_block hb1).2.2.block _ aef];exact GL
 have HB:=Hq hB;have HB2:=Hq hb2;obtain⟨⟨r0,r1,r2,r3⟩,s0,s1,s2,s3⟩:=gG hB;clear hB hb1 hb2;go_wp2_with fail;clear r0 r1 r2 r3;refine Fo.bodyPost_at (λW' hW'=>?_);obtain⟨⟨r0,r1,r2,r3⟩,_⟩:=gG (show W'.heap[w.heap.size]?=some (.cells (iM pk pm pf ps) 143 (0,0)) by rw [hW'];exact Fo.four_set HB);have hbb:aY w W':=by rw [hW'];exact Fo.four_below HB2 (Nat.le_refl _)
 refine bodyPost_ret (v:= .agg (iM pk pm pf ps)) (by simp[results,results136,go_sem,r0,r1,r2,r3]) rfl ⟨by rw [ah HX],hbb⟩):P:=h
theorem avm.AcZ(h:P:=by
 dsimp only at q0 q1 q2 q3;go_wp2_with fail;refine(lD _).mono ?_;rintro e w5 ⟨rfl,hb5⟩;obtain⟨_,_,hb6⟩:=Fo.one_block hb5;have iX:=Hq (BJ.below HB hb6);have mH:=Hq (gI.trans (hb6.mono gI.size));clear hb5 hb6 q0 q1 q2 q3;obtain⟨_,aCt,⟨s0,s1,s2,s3⟩,f0,f1,f2,f3⟩:=BJ.four iX k hlt;go_wp2_with fail;go_roundw
 case rel=>
  have h:=BJ.set iX k ⟨pk,pm,pf,ps⟩ hlt;rw [ah HSE] at h;exact⟨k+1,Aaa,Aai,h,GR.setW_below (o:=k*4) hg (fH ⟨pk,pm,pf,ps⟩) mH⟩
 case measure=>simp[intOf];omega):P:=h
theorem agM(h:P:=by
 have HK:=Hq ((dS.of_below (au w _)).trans hk1);have HR1:=Hq hr1;have HH1:=Hq (Ph HH HK hg hge);clear hr1 hk1;go_wp2_with fail;refine(HGM _ HH1).mono ?_;rintro e w2 ⟨rfl,hb2⟩;exact AeJ):P:=h
theorem avn.AeJ(h:P:=by
 have HR2:=Hq (aJ HR hb2);have HA2:=Hq (aJ HR1 hb2);have qY:=Hq (HK.trans (dS.of_below hb2));have hz2:=bH HR2;have hz3:=bH HA2;clear hb2 HR HK HR1 HH1;go_upto_region 7 with fail;refine wp_at (λV hV=>?_);have YQ:Hid (V.heap[w2.heap.size]?=some (.cells (cK mK mF mT mI mL mk mN) 32 (0,0))):=by rw [hV];exact heap_alloc_new w2 _
 have HRV:Hid (V.heap[w.heap.size]?=some (.cells (cK 0 0 0 0 0 ⟨#[]⟩ 0) 32 (0,0))):=by rw [hV];exact aJ HR2 (au w2 _)
 have HAV:Hid (jW V g s E):=by rw [hV];exact aJ HA2 (au w2 _)
 have HKV:Hid (dS g w V):=by rw [hV];exact qY.trans (dS.of_below (au w2 _))
 clear hV HR2 HA2 qY;have Bl:=bH YQ;obtain⟨q0,q1,q2,q3,q4,q5,q6⟩:=uj YQ;obtain⟨⟨d0,d1,d2,d3,d4,d5,d6⟩,f0,f1,f2,f3,f4,f5,f6⟩:=dQ HRV;go_wp2_with fail;refine iJ (λW' hW'=>?_);obtain⟨⟨r0,r1,r2,r3,r4,r5,r6⟩,_⟩:=dQ (show W'.heap[w.heap.size]?=some (.cells (cK mK mF mT mI mL mk mN) 32 (0,0)) by rw [hW'];exact ou HRV);have hKK:dS g w W':=by rw [hW'];exact Df HKV
 have hRR:jW W' g s E:=by rw [hW'];exact Av (Ne.symm hg2) HAV
 exact bodyPost_ret (v:= .agg (cK mK mF mT mI mL mk mN)) Aeb rfl ⟨rfl,hRR,hKK⟩):P:=h
theorem avo.AeJ(h:P:=by
 have HR2:=Hq (aJ (aJ HR1 hb2) (au w2 (.cells (cK 0 0 0 0 0 ⟨#[]⟩ 0) 32)));have qY:=Hq (HK.trans (dS.of_below ((hb2.trans ((au w2 (.cells (cK 0 0 0 0 0 ⟨#[]⟩ 0) 32)).mono hb2.size)))));clear hb2;go_wp2_with fail;refine(HF _ HR2).mono ?_;rintro e w3 ⟨rfl,rfl⟩;go_wp2_with fail;exact⟨rfl,⟨_,rfl⟩,qY⟩):P:=h
theorem agN(h:P:=by
 rintro e W1 ⟨rfl,hb1⟩;have lC:=Hq (ay HN hb1);have qZ:=Hq (ay HR hb1);have HB1:=Hq (HB0.trans (hb1.mono HB0.size));have yZ:=Hq (Jv.kc (k:=9) (KC.of_below hb1) Aaa);exact AfH):P:=h
theorem avp.AfH(h:P:=by
 clear hb1 c0 c1 c2 c3 c4 c5 c6 c7 c8 hnl Oe HN HR Jv HB0;exact Ab7):P:=h
theorem avq.AfH(h:P:=by
 clear hb1 c0 c1 c2 c3 c4 c5 c6 c7 c8 hnl Ej HN HR Jv HB0;exact AeG):P:=h
theorem agO(h:P:=by
 have hl:=World.lt_of_cell h;have HG:=Hq (show Handle (w.alloc (.cells #[.int .i64 0] 281)) from h.below ((Below.refl _ _).alloc (Nat.le_refl _) _));clear h;go_in
 exact Aeu):P:=h
theorem avr.Aeu(h:P:=by
 go_wp2_with (go_at_call 243;refine(O7 _ w.heap.size (.int .i64 0) _ ⟨_,rfl⟩ (λtg t a old w h1 h2 h3=>aje p tg t a old w h1 h2 h3) HG ?_ ?_).mono ?_;(simp);(simp);rintro e w' ⟨rfl,hbel⟩)
 go_ret;exact⟨rfl,((Below.refl _ _).alloc (Nat.le_refl _) _).trans hbel⟩):P:=h
theorem avs.Aeu(h:P:=by
 go_wp2_with (go_at_call 243;refine(O7 _ w.heap.size (.int .i64 0) _ ⟨_,rfl⟩ (λtg t a old w h1 h2 h3=>ajd p tg t a old w h1 h2 h3) HG ?_ ?_).mono ?_;(simp);(simp);rintro e w' ⟨rfl,hbel⟩)
 go_ret;exact⟨rfl,((Below.refl _ _).alloc (Nat.le_refl _) _).trans hbel⟩):P:=h
theorem aar(h:P:=by
 generalize l[k]=pu at *;obtain⟨pk,pm,pf,ps⟩:=pu;dsimp only at c0 c1 c2 c3 hf;go_wp2_with fail;exact AcK):P:=h
theorem avt.AcK(h:P:=by
 refine bodyPost_ret (v:= .agg (iM pk pm pf ps)) (by simp[results,results120,go_sem]) rfl ⟨by rw [ah HX],?_⟩;exact(Below.refl _ _).alloc (Nat.le_refl _) _):P:=h
theorem avu.AcK(h:P:=by
 go_roundw
 case rel=>exact⟨k+1,Aaa,Aai,HX,by first|rfl|trivial⟩
 case measure=>simp[intOf];omega):P:=h
theorem avv.AcK(h:P:=by
 go_roundw
 case rel=>exact⟨k+1,Aaa,Aai,HX,by first|exact gI.alloc gI.size _|exact gI,by first|(rw [Below.heap_alloc _ _ _ aef];exact GL)|exact GL⟩
 case measure=>simp[intOf];omega):P:=h
theorem OE(h:P:=by
 have q0:(mT != n.id)=false:=Abf
 have q0':(mT == n.id)=true:=Abf
 clear h1;exact Aa7):P:=h
theorem avw.Aa7(h:P:=by
 subst h3;have q4:(mF == n.par)=false:=by simpa using h4
 clear h4;open avL in exact agS):P:=h
theorem avx.Aa7(h:P:=by
 subst h3;have q4:(mF == n.par)=true:=by simp[h4]
 clear h4;unfold fZ;have H9:=Hq h9;clear h9;have Zp:=Hq (λW=>kX ⟨0,mF,mT,mI,mL,mk,mN⟩ W Aal);open am1 in exact aaw):P:=h
theorem avy.Aa7(h:P:=by
 unfold fZ;have H9:=Hq h9;clear h9;have Zp:=Hq (λW=>kX ⟨mK,mF,mT,mI,mL,mk,mN⟩ W Aal);open am2 in exact aaw):P:=h
theorem avz.Aa7(h:P:=by
 subst h3;obtain⟨FL,hFL⟩:∃FL:Nat->List lJ,∀k,FL k=(n.out.take k).filter (λs=> !jk ⟨2,mF,mT,mI,mL,mk,mN⟩ s):=⟨_,λ_=>rfl⟩;have HFE:Hid (n.out.filter (λs=> !jk ⟨2,mF,mT,mI,mL,mk,mN⟩ s)=FL n.out.length):=by unfold Hid;rw [hFL,List.take_length]
 rw [ah HFE];have HF0:Hid (FL 0=[]):=by unfold Hid;rw [hFL];rfl
 have HFS:Hid (∀k (hk:k < n.out.length),FL (k+1)=if n.out[k].i=mI/\n.out[k].t=mF then FL k else FL k++[n.out[k]]):=λk hk=>by
  rw [hFL,hFL,List.take_succ_eq_append_getElem hk,List.filter_append]
  by_cases e:n.out[k].i=mI/\n.out[k].t=mF
  .rw [if_pos e];have e2:(!jk ⟨2,mF,mT,mI,mL,mk,mN⟩ n.out[k])=false:=by unfold jk;rw [decide_eq_true e];rfl
   rw [List.filter_cons,e2];simp
  .rw [if_neg e];have e2:(!jk ⟨2,mF,mT,mI,mL,mk,mN⟩ n.out[k])=true:=by unfold jk;rw [decide_eq_false e];rfl
   rw [List.filter_cons,e2];simp
 have HFN:Hid (∀k,(FL k).length<=n.out.length):=λk=>by
  rw [hFL]
  exact Nat.le_trans (List.length_filter_le _ _) Abk
 clear hFL HFE;obtain⟨i0,hi,hz0,hz1,hz2⟩:=info_parts Es;have HI:=Hq (And.intro hi (And.intro hz0 (And.intro hz1 hz2)));clear hi hz0 hz1 hz2;unfold fZ;have H9:=Hq h9;clear h9;have Zp:=Hq (λW=>kX ⟨2,mF,mT,mI,mL,mk,mN⟩ W Aal);open am3 in exact aaw):P:=h
theorem avA.Aa7(h:P:=by
 subst h3;open avK in exact agS):P:=h
theorem aas(h:P:=by
 refine aF 4 rfl Aab Aad ?_;go_simp;refine wpAny_done Aab ?_;go_simp;go_wp2_with fail;exact AcA):P:=h
theorem avB.AcA(h:P:=by
 exact AbI):P:=h
theorem avC.AcA(h:P:=by
 exact AaW):P:=h
theorem avD.AcA(h:P:=by
 obtain⟨y0,y1,y2,y3,y4,y5,y6,y7,y8⟩:=nine BF;have hall:aC [w.heap.size,w.heap.size+1] w2 W4:=((aC.of_below yX).trans ((XE HK3).mono Aac)).trans (HK5.mono Aac);have hbl:aY w W4:=HB2.trans (hall.below (λx hx=>Aak) Aaa);exact bodyPost_ret (v:= .tuple #[.agg (gH id par ak kids.length ck next ap pu.length cp ao out.length co as' seen.length cs old ar reqs.length cr),.string t]) (by simp[results,results22,go_sem,y0,y1,y2,y3,y4,y5,y6,y7,y8]) rfl ⟨⟨id,par,kids,next,pu,out,seen,old,reqs⟩,⟨ak,ap,ao,as',ar,ck,cp,co,cs,cr⟩,t,rfl,HZ,HAT W4 ⟨_,hall,λx hx=>Aak⟩,ht,hbl⟩):P:=h
theorem agP(h:P:=by
 have hVO:= @run_callFunc_extern prog 255 _ (λargs=>ReflectliteValue.unpack (args.getD 0 (.tuple #[]))) func255 Aab Aab Aab Aab;exact Ad8):P:=h
theorem avE.Ad8(h:P:=by
 have hTY:= @run_callFunc_extern prog 256 _ (ReflectliteValue.methodAny (ReflectliteValue.valueError "reflectlite.Value.Type" 0) (λt _ _ _=>ReflectliteType.toType t)) func256 Aab Aab Aab Aab;have hIN:= @run_callFunc_extern prog 257 _ (ReflectliteValue.method (ReflectliteValue.valueError "reflectlite.Value.IsNil" 0) ReflectliteValue.isNil) func257 Aab Aab Aab Aab;have hKI:= @run_callFunc_extern prog 293 _ (ReflectliteType.abiMethod λt=>do pure (.int .u8 (<-Rtype.kind t))) func293 Aab Aab Aab Aab;have hEL:= @run_callFunc_extern prog 310 _ (ReflectliteType.method ReflectliteType.elem) func310 Aab Aab Aab Aab;have hIM:= @run_callFunc_extern prog 311 _ (ReflectliteType.relation "Implements" ReflectliteType.implements_) func311 Aab Aab Aab Aab;have f1:=As.valueOfPtr;have f2:=As.typePtr;have f3:=As.methodKind;have f4:=As.kindPtr;have f5:=As.methodElem;have f6:=As.elemType;have f7:=As.kindStruct;have f8:=As.methodImplements;have f9:=As.implements;have hgl:=World.lt_of_cell hg;have htl:=World.lt_of_cell ht;simp only at hgl htl;have n8:=As.isNil ⟨w.heap.size,0,none⟩ ⟨tb,0,none⟩ ((w.alloc (.cells #[.pointer (some ⟨tb,0,none⟩)] 283)).alloc (.cells #[.pointer (some ⟨6,283,none⟩),.pointer (some ⟨w.heap.size,0,none⟩),.int .u64 150] 295)) Aac
 have hg2:((w.alloc (.cells #[.pointer (some ⟨tb,0,none⟩)] 283)).alloc (.cells #[.pointer (some ⟨6,283,none⟩),.pointer (some ⟨w.heap.size,0,none⟩),.int .u64 150] 295)).cell? ⟨5,0,none⟩=some (.iface 317 (.agg #[.pointer (some ⟨6,248,none⟩)])):=by
  rw [World.cell?_alloc_lt _ _ ⟨5,0,none⟩ (by simp<;>omega),World.cell?_alloc_lt _ _ ⟨5,0,none⟩ hgl];exact hg
 go_in
 go_wp2_with (go_at_call 258;refine(HAS _ ⟨tb,0,none⟩ ⟨w.heap.size,0,none⟩ old _ ?_ ?_ ?_).mono ?_;(simp);(rw [World.cell?_alloc_lt _ _ ⟨tb,0,none⟩ Aaf,World.cell?_alloc_lt _ _ ⟨tb,0,none⟩ htl];exact ht);(rw [World.frozen?_alloc_old _ _ ⟨tb,0,none⟩ Aaf,World.frozen?_alloc_old _ _ ⟨tb,0,none⟩ (Nat.ne_of_lt htl)];exact hf);rintro e w' ⟨rfl,hbel⟩)
 go_ret;exact⟨rfl,(((Below.refl _ _).alloc Aaa _).alloc Aaf _).trans hbel⟩):P:=h
theorem avF.Ad8(h:P:=by
 have hEL:= @run_callFunc_extern prog 267 _ (ReflectliteValue.method (ReflectliteValue.valueError "reflectlite.Value.Elem" 0) ReflectliteValue.elem) func267 Aab Aab Aab Aab;have hST:= @run_callFunc_extern prog 268 _ ReflectliteValue.set func268 Aab Aab Aab Aab;have f1:=As.typeOfNo;have f2:=As.typeOfUnread;have f3:=As.methodAssignableTo;have f4:=As.assignNo;have f5:=As.assignUnread;have f6:=As.noAs;have f7:=As.hasUnwrap;have f8:=As.methodUnwrap;have f9:=As.valueOfNo;have hal:a.block < w.heap.size:=World.lt_of_cell ha;have htl:t.block < w.heap.size:=World.lt_of_cell ht;exact AdD):P:=h
theorem agQ(h:P:=by
 have kc:=(nine HNz).2.2.2.2.2.2.2.2;have kf:=aj HNz 8;refine aF 15 rfl Aab Aad ?_;go_simp;refine wpAny_done Aab ?_;go_simp;go_wp2_with fail;exact AdA):P:=h
theorem avG.AdA(h:P:=by
 go_meet
 case rel=>
  refine⟨rfl,avT,cvT,?_,?_,?_,?_,?_,?_,?_,?_⟩
  .rcases HVz.2 with⟨_,hn⟩|⟨g,cap,cur,hv,_⟩
   .omega
   .simp only[Value.slice.injEq] at hv;exact⟨g,hv.1⟩
  .rcases HVz.2 with⟨_,hn⟩|⟨g,cap,cur,hv,_,_,hnc,_⟩
   .omega
   .simp only[Value.slice.injEq] at hv;omega
  .have h:=aT HNz 8 (.slice avT (pos+1+(n.reqs.length - pos)) cvT);rw [show pos+1+(n.reqs.length - pos)=n.reqs.length+1 by omega] at h ⊢;exact h
  .exact gY _ Aaa HRz
  .exact gY _ Aaa Rt
  .have h:=LO.own (en:=aN) (cp:=cvT) (l:=n.reqs.take pos++[(⟨no,k,nn,0⟩:Rq)]++n.reqs.drop pos) (by rw [hL2];exact HVz);rw [ah HIQ];rw [List.append_assoc] at h;exact(h.keeps (aC.set _) (λx hx=>Aak)).lower Aaa
  .exact(Nw.below NI).keeps (aC.set _) (λx hx=>Aak)
  .exact(iX.trans (NI.mono iX.size)).setCell (p:=⟨w.heap.size,8,none⟩) (Nat.le_refl _) _):P:=h
theorem avH.AdA(h:P:=by
 go_meet
 case rel=>
  refine⟨rfl,avT,cvT,?_,?_,?_,?_,?_,?_,?_⟩
  .rcases HVz.2 with⟨_,hn⟩|⟨g,cap,cur,hv,_⟩
   .omega
   .simp only[Value.slice.injEq] at hv;exact⟨g,hv.1⟩
  .rcases HVz.2 with⟨_,hn⟩|⟨g,cap,cur,hv,_,_,hnc,_⟩
   .omega
   .simp only[Value.slice.injEq] at hv;omega
  .have h:=aT HNz 8 (.slice avT (pos+1+(n.reqs.length - pos)) cvT);rw [show pos+1+(n.reqs.length - pos)=n.reqs.length+1 by omega] at h ⊢;exact h
  .exact gY _ Aaa HRz
  .exact gY _ Aaa Rt
  .have h:=LO.own (en:=aN) (cp:=cvT) (l:=n.reqs.take pos++[(⟨no,k,nn,1⟩:Rq)]++n.reqs.drop pos) (by rw [hL2];exact HVz);rw [ah HIQ];rw [List.append_assoc] at h;exact(h.keeps (aC.set _) (λx hx=>Aak)).lower Aaa
  .exact(iX.trans (NI.mono iX.size)).setCell (p:=⟨w.heap.size,8,none⟩) (Nat.le_refl _) _):P:=h
theorem agR(h:P:=by
 obtain⟨avR,cvR,Pm,_⟩:=GR.own_at (enc:=aS) (sz:=1) (l:=(bg s0 mL).take pos) aR (by rw [hlt1];exact Ww);rw [hlt1] at Pm;subst Pm;clear LC LA yu Tw;exact Afq):P:=h
theorem avI.Afq(h:P:=by
 generalize x2.heap.size=rb at *;exact Zw3):P:=h
theorem avJ.Afq(h:P:=by
 generalize x1.heap.size=rb at *;exact Zw3):P:=h
theorem agS(h:P:=by
 have h9n:∀x,6 < newC w.heap.size 9 c x->newC w.heap.size 9 c x=9:=λx hx=>by
  by_cases hlt:x < w.heap.size
  .rw [eT hlt] at hx ⊢;exact h9 x hx
  .exact aZ Aaa
 exact Afe):P:=h
theorem avK.Afe(h:P:=by
 have UW:=Hq (λW (hBW:B<=W.heap.size) (hN:NQ W B n A G (newC w.heap.size 9 c))=>acT n A G (newC w.heap.size 9 c) 1 mF mT mI mL mk mN W B hBW h9n hz hmk hP vC hok h2 hN);clear h9n hz hP vC hok;unfold fZ at UW;dsimp only at UW ⊢;generalize (takeN n ⟨1,mF,mT,mI,mL,mk,mN⟩).1=N1 at *;generalize (if (takeN n ⟨1,mF,mT,mI,mL,mk,mN⟩).2=true then[WJ n ⟨1,mF,mT,mI,mL,mk,mN⟩] else[])=L1 at *;generalize (if (takeN n ⟨1,mF,mT,mI,mL,mk,mN⟩).2=true then(0:Int) else 1)=CU at *;unfold fZ;have H9:=Hq h9;clear h9;have Zp:=Hq (λW=>kX ⟨1,mF,mT,mI,mL,mk,mN⟩ W Aal);open am4 in exact aaw):P:=h
theorem avL.Afe(h:P:=by
 have HGV:=Hq (λW (hBW:B<=W.heap.size) (hN:NQ W B n A G (newC w.heap.size 9 c))=>QT n A G (newC w.heap.size 9 c) mF mk mN W B hBW h9n hz hmk hP vC h0 hN);clear h9n hz hP vC;unfold fZ at HGV;generalize fG n mF mk mN=GV at *;obtain⟨N1,L1,b1⟩:=GV;dsimp only at HGV ⊢;generalize (if b1=true then(0:Int) else 1)=CU at *;unfold fZ;have H9:=Hq h9;clear h9;have Zp:=Hq (λW=>kX ⟨0,mF,mT,mI,mL,mk,mN⟩ W Aal);open am0 in exact aaw):P:=h
theorem aat(h:P:=by
 have z2:=cell_regrown p2;have z3:=cell_regrown p3;clear c0 c1 c2 c3 c4 c5 c6 c7 c8 c9 p0 p1 p2 p3 p4 p5 p6 p7 p8 p9 oD;exact AbV):P:=h
theorem avM.AbV(h:P:=by
 open atZ in exact agk):P:=h
theorem avN.AbV(h:P:=by
 refine bV 16 Aab ?_;show fD _ _ _ _ _ 17 (Array.replicate 17 false) _ _
 refine tk [0,1,2,3,4,5,6,7,8,9,10,11,12,13,14,15] ?_;iterate 16 (refine su (λK hK=>?_);go_simp;refine hK _ ?_;clear hK K)
 refine jc ?_;clear y0 y1 z2 z3;refine bf Aab (λx hx=>?_);have JD:=Hq (Bg x c v (HW1.step hx));clear hx;refine aF 16 rfl Aab Aad ?_;go_simp;refine JD.mono ?_;rintro e y ⟨rfl,c',v',hY⟩;have HY:=Hq hY;clear hY JD;refine wpAny_done Aab ?_;go_simp;go_wp2_with fail;go_ret;exact⟨rfl,c',v',HY⟩):P:=h
theorem avP.AbV(h:P:=by
 refine bV 17 Aab ?_;show fD _ _ _ _ _ 20 (Array.replicate 20 false) _ _
 refine tk [0,1,2,3,4,5,6,7,8,9,10,11,12,13,14,15,16] ?_;iterate 17 (refine su (λK hK=>?_);go_simp;refine hK _ ?_;clear hK K)
 refine jc ?_;clear y1 z2 z3;refine bf Aab (λx hx=>?_);have JD:=Hq (EI x c v (HW1.step hx));clear hx;refine aF 17 rfl Aab Aad ?_;go_simp;refine JD.mono ?_;rintro e y ⟨rfl,A',G',c',v',hY⟩;have HY:=Hq hY;clear hY JD;refine aF 18 rfl Aab Aad ?_;go_simp;refine aF 19 rfl Aab Aad ?_;go_simp;refine wpAny_done Aab ?_;go_simp;cases gb
 all_goals
  go_wp2_with fail
  go_ret
  exact⟨rfl,A',G',c',v',HY⟩):P:=h
theorem agT(h:P:=by
 have nO:Hid (aY w W'):=vP.trans (gL.below (λx hx=>by have:x=w.heap.size+2:=Aag;omega) vP.size);obtain⟨x0,x1,x2,x3,x4,x5,x6,x7,x8⟩:=nine e4;clear hW' e4 gL;exact AeA):P:=h
theorem avQ.AeA(h:P:=by
 exact bodyPost_ret (v:= .tuple #[(fT N1 A2),.slice ma L1.length mc,.int .i64 CU]) Abc rfl ⟨A2,ma,mc,rfl,HAT,HMT,nO⟩):P:=h
theorem avS.AeA(h:P:=by
 exact bodyPost_ret (v:= .tuple #[(fT n A1),.slice (some ⟨W0.heap.size,0,none⟩) 0 0,.int .i64 1]) Abc rfl ⟨A1,some ⟨W0.heap.size,0,none⟩,0,rfl,HAT,λW'' _ i hi=>Aav,nO⟩):P:=h
theorem agU(h:P:=by
 have HLQ:=Hq (show IQ.length=n.reqs.length+1 by rw [ah HIQ];simp;omega);have mV:=Hq Tj;have jV:=Hq hR6;have DJ:=Hq hQ6;have HL6:=Hq hL6;exact AdK):P:=h
theorem avU.AdK(h:P:=by
 have Zv:=Hq hP6;have vP:=Hq hB6;clear Tj hR6 hQ6 hL6 hP6 hB6;rename_i wo _ _ _
 by_cases h30:30 < n.reqs.length+1
 .have HK:=Hq (show nA (setPu n RL) ⟨no,k,nn,0⟩=eH (nJ (setPu n RL) (IQ.headD default).no) IQ.tail by unfold nA;rw [show((setPu n RL)).reqs=n.reqs from rfl,ah Zm,ah HLQ,if_pos h30]);open amH in exact awm
 .have HK:=Hq (show nA (setPu n RL) ⟨no,k,nn,0⟩=eH (setPu n RL) IQ by unfold nA;rw [show((setPu n RL)).reqs=n.reqs from rfl,ah Zm,ah HLQ,if_neg h30]);open aqj in exact afg):P:=h
theorem avV.AdK(h:P:=by
 have vP:=Hq hB6;clear Tj hR6 hQ6 hL6 hB6;rename_i wo _ _ _
 by_cases h30:30 < n.reqs.length+1
 .have HK:=Hq (show nA n ⟨no,k,nn,1⟩=eH (nJ n (IQ.headD default).no) IQ.tail by unfold nA;rw [show(n).reqs=n.reqs from rfl,ah Zm,ah HLQ,if_pos h30]);open amI in exact awm
 .have HK:=Hq (show nA n ⟨no,k,nn,1⟩=eH n IQ by unfold nA;rw [show(n).reqs=n.reqs from rfl,ah Zm,ah HLQ,if_neg h30]);open aqk in exact afg):P:=h
theorem agV(h:P:=by
 have c4:V.cell? ⟨g,off+j*4,none⟩=some (.string q):=by rw [hV,World.cell?_alloc_lt _ _ _ hgw];exact d0
 have hgq:g < V.heap.size:=by rw [hV];simp;omega
 clear hblk hV c0 c1 c2 c3 d0;exact AeF):P:=h
theorem avW.AeF(h:P:=by
 open au9 in exact agF):P:=h
theorem avX.AeF(h:P:=by
 open au8 in exact agE):P:=h
theorem agW(h:P:=by
 go_wp2_with fail;refine(HCM _).mono ?_;rintro e w1 ⟨rfl,hb1⟩;have HB1:=Hq (HB.trans (hb1.mono HB.size));exact Aej):P:=h
theorem avY.Aej(h:P:=by
 have HE:Hid (RF=(ln - no == 0)):=by
  show RF=_
  rw [ah HFP,Bool.eq_iff_iff,decide_eq_true_iff,beq_iff_eq];omega
 clear hb1 q0 q1 q2 q3 HFP;go_wp2_with fail;go_ret2
 exact⟨by rw [ah HE];rfl,HB1⟩):P:=h
theorem avZ.Aej(h:P:=by
 clear hb1 q0 q1 q2 q3;by_cases hc:ln - no < 0
 .go_wp2_with fail;go_roundw
  case rel=>exact⟨m+1,q,by
   rcases Nat.lt_or_ge R (m+1) with h9|h9
   .have:=ah HHM Aaa;omega
   .exact h9,h3,h4,Aai,rfl,HB1⟩
  case measure=>simp[intOf];omega
 .go_wp2_with fail;go_roundw
  case rel=>exact⟨p,m,h2,by
   rcases Nat.lt_or_ge m R with h9|h9
   .have:=ah HLM h9;omega
   .exact h9,Aaa,rfl,rfl,HB1⟩
  case measure=>simp[intOf];omega):P:=h
theorem agX(h:P:=by
 go_in
 go_wp2_with fail;refine(HO _).mono ?_;rintro e w1 ⟨rfl,hb1⟩;obtain⟨hA,hC,hbel⟩:=AV hb1;have HC:=Hq hC;have gI:=Hq hbel;exact Ac5):P:=h
theorem av0.Ac5(h:P:=by
 obtain⟨⟨p0,p1,p2,p3⟩,_⟩:=gG hA;obtain⟨⟨r0,r1,r2,r3⟩,s0,s1,s2,s3⟩:=gG hC;clear hb1 hA hC hbel;go_wp2_with fail;clear r0 r1 r2 r3;refine Fo.bodyPost_at (λW' hW'=>?_);obtain⟨⟨r0,r1,r2,r3⟩,_⟩:=gG (show W'.heap[w.heap.size+1+1]?=some (.cells (iM pk (pm+dm*n) (pf+df*n) (ps+ds*n)) 143 (0,0)) by rw [hW'];exact Fo.four_set HC);have hbb:aY w W':=by rw [hW'];exact Fo.four_below gI Aaa
 exact bodyPost_ret (v:= .tuple #[.agg (iM pk (pm+dm*n) (pf+df*n) (ps+ds*n)),.nilIface]) (by simp[results,results261,go_sem,r0,r1,r2,r3]) rfl ⟨rfl,hbb⟩):P:=h
theorem av1.Ac5(h:P:=by
 have ve:=(HE.below hbel).var 4 Aaa;have hsz:=(show w.heap.size+1+1 < w1.heap.size from Fo.lt_of_blk hC);have hve:4 < w.heap.size:=World.block_lt_of_cell? _ _ (HE.var 4 Aaa);obtain⟨⟨r0,r1,r2,r3⟩,s0,s1,s2,s3⟩:=gG hC;clear hb1 hA hC hbel;go_wp2_with fail;go_region
 all_goals
  go_wp2_with fail
  refine Fo.bodyPost_at (λW' hW'=>?_)
  obtain⟨⟨t0,t1,t2,t3⟩,_⟩:=gG (show W'.heap[w.heap.size+1+1]?=some (.cells (iM ⟨#[]⟩ 0 0 0) 143 (0,0)) by rw [hW'];exact Fo.four_set (w:=w1.drew) HC)
  have hbb:aY w W':=by rw [hW'];exact Fo.four_below (w:=w1.drew) (gI.trans ⟨rfl,rfl,rfl,Nat.le_refl _,λ_ _=>rfl⟩) Aaa
  exact bodyPost_ret (v:= .tuple #[.agg (iM ⟨#[]⟩ 0 0 0),uw (E 4)]) (by simp[results,results261,go_sem,t0,t1,t2,t3]) rfl ⟨rfl,hbb⟩):P:=h
end Go.Proofs.YtacgbldlonoaaaaGreatDoor
