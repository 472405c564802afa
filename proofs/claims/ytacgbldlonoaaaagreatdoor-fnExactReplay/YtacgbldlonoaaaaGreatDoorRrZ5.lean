/-
  Parts of proofs that stand more than once, each said once.
-/
import Derived.Test.YtacgbldlonoaaaaGreatDoorRrZ4
namespace Go.Proofs.YtacgbldlonoaaaaGreatDoor
set_option maxRecDepth 100000
variable{P:Prop}
theorem aom.Kr163(h:P:=by
 have Pm:Hid (y4.ownsRow wc.heap.size 97 4 v4 (pos+1) (GR.flat aM (n.reqs.take pos++[(⟨no,k,nn,1⟩:Rq)]))):=Hq Ada;have aaw:=Hq (show y4.heap[rb]?=some (.cells (dX no k nn 1) 97 (0,0)) from by rw [Di.block _ (aA (ah CJ)) (λhm=>ah Sw _ hm.symm rfl)];exact CJ);open apO in exact WY):P:=h
theorem aon.Kr163(h:P:=by
 have Pm:Hid (y4.ownsRow wc.heap.size 97 4 v4 (pos+1) (GR.flat aM (n.reqs.take pos++[(⟨no,k,nn,0⟩:Rq)]))):=Hq Ada;have aaw:=Hq (show y4.heap[rb]?=some (.cells (dX no k nn 0) 97 (0,0)) from by rw [Di.block _ (aA (ah CJ)) (λhm=>ah Sw _ hm.symm rfl)];exact CJ);open apN in exact WY):P:=h
theorem acU(h:P:=by
 have HB9:Hid (aX w W9):=by rw [P5];exact IE.setCell (p:=⟨w.heap.size,8,none⟩) (Nat.le_refl _) _
 have HL9:Hid (LO 97 aM 4 (w.heap.size+3) W9 (some ⟨g8,0,none⟩) CV IT):=by rw [P5];exact((HL8.lower hz7).keeps (aC.set _) (λx hx=>Aaj))
 exact Kr164):P:=h
theorem aoo.Kr164(h:P:=by
 have HP9:Hid (LO 143 fE 4 (w.heap.size+3) W9 av cv RL):=by rw [P5];exact Vn.keeps (aC.set _) (λx hx=>by simp at hx;omega)
 clear P5 k8 kf8 qp xG aau IE HL8 ou lY Wh BU aaD SN c0 c1 c2 c3 c4 c5 c6 c7 c8 cf hnl Vn HP7;have TI:IT.length=n.reqs.length:=hIT;clear hIT;obtain⟨c0,c1,c2,c3,c4,c5,c6,c7,c8⟩:=nine vZ;open ahu in exact EK):P:=h
theorem aop.Kr164(h:P:=by
 skip
 clear P5 k8 kf8 qp xG aau IE HL8 ou lY Wh BU aaD SN c0 c1 c2 c3 c4 c5 c6 c7 c8 cf hnl;have TI:IT.length=n.reqs.length:=hIT;clear hIT;obtain⟨c0,c1,c2,c3,c4,c5,c6,c7,c8⟩:=nine vZ;open ahw in exact EK):P:=h
theorem acV(h:P:=by
 have mixed:Tryz.prog.follows .mixedOrders=true:=Aab
 have hw1:IntKind.i64.wrap ((i:Int)+1)=(i:Int)+1:=IntWalk.i64_in _ ⟨Aaa,Aaa⟩;have hb1:(0:Int)<=(i:Int)+1:=Aaa
 have hin:i<=l.length:=Aaa
 have htn:((i:Int)+1).toNat=i+1:=Aaa
 exact Kr165):P:=h
theorem aoq.Kr165(h:P:=by
 have hb2:¬(cap=i+1):=Aaa
 have hb3:(i:Int)<=(l.length:Int)+1:=Aaa
 have hb4:¬(cap=i):=Aaa
 have hc63:cap<=9223372036854775807:=Acf
 clear hcs hcl hdl hv hblk htake hcm hr1 Ye afY hvr;go_enter Tryz.func189,Tryz.ntmps189
 go_wp2_with (simp only[hov])
 go_region_law_o (refine step_copy_runI rfl _ _ 28 28 rfl _ _ Abz Abz (hcp1 _ _ _ _ _ Aaa Aaa) ?_)
 go_wp2_with (at_builtin;refine wpList_copy_runI _ rfl _ _ 28 28 rfl _ _ rfl rfl (hcp2 _ _ _ Aaa) ?_)
 go_ret;exact⟨rfl,hfin.1,hfin.2⟩):P:=h
theorem aor.Kr165(h:P:=by
 have hb3:(i:Int)<=(l.length:Int):=Aaa
 have hGi:¬(G=i):=Aaa
 have hGim:¬(G=i+1):=Aaa
 have hci:¬(cap=i):=Aaa
 have hG63:G<=9223372036854775807:=by unfold maxLen at hGm;omega
 have hz3:(cap:Int) < (l.length:Int)+1:=Aaa
 have hA2:=hA ((w.alloc (.cells R 97)).drew) rfl;have hB2:=hB ((((w.alloc (.cells R 97)).drew).setRow w.heap.size (yJ R.toList i q).toArray).drew) rfl;clear hblk hv htake hcell hdl htl hRs hRl hRt hBb hi0 hz0 hz1 hz2 hA hB;go_enter Tryz.func189,Tryz.ntmps189
 go_upto_region 10 with(at_builtin;refine Lib.wpList_append_run _ rfl _ _ _ _ rfl _ _ rfl rfl _ _ (hrz _) ?_)
 go_wp2_with (first
  |(at_builtin;refine wpList_copy_runI _ rfl _ _ 28 28 rfl _ _ rfl rfl (hA2 _ _ _ Aaa) ?_))
 go_region_law_o (refine step_copy_runI rfl _ _ 28 28 rfl _ _ Abz Abz (hB2 _ _ _ _ _ Aaa Aaa) ?_)
 go_wp2
 go_ret;obtain⟨f1,f2⟩:=ah Bg ((((w.alloc (.cells R 97)).drew).setRow w.heap.size (yJ R.toList i q).toArray).drew) rfl rfl rfl rfl;exact⟨G,_,rfl,hGn,hGm,f1,Gw,Q8,f2⟩):P:=h
theorem Rp(h:P:=by
 obtain⟨c0,c1,c2,c3,c4,c5,c6,c7,c8,c9⟩:=iQ HW1.blk;obtain⟨⟨p0,p1,p2,p3,p4,p5,p6,p7,p8,p9,mP⟩,_⟩:=aU xD;exact Kr166):P:=h
theorem aos.Kr166(h:P:=by
 have hwl:=aA HW.blk;have hne:wb≠w.heap.size:=Aaa
 exact Kr15):P:=h
theorem aot.Kr166(h:P:=by
 go_enter Tryz.func111,Tryz.ntmps111
 go_upto_region 1 with fail;have y1:=cell_regrown c1;open aqN in exact Xd):P:=h
theorem aou.Kr166(h:P:=by
 go_enter Tryz.func110,Tryz.ntmps110
 go_upto_region 3 with fail;have y0:=cell_regrown c0;have y1:=cell_regrown c1;open aqM in exact Xd):P:=h
theorem aov.Kr166(h:P:=by
 have hwl:=aA HW.blk;have hne:wb≠w.heap.size:=Aaa
 go_enter Tryz.func107,Tryz.ntmps107
 go_upto_region 1 with fail;have y1:=cell_regrown c1;have y4:=cell_regrown c4;open aqL in exact Xd):P:=h
theorem acW(h:P:=by
 have HR:Hid (textOf s k (some (n,c))=some (s.extract (k+c) (k+c+n),k+c+n)):=by unfold textOf;exact if_neg hbad
 rw [Int.toNat_natCast];have h1:¬1000 < n:=Aaa
 have h2:¬(s.size:Int) - ((k:Int)+(c:Int)) < (n:Int):=Aaa
 exact Kr167):P:=h
theorem aow.Kr167(h:P:=by
 clear hbad;go_enter Tryz.func139,Tryz.ntmps139
 go_wp2_with (go_at_call 181;refine(HS _).mono ?_;rintro e w1 ⟨rfl,hb1⟩;simp only[qx])
 go_ret2
 exact⟨by rw [ah HR];simp[Cn],hb1⟩):P:=h
theorem aox.Kr167(h:P:=by
 have hz:(s.extract (k+c) (k+c+n)).size<=281474976710656:=by rw [ByteArray.size_extract];omega
 clear hbad;go_enter Tryz.func216,Tryz.ntmps216
 go_wp2_with (first|(go_at_call 241;refine(HS _).mono ?_;rintro e w1 ⟨rfl,rfl⟩;simp only[qz])|(go_at_call 102;refine(clone _ _ hz).mono ?_;rintro e w2 ⟨rfl,hb2⟩))
 go_ret3
 exact⟨by rw [ah HR];simp[rC],hb2⟩):P:=h
theorem acX(h:P:=by
 refine gF 8 rfl Aab Aad Aae (λx4 hx4=>?_);have VK:=Hq (Sy.trans (hx4.mono Sy.size));have Mk:wc.heap.size<=x4.heap.size:=VK.size;have Lg:=Hq (GR.own_below SY hx4);have CJ:=Hq (ay EG hx4);clear hx4;exact Kr168):P:=h
theorem aoy.Kr168(h:P:=by
 obtain⟨v4,y4,TY,Qa,Di,Yq⟩:=fV x4 wc.heap.size 28 28 97 i0 (.agg (dX 0 ByteArray.empty 0 0)) 4 40 Tryz.underlying28 hi hz0 hz1 hz2 rfl Aae (.slice avR (pos) cvR) (pos) (GR.flat aM (n.reqs.take pos)) Lg ⟨rb,0,none⟩ 1 1 (aM ⟨no,k,nn,1⟩) rfl (World.news_of_block CJ) (nX _) Aah Aaa Mk;open aom in exact acT):P:=h
theorem aoz.Kr168(h:P:=by
 obtain⟨v4,y4,TY,Qa,Di,Yq⟩:=fV x4 wc.heap.size 28 28 97 i0 (.agg (dX 0 ByteArray.empty 0 0)) 4 40 Tryz.underlying28 hi hz0 hz1 hz2 rfl Aae (.slice avR (pos) cvR) (pos) (GR.flat aM (n.reqs.take pos)) Lg ⟨rb,0,none⟩ 1 1 (aM ⟨no,k,nn,0⟩) rfl (World.news_of_block CJ) (nX _) Aah Aaa Mk;open aon in exact acT):P:=h
theorem acY(h:P:=by
 have ho:=h.own;rw [<-h.len] at ho;obtain⟨a',c',g,e,hW,hg,hgo⟩:=GR.W.of_own (enc:=eG) bZ ho;cases e
 rw [h.len] at hgo;have hfe:∀x,x∈fp g l->x∈fp g T2:=λx hx=>by have:=gH hx;rw [this.1];exact dQ (by rw [h.len];exact this.2)
 exact Kr169):P:=h
theorem aoA.Kr169(h:P:=by
 refine⟨g,⟨T2,hW,h.len,λi hi=>?_⟩,λx hx=>⟨(hg x (hfe x hx)).1,hgo x (hfe x hx)⟩,λx hx=>?_,?_⟩
 .obtain⟨b,c,e1,e2,_⟩:=h.dn i hi hi;exact⟨b,c,e1,e2⟩
 .obtain⟨i,hi,rfl,hpos⟩:=uG hx;obtain⟨_,_,_,_,e3⟩:=h.dn i hi hi;exact e3 _ (dQ hpos)
 .rw [nZ];exact λi j hi hj hij h1 h2=>h.nd i j hi hj hij hj h1 h2):P:=h
theorem aoB.Kr169(h:P:=by
 refine⟨g,⟨⟨T2,hW,h.len,λi hi=>?_⟩,λhp=>?_⟩,λx hx=>(hg x (hfe x hx)).1,λx hx=>?_,?_⟩
 .obtain⟨b,c,e1,e2,_⟩:=h.dn i hi hi;exact⟨b,c,e1,e2⟩
 .have hx:=hgo g (dQ (by rw [h.len];exact hp));rcases h.own.2 with⟨_,hn⟩|⟨g',cap,cur,hv,_,hgg,_⟩
  .omega
  .rw [hv] at hx;have e3:g'=g:=Abo
   rw [e3] at hgg;exact⟨cur,hgg⟩
 .obtain⟨i,hi,rfl,hpos⟩:=uG hx;obtain⟨_,_,_,_,e3⟩:=h.dn i hi hi;have q:=e3 _ (dQ hpos);exact⟨q.1,q.2.1,λhm=>q.2.2 (hgo _ (hfe _ hm))⟩
 .rw [nZ];exact λi j hi hj hij h1 h2=>h.nd i j hi hj hij hj h1 h2):P:=h
theorem WH(h:P:=by
 go_enter Tryz.func262,Tryz.ntmps262
 go_wp2_with fail;refine HBS.mono ?_;rintro e w1 ⟨rfl,q,rfl⟩;rw [hf];exact Kr170):P:=h
theorem aoC.Kr170(h:P:=by
 go_wp2_with fail;go_ret;exact⟨⟨rfl,rfl,rfl,Nat.le_refl _,λ_ _=>rfl⟩,λ_ _ _ _=>rfl,.inl ⟨by first|trivial|rfl,rfl,HH.drewN⟩⟩):P:=h
theorem aoD.Kr170(h:P:=by
 clear HBS
 have VO:=Hq (agk B (.slice a l.length cap) (l.map (·.k)) (place l key) key w.heap.size ((w.drewN q).alloc (.cells #[.string key] 9)) (by rw [List.length_map];exact lG l key) (by rw [List.length_map];exact hl) Aag
  (World.ownsRow.alloc (w:=w.drewN q) HH.row _) (heap_alloc_new (w.drewN q) _) (λe=>by have:=HR.lt _ e;omega))
 go_wp2_with fail;refine VO.mono ?_;rintro e w2 ⟨v',rfl,hown,hgr⟩;rw [List.length_map,YF,<-AO l key] at hown;obtain⟨g',cap',rfl,_,_⟩:=hown.form (by rw [AO];omega)
 have hlt:∀k,k < w.heap.size->(Value.slice a l.length cap).ownBlock≠some k->w2.heap[k]?=w.heap[k]?:=λk hk hne=>by
  rw [hgr.block k Aag (Ne.symm hne)]
  exact Below.heap_alloc (w.drewN q) _ _ hk
 have hm2:w2.heap[mp]?=some (.cells #[.slice a l.length cap,.map (some mb)] 306 (0,0)):=by rw [hlt mp hmp (own_ne (ah HR) (ah HH).blk Aae)];exact HH.blk
 have hb2:w2.heap[mb]?=w.heap[mb]?:=by
  obtain⟨es,clock,hbk⟩:=HH.map.blk;exact hlt mb hmb (wN HR hbk)
 have hbw:Below B w w2:=by
  refine⟨hgr.os,hgr.tape,hgr.output,Nat.le_trans Aac hgr.size,λk hk=>hlt k Aaa (λe=>?_)⟩;have:=HR.lt _ e;omega
 have HO:=Hq hown;have HM2:=Hq hm2;have HB2:=Hq hb2;have gZ:=Hq hbw;have HLT:=Hq hlt;obtain⟨⟨n0,n1⟩,g0,g1⟩:=lM hm2;clear hown hgr hlt hm2 hb2 hbw VO n1 g1;go_wp2_with fail;go_ret;refine⟨gZ.setCell (p:=⟨mp,0,none⟩) HH.lop _,λk hk hne1 hne2=>Fo.one_other (HLT k hk hne2) hne1,.inr (.inr ⟨by first|trivial|rfl,Aaa,rfl,.slice (some ⟨g',0,none⟩) (MW l key).length cap',?_,?_,?_,HH.lop,HH.lom⟩)⟩
 .exact Fo.blk_set HM2 0 _
 .refine HO.kept (w':=w2.setCell ⟨mp,0,none⟩ _) (row:=some mp) ⟨rfl,rfl,rfl,by rw [Fo.setCell_size];exact Nat.le_refl _,λk _ hne=>Fo.one_other rfl (λe=>hne Aan)⟩ (.inr (own_ne HO HM2 Aae))
 .refine HH.map.kept ?_;rw [Fo.one_other (ah HB2) (Ne.symm (ah HH).mpmb)]):P:=h
theorem aoE.Kr170(h:P:=by
 go_wp2_with fail;go_ret;exact⟨⟨rfl,rfl,rfl,Nat.le_refl _,λ_ _=>rfl⟩,λ_ _ _ _=>rfl,.inr (.inl ⟨by first|trivial|rfl,H20,rfl⟩)⟩):P:=h
theorem WI(h:P:=by
 rw [<-hW] at e1 e2 e3 e4;have HN:=Hq e1;have HO:=Hq e2;have HR:=Hq e3;have HB0:=Hq e4;have Kt:=Hq (jP.kc (k:=9) (KC.of_below e4) Aaa);exact Kr171):P:=h
theorem aoF.Kr171(h:P:=by
 clear hW e1 e2 e3 e4 jP;obtain⟨⟨p0,p1,p2,p3,p4,p5,p6,p7,p8,p9,mP⟩,_⟩:=aU HO;have hol:=aA HO;obtain⟨c0,c1,c2,c3,c4,c5,c6,c7,c8⟩:=nine HN;obtain⟨d0,d1,d2,d3,d4,d5,d6,d7,d8⟩:=nine HR;have f0:=au HR 0;have f1:=au HR 1;have f2:=au HR 2;have f3:=au HR 3;have f4:=au HR 4;have f5:=au HR 5;have f6:=au HR 6;have f7:=au HR 7;have f8:=au HR 8;have hnl:=aA HN;have hrl:=aA HR;go_wp2_with fail;refine aN (λW' hW'=>?_)
 have e4:W'.heap[w.heap.size+2]?=some (.cells (dH n A) 30 (0,0)):=by
  rw [hW'];exact GR.setW_blk (dH n A).toList (o:=0) (xs:=gu.toList) HR
 have fH:aC [w.heap.size+2] W0 W':=by
  rw [hW'];exact aL (dH n A).toList W0 0
 have HAT:=Hq (λW'' (ho:Out c w W' W'')=>(Kt.kc (k:=9) ((KC.keeps fH (λx hx=>by have:x=w.heap.size+2:=Aaf;rw [this];exact aS Aaa)).trans (KC.out H9 ho)) Aaa).rm);have lQ:Hid (Below B w W'):=(HB0.mono hB).trans (fH.below (λx hx=>by have:x=w.heap.size+2:=Aaf;omega) (Nat.le_trans hB (HB0.mono hB).size));have rG:=Hq (Apart.keeps (c:=c) (Apart.of_below (HB0)) (HB0.mono hB).size fH (λx hx=>by have:x=w.heap.size+2:=Aaf;omega));obtain⟨x0,x1,x2,x3,x4,x5,x6,x7,x8⟩:=nine e4;clear hW' e4 fH;exact bodyPost_ret (v:= .tuple #[(fI n A),.int .i64 2]) Abl rfl ⟨A,rfl,HAT,lQ,rG⟩):P:=h
theorem aoG.Kr171(h:P:=by
 clear hW e1 e2 e3 e4;open amE in exact ace):P:=h
theorem aoH.Kr171(h:P:=by
 clear hW e1 e2 e3 e4 jP;open amF in exact ace):P:=h
theorem WJ(h:P:=by
 have uj:=Hq (xw.trans (hx2.mono xw.size));have uy:wc.heap.size<=x2.heap.size:=uj.size;have EI:=Hq (GR.own_below aaE hx2);clear hx2;exact Kr172):P:=h
theorem aoI.Kr172(h:P:=by
 refine⟨(aj x2 _).mono uy,?_⟩;have EU:=aj x2 (.cells (dX no k nn 0) 97);have Wi:=Hq (heap_alloc_new x2 (.cells (dX no k nn 0) 97));open akX in exact afo):P:=h
theorem aoJ.Kr172(h:P:=by
 refine⟨(aj x2 _).mono uy,?_⟩;have EU:=aj x2 (.cells (dX no k nn 1) 97);have Wi:=Hq (heap_alloc_new x2 (.cells (dX no k nn 1) 97));open akY in exact afo):P:=h
theorem aoK.Kr172(h:P:=by
 obtain⟨v2,y2,TW,TV,TQ,atI⟩:=eT bg Aaa x2 wc.heap.size 28 28 97 i0 (.agg (dX 0 ByteArray.empty 0 0)) 40 Tryz.underlying28 hi hz0 hz1 hz2 rfl (.slice (some ⟨x1.heap.size,0,none⟩) 0 0) 0 (GR.flat aM ([])) EI (some ⟨gr,0,none⟩) (n.reqs.take pos) aP (GR.At.below EH uj) (iy _) Aah Aaa uy;rw [hlt1] at TW TV;refine Lib.wp_append_run x2 (.tmp 93) (.tmp 97) 28 28 rfl _ _ Aak Aak v2 y2 TW ?_;refine⟨(Below.refl _ _).grown TQ uy (λb hb=>(EI.lt b hb).1),?_⟩;go_simp;have IK:=Hq (uj.grown TQ uy (λb hb=>(EI.lt b hb).1));have EJ:Hid (y2.ownsRow wc.heap.size 97 4 v2 (pos) (GR.flat aM (n.reqs.take pos))):=Hq (by simpa [GR.flat_nil] using TV);obtain⟨avR,cvR,Yn,_⟩:=GR.own_at (enc:=aM) (sz:=4) (l:=n.reqs.take pos) bg (by rw [hlt1];exact EJ);open aqe in exact ads):P:=h
theorem acZ(h:P:=by
 have y0:=(hcell 0 Aaa).1;rw [Nat.mul_one,Nat.add_zero] at y0;simp only[List.getElem?_cons_zero] at y0;clear hcell;exact Kr173):P:=h
theorem aoL.Kr173(h:P:=by
 have HUP:=Hq (fun(h:¬(aY s0 mL)[x] < mI)=>ZJ (l:=aY s0 mL) (x:=mI) hx VQ (λ_=>h))
 have VT:=Hq (fun(h:(aY s0 mL)[x] < mI)=>show∀y (hy:y < (aY s0 mL).length),y < x+1->(aY s0 mL)[y] < mI from λy hy h2=>by
  by_cases e:y=x
  .subst e;exact h
  .exact VQ y hy Aaa)
 generalize (aY s0 mL)[x]=rn at *;by_cases hcmp:rn < mI
 .go_wp2_with fail;go_quiet (fail);go_wp2_with fail;go_roundw
  case rel=>exact⟨x+1,_,Aaa,Aai,VT hcmp,rfl⟩
  case measure=>simp[intOf];omega
 .have Yd:decide (rn < mI)=false:=decide_eq_false hcmp;have HJ:=Hq (HUP hcmp);exact asU):P:=h
theorem aoM.Kr173(h:P:=by
 subst eb;have hlen:=Ud s0 mL k;by_cases hge:eH s0 mL<=s0.ids[k]
 .have HY:=Hq (Ue s0 mL k hlt hge);generalize s0.ids[k]=x at *;have hd:decide (eH s0 mL<=x)=true:=decide_eq_true hge;go_wp2_with fail;go_quiet (fail);go_wp2_with (at_builtin;refine wpList_append_own _ rfl _ _ 24 rfl W3.heap.size 3 i0 (.int .i64 0) 1 8 Tryz.underlying24 hi0 hz0 hz1' hz2 rfl Aae _ _ _ rfl (BI hown) ⟨wr.heap.size,0,none⟩ 1 1 [.int .i64 x] rfl rfl ?c1 ?c2 ?c3 ?c4 ?c5 ?_)
  case c1=>exact cell_one_new _ _ _
  case c2=>intro u hu;simp at hu;subst hu;rfl
  case c3=>unfold maxLen;omega
  case c4=>omega
  case c5=>have:=fO.size;simp;omega
  intro v' w2 hown' hgrow _;have atQ:=Hq (GR.below_append (wr:=wr.drewN nq) (fO.trans ⟨rfl,rfl,rfl,Nat.le_refl _,λ_ _=>rfl⟩) fO.size hown hgrow)
  obtain⟨g',cp',rfl⟩:∃g' cp',v'= .slice (some ⟨g',0,none⟩) ((nO s0 mL k).length+1) cp':=by
   rcases hown'.2 with⟨_,hn⟩|⟨g',cap',cur,hv,_⟩
   .omega
   .exact⟨g',cap',hv⟩
  have HO2:=Hq hown';clear hown' hgrow;go_wp2_with fail;go_roundw
  case rel=>exact⟨k+1,g',cp',Aaa,Aai,by rw [ah HY,List.length_append];rfl,by rw [ah HY,List.length_append,GR.flat_append,GR.flat_one];exact HO2,λe=>by rw [ah HY] at e;simp at e,atQ⟩
  case measure=>simp[intOf];omega
 .have HY:=Hq (Yu s0 mL k hlt hge);generalize s0.ids[k]=x at *;have hd:decide (eH s0 mL<=x)=false:=decide_eq_false hge;go_wp2_with fail;go_quiet (fail);go_wp2_with fail;go_roundw
  case rel=>exact⟨k+1,g,cp,Aaa,Aai,by rw [ah HY],by rw [ah HY];exact hown,by rw [ah HY];exact aeZ,fO.trans ⟨rfl,rfl,rfl,Nat.le_refl _,λ_ _=>rfl⟩⟩
  case measure=>simp[intOf];omega):P:=h
theorem Rs(h:P:=by
 refine wp_at (λW hW=>?_);have gZ:Hid (aX w W):=by rw [hW];first|exact jg w _ _|exact(jg w _ _).drew
 exact Kr174):P:=h
theorem aoN.Kr174(h:P:=by
 have hX:W.heap[w.heap.size+1]?=some (.cells (bY 2 no ⟨#[]⟩ 0 0 0 0 0 0 ⟨#[]⟩ 0) 34 (0,0)):=Abv
 have hY:W.heap[w.heap.size]?=some (.cells (bY 2 no k n mK mF mT mI mL mk mN) 34 (0,0)):=Abw
 open apX in exact Xa):P:=h
theorem aoO.Kr174(h:P:=by
 have hX:W.heap[w.heap.size+1]?=some (.cells (bY 5 0 ⟨#[]⟩ 0 0 0 0 0 0 ⟨#[]⟩ 0) 34 (0,0)):=Abv
 have hY:W.heap[w.heap.size]?=some (.cells (bY 5 no k n mK mF mT mI mL mk mN) 34 (0,0)):=Abw
 open anB in exact acD):P:=h
theorem aoP.Kr174(h:P:=by
 have hX:W.heap[w.heap.size+1]?=some (.cells (bY 1 no k n 0 0 0 0 0 ⟨#[]⟩ 0) 34 (0,0)):=Abv
 have hY:W.heap[w.heap.size]?=some (.cells (bY 1 no k n mK mF mT mI mL mk mN) 34 (0,0)):=Abw
 open apW in exact Xa):P:=h
theorem aoQ.Kr174(h:P:=by
 exact Kr41):P:=h
theorem ac0(h:P:=by
 clear hat hmt hb5;have hwp:wr.heap.size<=y5.heap.size:=HG2.size;refine tk [6,7,8,9] ?_;iterate 4 (refine tkB hwp (λK hK=>?_);go_simp;first|refine hK _ ?_|(apply Exists.intro;refine⟨λ_=>?_,hK _ ?_⟩;rfl);clear hK K)
 refine iN ?_;clear hwp;exact Kr175):P:=h
theorem aoR.Kr175(h:P:=by
 refine gF 10 rfl Aab Aad Aae (λx10 Ub=>?_);have KG:=Hq (Ge.trans HG2 Ub);have HD3:=Hq (show Ge y5 x10 from Ub);go_simp;refine⟨(aj x10 _).mono KG.size,?_⟩;have hqd:x10.heap.size < x5.heap.size\/y5.heap.size<=x10.heap.size:= .inr HD3.size;have hqV:wr.heap.size<=x10.heap.size:=KG.size;have HGf:=Hq (Ge.trans KG (aj x10 (.cells gu 30)));have HDf:=Hq (Ge.trans HD3 (aj x10 (.cells gu 30)));have HQf:=Hq (heap_alloc_new x10 (.cells gu 30));clear Ub KG HD3;generalize x10.heap.size=qf at *;exact asl):P:=h
theorem aoS.Kr175(h:P:=by
 have HGf:=HG2;have HDf:=Hq (Below.refl y5.heap.size y5);have HQf:=HQ2;exact asl):P:=h
theorem ac1(h:P:=by
 obtain⟨R,hR⟩:∃R,bV ⟨6,no,k,n,m⟩=R:=⟨_,rfl⟩;rw [hR];have HP:=Hq (show R=(decide (k.toList=[])&&decide (n=0)&&decide (no=0)&&bX m) by rw [<-hR];simp[bV]);clear hR;generalize bX m=OK at *;obtain⟨mK,mF,mT,mI,mL,mk,mN⟩:=m;exact Kr176):P:=h
theorem aoT.Kr176(h:P:=by
 have HX:=Hq (heap_alloc_new (w.alloc (.cells (bY 6 no k n mK mF mT mI mL mk mN) 34)) (.cells (bY 6 0 ⟨#[]⟩ 0 0 0 0 0 0 ⟨#[]⟩ 0) 34));have HY:=Hq (aI (heap_alloc_new w (.cells (bY 6 no k n mK mF mT mI mL mk mN) 34)) (aj _ (.cells (bY 6 0 ⟨#[]⟩ 0 0 0 0 0 0 ⟨#[]⟩ 0) 34)));rw [show(w.alloc (.cells (bY 6 no k n mK mF mT mI mL mk mN) 34)).heap.size=w.heap.size+1 by simp] at HX;go_enter Tryz.func105,Tryz.ntmps105
 go_wp2_with fail;refine(HM _).mono ?_;rintro e w1 ⟨rfl,hb1⟩;have EB:=Hq (aI HX hb1);have HY1:=Hq (aI HY hb1);have HB1:=Hq ((jg w _ _).trans (hb1.mono Aag));clear hb1 HX HY;obtain⟨x0,x1,x2,x3,x4,x5,x6,x7,x8,x9,x10⟩:=Cg EB;obtain⟨y0,y1,y2,y3,y4,y5,y6,y7,y8,y9,y10⟩:=Cg HY1;have f4:=sD EB 4;have f5:=sD EB 5;have f6:=sD EB 6;have f7:=sD EB 7;have f8:=sD EB 8;have f9:=sD EB 9;have f10:=sD EB 10;cases hOK:OK
 .go_wp2_with fail
  all_goals
   go_ret
   refine⟨aD ?_,?_⟩
   .rw [ah HP];simp[hOK]
   .exact XB
 have HKK:=Hq hOK;clear hOK;by_cases hno:no=0
 case' neg=>
  have hno':¬(0:Int)=no:=λe=>hno e.symm
  go_wp2_with fail
  all_goals
   go_ret
   refine⟨aD ?_,?_⟩
   .rw [ah HP];simp[hno]
   .exact XB
 subst hno;by_cases hk:k.toList=[]
 case' neg=>
  go_wp2_with fail
  all_goals
   go_ret
   refine⟨aD ?_,?_⟩
   .rw [ah HP];simp[hk]
   .exact XB
 by_cases hn:n=0
 case' neg=>
  have hn':¬(0:Int)=n:=λe=>hn e.symm
  go_wp2_with fail
  all_goals
   go_ret
   refine⟨aD ?_,?_⟩
   .rw [ah HP];simp[hn,hk]
   .exact XB
 subst hn;go_wp2_with fail
 all_goals
  go_ret
  refine⟨aD ?_,?_⟩
  .rw [ah HP];simp[hk,ah HKK]
  .exact XB):P:=h
theorem aoU.Kr176(h:P:=by
 go_enter Tryz.func36,Tryz.ntmps36
 go_wp2_with (go_at_call 113;refine(HM _).mono ?_;rintro e w1 ⟨rfl,hb1⟩;have HB1:=Hq hb1;clear hb1)
 all_goals
  go_ret
  refine⟨aD ?_,by first|exact aj w _|exact(aj w _).trans (HB1.mono Aac)⟩
  rw [ah HP]
  simp[*]):P:=h
theorem WL(h:P:=by
 obtain⟨K,no,k,nn,⟨mK,mF,mT,mI,mL,mk,mN⟩⟩:=o;have HW1:=Hq (h.step (aj w (.cells (bY K no k nn mK mF mT mI mL mk mN) 34)));exact Kr177):P:=h
theorem aoV.Kr177(h:P:=by
 have hq2:(n.par == -1)=true:=Abg
 clear h hR HSY hpar;obtain⟨c0,c1,c2,c3,c4,c5,c6,c7,c8,c9⟩:=iQ HW1.blk;go_enter Tryz.func110,Tryz.ntmps110
 go_wp2_with fail;go_ret;exact⟨rfl,c,v,HW1⟩):P:=h
theorem aoW.Kr177(h:P:=by
 have hwl:=aA h.blk;have hne:wb≠w.heap.size:=Aaa
 have HBO:=Hq (show Below w0.heap.size w0 (w.alloc (.cells (bY K no k nn mK mF mT mI mL mk mN) 34)) from HW1.keep);have HSA:=Hq (λW c v L' (hW:WK w0 W wb n A G c v L')=>hW.no.at.o);clear h hz;generalize nI n=PM at *;obtain⟨ak,ap,ao,as',ar,ck,cp,co,cs,cr⟩:=A;obtain⟨c0,c1,c2,c3,c4,c5,c6,c7,c8,c9⟩:=iQ HW1.blk;go_enter Tryz.func50,Tryz.ntmps50
 go_wp2_with fail;go_loopw [13] (λi wr=>∃(k:Nat) (c':Nat->Nat) (v':Value),k<=n.out.length/\i= .int .i64 k/\WK w0 wr wb n ⟨ak,ap,ao,as',ar,ck,cp,co,cs,cr⟩ G c' v' (L++(n.out.take k).map PM)) (λi _=>n.out.length - (intOf i).toNat)
 case atStart=>exact⟨0,c,v,Nat.zero_le _,rfl,by simpa using ah HW1⟩
 case round=>
  obtain⟨k,cc,vv,hk,rfl,hS⟩:=hrel;have HS1:=Hq hS;clear hS c0 c1 c2 c3 c4 c5 c6 c7 c8 c9;have hwr:=aA HS1.blk;by_cases hlt:k < n.out.length
  .obtain⟨g,off,e0,hg,q0,q1,q2,q3⟩:=SentAt.four (HSA wr cc vv _ HS1) k hlt;have HKk:=Hq (HKK n.out[k] (List.getElem_mem hlt));have HT:=Hq (show L++(n.out.take (k+1)).map PM=L++(n.out.take k).map PM++[PM n.out[k]] by rw [List.take_succ_eq_append_getElem hlt,List.map_append,List.append_assoc];rfl);have ae8:=Hq (CG n.out[k]);generalize n.out[k]=sk at *;generalize PM sk=mk' at *;obtain⟨si,st,sx,sn⟩:=sk;obtain⟨qK,qF,qT,qI,qL,qk,qN⟩:=mk';dsimp only at q0 q1 q2 q3 HKk e0;subst e0;go_upto_region 4 with fail;refine wp_at (λW3 hW3=>?_);have HR3:Hid (W3.heap[wr.heap.size]?=some (.cells (eU si st sx sn) 95 (0,0))):=by rw [hW3];exact heap_alloc_new _ _
   have HS3:Hid (WK w0 W3 wb n ⟨ak,ap,some ⟨g,off,none⟩,as',ar,ck,cp,co,cs,cr⟩ G cc vv (L++(n.out.take k).map PM)):=by rw [hW3];exact HS1.step (aj wr _)
   clear hW3 q0 q1 q2 q3;have auh:=Hq (λp:Regrown=>ae8 (Gr W3 p) (GR.At.below (HSA W3 cc vv _ HS3) (below_regrown W3 p.d p.os)));have hr3:=aA HR3;have hw3:=aA HS3.blk;have hnr:wb≠wr.heap.size:=Aaa
   obtain⟨c0,c1,c2,c3,c4,c5,c6,c7,c8,c9⟩:=iQ HS3.blk;obtain⟨d0,d1,d2,d3⟩:=fQ HR3;open aho in exact EK
  .have hke:k=n.out.length:=Aaa
   subst hke;have hnlt:decide ((n.out.length:Int) < (n.out.length:Int))=false:=Aac
   go_wp2_with fail;go_ret;have hS:=ah HS1;rw [List.take_length] at hS;exact⟨rfl,cc,vv,hS⟩):P:=h
theorem aoX.Kr177(h:P:=by
 have hq2:(n.par == -1)=true:=Abg
 clear h hR CG hpar;obtain⟨c0,c1,c2,c3,c4,c5,c6,c7,c8,c9⟩:=iQ HW1.blk;go_enter Tryz.func111,Tryz.ntmps111
 go_upto_region 1 with fail;have y1:=cell_regrown c1;clear c0 c1 c2 c3 c4 c5 c6 c7 c8 c9;refine dw Aab ?_;show gX _ _ _ _ 20 (Array.replicate 20 false) _ _
 refine tk [0,1,2,3,4,5,6,7,8,9,10,11,12,13,14,15,16,17,18,19] ?_;iterate 20 (refine tY (λK hK=>?_);go_simp;refine hK _ ?_;clear hK K)
 refine iN ?_;refine eX Aab (λz hz=>?_);have HZ:=Hq (HW1.step hz);clear hz y1;exact aep):P:=h
theorem WQ(h:P:=by
 have HW1:=Hq (h.step (aj w (.cells (bJ mK mF mT mI mL mk mN) 32)));have xD:=Hq (heap_alloc_new w (.cells (bJ mK mF mT mI mL mk mN) 32));exact Kr178):P:=h
theorem aoY.Kr178(h:P:=by
 have hwl:=aA h.blk;have hne:wb≠w.heap.size:=Aaa
 have Pk:=Hq (λp:Regrown=>HW1.no.at.below (below_regrown _ p.d p.os));clear h hp hz;obtain⟨c0,c1,c2,c3,c4,c5,c6,c7,c8,c9⟩:=iQ HW1.blk;obtain⟨p0,p1,p2,p3,p4,p5,p6⟩:=jr xD;open ahp in exact EK):P:=h
theorem aoZ.Kr178(h:P:=by
 clear h;obtain⟨c0,c1,c2,c3,c4,c5,c6,c7,c8,c9⟩:=iQ HW1.blk;have hwl:=aA HW.blk;have hne:wb≠w.heap.size:=Aaa
 go_enter Tryz.func170,Tryz.ntmps170
 go_wp2_with fail;refine(HIX w.heap.size _ HW1.no.at.s xD).mono ?_;rintro e w2 ⟨rfl,hb2⟩;have HW2:=Hq (HW1.step hb2);have yZ:=Hq (ay xD hb2);have HJ2:Hid (∀j mm,fT w j mm->fT w2 j mm):=λj mm hj=>ay (ay hj (aj w _)) hb2
 clear hb2 HW1 xD HIX c0 c1 c2 c3 c4 c5 c6 c7 c8 c9;obtain⟨c0,c1,c2,c3,c4,c5,c6,c7,c8,c9⟩:=iQ HW2.blk;obtain⟨g,off,b,cc,e0,hg,q0,q1,q2,EX⟩:=HW2.no.at.s i hi;rw [ah HS0] at q0 q1 q2 EX;have Gt:=Hq (setOf s0.f s0.l b cc s0.ids w2 aay.2.2.1 (λx hx=>by have:=aay.2.2.2.1 x hx;have:=aay.1;omega) EX);have agc:=aA HW2.blk;have hiI:(i:Int) < (n.seen.length:Int):=Aaa
 clear EX;rw [e0] at c6;go_wp2_with fail;refine Gt.mono ?_;rintro e w3 ⟨sb,mb,rfl,hsb,hmb,hS3,XU,hb3⟩;have HW3:Hid (pJ w0 w3 wb sb mb s0.ids.length n A G (newC w2.heap.size 9 c) v L s0.l s0.ids):=⟨(HW2.recol (c':=newC w2.heap.size 9 c) (λx hx=>dW hx)).step hb3,hS3,XU,aS hsb,aS hmb⟩;have Vm:=Hq (ay yZ hb3);have HJ3:Hid (∀j mm,fT w j mm->fT w3 j mm):=λj mm hj=>ay (HJ2 j mm hj) hb3
 have av9:w.heap.size≠sb:=by have:=aA yZ;omega
 have atf:w.heap.size≠mb:=by have:=aA yZ;omega
 clear hS3 XU hb3 hsb hmb q0 q1 q2 e0 Gt c0 c1 c2 c3 c4 c5 c6 c7 c8 c9;obtain⟨⟨p0,p1,p2,p3,p4,p5,p6⟩,_⟩:=dG Vm;have hpl:=aA Vm;go_wp2_with fail;refine(abj sb mb s0.ids.length s0.l mL (eH s0 mL) s0.ids w3 HMX HW3.bk HW3.si).mono ?_;rintro e w4 ⟨rfl,hS4,hI4,hk4⟩;have vJ:=Hq (HW3.lift hS4 hI4 hk4);have SI:=Hq (hk4.obj Vm (by simp[av9,atf]))
 have HJ4:Hid (∀j mm,fT w j mm->fT w4 j mm):=λj mm hj=>hk4.obj (HJ3 j mm hj) (by
  have h1:=Qn (HJ3 j mm hj) HW3.bk
  have h2:=HW3.si.far (HJ3 j mm hj)
  simp[h1,h2])
 clear hS4 hI4 hk4 p0 p1 p2 p3 p4 p5 p6 hpl HJ2 HJ3;obtain⟨⟨p0,p1,p2,p3,p4,p5,p6⟩,_⟩:=dG SI;have hpl:=aA SI;go_wp2_with fail;refine(afX sb mb s0.ids.length (eH s0 mL) mI (aY s0 mL) w4 hI0 hI1 vJ.bk vJ.si).mono ?_;rintro e w5 ⟨rfl,hb5⟩;have HW5:=Hq (vJ.step hb5);have Kv:=Hq (ay SI hb5);have HJ5:Hid (∀j mm,fT w j mm->fT w5 j mm):=λj mm hj=>ay (HJ4 j mm hj) hb5
 have hhs:(decide (mI < eH s0 mL)||decide (mI∈aY s0 mL))=qH s0 mL mI:=by
  unfold qH;congr 1
  rw [Bool.eq_iff_iff,decide_eq_true_iff,xU]
 rw [hhs];clear hhs hb5 p0 p1 p2 p3 p4 p5 p6 hpl vJ SI HW3 Vm;cases hq:qH s0 mL mI
 case' true=>
  have HQ:=Hq hq
  clear hq
  go_wp2_with fail
  obtain⟨n',A',G',c',kk,l2,Gz,O9,HLEN,HSL,Ws⟩:∃(n':Nd) (A':bH) (G':aV) (c':Nat->Nat) (kk:Nat) (l2:List Int),Hid (pJ w0 w5 wb sb mb kk n' A' G' c' v L (eH s0 mL) l2)/\Hid (l2.Pairwise (· < ·))/\Hid (l2.length<=1000)/\Hid (n'.seen.length=n.seen.length)/\Hid (TT=(dB n' (n'.seen.set i ⟨mF,eH s0 mL,l2⟩),true)):=⟨n,A,G,_,_,_,HW5,Bj.2.2.2.2,Nat.le_trans Bj.2.2.1 Aaa,rfl,HTH HQ⟩
  have eY:=Hq Kv
  have HJW:=Hq HJ5
  clear HTH Pk HTN HGS HGF HQ HW5 Kv HW2 yZ
  obtain⟨c0,c1,c2,c3,c4,c5,c6,c7,c8,c9⟩:=iQ Gz.wk.blk
  have e0:A'.s=some ⟨G'.s,0,none⟩:=by
   exact aaN
  rw [e0,ah HSL] at c6
  obtain⟨⟨p0,p1,p2,p3,p4,p5,p6⟩,_⟩:=dG eY
  have hwl:=aA Gz.wk.blk
  have hBl:=aA eY
  go_upto_region 5 with fail
  have y6:=cell_regrown c6
  have z1:=cell_regrown p1
  clear c0 c1 c2 c3 c4 c5 c6 c7 c8 c9 p0 p1 p2 p3 p4 p5 p6
  refine bE 11 Aab ?_
  show eF _ _ _ _ _ 12 (Array.replicate 12 false) _ _
  refine tk [0,1,2,3,4,5,6,7,8] ?_
  iterate 9 (refine qA (λK hK=>?_);go_simp;refine hK _ ?_;clear hK K)
  refine iN ?_
  clear y6 z1
  refine dz 9 rfl Aab Aad (λx hx=>?_)
  go_simp
  have HX:=Hq (Gz.step hx)
  have HJX:Hid (∀j mm,fT w j mm->fT x j mm):=λj mm hj=>ay (HJW j mm hj) hx
  have Gt:=Hq (vD sb mb kk mF (eH s0 mL) l2 x HLEN O9 HX.bk HX.si)
  clear hx
  refine Gt.mono ?_
  rintro e y ⟨v2,rfl,hrow,hby⟩
  refine⟨hby,?_⟩
  obtain⟨b2,c2,g2,rfl,hW2,hg2,_⟩:=GR.W.of_own (enc:=aW) aQ hrow
  have HY:Hid (WK w0 y wb n' A' G' (newC x.heap.size 5 c') v L):=(HX.wk.recol (c':=newC x.heap.size 5 c') (λz hz=>dW hz)).step hby
  have HI2:=Hq hW2
  have HJY:Hid (∀j mm,fT w j mm->fT y j mm):=λj mm hj=>ay (HJX j mm hj) hby
  have Pb:Hid (∀z∈fp g2 l2,newC x.heap.size 5 c' z=5/\z∉qw G'.i n'.seen):=λz hz=>⟨aS (hg2 z hz).1,λhm=>by
   have h1:=(qh HX.wk.no.s).2 z hm
   have h2:=(hg2 z hz).1
   omega⟩
  clear hrow hby hW2 hg2 Gt HX Gz
  refine tk [10] ?_
  (refine qA (λK hK=>?_);go_simp;refine hK _ ?_;clear hK K)
  refine iN ?_
  refine aT Aab (λx3 hx3=>?_)
  have Vt:=Hq (HY.step hx3)
  have HI3:=Hq (HI2.below hx3)
  have HJ6:Hid (∀j mm,fT w j mm->fT x3 j mm):=λj mm hj=>ay (HJY j mm hj) hx3
  obtain⟨b0,cc0,_,hg0,⟨q0,q1,q2⟩,⟨f0,f1⟩,_⟩:=fP.three Vt.no.s i Aaw
  have f2:x3.frozen? ⟨G'.s,i*3+2,none⟩=false:=by
   exact aaM
  have Pg:=Hq (Vt.seenPut i Aaw ⟨mF,eH s0 mL,l2⟩ b2 c2 g2 HI3 Pb)
  have HJF:Hid (∀j mm,fT w j mm->fT (GR.setW x3 G'.s (i*3) [.int .i64 mF,.int .i64 (eH s0 mL),.slice b2 l2.length c2]) j mm):=λj mm hj=>by
   have h3:=ah HJ6 j mm hj
   have hne:=qb h3 q2
   unfold fT
   rw [GR.setW_other hne]
   exact h3
  clear hx3 HY HI2
  refine aF 11 rfl Aab Aad ?_
  go_simp
  refine wpAny_done Aab ?_
  go_simp
  clear q0 q1 q2 f0 f1 f2
  go_wp2_with fail
  go_ret
  exact⟨Acu,⟨A',_,_,Acv⟩,HJF⟩
 have HQ:=Hq hq;clear hq;obtain⟨⟨p0,p1,p2,p3,p4,p5,p6⟩,_⟩:=dG Kv;have hpl:=aA Kv;have hnd:(aY s0 mL).Nodup:=Bj.2.2.2.2.imp (λh=>Aaa);have HND:=Hq hnd;clear hnd;by_cases hf:(aY s0 mL).length=40
 case' pos=>
  have HF:=Hq hf
  clear hf
  go_wp2_with fail
  refine(HGF w5 sb mb _ A G _ _ _ HND HF HW5).mono ?_
  rintro e w6 ⟨rfl,hb6⟩
  have eY:=Hq (ay Kv hb6)
  have HJW:Hid (∀j mm,fT w j mm->fT w6 j mm):=λj mm hj=>ay (HJ5 j mm hj) hb6
  have jX:Hid (lD n s0 ⟨mK,mF,mT,mI,mL,mk,mN⟩=false):=by
   show lD n s0 ⟨mK,mF,mT,mI,mL,mk,mN⟩=false
   unfold lD;rw [decide_eq_false (by have:=ah HF;dsimp only;omega),Bool.and_false]
  go_wp2_with fail
  obtain⟨n',A',G',c',kk,l2,Gz,O9,HLEN,HSL,Ws⟩:∃(n':Nd) (A':bH) (G':aV) (c':Nat->Nat) (kk:Nat) (l2:List Int),Hid (pJ w0 w6 wb sb mb kk n' A' G' c' v L (eH s0 mL) l2)/\Hid (l2.Pairwise (· < ·))/\Hid (l2.length<=1000)/\Hid (n'.seen.length=n.seen.length)/\Hid (TT=(dB n' (n'.seen.set i ⟨mF,eH s0 mL,l2⟩),false)):=⟨n,A,G,_,_,_,HW5.step hb6,Bj.2.2.2.2,Nat.le_trans Bj.2.2.1 Aaa,rfl,HTN HQ jX⟩
  clear hb6 HTH Pk HTN HGS HGF HQ HW5 Kv HW2 yZ jX HF HND p0 p1 p2 p3 p4 p5 p6 hpl
  obtain⟨c0,c1,c2,c3,c4,c5,c6,c7,c8,c9⟩:=iQ Gz.wk.blk
  have e0:A'.s=some ⟨G'.s,0,none⟩:=by
   exact aaN
  rw [e0,ah HSL] at c6
  obtain⟨⟨p0,p1,p2,p3,p4,p5,p6⟩,_⟩:=dG eY
  have hwl:=aA Gz.wk.blk
  have hBl:=aA eY
  go_upto_region 5 with fail
  have y6:=cell_regrown c6
  have z1:=cell_regrown p1
  clear c0 c1 c2 c3 c4 c5 c6 c7 c8 c9 p0 p1 p2 p3 p4 p5 p6
  refine bE 11 Aab ?_
  show eF _ _ _ _ _ 12 (Array.replicate 12 false) _ _
  refine tk [0,1,2,3,4,5,6,7,8] ?_
  iterate 9 (refine qA (λK hK=>?_);go_simp;refine hK _ ?_;clear hK K)
  refine iN ?_
  clear y6 z1
  refine dz 9 rfl Aab Aad (λx hx=>?_)
  go_simp
  have HX:=Hq (Gz.step hx)
  have HJX:Hid (∀j mm,fT w j mm->fT x j mm):=λj mm hj=>ay (HJW j mm hj) hx
  have Gt:=Hq (vD sb mb kk mF (eH s0 mL) l2 x HLEN O9 HX.bk HX.si)
  clear hx
  refine Gt.mono ?_
  rintro e y ⟨v2,rfl,hrow,hby⟩
  refine⟨hby,?_⟩
  obtain⟨b2,c2,g2,rfl,hW2,hg2,_⟩:=GR.W.of_own (enc:=aW) aQ hrow
  have HY:Hid (WK w0 y wb n' A' G' (newC x.heap.size 5 c') v L):=(HX.wk.recol (c':=newC x.heap.size 5 c') (λz hz=>dW hz)).step hby
  have HI2:=Hq hW2
  have HJY:Hid (∀j mm,fT w j mm->fT y j mm):=λj mm hj=>ay (HJX j mm hj) hby
  have Pb:Hid (∀z∈fp g2 l2,newC x.heap.size 5 c' z=5/\z∉qw G'.i n'.seen):=λz hz=>⟨aS (hg2 z hz).1,λhm=>by
   have h1:=(qh HX.wk.no.s).2 z hm
   have h2:=(hg2 z hz).1
   omega⟩
  clear hrow hby hW2 hg2 Gt HX Gz
  refine tk [10] ?_
  (refine qA (λK hK=>?_);go_simp;refine hK _ ?_;clear hK K)
  refine iN ?_
  refine aT Aab (λx3 hx3=>?_)
  have Vt:=Hq (HY.step hx3)
  have HI3:=Hq (HI2.below hx3)
  have HJ6:Hid (∀j mm,fT w j mm->fT x3 j mm):=λj mm hj=>ay (HJY j mm hj) hx3
  obtain⟨b0,cc0,_,hg0,⟨q0,q1,q2⟩,⟨f0,f1⟩,_⟩:=fP.three Vt.no.s i Aaw
  have f2:x3.frozen? ⟨G'.s,i*3+2,none⟩=false:=by
   exact aaM
  have Pg:=Hq (Vt.seenPut i Aaw ⟨mF,eH s0 mL,l2⟩ b2 c2 g2 HI3 Pb)
  have HJF:Hid (∀j mm,fT w j mm->fT (GR.setW x3 G'.s (i*3) [.int .i64 mF,.int .i64 (eH s0 mL),.slice b2 l2.length c2]) j mm):=λj mm hj=>by
   have h3:=ah HJ6 j mm hj
   have hne:=qb h3 q2
   unfold fT
   rw [GR.setW_other hne]
   exact h3
  clear hx3 HY HI2
  refine aF 11 rfl Aab Aad ?_
  go_simp
  refine wpAny_done Aab ?_
  go_simp
  clear q0 q1 q2 f0 f1 f2
  go_wp2_with fail
  go_ret
  exact⟨Acu,⟨A',_,_,Acv⟩,HJF⟩
 have HF:Hid ((aY s0 mL).length < 40):=by
  have:=Bj.2.2.1;show(aY s0 mL).length < 40
  omega
 clear hf;go_wp2_with fail;refine(HGS w5 sb mb _ A G _ _ _ (by have:=aay.2.2.1;omega) HND HF HW5).mono ?_;rintro e w6 ⟨rfl,⟨A1,G1,c1,Vx⟩,TR⟩;have eY:=Hq (TR w.heap.size _ Aaa atf Kv);have HJW:Hid (∀j mm,fT w j mm->fT w6 j mm):=λj mm hj=>TR j _ (Um (HJ5 j mm hj) HW5.wk.blk) (HW5.si.far (HJ5 j mm hj)) (HJ5 j mm hj)
 have Rb:=Hq Vx;clear Vx TR p0 p1 p2 p3 p4 p5 p6 hpl HGS HGF;cases hr:(dx n.pu mk 0 1 0 mN).2
 case' false=>
  have jX:Hid (lD n s0 ⟨mK,mF,mT,mI,mL,mk,mN⟩=false):=by
   show lD n s0 ⟨mK,mF,mT,mI,mL,mk,mN⟩=false
   unfold lD;rw [hr,Bool.false_and]
  rw [hr] at Rb
  clear hr
  go_wp2_with fail
  obtain⟨n',A',G',c',kk,l2,Gz,O9,HLEN,HSL,Ws⟩:∃(n':Nd) (A':bH) (G':aV) (c':Nat->Nat) (kk:Nat) (l2:List Int),Hid (pJ w0 w6 wb sb mb kk n' A' G' c' v L (eH s0 mL) l2)/\Hid (l2.Pairwise (· < ·))/\Hid (l2.length<=1000)/\Hid (n'.seen.length=n.seen.length)/\Hid (TT=(dB n' (n'.seen.set i ⟨mF,eH s0 mL,l2⟩),false)):=⟨n,A1,G1,c1,_,_,Rb,Bj.2.2.2.2,Nat.le_trans Bj.2.2.1 Aaa,rfl,HTN HQ jX⟩
  clear HTH Pk HTN HQ HW5 Kv HW2 yZ jX HF HND Rb
  obtain⟨c0,c1,c2,c3,c4,c5,c6,c7,c8,c9⟩:=iQ Gz.wk.blk
  have e0:A'.s=some ⟨G'.s,0,none⟩:=by
   exact aaN
  rw [e0,ah HSL] at c6
  obtain⟨⟨p0,p1,p2,p3,p4,p5,p6⟩,_⟩:=dG eY
  have hwl:=aA Gz.wk.blk
  have hBl:=aA eY
  go_upto_region 5 with fail
  have y6:=cell_regrown c6
  have z1:=cell_regrown p1
  clear c0 c1 c2 c3 c4 c5 c6 c7 c8 c9 p0 p1 p2 p3 p4 p5 p6
  refine bE 11 Aab ?_
  show eF _ _ _ _ _ 12 (Array.replicate 12 false) _ _
  refine tk [0,1,2,3,4,5,6,7,8] ?_
  iterate 9 (refine qA (λK hK=>?_);go_simp;refine hK _ ?_;clear hK K)
  refine iN ?_
  clear y6 z1
  refine dz 9 rfl Aab Aad (λx hx=>?_)
  go_simp
  have HX:=Hq (Gz.step hx)
  have HJX:Hid (∀j mm,fT w j mm->fT x j mm):=λj mm hj=>ay (HJW j mm hj) hx
  have Gt:=Hq (vD sb mb kk mF (eH s0 mL) l2 x HLEN O9 HX.bk HX.si)
  clear hx
  refine Gt.mono ?_
  rintro e y ⟨v2,rfl,hrow,hby⟩
  refine⟨hby,?_⟩
  obtain⟨b2,c2,g2,rfl,hW2,hg2,_⟩:=GR.W.of_own (enc:=aW) aQ hrow
  have HY:Hid (WK w0 y wb n' A' G' (newC x.heap.size 5 c') v L):=(HX.wk.recol (c':=newC x.heap.size 5 c') (λz hz=>dW hz)).step hby
  have HI2:=Hq hW2
  have HJY:Hid (∀j mm,fT w j mm->fT y j mm):=λj mm hj=>ay (HJX j mm hj) hby
  have Pb:Hid (∀z∈fp g2 l2,newC x.heap.size 5 c' z=5/\z∉qw G'.i n'.seen):=λz hz=>⟨aS (hg2 z hz).1,λhm=>by
   have h1:=(qh HX.wk.no.s).2 z hm
   have h2:=(hg2 z hz).1
   omega⟩
  clear hrow hby hW2 hg2 Gt HX Gz
  refine tk [10] ?_
  (refine qA (λK hK=>?_);go_simp;refine hK _ ?_;clear hK K)
  refine iN ?_
  refine aT Aab (λx3 hx3=>?_)
  have Vt:=Hq (HY.step hx3)
  have HI3:=Hq (HI2.below hx3)
  have HJ6:Hid (∀j mm,fT w j mm->fT x3 j mm):=λj mm hj=>ay (HJY j mm hj) hx3
  obtain⟨b0,cc0,_,hg0,⟨q0,q1,q2⟩,⟨f0,f1⟩,_⟩:=fP.three Vt.no.s i Aaw
  have f2:x3.frozen? ⟨G'.s,i*3+2,none⟩=false:=by
   exact aaM
  have Pg:=Hq (Vt.seenPut i Aaw ⟨mF,eH s0 mL,l2⟩ b2 c2 g2 HI3 Pb)
  have HJF:Hid (∀j mm,fT w j mm->fT (GR.setW x3 G'.s (i*3) [.int .i64 mF,.int .i64 (eH s0 mL),.slice b2 l2.length c2]) j mm):=λj mm hj=>by
   have h3:=ah HJ6 j mm hj
   have hne:=qb h3 q2
   unfold fT
   rw [GR.setW_other hne]
   exact h3
  clear hx3 HY HI2
  refine aF 11 rfl Aab Aad ?_
  go_simp
  refine wpAny_done Aab ?_
  go_simp
  clear q0 q1 q2 f0 f1 f2
  go_wp2_with fail
  go_ret
  exact⟨Acu,⟨A',_,_,Acv⟩,HJF⟩
 have jX:Hid (lD n s0 ⟨mK,mF,mT,mI,mL,mk,mN⟩=true):=by
  show lD n s0 ⟨mK,mF,mT,mI,mL,mk,mN⟩=true
  unfold lD;rw [hr,decide_eq_true (ah HF),Bool.true_and]
 rw [hr] at Rb;clear hr;have HNI:=Hq (RH HQ).2;go_wp2_with fail
 obtain⟨n',A',G',c',kk,l2,Gz,O9,HLEN,HSL,Ws⟩:∃(n':Nd) (A':bH) (G':aV) (c':Nat->Nat) (kk:Nat) (l2:List Int),Hid (pJ w0 w6 wb sb mb kk n' A' G' c' v L (eH s0 mL) l2)/\Hid (l2.Pairwise (· < ·))/\Hid (l2.length<=1000)/\Hid (n'.seen.length=n.seen.length)/\Hid (TT=(dB n' (n'.seen.set i ⟨mF,eH s0 mL,l2⟩),true)):=⟨setPu n (dx n.pu mk 0 1 0 mN).1,A1,G1,c1,_,kW (aY s0 mL) mI,⟨Rb.wk,Rb.bk,Rb.si.same (λx=>by rw [MV];exact List.mem_cons),Rb.cs,Rb.cm⟩,MR Bj.2.2.2.2 HNI,(by
  show(kW (aY s0 mL) mI).length<=1000
  rw [AL]
  have:=ah HF
  omega),rfl,Pk HQ jX⟩
 clear HTH Pk HTN HQ HW5 Kv HW2 yZ jX HF HND Rb HNI;obtain⟨c0,c1,c2,c3,c4,c5,c6,c7,c8,c9⟩:=iQ Gz.wk.blk
 have e0:A'.s=some ⟨G'.s,0,none⟩:=by
  exact aaN
 rw [e0,ah HSL] at c6;obtain⟨⟨p0,p1,p2,p3,p4,p5,p6⟩,_⟩:=dG eY;have hwl:=aA Gz.wk.blk;have hBl:=aA eY;go_upto_region 5 with fail;have y6:=cell_regrown c6;have z1:=cell_regrown p1;clear c0 c1 c2 c3 c4 c5 c6 c7 c8 c9 p0 p1 p2 p3 p4 p5 p6;refine bE 11 Aab ?_;show eF _ _ _ _ _ 12 (Array.replicate 12 false) _ _
 refine tk [0,1,2,3,4,5,6,7,8] ?_;iterate 9 (refine qA (λK hK=>?_);go_simp;refine hK _ ?_;clear hK K)
 refine iN ?_;clear y6 z1;refine dz 9 rfl Aab Aad (λx hx=>?_);go_simp;have HX:=Hq (Gz.step hx);have HJX:Hid (∀j mm,fT w j mm->fT x j mm):=λj mm hj=>ay (HJW j mm hj) hx
 have Gt:=Hq (vD sb mb kk mF (eH s0 mL) l2 x HLEN O9 HX.bk HX.si);clear hx;refine Gt.mono ?_;rintro e y ⟨v2,rfl,hrow,hby⟩;refine⟨hby,?_⟩;obtain⟨b2,c2,g2,rfl,hW2,hg2,_⟩:=GR.W.of_own (enc:=aW) aQ hrow;have HY:Hid (WK w0 y wb n' A' G' (newC x.heap.size 5 c') v L):=(HX.wk.recol (c':=newC x.heap.size 5 c') (λz hz=>dW hz)).step hby;have HI2:=Hq hW2;have HJY:Hid (∀j mm,fT w j mm->fT y j mm):=λj mm hj=>ay (HJX j mm hj) hby
 have Pb:Hid (∀z∈fp g2 l2,newC x.heap.size 5 c' z=5/\z∉qw G'.i n'.seen):=λz hz=>⟨aS (hg2 z hz).1,λhm=>by
  have h1:=(qh HX.wk.no.s).2 z hm
  have h2:=(hg2 z hz).1
  omega⟩
 clear hrow hby hW2 hg2 Gt HX Gz;refine tk [10] ?_;(refine qA (λK hK=>?_);go_simp;refine hK _ ?_;clear hK K)
 refine iN ?_;refine aT Aab (λx3 hx3=>?_);have Vt:=Hq (HY.step hx3);have HI3:=Hq (HI2.below hx3);have HJ6:Hid (∀j mm,fT w j mm->fT x3 j mm):=λj mm hj=>ay (HJY j mm hj) hx3
 obtain⟨b0,cc0,_,hg0,⟨q0,q1,q2⟩,⟨f0,f1⟩,_⟩:=fP.three Vt.no.s i Aaw
 have f2:x3.frozen? ⟨G'.s,i*3+2,none⟩=false:=by
  exact aaM
 have Pg:=Hq (Vt.seenPut i Aaw ⟨mF,eH s0 mL,l2⟩ b2 c2 g2 HI3 Pb)
 have HJF:Hid (∀j mm,fT w j mm->fT (GR.setW x3 G'.s (i*3) [.int .i64 mF,.int .i64 (eH s0 mL),.slice b2 l2.length c2]) j mm):=λj mm hj=>by
  have h3:=ah HJ6 j mm hj
  have hne:=qb h3 q2
  unfold fT
  rw [GR.setW_other hne]
  exact h3
 clear hx3 HY HI2;refine aF 11 rfl Aab Aad ?_;go_simp;refine wpAny_done Aab ?_;go_simp;clear q0 q1 q2 f0 f1 f2;go_wp2_with fail;go_ret;exact⟨Acu,⟨A',_,_,Acv⟩,HJF⟩):P:=h
theorem ao0.Kr178(h:P:=by
 obtain⟨c0,c1,c2,c3,c4,c5,c6,c7,c8,c9⟩:=iQ HW1.wk.blk;obtain⟨⟨p0,p1,p2,p3,p4,p5,p6⟩,_⟩:=dG xD;obtain⟨⟨d0,d1⟩,_⟩:=lM HW1.bk;have hlen:=awW HW1.si hnd;have hwl:=aA HW.wk.blk;have hsl:=aA HW.bk;have hne:wb≠w.heap.size:=Aaa
 have hne2:sb≠w.heap.size:=Aaa
 clear h;go_enter Tryz.func198,Tryz.ntmps198
 go_upto_region 1 with fail;have y4:=cell_regrown c4;have z3:=cell_regrown p3;have z5:=cell_regrown p5;have z6:=cell_regrown p6;have x1:=cell_regrown d1;clear c0 c1 c2 c3 c4 c5 c6 c7 c8 c9 p0 p1 p2 p3 p4 p5 p6 d0 d1;exact Kr61):P:=h
theorem WR(h:P:=by
 have Sw:=Hq (show∀b,(v3).ownBlock=some b->b≠x1.heap.size from λb hb=>(Qb b hb).elim (λh=>IJ b h) (λh=>by have:=aA wm;omega));exact Kr179):P:=h
theorem ao1.Kr179(h:P:=by
 open aqK in exact adD):P:=h
theorem ao2.Kr179(h:P:=by
 open al0 in exact Rf):P:=h
theorem ao3.Kr179(h:P:=by
 open al1 in exact Rf):P:=h
theorem WU(h:P:=by
 have Sw:=Hq (show∀b,(v3).ownBlock=some b->b≠x2.heap.size from λb hb=>(Qb b hb).elim (λh=>IJ b h) (λh=>by have:=aA wm;omega));exact Kr180):P:=h
theorem ao4.Kr180(h:P:=by
 open aqJ in exact adD):P:=h
theorem ao5.Kr180(h:P:=by
 open alY in exact Rf):P:=h
theorem ao6.Kr180(h:P:=by
 open alZ in exact Rf):P:=h
theorem ac3(h:P:=by
 obtain⟨⟨p0,p1,p2,p3,p4,p5,p6,p7,p8,p9,mP⟩,_⟩:=aU Pe;have hpl:=aA Pe;go_wp2_with fail;refine(tO z HZ).mono ?_;rintro e w1 ⟨rfl,hb1⟩;have HZ1:=Hq (HZ.step hb1);clear hb1 tO p0 p1 p2 p3 p4 p5 p6 p7 p8 p9 mP HZ Pe;exact Kr181):P:=h
theorem ao7.Kr181(h:P:=by
 obtain⟨g,hAr,hgw,hgl,⟨q0,q1,q2,q3⟩,qf⟩:=HZ1.reqRow i hil;obtain⟨d0,d1,d2,d3,d4,d5,d6,d7,d8,d9⟩:=iQ HZ1.blk;rw [hAr] at d8;have awV:=aA HZ1.blk;have awp:(i:Int) < (n.reqs.length:Int):=Aaa
 rw [hs] at q3;go_upto_region 7 with fail;refine wp_at (λW hW=>?_);obtain rfl:=hW;exact Kr81):P:=h
theorem ao8.Kr181(h:P:=by
 go_wp2_with fail;go_ret;exact⟨rfl,A,G,c,HZ1⟩):P:=h
theorem ac4(h:P:=by
 refine bE 20 Aab ?_;show eF _ _ _ _ _ 23 (Array.replicate 23 false) _ _
 refine tk [0,1,2,3,4,5,6,7,8,9,10,11,12,13,14,15,16] ?_;iterate 17 (refine qA (λK hK=>?_);go_simp;refine hK _ ?_;clear hK K)
 refine iN ?_;exact Kr182):P:=h
theorem ao9.Kr182(h:P:=by
 clear y1 y4 z2 z3;refine dz 17 rfl Aab Aad (λx hx=>?_);go_simp;have kE:=Hq ((aj w (.cells (bY K no k nn mK mF mT mI mL mk mN) 34)).trans (hx.mono Aac));clear hx;refine(HMI x kE).mono ?_;rintro e y ⟨a,cp,g,hg,rfl,hp,hby⟩;refine⟨hby,?_⟩;have yY:=Hq (kE.trans (hby.mono kE.size));have HST:=Hq (λz (hz:Ge y z)=>Sm (cp:=cp) HW (yY.trans (hz.mono yY.size)) (Nat.le_trans kE.size hg) (hp.below hz));clear hby hg hp HMI;refine tk [18,19] ?_;iterate 2 (refine qA (λK hK=>?_);go_simp;refine hK _ ?_;clear hK K)
 refine iN ?_;refine aT Aab (λz hz=>?_);refine aF 20 rfl Aab Aad ?_;go_simp;refine(HST z hz).mono ?_;rintro e z2 ⟨rfl,A',G',c',hZ⟩;have HZ:=Hq hZ;clear hZ HST hz;open ap7 in exact ado):P:=h
theorem apa.Kr182(h:P:=by
 clear y4 z3 z5 z6 x1;refine dz 17 rfl Aab Aad (λx hx=>?_);go_simp;have kE:=Hq ((aj w (.cells (bJ mK mF mT mI mL mk mN) 32)).trans (hx.mono Aac));have HXP:=Hq (ay xD hx);clear hx;refine(HGN x kE).mono ?_;rintro e y ⟨a,cp,g,hg,rfl,hp,hby⟩;refine⟨hby,?_⟩;have yY:=Hq (kE.trans (hby.mono kE.size));have HYP:=Hq (ay HXP hby);have HST:=Hq (λz (hz:Ge y z)=>Sl (cp:=cp) HW.wk (yY.trans (hz.mono yY.size)) (Nat.le_trans kE.size hg) (hp.below hz));clear hby hg hp HGN;refine tk [18,19] ?_;iterate 2 (refine qA (λK hK=>?_);go_simp;refine hK _ ?_;clear hK K)
 refine iN ?_;refine aT Aab (λz hz=>?_);have nG:=Hq (yY.trans (hz.mono yY.size));have HZP:=Hq (ay HYP hz);refine aF 20 rfl Aab Aad ?_;go_simp;refine(HST z hz).mono ?_;rintro e z2 ⟨rfl,A',G',c',hZ,hko,hcc⟩;have HZ:=Hq (HW.settled nG hZ hko hcc);have yZ:=Hq (hko w.heap.size _ Aaa HZP);have HKO:Hid (∀j o,j≠wb->w.heap[j]?=some o->z2.heap[j]?=some o):=λj o h1 h2=>hko j o h1 (ay h2 nG)
 clear hZ hko hcc HST hz nG HZP HYP yY HXP kE;open ap6 in exact ado):P:=h
theorem ac5(h:P:=by
 unfold fq;have H9:=Hq h9;clear h9;have jP:=Hq (h.nine hB);have HGS:=Hq (h.s);have hc4:c G.s=4:=h.c4 G.s (dQ Aaa);clear h;go_enter Tryz.func119,Tryz.ntmps119
 go_upto_region 1 with fail;refine wp_at (λW0 hW=>?_);exact Kr183):P:=h
theorem apb.Kr183(h:P:=by
 obtain⟨e1,e2,e3,e4⟩:=fC w (.cells (dH n (⟨a_k,iX,dR,dY,fU,aJ,bq,aO,aK,aP⟩:bH)) 30) (.cells (bJ mK mF mT mI mL mk mN) 32) (.cells gu 30);open aki in exact arP):P:=h
theorem apc.Kr183(h:P:=by
 obtain⟨e1,e2,e3,e4⟩:=fC w (.cells (dH n (⟨a_k,(some ⟨gp,0,none⟩),dR,dY,fU,aJ,bq,aO,aK,aP⟩:bH)) 30) (.cells (bJ mK mF mT mI mL mk mN) 32) (.cells gu 30);open akj in exact arP):P:=h
theorem WV(h:P:=by
 rcases ho.2 with⟨_,hy⟩|⟨g,cp,cur,hx,hbg,hgg,hnc,hcm,hcs,htk⟩
 .omega
 simp only[Value.slice.injEq] at hx;obtain⟨rfl,_,rfl⟩:=hx;exact Kr184):P:=h
theorem apd.Kr184(h:P:=by
 by_cases hroom:l.length+1<=cap
 .refine(Jz g cap i l q vb w cur hl hi2 hroom hcm (hne g rfl) hgg hcs htk hv).mono ?_;rintro e w' ⟨rfl,hb,hgr⟩;have hcl:(l.length+1)*4<=cur.toList.length:=Adj
  refine⟨some ⟨g,0,none⟩,cap,by rw [hlen],?_,hgr,λx hx=> .inl hx⟩;rw [hlen];refine⟨hfl,.inr ⟨g,cap,_,rfl,hbg,hb,hroom,hcm,?_,?_⟩⟩
  .rw [List.size_toArray,Zr _ _ _ _ hi2 hcl,show cur.toList.length=cur.size from Array.length_toList,hcs]
  .exact UF cur.toList l i q hi2 hcl htk
 .refine(MZ g cap i l q vb w cur hl hi2 hnc Aaa hgg htk hv).mono ?_;rintro e w' ⟨G,cur',rfl,hG,hGm,hb,hs,ht,hgr⟩;refine⟨some ⟨w.heap.size,0,none⟩,G,by rw [hlen],?_,⟨hgr.os,hgr.tape,hgr.output,hgr.size,λk hk _=>hgr.block k hk Aac⟩,λx hx=> .inr ?_⟩
  .rw [hlen];exact⟨hfl,.inr ⟨w.heap.size,G,cur',rfl,hB,hb,hG,hGm,hs,ht⟩⟩
  .have:w.heap.size=x:=Abo
   omega):P:=h
theorem ape.Kr184(h:P:=by
 refine(Tz g cap l w cur h2 hl hnc hcm hgg hcs htk).mono ?_;rintro e w' ⟨rfl,hb,hgr⟩;have hcl:l.length*4<=cur.toList.length:=Adj
 refine⟨some ⟨g,0,none⟩,cap,by rw [hlen],?_,hgr,λx hx=> .inl hx⟩;rw [hlen];refine⟨by rw [gT,hlen],.inr ⟨g,cap,_,rfl,hbg,hb,Aaa,hcm,?_,?_⟩⟩
 .rw [List.size_toArray,Zu _ _ h2 hcl,show cur.toList.length=cur.size from Array.length_toList,hcs]
 .exact UH cur.toList l h2 hcl):P:=h
theorem apf.Kr184(h:P:=by
 have hce:cur=(GR.flat aR l++cur.toList.drop (l.length*4)).toArray:=by
  rw [<-htk,List.take_append_drop,Array.toArray_toList]
 have hlr:l.length*4+(cur.toList.drop (l.length*4)).length=cap*4:=by
  rw [List.length_drop,show cur.toList.length=cur.size from Array.length_toList,hcs];omega
 rw [hce] at hgg;have hlen:(l.eraseIdx (oz l m)).length=l.length - 1:=List.length_eraseIdx_of_lt h;refine(PN g cap l _ B (oz l m) m w hl h hno hnc hcm hlr hB hgg hix).mono ?_;rintro e w' ⟨rfl,⟨r2,hS2,hr2⟩,hgr⟩;refine⟨some ⟨g,0,none⟩,cap,by rw [hlen],?_,hgr,λx hx=>hx⟩;rw [hlen];refine⟨by rw [mh,hlen],.inr ⟨g,cap,_,rfl,hbg,hS2,Aaa,hcm,?_,?_⟩⟩
 .rw [List.size_toArray,List.length_append,mh,hlen];exact hr2
 .exact List.take_left' (by rw [mh,hlen])):P:=h
theorem WW(h:P:=by
 iterate 2 (refine tY (λK hK=>?_);go_simp;refine hK _ ?_;clear hK K)
 refine iN ?_;refine eX Aab (λz hz=>?_);exact Kr185):P:=h
theorem apg.Kr185(h:P:=by
 have nG:=Hq (gZ.trans (hz.mono gZ.size));have HOZ:=Hq (aI HOW hz);clear hz gZ HOW;obtain⟨⟨c0,c1,c2,c3,c4,c5,c6,c7,c8,c9,c10⟩,_⟩:=aU HOZ;have hzl:=cu HOZ;have ae5:=Hq (own_below HOWN nG);have aaf:=Hq (fO.trans (nG.mono fO.size));have hLl:=HS.1;go_simp;go_wp2_with (at_builtin;refine wpList_append_own _ rfl _ _ 55 rfl w.heap.size 34 i0 (.agg (bY 0 0 ByteArray.empty 0 0 0 0 0 0 ByteArray.empty 0)) 11 104 Tryz.underlying55 hi hz0 hz1 hz2 rfl Aae _ _ _ rfl (ae5.alloc _) ⟨z.heap.size,0,none⟩ 1 1 (mY ⟨K,no,k,n,⟨mK,mF,mT,mI,mL,mk,mN⟩⟩) rfl rfl ?c1 ?c2 ?c3 ?c4 ?c5 ?_)
 case c1=>exact World.news_of_block (heap_alloc_new z _)
 case c2=>exact LX _
 case c3=>unfold maxLen;omega
 case c4=>omega
 case c5=>have:=aaf.size;simp;omega
 intro v' w6 hown' hgrow _;have KD:=Hq (GR.below_append aaf aaf.size ae5 hgrow);have ag8:Hid (w6.ownsRow w.heap.size 34 11 v' (L++[(⟨K,no,k,n,⟨mK,mF,mT,mI,mL,mk,mN⟩⟩:gM)]).length (GR.flat mY (L++[(⟨K,no,k,n,⟨mK,mF,mT,mI,mL,mk,mN⟩⟩:gM)]))):=by rw [List.length_append,wE];exact hown'
 clear hgrow hown' ae5 aaf fO HOWN nG HOZ c0 c1 c2 c3 c4 c5 c6 c7 c8 c9 c10;go_wp2_with fail;go_roundw
 case rel=>exact⟨E,_,rfl,ag8,KD,.inl ⟨hsm,gG⟩⟩
 case measure=>simp[intOf];omega):P:=h
theorem aph.Kr185(h:P:=by
 have Gw:=Hq (HS.below hz hg);clear hz x0 x1 y0 y1 y2 y3 y4 y5 y6 y7 y8 y9 y10 HS lS;go_simp;cases hbo:bo
 .have hno:OK=false:=by rw [Bool.eq_false_iff];intro hy;have:=(HG.1 hy).2.2;rw [hbo] at this;cases this
  subst hbo;go_wp2_with fail;refine(HF _ Gw.rd).mono ?_;rintro e w9 ⟨rfl,rfl⟩;go_wp2_with fail;exact⟨rfl,.inr ⟨hno,_,rfl⟩,Gw.keep⟩
 .have hyes:OK=true:=HG.2 ⟨HES,HYE.2,hbo⟩;subst hbo;have auk:=Hq hyes;clear hyes;have hzo:=cu Gw.op;have hlo:=Gw.lo;obtain⟨⟨c0,c1,c2,c3,c4,c5,c6,c7,c8,c9,c10⟩,_⟩:=aU Gw.op;obtain⟨⟨d0,d1,d2,d3,d4,d5,d6,d7,d8,d9,d10⟩,f0,f1,f2,f3,f4,f5,f6,f7,f8,f9,f10⟩:=aU Gw.res;go_wp2_with fail;refine iJ (λW' hW'=>?_);obtain⟨⟨r0,r1,r2,r3,r4,r5,r6,r7,r8,r9,Zm⟩,_⟩:=aU (show W'.heap[w.heap.size]?=some (.cells (bY (s[0].toNat:Int) N1 TX N2 mK mF mT mI mL mk mN) 34 (0,0)) by rw [hW'];exact lZ Gw.res)
  have hKK:dJ g w W':=by
   rw [hW'];exact(((((((((((Gw.keep.setNew (Nat.le_refl _)).setNew (Nat.le_refl _)).setNew (Nat.le_refl _)).setNew (Nat.le_refl _)).setNew (Nat.le_refl _)).setNew (Nat.le_refl _)).setNew (Nat.le_refl _)).setNew (Nat.le_refl _)).setNew (Nat.le_refl _)).setNew (Nat.le_refl _)).setNew (Nat.le_refl _))
  exact bodyPost_ret (v:= .agg (bY (s[0].toNat:Int) N1 TX N2 mK mF mT mI mL mk mN)) (by simp[results,Tryz.results185,go_sem,r0,r1,r2,r3,r4,r5,r6,r7,r8,r9,Zm]) rfl ⟨.inl ⟨auk,rfl⟩,hKK⟩):P:=h
theorem apj.Kr185(h:P:=by
 have HZ:=Hq ((aj w (.cells (bJ mK mF mT mI mL mk mN) 32)).trans (hz.mono Aac));clear hz y0 y1 y2 y3 y4 y5 y6 y7 y8 z1 z2 Pk;go_simp;go_wp2_with fail;go_ret;exact⟨rfl,HZ⟩):P:=h
theorem Ll(h:P:=by
 have y0:=cell_regrown p0;have y1:=cell_regrown p1;have y2:=cell_regrown p2;have y3:=cell_regrown p3;exact Kr186):P:=h
theorem apk.Kr186(h:P:=by
 have y4:=cell_regrown c4;clear HO p0 p1 p2 p3 c4;open avy in exact Pp):P:=h
theorem apl.Kr186(h:P:=by
 have y4:=cell_regrown p4;have y5:=cell_regrown p5;have y6:=cell_regrown p6;exact Kr51):P:=h
theorem apm.Kr186(h:P:=by
 clear HO p0 p1 p2 p3;open avA in exact Pp):P:=h
theorem apn.Kr186(h:P:=by
 clear HO p0 p1 p2 p3;open avz in exact Pp):P:=h
theorem apo.Kr186(h:P:=by
 have y4:=cell_regrown c4;clear HO p0 p1 p2 p3 c4;open avE in exact Pp):P:=h
theorem ac6(h:P:=by
 rw [<-hW] at e1 e2 e3;have HN:=Hq e1;have HR:=Hq e2;have HB0:=Hq e3;have Kt:=Hq (jP.kc (k:=9) (KC.of_below e3) Aaa);clear hW e1 e2 e3 jP hbw0 hlo;obtain⟨c0,c1,c2,c3,c4,c5,c6,c7,c8⟩:=nine HN;have hnl:=aA HN;exact Kr187):P:=h
theorem apq.Kr187(h:P:=by
 have oZ:=Hq HR;open ai8 in exact Xf):P:=h
theorem apr.Kr187(h:P:=by
 go_wp2_with fail;refine(K7 W0 Kt.at.r).mono ?_;open aqr in exact ady):P:=h
theorem WX(h:P:=by
 have tO:=Hq (λw1 (hw:WK w0 w1 wb n A G c v L)=>Kr w0 w1 wb n A G c v L o.no hok h0 h1 hw);rw [hf] at tO;have hlen:=(iM hok).2.1;exact Kr188):P:=h
theorem aps.Kr188(h:P:=by
 clear hR h0 h1 hok hf hgd aa4;generalize dP n.reqs o.no=i at *;open avn in exact Po):P:=h
theorem apt.Kr188(h:P:=by
 generalize dP n.reqs o.no=i at *;generalize DZ n.reqs[i] o.k o.n=SQ at *;clear hR h0 h1 hok hf hgd;open avk in exact Po):P:=h
theorem apu.Kr188(h:P:=by
 clear hR h0 h1 hok hf hgd aa4;generalize dP n.reqs o.no=i at *;have HUN:=Hq (λw1 (hw:WK w0 w1 wb n A G c v L)=>MJ A.p A.cp n.pu n.reqs[i].k n.reqs[i].n E w1 hz.p hz.pk (hz.rk _ (List.getElem_mem hil)) hw.no.p.at (he.below hw.keep));unfold jD at HUN;generalize dx n.pu n.reqs[i].k 0 1 (-1) n.reqs[i].n=r at *;open avh in exact Po):P:=h
theorem ac7(h:P:=by
 have k8:=(nine qp).2.2.2.2.2.2.2.2;have kf8:=au qp 8;clear hrun ET Mh;go_upto_region 20 with(at_builtin;refine fZ rfl (.tmp 118) (.tmp 121) 28 rfl _ _ rfl rfl _ _ (SN _) ?_)
 refine wp_at (λW9 P5=>?_);exact Kr189):P:=h
theorem apv.Kr189(h:P:=by
 have vZ:Hid (W9.heap[w.heap.size]?=some (.cells (fK n.id n.par a_k n.kids.length aJ n.next av RL.length cv dR n.out.length aO dY n.seen.length aK IH.no (some ⟨g8,0,none⟩) n.reqs.length CV) 30 (0,0))):=by rw [P5];exact bC qp 8 _
 have kJ:Hid (W9.heap[w.heap.size+2]?=some (.cells gu 30 (0,0))):=by rw [P5];exact gK _ Aaa xG
 have IV:Hid (W9.heap[W1.heap.size]?=some (.cells (dX no k nn 0) 97 (0,0))):=by rw [P5];exact gK _ Aaa aau
 open aoo in exact acU):P:=h
theorem apw.Kr189(h:P:=by
 have vZ:Hid (W9.heap[w.heap.size]?=some (.cells (fK n.id n.par a_k n.kids.length aJ n.next (some ⟨gp,0,none⟩) n.pu.length bq dR n.out.length aO dY n.seen.length aK IH.no (some ⟨g8,0,none⟩) n.reqs.length CV) 30 (0,0))):=by rw [P5];exact bC qp 8 _
 have kJ:Hid (W9.heap[w.heap.size+2]?=some (.cells gu 30 (0,0))):=by rw [P5];exact gK _ Aaa xG
 have IV:Hid (W9.heap[W1.heap.size]?=some (.cells (dX no k nn 1) 97 (0,0))):=by rw [P5];exact gK _ Aaa aau
 open aop in exact acU):P:=h
theorem ac8(h:P:=by
 obtain⟨rfl,hge⟩:=hcut;have Bp:=Hq (ay zq hge);have xE:=Hq (ay K8 hge);have SL:=Hq (ay afa hge);have jW:=Hq (pE.trans (hge.mono pE.size));have HA5:=Hq (GR.At.below HA4 hge);exact Kr190):P:=h
theorem apx.Kr190(h:P:=by
 skip
 open anP in exact acG):P:=h
theorem apy.Kr190(h:P:=by
 have Kv:=Hq (SI.below hge);clear SI;open anQ in exact acG):P:=h
theorem ac9(h:P:=by
 have hblk:V.heap[wr.heap.size]?=some (.cells (iL pk pm pf ps) 143 (0,0)):=by rw [hV];exact heap_alloc_new wr _
 exact Kr191):P:=h
theorem apz.Kr191(h:P:=by
 have hPV:=HP.below hbV;have SK:=Hq hPV;have Ey:=Hq hblk;have HVS:=Hq (show V.heap.size=wr.heap.size+1 by rw [hV];simp);have uR:=Hq (fO.trans (hbV.mono fO.size));obtain⟨⟨p0,p1,p2,p3⟩,_⟩:=fJ hblk;obtain⟨⟨n0,n1⟩,f0,f1⟩:=lM hPV.blk
 have HRW:=Hq (show V.ownsRow w.heap.size 9 1 (.slice aa k cc) k (((l.take k).map (·.k)).map Value.string) by
  have:=hPV.row
  rw [List.length_map,List.length_take,Nat.min_eq_left hk] at this
  exact this)
 have HGR:=Hq (show∀w2:World,((V.alloc (.cells #[.string pk] 9)).drew).grownBy w2 (Value.slice aa k cc).ownBlock->
  w2.heap[w1.heap.size+1]?=some (.cells #[.slice aa k cc,.map (some w1.heap.size)] 306 (0,0))/\w2.heap[w1.heap.size]?=V.heap[w1.heap.size]?/\w2.heap[wr.heap.size]?=V.heap[wr.heap.size]?/\Below w.heap.size V w2 by
  intro w2 hg
  have hb:∀q,q < V.heap.size->(Value.slice aa k cc).ownBlock≠some q->w2.heap[q]?=V.heap[q]?:=λq hq hne=>by
   rw [hg.block q (by show q < (V.alloc _).heap.size;simp;omega) (Ne.symm hne)]
   exact Below.heap_alloc V _ _ hq
  obtain⟨es,clock,hmap⟩:=hPV.map.blk
  refine⟨?_,hb _ hPV.map.lt (wN HRW hmap),hb _ (Fo.lt_of_blk hblk) (own_ne HRW hblk Aae),?_⟩
  .rw [hb _ (Fo.lt_of_blk hPV.blk) (own_ne (ah HRW) hPV.blk Aae)];exact hPV.blk
  .refine⟨hg.os,hg.tape,hg.output,Nat.le_trans (by show V.heap.size<=(V.alloc _).heap.size;simp) hg.size,λq hq=>hb q (by have:=uR.size;omega) (λe=>?_)⟩;have:=HRW.lt _ e
   omega)
 have n2:(V.alloc (.cells #[.string pk] 9)).cell? ⟨w1.heap.size+1,0,none⟩=some (.slice aa k cc):=by rw [World.cell?_alloc_lt _ _ _ (Fo.lt_of_blk hPV.blk)];exact n0
 clear hblk hbV hPV hV c0 c1 c2 c3 n1 f1;go_region_law (refine step_append_lies _ rfl (.tmp 24) (.tmp 27) 50 rfl w.heap.size 9 i0 (.string ⟨#[]⟩) 1 16 Tryz.underlying50 hi hz0 hz1 hz2 rfl Aae (.slice aa k cc) k (((l.take k).map (·.k)).map Value.string) Aak (HRW.alloc _).drew ⟨V.heap.size,0,none⟩ 1 1 [.string pk] Aak rfl (World.news_of_block (w:=(V.alloc (.cells #[.string pk] 9)).drew) (heap_alloc_new V _)) (λu hu=>by rw [List.mem_singleton.1 hu];rfl) Aaa Aah Aaa (by have:=uR.size;simp;omega) (V.heap.size+1) Aac ?_;intro g' cap' w2 hown hgrow hat hlt2;have hK2:=ah HGR w2 hgrow;have HOW:=Hq hown;clear hown hgrow hat hlt2;have HM2:=Hq hK2.1;have HX2:=Hq hK2;obtain⟨⟨y0,y1⟩,z0,z1⟩:=lM hK2.1;clear hK2 y1 z1)
 all_goals
  go_upto_region 8 with fail
  refine Fo.wp_at (λV3 hV3=>?_)
  obtain⟨hx1,hx2,hx3,hx4⟩:=ah HX2
  have axD:w1.heap.size+1 < wr.heap.size:=Fo.lt_of_blk HP.blk
  have hblk3:V3.heap[w1.heap.size+1]?=some (.cells #[.slice (some ⟨g',0,none⟩) (k+1) cap',.map (some w1.heap.size)] 306 (0,0)):=by rw [hV3];exact Fo.blk_set hx1 0 _
  have atx:V3.heap[wr.heap.size]?=some (.cells (iL pk pm pf ps) 143 (0,0)):=by
   rw [hV3,Fo.one_other rfl Aaa,hx3];exact Ey
  have Yg:iq V3 w1.heap.size k (aG (l.take k)):=SK.map.kept (by rw [hV3,Fo.one_other rfl Aaa,hx2])
  have hrow3:V3.ownsRow w.heap.size 9 1 (.slice (some ⟨g',0,none⟩) (k+1) cap') (k+1) (((l.take k).map (·.k)).map Value.string++[.string pk]):=by
   rw [hV3];exact HOW.kept (w':=w2.setCell ⟨w1.heap.size+1,0,none⟩ _) (row:=some (w1.heap.size+1)) ⟨rfl,rfl,rfl,by rw [Fo.setCell_size];exact Nat.le_refl _,λq _ hne=>Fo.one_other rfl (λe=>hne Aan)⟩ (.inr (own_ne HOW hx1 Aae))
  have hkeys:(l.take (k+1)).map (·.k)=(l.take k).map (·.k)++[pk]:=by rw [ah Q8];simp
  have auf:=Hq (show PM V3 w.heap.size (w1.heap.size+1) w1.heap.size k (.slice (some ⟨g',0,none⟩) (k+1) cap') ((l.take (k+1)).map (·.k)) (aG (l.take k)) by
   refine⟨hblk3,?_,Yg,HP.lop,HP.lom⟩
   rw [hkeys,List.map_append,List.length_append,List.length_map,List.length_take,Nat.min_eq_left hk]
   exact hrow3)
  have HB3:=Hq (show aX w V3 by rw [hV3];exact(uR.trans hx4).setCell (p:=⟨w1.heap.size+1,0,none⟩) HP.lop _)
  have ae7:=Hq (RJ (w1.heap.size+1) w1.heap.size k _ (aG (l.take k)) ⟨pk,pm,pf,ps⟩ V3 hkk Aah hblk3 Yg)
  obtain⟨⟨r0,r1,r2,r3⟩,_⟩:=fJ atx
  clear hx1 hx2 hx3 hx4 hblk3 atx Yg hrow3 hkeys hV3 y0 z0 n0 n2 p0 p1 p2 p3 f0
  go_wp2_with fail
  refine ae7.mono ?_
  rintro e w5 ⟨rfl,hm5,hk5⟩
  have Kv:=Hq (auf.turned hk5 hm5)
  have jW:=Hq (HB3.trans (AQ hk5 HP.lom HB3.size))
  clear hm5 hk5 r0 r1 r2 r3
  go_wp2_with fail
  go_roundw
  case rel=>
   have h:=ah Kv;rw [ah HUP] at h;exact⟨k+1,_,_,Aaa,Aai,h,jW⟩
  case measure=>simp[intOf];omega):P:=h
theorem apA.Kr191(h:P:=by
 have uR:=Hq (show aX w V by rw [hV];exact fO.alloc fO.size _);have hgV:=Fo.lt_of_blk hblk;obtain⟨⟨p0,p1,p2,p3⟩,_⟩:=fJ hblk;exact Kr32):P:=h
theorem ada(h:P:=by
 refine wp_at (λW1 hW1=>?_);have HW1:Hid (W1.heap[wr.heap.size]?=some (.cells #[.int .i64 fr,.int .i64 lo,.slice b ids.length c] 90 (0,0))):=Acd
 exact Kr192):P:=h
theorem apB.Kr192(h:P:=by
 open aiE in exact aaI):P:=h
theorem apC.Kr192(h:P:=by
 have hbw:aX wr W1:=by rw [hW1];exact aj wr _
 have agQ:=Hq (kE.trans (hbw.mono kE.size));have HI1:=Hq (GR.At.below HI hbw);have p1:=(hbw.cell (p:=⟨g2,off2+k,none⟩) af2).trans p0;have tN:=Hq (fO.trans (hbw.mono fO.size));clear hW1 hbw q0 q1 q2 p0 HI;obtain⟨d0,d1,d2⟩:=three HW1;have m0:=cell_grown' d0;have m1:=cell_grown' d1;have m2:=cell_grown' d2;have m3:=cell_grown' p1;by_cases h1:fr=y
 case' neg=>
  have hb1:(fr != y)=true:=Abd
  have HP:=Hq (show TT=false by rw [ah HD,decide_eq_false (ah EB h1)];rfl)
  clear h1 HST EB HX2
  refine wp_region_quiet_below Aab Aab ?_
  repeat (first|go_big_quiet_step (fail)|quiet_step (fail))
  refine wpQuiet_nil ?_
  intro _ hw'
  obtain⟨⟨dq,osq⟩,hw''⟩:=hw'
  subst hw''
  go_wp2_with fail
  go_ret
  exact⟨aD HP.symm,tN.trans ((below_regrown _ dq osq).mono tN.size)⟩
 have hb1:(fr != y)=false:=Abd
 cases h2:uh ⟨fr,lo,ids⟩
 case' false=>
  have HP:=Hq (show TT=false by rw [ah HD,ah HX2 h2];simp)
  have cS:=aeR ⟨fr,lo,ids⟩ b c false W1 EX HI1 h2
  clear h1 HST EB HX2
  refine wp_region_quiet_below Aab Aab ?_
  repeat (first|go_big_quiet_step ((first|(go_at_call 132;exact cS _ _)))|quiet_step ((first|(go_at_call 132;exact cS _ _))))
  refine wpQuiet_nil ?_
  intro _ hw'
  obtain⟨⟨dq,osq⟩,hw''⟩:=hw'
  subst hw''
  go_wp2_with fail
  go_ret
  exact⟨aD HP.symm,tN.trans ((below_regrown _ dq osq).mono tN.size)⟩
 have HG:=Hq (HST h1 h2);have cS:=aeR ⟨fr,lo,ids⟩ b c true W1 EX HI1 h2;clear h1 HST EB HX2;refine wp_region_quiet_below Aab Aab ?_;repeat (first|go_big_quiet_step ((first|(go_at_call 132;exact cS _ _)))|quiet_step ((first|(go_at_call 132;exact cS _ _))))
 refine wpQuiet_nil ?_;intro _ hw';obtain⟨⟨dq,osq⟩,hw''⟩:=hw';subst hw'';go_wp2_with fail;go_roundw
 case rel=>exact⟨k+1,Aaa,Aai,HG.1,HG.2,agQ.trans ((below_regrown _ dq osq).mono agQ.size)⟩
 case measure=>simp[intOf];omega):P:=h
theorem adb(h:P:=by
 obtain⟨rfl,e4,fH⟩:=hcut;rename_i wz _ _ _
 have nG:=Hq (vI.trans (fH.below (B:=w.heap.size) (λx hx=>Aaj) vI.size));have HLZ:=Hq (HL6.keeps fH (λx hx=>Aaj));exact Kr193):P:=h
theorem apD.Kr193(h:P:=by
 skip
 obtain⟨x0,x1,x2,x3,x4,x5,x6,x7,x8⟩:=nine e4;clear e4 fH;go_wp2_with fail;refine bodyPost_ret (v:= .tuple #[.agg (fK n.id n.par a_k n.kids.length aJ n.next (some ⟨gp,0,none⟩) n.pu.length bq dR n.out.length aO dY n.seen.length aK n.old (some ⟨gv,0,none⟩) (n.reqs.length+1) vc),.int .i64 1]) Abl rfl ?_;rw [ah HK];refine⟨⟨a_k,(some ⟨gp,0,none⟩),dR,dY,(some ⟨gv,0,none⟩),aJ,bq,aO,aK,vc⟩,?_,λW'' ho=>?_,nG.mono hB,Apart.of_below nG⟩
 .simp[fI,dH,dS,ah TI]
 .exact asE):P:=h
theorem apE.Kr193(h:P:=by
 have Pe:=Hq (V7.keeps fH (λx hx=>Aaj));obtain⟨x0,x1,x2,x3,x4,x5,x6,x7,x8⟩:=nine e4;clear e4 fH;go_wp2_with fail;refine bodyPost_ret (v:= .tuple #[.agg (fK n.id n.par a_k n.kids.length aJ n.next av RL.length cv dR n.out.length aO dY n.seen.length aK n.old (some ⟨gv,0,none⟩) (n.reqs.length+1) vc),.int .i64 0]) Abl rfl ?_;rw [ah HK];refine⟨⟨a_k,av,dR,dY,(some ⟨gv,0,none⟩),aJ,cv,aO,aK,vc⟩,?_,λW'' ho=>?_,nG.mono hB,Apart.of_below nG⟩
 .simp[fI,dH,dS,setPu,ah TI]
 .exact asy):P:=h
theorem ade(h:P:=by
 obtain⟨rfl,e4,fH⟩:=hcut;rename_i wz _ _ _
 have nG:=Hq (HB9.trans (fH.below (B:=w.heap.size) (λx hx=>Aaj) HB9.size));have HLZ:=Hq (HL9.keeps fH (λx hx=>Aaj));exact Kr194):P:=h
theorem apF.Kr194(h:P:=by
 skip
 obtain⟨x0,x1,x2,x3,x4,x5,x6,x7,x8⟩:=nine e4;clear e4 fH;go_wp2_with fail;refine bodyPost_ret (v:= .tuple #[.agg (fK n.id n.par a_k n.kids.length aJ n.next (some ⟨gp,0,none⟩) n.pu.length bq dR n.out.length aO dY n.seen.length aK IH.no (some ⟨g8,0,none⟩) n.reqs.length CV),.int .i64 1]) Abl rfl ?_;rw [ah HK];refine⟨⟨a_k,(some ⟨gp,0,none⟩),dR,dY,(some ⟨g8,0,none⟩),aJ,bq,aO,aK,CV⟩,?_,λW'' ho=>?_,nG.mono hB,Apart.of_below nG⟩
 .simp[fI,dH,dS,lJ,TI]
 .exact asE):P:=h
theorem apG.Kr194(h:P:=by
 have Pe:=Hq (HP9.keeps fH (λx hx=>Aaj));obtain⟨x0,x1,x2,x3,x4,x5,x6,x7,x8⟩:=nine e4;clear e4 fH;go_wp2_with fail;refine bodyPost_ret (v:= .tuple #[.agg (fK n.id n.par a_k n.kids.length aJ n.next av RL.length cv dR n.out.length aO dY n.seen.length aK IH.no (some ⟨g8,0,none⟩) n.reqs.length CV),.int .i64 0]) Abl rfl ?_;rw [ah HK];refine⟨⟨a_k,av,dR,dY,(some ⟨g8,0,none⟩),aJ,cv,aO,aK,CV⟩,?_,λW'' ho=>?_,nG.mono hB,Apart.of_below nG⟩
 .simp[fI,dH,dS,lJ,setPu,TI]
 .exact asy):P:=h
theorem adf(h:P:=by
 obtain⟨k,y,hk,rfl,rfl,hy,hall,hblk,hbel⟩:=hrel;have mV:=Hq hall;have HY:=Hq hy;have fO:=Hq hbel;have Ey:=Hq hblk;exact Kr195):P:=h
theorem apH.Kr195(h:P:=by
 have hy0:0<=y:=by rw [hy];exact Z5 k hall
 clear hall hy hblk hbel;by_cases hlt:k < out.length
 case' neg=>
  have hke:k=out.length:=Aaa
  subst hke
  have hnlt:decide ((out.length:Int) < (out.length:Int))=false:=Aac
  have HF:Hid (TT=true):=by
   exact Tk
  go_wp2_with fail
  go_ret
  exact⟨aD HF.symm,fO⟩
 obtain⟨g,off,e0,hgw,q0,q1,q2,q3⟩:=SentAt.four (HA.below fO).o k hlt;(try dsimp only at e0 q0 q1 q2 q3)
 subst e0;have HBAD:Hid (gQ KB RR (out.take (k+1))=false->TT=false):=λh=>lS.trans (vM _ h)
 have gG:Hid (gQ KB RR (out.take (k+1))=(KB out[k]&&decide (y < (out[k]).i))):=by
  exact aek
 have BZ:=Hq (wZ k hlt);have Bl:=Hq (QY out[k]);clear jO wZ vM QY Z5;generalize out[k]=sk at *;generalize KB sk=OB at *;obtain⟨si,st,sx,sn⟩:=sk;dsimp only at q0 q1 q2 q3 gG BZ Bl;obtain⟨bb,hbb⟩:∃bb,(!(decide (y < si)&&decide (si < next)&&NN st&&keyOk sx.data.toList&&fD sn))=bb:=⟨_,rfl⟩;have eY:=Hq hbb
 have za:Hid (gQ KB RR (out.take (k+1))= !bb):=by
  rw [ah gG,<-ah eY,ah Bl,Bool.not_not]
  have e1:(decide (1<=si/\si<=next - 1)&&decide (y < si))=(decide (y < si)&&decide (si < next)):=by
   rw [Bool.eq_iff_iff];exact Xu
  rw [<-e1];generalize decide (1<=si/\si<=next - 1)=z1;generalize decide (y < si)=z2;generalize NN st=z3;generalize keyOk sx.data.toList=z4;generalize fD sn=z5;cases z1<;>cases z2<;>cases z3<;>cases z4<;>cases z5<;>exact Hq rfl
 clear hbb gG Bl;go_upto_region 7 with fail;refine wp_at (λW1 hW1=>?_);have HW1:Hid (W1.heap[wr.heap.size]?=some (.cells (eU si st sx sn) 95 (0,0))):=Acd
 open aiH in exact aaI):P:=h
theorem apI.Kr195(h:P:=by
 have hy0:old<=y:=by rw [hy];exact Z5 k hall
 clear hall hy hblk hbel;by_cases hlt:k < reqs.length
 case' neg=>
  have hke:k=reqs.length:=Aaa
  subst hke
  have hnlt:decide ((reqs.length:Int) < (reqs.length:Int))=false:=Aac
  have HF:Hid (TT=true):=by
   exact Tk
  go_wp2_with fail
  go_ret
  exact⟨aD HF.symm,fO⟩
 obtain⟨g,off,e0,hgw,q0,q1,q2,q3⟩:=iU.four (HA.below fO).r k hlt;(try dsimp only at e0 q0 q1 q2 q3)
 subst e0;have HBAD:Hid (gQ KB RR (reqs.take (k+1))=false->TT=false):=λh=>lS.trans (vM _ h)
 have gG:Hid (gQ KB RR (reqs.take (k+1))=(KB reqs[k]&&decide (y < (reqs[k]).no))):=by
  exact aek
 have BZ:=Hq (wZ k hlt);have Bl:=Hq (QY reqs[k]);clear jO wZ vM QY Z5;generalize reqs[k]=sk at *;generalize KB sk=OB at *;obtain⟨si,sx,sn,st⟩:=sk;dsimp only at q0 q1 q2 q3 gG BZ Bl;obtain⟨bb,hbb⟩:∃bb,(!(decide (y < si)&&pz si&&keyOk sx.data.toList&&fD sn&&decide (0<=st)&&decide (st<=2)))=bb:=⟨_,rfl⟩;have eY:=Hq hbb
 have za:Hid (gQ KB RR (reqs.take (k+1))= !bb):=by
  rw [ah gG,<-ah eY,ah Bl,Bool.not_not]
  have e1:(decide (old+1<=si/\si<=1000000000)&&decide (y < si))=(decide (y < si)&&pz si):=by
   rw [Bool.eq_iff_iff];unfold pz;exact Xu
  have e2:decide (0<=st/\st<=2)=(decide (0<=st)&&decide (st<=2)):=by
   rw [Bool.eq_iff_iff];simp only[Bool.and_eq_true,decide_eq_true_eq]
  rw [<-e1,e2];generalize decide (old+1<=si/\si<=1000000000)=z1;generalize decide (y < si)=z2;generalize decide (0<=st)=z3;generalize decide (st<=2)=z6;generalize keyOk sx.data.toList=z4;generalize fD sn=z5;cases z1<;>cases z2<;>cases z3<;>cases z4<;>cases z5<;>cases z6<;>exact Hq rfl
 clear hbb gG Bl;go_upto_region 7 with fail;refine wp_at (λW1 hW1=>?_);have HW1:Hid (W1.heap[wr.heap.size]?=some (.cells (dX si sx sn st) 97 (0,0))):=Acd
 open aiG in exact aaI):P:=h
theorem adg(h:P:=by
 go_wp2_with fail;refine(KW _ KN).mono ?_;rintro e w1 ⟨rfl,hb1⟩;have HB1:=Hq (ay HB0 hb1);have VP:=Hq (KN.trans (hb1.mono KN.size));exact Kr196):P:=h
theorem apJ.Kr196(h:P:=by
 clear hb1 c0 c1 c2 c3 c4 c5 c6 c7 c8 KW;obtain⟨c0,c1,c2,c3,c4,c5,c6,c7,c8⟩:=nine HB1;cases h1:PL
 case' false=>
  have HV:=Hq (show bb=true by rw [<-ah eY];simp[h1])
  clear eY h1
  go_wp2_with fail
  go_meet
  case rel=>exact⟨Aam,HB1,VP⟩
 go_wp2_with fail;refine(HPU _ VP).mono ?_;rintro e w2 ⟨rfl,hb1⟩;have HB2:=Hq (ay HB1 hb1);have HL2:=Hq (VP.trans (hb1.mono VP.size));clear hb1 c0 c1 c2 c3 c4 c5 c6 c7 c8 HPU;obtain⟨c0,c1,c2,c3,c4,c5,c6,c7,c8⟩:=nine HB2;cases h2:PS
 case' false=>
  have HV:=Hq (show bb=true by rw [<-ah eY];simp[h2])
  clear eY h2
  go_wp2_with fail
  go_meet
  case rel=>exact⟨Aam,HB2,HL2⟩
 go_wp2_with fail;refine(HTO _ HL2).mono ?_;rintro e w3 ⟨rfl,hb1⟩;have HB3:=Hq (ay HB2 hb1);have QZ:=Hq (HL2.trans (hb1.mono HL2.size));clear hb1 c0 c1 c2 c3 c4 c5 c6 c7 c8 HTO;obtain⟨c0,c1,c2,c3,c4,c5,c6,c7,c8⟩:=nine HB3;cases h3:TD
 case' false=>
  have HV:=Hq (show bb=true by rw [<-ah eY];simp[h3])
  clear eY h3
  go_wp2_with fail
  go_meet
  case rel=>exact⟨Aam,HB3,QZ⟩
 cases h4:fD next
 case' false=>
  have HV:=Hq (show bb=true by rw [<-ah eY];simp[h4])
  clear eY h1 h2 h3
  go_wp2_with (go_at_call 61;refine(l04Some _ _ _ h4).mono ?_;rintro e w9 ⟨rfl,rfl⟩)
  go_meet
  case rel=>exact⟨Aam,HB3,QZ⟩
 by_cases h5:out.length<=40
 case' neg=>
  have hq:decide ((40:Int) < out.length)=true:=decide_eq_true Aaa
  have HV:=Hq (show bb=true by rw [<-ah eY];simp[h5])
  clear eY h1 h2 h3
  go_wp2_with (go_at_call 61;refine(l04Some _ _ _ h4).mono ?_;rintro e w9 ⟨rfl,rfl⟩)
  go_meet
  case rel=>exact⟨Aam,HB3,QZ⟩
 have hq:decide ((40:Int) < out.length)=false:=decide_eq_false Aaa;cases h6:pz old
 case' false=>
  have Ew:=Hq (λw1=>YR old false w1 h6)
  have HV:=Hq (show bb=true by rw [<-ah eY];simp[h6])
  clear eY h1 h2 h3
  go_wp2_with (first|(go_at_call 61;refine(l04Some _ _ _ h4).mono ?_;rintro e w9 ⟨rfl,rfl⟩)|(go_at_call 62;refine(Ew _).mono ?_;rintro e w9 ⟨rfl,rfl⟩))
  go_meet
  case rel=>exact⟨Aam,HB3,QZ⟩
 have Ew:=Hq (λw1=>YR old true w1 h6);by_cases h7:reqs.length<=30
 case' neg=>
  have hq2:decide ((30:Int) < reqs.length)=true:=decide_eq_true Aaa
  have HV:=Hq (show bb=true by rw [<-ah eY];simp[h7])
  clear eY h1 h2 h3
  go_wp2_with (first|(go_at_call 61;refine(l04Some _ _ _ h4).mono ?_;rintro e w9 ⟨rfl,rfl⟩)|(go_at_call 62;refine(Ew _).mono ?_;rintro e w9 ⟨rfl,rfl⟩))
  go_meet
  case rel=>exact⟨Aam,HB3,QZ⟩
 have hq2:decide ((30:Int) < reqs.length)=false:=decide_eq_false Aaa;have HV:=Hq (show bb=false by rw [<-ah eY];simp[h1,h2,h3,h4,h5,h6,h7]);clear eY h1 h2 h3;go_wp2_with (first|(go_at_call 61;refine(l04Some _ _ _ h4).mono ?_;rintro e w9 ⟨rfl,rfl⟩)|(go_at_call 62;refine(Ew _).mono ?_;rintro e w9 ⟨rfl,rfl⟩))
 go_meet
 case rel=>exact⟨Aam,HB3,QZ⟩):P:=h
theorem apK.Kr196(h:P:=by
 clear hb1 c0 c1 c2 c3 c4 c5 c6 c7 c8;obtain⟨c0,c1,c2,c3,c4,c5,c6,c7,c8⟩:=nine HB1;cases h1:PL
 case' false=>
  have HP:=Hq (show TT=false by rw [ah HD];simp[h1])
  clear h1 HD
  go_wp2_with fail
  go_ret
  exact⟨aD HP.symm,VP⟩
 go_wp2_with fail;refine(HPU _ VP).mono ?_;rintro e w2 ⟨rfl,hb1⟩;have HB2:=Hq (ay HB1 hb1);have HL2:=Hq (VP.trans (hb1.mono VP.size));clear hb1 c0 c1 c2 c3 c4 c5 c6 c7 c8;obtain⟨c0,c1,c2,c3,c4,c5,c6,c7,c8⟩:=nine HB2;cases h2:PS
 case' false=>
  have HP:=Hq (show TT=false by rw [ah HD];simp[h2])
  clear h2 HD
  go_wp2_with fail
  go_ret
  exact⟨aD HP.symm,HL2⟩
 cases h3:fD next
 case' false=>
  have HP:=Hq (show TT=false by rw [ah HD];simp[h3])
  have H3:=Hq (λw1=>isSomeAmount next false w1 h3)
  clear h3 HD
  go_wp2_with (go_at_call 54;refine(H3 _).mono ?_;rintro e w9 ⟨rfl,rfl⟩)
  go_ret
  exact⟨aD HP.symm,HL2⟩
 have H3:=Hq (λw1=>isSomeAmount next true w1 h3);go_wp2_with (go_at_call 54;refine(H3 _).mono ?_;rintro e w9 ⟨rfl,rfl⟩)
 refine(HOT _ HL2 h1).mono ?_;rintro e w3 ⟨rfl,hb1⟩;have HB3:=Hq (ay HB2 hb1);have QZ:=Hq (HL2.trans (hb1.mono HL2.size));clear hb1 c0 c1 c2 c3 c4 c5 c6 c7 c8;obtain⟨c0,c1,c2,c3,c4,c5,c6,c7,c8⟩:=nine HB3;cases h4:OT
 case' false=>
  have HP:=Hq (show TT=false by rw [ah HD];simp[h4])
  clear h4 HD
  go_wp2_with fail
  go_ret
  exact⟨aD HP.symm,QZ⟩
 go_wp2_with fail;refine(HSE _ QZ h1).mono ?_;rintro e w4 ⟨rfl,hb1⟩;have pE:=Hq (ay HB3 hb1);have HL4:=Hq (QZ.trans (hb1.mono QZ.size));clear hb1 c0 c1 c2 c3 c4 c5 c6 c7 c8;obtain⟨c0,c1,c2,c3,c4,c5,c6,c7,c8⟩:=nine pE;cases h5:TD
 case' false=>
  have HP:=Hq (show TT=false by rw [ah HD];simp[h5])
  clear h5 HD
  go_wp2_with fail
  go_ret
  exact⟨aD HP.symm,HL4⟩
 go_wp2_with fail;refine(HRE _ HL4).mono ?_;rintro e w5 ⟨rfl,hb1⟩;have jW:=Hq (ay pE hb1);have HL5:=Hq (HL4.trans (hb1.mono HL4.size));clear hb1 c0 c1 c2 c3 c4 c5 c6 c7 c8;obtain⟨c0,c1,c2,c3,c4,c5,c6,c7,c8⟩:=nine jW;have HP:=Hq (show TT=RQ by rw [ah HD];simp[h1,h2,h3,h4,h5]);clear h1 h2 h3 h4 h5 HD;go_wp2_with fail;go_ret;exact⟨aD HP.symm,HL5⟩):P:=h
theorem adh(h:P:=by
 have HID:Hid ((takeN n o.m).1.id=n.id):=by
  exact asf
 have HSY:=Hq (λW A G c n' (hW:WK w0 W wb n' A G c v L)=>Sv w0 W wb n' A G c v L ⟨2,n'.id,o.m.F,o.m.I,0,ByteArray.empty,0⟩ Aac Aaa hW);rw [ah HR];exact Kr197):P:=h
theorem apL.Kr197(h:P:=by
 unfold Tp;rw [<-ah HID];open aiY in exact arB):P:=h
theorem apM.Kr197(h:P:=by
 open aiZ in exact arB):P:=h
theorem WY(h:P:=by
 have aag:=Hq (show∀b,(v4).ownBlock=some b->b≠rb from λb hb=>(Yq b hb).elim (λh=>Sw b h) (λh=>by have:=aA CJ;omega));exact Kr198):P:=h
theorem apN.Kr198(h:P:=by
 obtain⟨avO,cvO,GY,_⟩:=GR.own_at (enc:=aM) (sz:=4) (l:=n.reqs.take pos++[(⟨no,k,nn,0⟩:Rq)]) bg (by rw [hL1];exact Pm);open anp in exact acA):P:=h
theorem apO.Kr198(h:P:=by
 obtain⟨avO,cvO,GY,_⟩:=GR.own_at (enc:=aM) (sz:=4) (l:=n.reqs.take pos++[(⟨no,k,nn,1⟩:Rq)]) bg (by rw [hL1];exact Pm);open ano in exact acA):P:=h
theorem apP.Kr198(h:P:=by
 obtain⟨avO,cvO,GY,_⟩:=GR.own_at (enc:=aW) (sz:=1) (l:=(aY s0 mL).take pos++[mI]) aQ (by rw [hL1];exact Pm);rw [hL1] at GY;subst GY;clear TY Qa Di Yq;refine gF 12 rfl Aab Aad Aae (λx5 hx5=>?_);have KI:=Hq (VL.trans (hx5.mono VL.size));have Ml:tq.heap.size<=x5.heap.size:=KI.size;have Lh:=Hq (GR.own_below Pm hx5);have KY:=Hq (ay aaw hx5);clear hx5;obtain⟨v5,y5,Jl,EY,BA,Ua⟩:=eT aQ Aaa x5 tq.heap.size 24 24 3 i0 (.int .i64 0) 8 Tryz.underlying24 hi0 hz0 hz1' hz2 rfl (.slice avO (pos+1) cvO) (pos+1) (GR.flat aW ((aY s0 mL).take pos++[mI])) Lh AD ((aY s0 mL).drop pos) (LJ - pos) (GR.At.below HDR KI) (pY _) Aah Aaa Ml;rw [TU] at Jl EY;refine Lib.wp_append_run x5 (.tmp 135) (.tmp 138) 24 24 rfl _ _ Aak Aak v5 y5 Jl ?_;refine⟨(Below.refl _ _).grown BA Ml (λb hb=>(Lh.lt b hb).1),?_⟩;go_simp;have Sz:=Hq (KI.grown BA Ml (λb hb=>(Lh.lt b hb).1));have Te:Hid (y5.ownsRow tq.heap.size 3 1 v5 (pos+1+((aY s0 mL).length - pos)) (GR.flat aW ((aY s0 mL).take pos++[mI]++(aY s0 mL).drop pos))):=Hq Adh;have aha:=Hq (show y5.heap[rb]?=some (.cells #[.int .i64 mI] 3 (0,0)) from by rw [BA.block _ (aA (ah KY)) (λhm=>ah aag _ hm.symm rfl)];exact KY);open ap1 in exact Xb):P:=h
theorem adi(h:P:=by
 have hlit:(w.alloc (.cells #[] e)).ownsRow w.heap.size e sz (.slice (some ⟨w.heap.size,0,none⟩) 0 0) 0 []:=World.ownsRow_lit (base:=w.heap.size) (e:=e) (size:=sz) w #[] 0 (Nat.le_refl _) Aah Aac;exact Kr199):P:=h
theorem apQ.Kr199(h:P:=by
 exact⟨some ⟨w.heap.size,0,none⟩,0,w.alloc (.cells #[] e),λty=>nK (w.alloc (.cells #[] e)) w.heap.size t ty e i sz ht hi _ 0 [] hlit a c,hlit,aj w _,λ_=>rfl⟩):P:=h
theorem apR.Kr199(h:P:=by
 by_cases hl0:l.length=0
 .have hn:l=[]:=List.eq_nil_of_length_eq_zero hl0;subst hn;refine⟨some ⟨w.heap.size,0,none⟩,0,w.alloc (.cells #[] e),λty=>nK (w.alloc (.cells #[] e)) w.heap.size t ty e i sz ht hi _ 0 [] hlit a c,hlit,aj w _,⟨_,rfl⟩,Nat.le_refl _⟩
 .obtain⟨v',w',hr,ho,hg,_⟩:=eT (P:=P) hs hz (w.alloc (.cells #[] e)) w.heap.size t 0 e i z bytes ht hi hz0 hsize hby hzs _ 0 [] hlit a l c (GR.At.below ha (aj w _)) h1 Aaa (by rw [Nat.zero_add];exact hbytes) Aac;rw [Nat.zero_add,List.nil_append] at ho;obtain⟨a',c',rfl,_⟩:=GR.own_at (enc:=enc) (sz:=sz) hs ho;refine⟨a',c',w',λty=>hr,ho,(aj w _).grown hg Aac (λk hk=>Abp),?_⟩;rcases ho.2 with⟨_,hn⟩|⟨g,cap,cur,hv,_,_,hnc,_⟩
  .omega
  .simp only[Value.slice.injEq] at hv;exact⟨⟨g,hv.1⟩,by rw [hv.2.2];exact hnc⟩):P:=h
theorem adj(h:P:=by
 have HAT:=Hq (λW'' (ho:Co w W' W'')=>((zo.kc (k:=9) (KC.keeps fH (λx hx=>by have:x=w.heap.size+2:=Aaf;rw [this];exact wY)) Aaa).kc (k:=9) (ho.kc (λx hx=>VG x Aaa)) Aaa).rm);exact Kr200):P:=h
theorem apS.Kr200(h:P:=by
 have HMT:=Hq (λW'' (ho:Co w W' W'')=>Pw (c:=c) (w:=w) HMZ (ho.out0 VG) hmb);have lQ:Hid (aX w W'):=kE.trans (fH.below (λx hx=>by have:x=w.heap.size+2:=Aaf;omega) kE.size);obtain⟨x0,x1,x2,x3,x4,x5,x6,x7,x8⟩:=nine Gs;clear fH;exact Kr57):P:=h
theorem apT.Kr200(h:P:=by
 have lQ:Hid (aX w W'):=kE.trans (fH.below (λx hx=>by have:x=w.heap.size+2:=Aaf;omega) kE.size);obtain⟨x0,x1,x2,x3,x4,x5,x6,x7,x8⟩:=nine e4;clear hW' e4 fH;exact bodyPost_ret (v:= .tuple #[(fI n A1),.slice (some ⟨W0.heap.size,0,none⟩) 0 0,.int .i64 1]) Aaz rfl ⟨A1,some ⟨W0.heap.size,0,none⟩,0,rfl,HAT,λW'' _ i hi=>Aas,lQ⟩):P:=h
theorem adk(h:P:=by
 have hrl:=aA oZ;go_wp2_with fail;refine aN (λW' hW'=>?_)
 have e4:W'.heap[w.heap.size+1]?=some (.cells (dH n A) 30 (0,0)):=by
  rw [hW'];exact GR.setW_blk (dH n A).toList (o:=0) (xs:=gu.toList) oZ
 exact Kr201):P:=h
theorem apU.Kr201(h:P:=by
 have fH:aC [w.heap.size+1] W1 W':=by
  rw [hW'];exact aL (dH n A).toList W1 0
 open akM in exact arT):P:=h
theorem apV.Kr201(h:P:=by
 have fH:aC [w.heap.size+1] W0 W':=by
  rw [hW'];exact aL (dH n A).toList W0 0
 have HAT:=Hq (λW'' (ho:Out c w W' W'')=>(Kt.kc (k:=9) ((KC.keeps fH (λx hx=>by have:x=w.heap.size+1:=Aaf;rw [this];exact aS Aaa)).trans (KC.out H9 ho)) Aaa).rm);have lQ:Hid (Below B w W'):=(HB0.mono hB).trans (fH.below (λx hx=>by have:x=w.heap.size+1:=Aaf;omega) (Nat.le_trans hB (HB0.mono hB).size));have rG:=Hq (Apart.keeps (c:=c) (Apart.of_below (HB0)) (HB0.mono hB).size fH (λx hx=>by have:x=w.heap.size+1:=Aaf;omega));obtain⟨x0,x1,x2,x3,x4,x5,x6,x7,x8⟩:=nine e4;clear hW' e4 fH;exact bodyPost_ret (v:= .tuple #[(fI n A),.int .i64 2]) Abs rfl ⟨A,rfl,HAT,lQ,rG⟩):P:=h
theorem Xa(h:P:=by
 clear hW;obtain⟨x0,x1,x2,x3,x4,x5,x6,x7,x8,x9,x10⟩:=Cg hX;obtain⟨y0,y1,y2,y3,y4,y5,y6,y7,y8,y9,y10⟩:=Cg hY;clear hX hY;exact Kr202):P:=h
theorem apW.Kr202(h:P:=by
 exact ar7):P:=h
theorem apX.Kr202(h:P:=by
 exact aso):P:=h
theorem apY.Kr202(h:P:=by
 by_cases hno:no=0
 case' neg=>
  have hno':¬(0:Int)=no:=λe=>hno e.symm
  go_wp2_with fail
  go_ret
  exact⟨aD (by rw [ah HP];simp[kX,hno]),gZ⟩
 subst hno;exact Kr143):P:=h
theorem adl(h:P:=by
 clear HR;clear hk hn;go_enter Tryz.func105,Tryz.ntmps105
 go_wp2_with (first|(go_at_call_of 131 k;refine(HK _).mono ?_;rintro e w1 ⟨rfl,rfl⟩)|(go_at_call_of 54 n;refine(HN _).mono ?_;rintro e w1 ⟨rfl,rfl⟩))
 exact Kr203):P:=h
theorem apZ.Kr203(h:P:=by
 go_region
 go_upto_region 23 with fail;open aoQ in exact Rs):P:=h
theorem ap0.Kr203(h:P:=by
 go_ret;exact⟨aD (by rw [ah HP];simp),by first|exact jg w _ _|exact Below.setNew (jg w _ _) Aaa⟩):P:=h
theorem Xb(h:P:=by
 have axb:=Hq (show∀b,(v5).ownBlock=some b->b≠rb from λb hb=>(Ua b hb).elim (λh=>aag b h) (λh=>by have:=aA KY;omega));exact Kr204):P:=h
theorem ap1.Kr204(h:P:=by
 obtain⟨avT,cvT,AJ,_⟩:=GR.own_at (enc:=aW) (sz:=1) (l:=(aY s0 mL).take pos++[mI]++(aY s0 mL).drop pos) aQ (by rw [hL2];exact Te);rw [hL2] at AJ;subst AJ;clear Jl EY BA Ua;have agb:tq.heap.size<=y5.heap.size:=Sz.size;refine tk [13] ?_;open ak7 in exact afq):P:=h
theorem ap2.Kr204(h:P:=by
 obtain⟨avT,cvT,AJ,_⟩:=GR.own_at (enc:=aM) (sz:=4) (l:=n.reqs.take pos++[(⟨no,k,nn,1⟩:Rq)]++n.reqs.drop pos) bg (by rw [hL2];exact Te);rw [hL2] at AJ;subst AJ;clear Jl EY BA Ua;have agb:wc.heap.size<=y5.heap.size:=Sz.size;refine tk [14] ?_;open ak8 in exact afq):P:=h
theorem ap3.Kr204(h:P:=by
 obtain⟨avT,cvT,AJ,_⟩:=GR.own_at (enc:=aM) (sz:=4) (l:=n.reqs.take pos++[(⟨no,k,nn,0⟩:Rq)]++n.reqs.drop pos) bg (by rw [hL2];exact Te);rw [hL2] at AJ;subst AJ;clear Jl EY BA Ua;have agb:wc.heap.size<=y5.heap.size:=Sz.size;refine tk [14] ?_;open ak9 in exact afq):P:=h
theorem adn(h:P:=by
 go_enter Tryz.func144,Tryz.ntmps144
 go_wp2_with fail;refine HG.mono ?_;rintro e w1 ⟨rfl,hb1⟩;clear hr HG;go_upto_region 7 with fail;refine wp_at (λV hV=>?_);obtain rfl:=hV;have uR:=Hq hb1;clear hb1;exact Kr205):P:=h
theorem ap4.Kr205(h:P:=by
 have hcc:=λd os=>HCC (Sort.grow (redrawn V d) os) (Ge.trans uR (below_regrown V d os))
 refine dw Aab ?_;show gX _ _ _ _ 10 (Array.replicate 10 false) _ _
 refine tk [0,1,2,3,6,7] ?_;iterate 6 (refine tY (λK hK=>?_);go_simp;refine hK _ ?_;clear hK K)
 refine iN ?_;refine Aq 4 rfl Aab Aad (λx hx=>?_);go_simp;refine(HS _).mono ?_;rintro e y ⟨g2,rfl,hg2,hblk,hby⟩;refine⟨hby,?_⟩;have yY:=Hq (Ge.trans (Ge.trans uR hx) hby);have hgy:=cu hblk;obtain⟨c0,c1,c2,c3⟩:=CX hblk;have hcv:=λd os=>HCV (Sort.grow (redrawn y d) os) g2 (cell_regrown c0 d os) (cell_regrown c1 d os) (cell_regrown c2 d os) (cell_regrown c3 d os)
 clear hx hby hblk c0 c1 c2 c3 HCV uR HS hcc HCC hg2;refine tk [5,8,9] ?_;iterate 3 (refine tY (λK hK=>?_);go_simp;refine hK _ ?_;clear hK K)
 refine iN ?_;refine eX Aab (λx2 hx=>?_);have nG:=Hq (Ge.trans yY hx);clear hx yY hcv;go_simp;go_wp2_with fail;exact Kr21):P:=h
theorem ap5.Kr205(h:P:=by
 refine dw Aab ?_;show gX _ _ _ _ 10 (Array.replicate 10 false) _ _
 refine tk [0,1,2,3,4,5,6,7,8,9] ?_;iterate 10 (refine tY (λK hK=>?_);go_simp;refine hK _ ?_;clear hK K)
 refine iN ?_;refine eX Aab (λx hx=>?_);have nG:=Hq (Ge.trans uR hx);clear hx uR;go_simp;go_wp2_with fail;exact bodyPost_ret (v:= .tuple #[.string ⟨#[]⟩,.int .i64 (-1)]) Acn rfl ⟨rfl,nG⟩):P:=h
theorem ado(h:P:=by
 obtain⟨rl,rb⟩:=r;dsimp only at HZ ⊢;refine aF 21 rfl Aab Aad ?_;go_simp;refine aF 22 rfl Aab Aad ?_;go_simp;refine wpAny_done Aab ?_;go_simp;exact Kr206):P:=h
theorem ap6.Kr206(h:P:=by
 cases rb
 .go_wp2_with fail;go_ret;exact⟨rfl,⟨A',G',c',HZ.wk,HZ.bk,HZ.si.mono (Nat.le_succ k),HZ.cs,HZ.cm⟩,λj o h1 _ h3=>HKO j o h1 h3⟩
 .obtain⟨⟨p0,p1,p2,p3,p4,p5,p6⟩,_⟩:=dG yZ;obtain⟨⟨d0,d1⟩,_⟩:=lM HZ.bk;have hsl2:=aA HZ.bk;have aga:=aA yZ;have hI1:fA z2.drew mb k l:=HZ.si.kept rfl;obtain⟨z3,hrun,XU,hK3⟩:=hI1.store mI hi0 hi1 Aah;have HR:=Hq (HZ.put XU (Keeps.trans (b:=z2.drew) (Keeps.of_below (Below.refl _ _).drew) hK3))
  have HK4:Hid (∀j o,j≠wb->j≠mb->w.heap[j]?=some o->z3.heap[j]?=some o):=λj o h1 h2 h3=>by
   have h4:=ah HKO j o h1 h3
   rw [hK3.block j (aA h4) h2]
   exact h4
  clear hI1 XU hK3 yZ;go_wp2_with fail;go_region
  all_goals
   go_wp2_with fail
   go_ret
   exact⟨rfl,⟨A',G',c',HR⟩,HK4⟩):P:=h
theorem ap7.Kr206(h:P:=by
 cases rb
 all_goals
  go_wp2_with fail
  go_ret
  exact⟨rfl,A',G',c',HZ⟩):P:=h
theorem adp(h:P:=by
 have cO:∀d os,Calls Tryz.prog 129 #[zi ⟨pk,pm,pf,ps⟩] (Sort.grow (redrawn V d) os) λe w''=>e= .returned (.bool false)/\∃p:Regrown,w''=Sort.grow (redrawn V p.d) p.os:=λd os=>Calls.regrown_of (HO _)
 exact Kr207):P:=h
theorem ap8.Kr207(h:P:=by
 open apm in exact Ll):P:=h
theorem ap9.Kr207(h:P:=by
 exact asz):P:=h
theorem adq(h:P:=by
 have cO:∀d os,Calls Tryz.prog 129 #[zi ⟨pk,pm,pf,ps⟩] (Sort.grow (redrawn V d) os) λe w''=>e= .returned (.bool true)/\∃p:Regrown,w''=Sort.grow (redrawn V p.d) p.os:=λd os=>Calls.regrown_of (HO _)
 exact Kr208):P:=h
theorem aqa.Kr208(h:P:=by
 exact Kr116):P:=h
theorem aqb.Kr208(h:P:=by
 open apn in exact Ll):P:=h
theorem adr(h:P:=by
 have hlit:(w.alloc (.cells #[] 143)).ownsRow w.heap.size 143 4 (.slice (some ⟨w.heap.size,0,none⟩) 0 0) 0 []:=World.ownsRow_lit (base:=w.heap.size) (e:=143) (size:=4) w #[] 0 (Nat.le_refl _) Aae rfl;exact Kr209):P:=h
theorem aqc.Kr209(h:P:=by
 cases a with
 |none=>
  have hl0:l=[]:=GR.none_nil ha
  subst hl0
  clear ha hlit
  go_enter Tryz.func159,Tryz.ntmps159
  go_wp2_with fail
  go_ret
  exact⟨_,rfl,World.ownsRow_nil _ _ _ _,Below.refl _ _⟩
 |some x=>
  have HN:=Hq (aH.news (GR.At.below ha (dM w (.cells #[] 143))))
  clear ha
  go_enter Tryz.func159,Tryz.ntmps159
  go_wp2_with (at_builtin;refine wpList_append_own _ rfl _ _ 25 rfl w.heap.size 143 i0 (.agg (iL ByteArray.empty 0 0 0)) 4 40 Tryz.underlying25 hi hz0 hz1 hz2 rfl Aae _ 0 [] rfl hlit x l.length cap (GR.flat fE l) rfl ?c0 ?c1 ?c2 ?c3 ?c4 ?c5 ?_)
  case c0=>exact GR.flat_length fE 4 aZ l
  case c1=>exact HN
  case c2=>exact xQ l
  case c3=>unfold maxLen;omega
  case c4=>omega
  case c5=>simp
  intro v' w1 hown' hgrow _
  have HO:=Hq (show w1.ownsRow w.heap.size 143 4 v' l.length (GR.flat fE l) by simpa using hown')
  have hb:aX w w1:=(dM w _).grown hgrow Aac (λk hk=>Abp)
  clear hown' hgrow hlit
  go_wp2
  go_ret
  exact⟨_,rfl,HO,hb⟩):P:=h
theorem aqd.Kr209(h:P:=by
 cases a with
 |none=>
  obtain⟨h1,h2⟩:=hn rfl
  have hl0:l=[]:=List.eq_nil_of_length_eq_zero h1
  subst hl0 h2
  go_enter Tryz.func114,Tryz.ntmps114
  go_wp2_with (at_builtin;refine wpList_append_own_none rfl _ _ 25 rfl w.heap.size 143 i0 4 Tryz.underlying25 hi _ 0 [] rfl hlit rfl ?_)
  go_ret
  exact⟨_,rfl,(by intro h;cases h),hlit,dM w _⟩
 |some x=>
  have HN:=Hq (aH.news (GR.At.below ha (dM w (.cells #[] 143))))
  clear ha
  go_enter Tryz.func114,Tryz.ntmps114
  go_wp2_with (at_builtin;refine wpList_append_own _ rfl _ _ 25 rfl w.heap.size 143 i0 (.agg (iL ByteArray.empty 0 0 0)) 4 40 Tryz.underlying25 hi hz0 hz1 hz2 rfl Aae _ 0 [] rfl hlit x l.length cap (GR.flat fE l) rfl ?c0 ?c1 ?c2 ?c3 ?c4 ?c5 ?_)
  case c0=>exact GR.flat_length fE 4 aZ l
  case c1=>exact HN
  case c2=>exact xQ l
  case c3=>unfold maxLen;omega
  case c4=>omega
  case c5=>simp
  intro v' w1 hown' hgrow hnil
  have VW:=Hq (show v'≠ .slice none 0 0 from hnil)
  have HO:=Hq (show w1.ownsRow w.heap.size 143 4 v' l.length (GR.flat fE l) by simpa using hown')
  have hb:aX w w1:=(dM w _).grown hgrow Aac (λk hk=>Abp)
  clear hown' hgrow hlit hnil
  go_wp2
  go_ret
  exact⟨_,rfl,VW,HO,hb⟩):P:=h
theorem ads(h:P:=by
 rw [hlt1] at Yn;subst Yn;clear TW TV TQ atI;refine gF 7 rfl Aab Aad Aae (λx3 hx3=>?_);go_simp;have xu:=Hq (IK.trans (hx3.mono IK.size));exact Kr210):P:=h
theorem aqe.Kr210(h:P:=by
 have zP:wc.heap.size<=x3.heap.size:=xu.size;have zw:=Hq (GR.own_below EJ hx3);clear hx3;refine⟨(aj x3 _).mono zP,?_⟩;exact Kr30):P:=h
theorem aqf.Kr210(h:P:=by
 have zP:tq.heap.size<=x3.heap.size:=xu.size;have zw:=Hq (GR.own_below EJ hx3);clear hx3;refine⟨(aj x3 _).mono zP,?_⟩;have Yb:=aj x3 (.cells #[.int .i64 mI] 3);have EG:=Hq (heap_alloc_new x3 (.cells #[.int .i64 mI] 3));open alB in exact afv):P:=h
theorem adt(h:P:=by
 have e2:b=g1:=by injection e1 with e1;injection e1 with e1 e2
 have e3:off=o1:=by injection e1 with e1;injection e1 with e1 e2
 subst e2 e3;exact Kr211):P:=h
theorem aqg.Kr211(h:P:=by
 have HT:=Hq (List.take_succ_eq_append_getElem hlt);have KW:=Hq (λh2=>(place_at l pk k Aaa mV h2).1);clear s1 s2 s3 e1;cases hbl:Op.bytesLess l[k].k.toList pk.toList with
 |true=>
  clear KW
  generalize l[k]=pu at *
  obtain⟨qk,qm,qf,qs⟩:=pu
  dsimp only at s0 hbl
  go_wp2_with fail
  go_quiet (fail)
  go_wp2
  go_roundw
  case rel=>
   refine⟨k+1,_,Aaa,Aai,?_,rfl⟩;intro x hx;rw [ah HT] at hx;rcases List.mem_append.1 hx with hx|hx
   .exact mV x hx
   .rw [List.mem_singleton] at hx;subst hx;exact hbl
  case measure=>simp[intOf];omega
 |false=>
  have KV:=Hq (KW (λ_=>hbl))
  clear KW HT
  generalize l[k]=pu at *
  obtain⟨qk,qm,qf,qs⟩:=pu
  dsimp only at s0 hbl
  go_wp2_with fail
  go_quiet (fail)
  go_wp2_with fail
  go_meet
  case rel=>exact⟨by rw [ah KV],_,uU w1 _ _⟩):P:=h
theorem aqh.Kr211(h:P:=by
 have hae:=hAe hlt;subst hae;have HF:=Hq hf;have hpos:decide (0 < l.length - place l pk)=true:=decide_eq_true Aaa;have awP:0 < l.length - place l pk:=Aaa
 clear s1 s2 s3 e1 hf hAe hAd;generalize l[place l pk]=pu at *;obtain⟨qk,qm,qf,qs⟩:=pu;dsimp only at s0 HF;cases heq:qk.toList == pk.toList
 all_goals
  go_quiet (fail)
  go_wp2_with fail
  go_meet
  case rel=>exact⟨by rw [ah HF,heq],_,uU w1 _ _⟩):P:=h
theorem adu(h:P:=by
 go_upto_region 1 with fail;refine wp_at (λW0 hW=>?_);obtain⟨e1,e3,e4⟩:=iw w (.cells (dH n A) 30) (.cells gu 30);rw [<-hW] at e1 e3 e4;have HN:=Hq e1;have HR:=Hq e3;have HB:=Hq e4;exact Kr212):P:=h
theorem aqi.Kr212(h:P:=by
 clear hW e1 e3 e4;go_wp2_with fail;refine(Vr W0 (HH.below HB)).mono ?_;rintro e W1 ⟨v,rfl,hown,hb1⟩;obtain⟨a1,cp1,hv,hat⟩:=GR.own_at (enc:=mY) (sz:=11) jG hown;subst hv;have KF:=Hq (HRP a1 cp1 W1 (HB.trans (hb1.mono HB.size)) hat);have HB1:=Hq (HB.trans (hb1.mono HB.size));have xq:=Hq (ay HN hb1);have HR1:=Hq (ay HR hb1);clear hown hat hb1 Vr HRP HH HN HR HB;generalize (iF s).1.length=len at *;generalize (iF s).2=fin at *;obtain⟨c0,c1,c2,c3,c4,c5,c6,c7,c8⟩:=nine xq;go_wp2_with fail;refine KF.mono ?_;rintro e W2 ⟨A1,G1,cc1,rfl,ES,hb2⟩;have hres:=ay HR1 hb2;have jP:=Hq ES;have HB2:=Hq (HB1.trans (hb2.mono HB1.size));have hrl:=aA HR1;have oZ:=Hq hres;open ang in exact acy):P:=h
theorem aqj.Kr212(h:P:=by
 have HO0:=Hq (GR.At.below HO e4);have HE0:=Hq (HE.below e4);clear hW e1 e3 e4 HO HE;have hl0:=aA HR;obtain⟨c0,c1,c2,c3,c4,c5,c6,c7,c8⟩:=nine HN;go_wp2_with fail;refine(Bf W0 HB).mono ?_;rintro e y ⟨A1,G1,cc1,rfl,ES,hby⟩;have jP:=Hq ES;have yY:=Hq hby;clear ES hby c0 c1 c2 c3 c4 c5 c6 c7 c8 Bf;go_upto_region 2 with fail;refine wp_at (λW hW=>?_);have e5:W.heap[y.heap.size]?=some (.cells (Kz n A1 (.slice none 0 0)) 74 (0,0)):=Abu
 have e6:aX y W:=by rw [hW];exact aj _ _
 have HK:=Hq (WK.start yY jP (Nat.le_refl y.heap.size) e6 e5);have ED:=Hq (ay HN HK.keep);have hys:W0.heap.size<=y.heap.size:=yY.size;clear hW e5 e6 jP HN yY;generalize newC y.heap.size 8 cc1=EM at *;generalize y.heap.size=wb at *;obtain⟨c0,c1,c2,c3,c4,c5,c6,c7,c8⟩:=nine ED;have hnl:=aA ED;go_wp2_with fail;refine(lS W (HB.trans (HK.keep.mono HB.size))).mono ?_;rintro e W2 ⟨rfl,hb2⟩;have xA:=Hq (HK.step hb2);clear hb2 c0 c1 c2 c3 c4 c5 c6 c7 c8 lS ED hnl HK;cases hok:dU n with
 |false=>
  have hpb:=ah IU hok
  clear HDO HPS IU HPE
  obtain⟨c0,c1,c2,c3,c4,c5,c6,c7,c8,c9⟩:=iQ xA.blk
  have hres:=ay HR xA.keep
  have oZ:=Hq hres
  have hrl:=aA hres
  have hwl:=aA xA.blk
  obtain⟨d0,d1,d2,d3,d4,d5,d6,d7,d8⟩:=nine hres
  have f0:=au hres 0
  have f1:=au hres 1
  have f2:=au hres 2
  have f3:=au hres 3
  have f4:=au hres 4
  have f5:=au hres 5
  have f6:=au hres 6
  have f7:=au hres 7
  have f8:=au hres 8
  clear hres
  go_wp2_with fail
  refine aN (λW' hW'=>?_)
  have e9:W'.heap[w.heap.size+1]?=some (.cells (dH n A1) 30 (0,0)):=by rw [hW'];exact qD oZ
  obtain⟨r0,r1,r2,r3,r4,r5,r6,r7,r8⟩:=nine e9
  have jy:NO W' w.heap.size n A1 G1 EM:=by rw [hW'];exact(xA.no.keepsN Aaa mq).base HB.size
  have hBB:aX w W':=by rw [hW'];exact oC (HB.trans (xA.keep.mono HB.size)) Aaa
  exact bodyPost_ret (v:=fI n A1) Ado rfl ⟨A1,G1,EM,by rw [hpb],by rw [hpb];exact jy,hBB⟩
 |true=>
  have HD:=Hq (HDO hok)
  have HP:=Hq (HPS hok)
  have XW:∃A G c,WK W0 W2 wb (iB n (L.take 0)) A G c (.slice none 0 0) []:=⟨A1,G1,EM,xA⟩
  have HK0:=Hq XW
  clear HDO HPS IU hok xA XW
  go_wp2_with fail
  go_loopw [18] (λi wr=>∃k:Nat,k<=L.length/\i= .int .i64 k/\∃A G c,WK W0 wr wb (iB n (L.take k)) A G c (.slice none 0 0) []) (λi _=>L.length - (intOf i).toNat)
  case atStart=>exact⟨0,Nat.zero_le _,rfl,HK0⟩
  case round=>
   clear HK0;obtain⟨k,hkl,rfl,A2,G2,cc3,hK⟩:=hrel;have HK:=Hq hK;clear hK;by_cases hlt:k < L.length
   .obtain⟨g1,o1,rfl,hg1,s0,s1,s2,s3,s4,s5,s6,s7,s8,s9,s10⟩:=GD.eleven (GR.At.below HO0 HK.keep) k hlt;have HDk:=Hq (HD k hlt);have HPk:=Hq (HP k hlt);generalize lV (iB n (L.take k)) L[k]=RR at *;open ana in exact acv
   .open aqu in exact adz):P:=h
theorem adv(h:P:=by
 rw [Mth.take_all s k hlt] at HA;have HF:Hid (Mth.keyOk s.data.toList=decide (1<=s.data.toList.length/\s.data.toList.length<=10)):=Mth.keyOk_all _ HA;rw [bn s] at HF;exact Kr213):P:=h
theorem aqk.Kr213(h:P:=by
 by_cases hin:(1:Int)<=(s.size:Int)/\(s.size:Int)<=10
 .obtain⟨hi1,hi2⟩:=hin;exact asK
 .exact asK):P:=h
theorem aql.Kr213(h:P:=by
 go_wp2
 go_ret;exact⟨aD (by rw [ah HF];simp;omega),rfl⟩):P:=h
theorem adw(h:P:=by
 generalize l[k]=pu at *;have lS:=Hq (λw1=>Dt pu w1 hkk);clear hkk;obtain⟨pk,pm,pf,ps⟩:=pu;exact Kr214):P:=h
theorem aqm.Kr214(h:P:=by
 dsimp only at c0 c1 c2 c3 hf;go_wp2_with fail;refine(lS _).mono ?_;rintro e w1 ⟨rfl,hb1⟩;have hb2:=fO.trans ((Below.mono (Fo.one_block hb1).2.2 fO.size));have hB:w1.heap[w.heap.size]?=some (.cells (iL ⟨#[]⟩ 0 0 0) 143 (0,0)):=by rw [(Fo.one_block hb1).2.2.block _ aa5];exact Ey
 have HB:=Hq hB;have HB2:=Hq hb2;obtain⟨⟨r0,r1,r2,r3⟩,s0,s1,s2,s3⟩:=fJ hB;clear hB hb1 hb2;go_wp2_with fail;clear r0 r1 r2 r3;refine Fo.bodyPost_at (λW' hW'=>?_);obtain⟨⟨r0,r1,r2,r3⟩,_⟩:=fJ (show W'.heap[w.heap.size]?=some (.cells (iL pk pm pf ps) 143 (0,0)) by rw [hW'];exact Fo.four_set HB);have hbb:aX w W':=by rw [hW'];exact Fo.four_below HB2 (Nat.le_refl _)
 refine bodyPost_ret (v:= .agg (iL pk pm pf ps)) (by simp[results,Tryz.results136,go_sem,r0,r1,r2,r3]) rfl ⟨by rw [ah HX],hbb⟩):P:=h
theorem aqn.Kr214(h:P:=by
 dsimp only at q0 q1 q2 q3;go_wp2_with fail;refine(lS _).mono ?_;rintro e w5 ⟨rfl,hb5⟩;obtain⟨_,_,hb6⟩:=Fo.one_block hb5;have jW:=Hq (vK.below HB hb6);have lT:=Hq (fO.trans (hb6.mono fO.size));clear hb5 hb6 q0 q1 q2 q3;obtain⟨_,axu,⟨s0,s1,s2,s3⟩,f0,f1,f2,f3⟩:=vK.four jW k hlt;go_wp2_with fail;go_roundw
 case rel=>
  have h:=vK.set jW k ⟨pk,pm,pf,ps⟩ hlt;rw [ah HSE] at h;exact⟨k+1,Aaa,Aai,h,GR.setW_below (o:=k*4) hg (fE ⟨pk,pm,pf,ps⟩) lT⟩
 case measure=>simp[intOf];omega):P:=h
theorem adx(h:P:=by
 have HK:=Hq ((dJ.of_below (aj w _)).trans hk1);have HR1:=Hq hr1;have HH1:=Hq (Me HH HK hg hge);clear hr1 hk1;go_wp2_with fail;refine(HGM _ HH1).mono ?_;rintro e w2 ⟨rfl,hb2⟩;exact Kr215):P:=h
theorem aqo.Kr215(h:P:=by
 have HR2:=Hq (aI HR hb2);have HA2:=Hq (aI HR1 hb2);have xA:=Hq (HK.trans (dJ.of_below hb2));have hz2:=cu HR2;have hz3:=cu HA2;clear hb2 HR HK HR1 HH1;go_upto_region 7 with fail;refine wp_at (λV hV=>?_);have Vk:Hid (V.heap[w2.heap.size]?=some (.cells (bJ mK mF mT mI mL mk mN) 32 (0,0))):=by rw [hV];exact heap_alloc_new w2 _
 have HRV:Hid (V.heap[w.heap.size]?=some (.cells (bJ 0 0 0 0 0 ⟨#[]⟩ 0) 32 (0,0))):=by rw [hV];exact aI HR2 (aj w2 _)
 have HAV:Hid (jm V g s E):=by rw [hV];exact aI HA2 (aj w2 _)
 have HKV:Hid (dJ g w V):=by rw [hV];exact xA.trans (dJ.of_below (aj w2 _))
 clear hV HR2 HA2 xA;have ze:=cu Vk;obtain⟨q0,q1,q2,q3,q4,q5,q6⟩:=rH Vk;obtain⟨⟨d0,d1,d2,d3,d4,d5,d6⟩,f0,f1,f2,f3,f4,f5,f6⟩:=dG HRV;go_wp2_with fail;refine iJ (λW' hW'=>?_);obtain⟨⟨r0,r1,r2,r3,r4,r5,r6⟩,_⟩:=dG (show W'.heap[w.heap.size]?=some (.cells (bJ mK mF mT mI mL mk mN) 32 (0,0)) by rw [hW'];exact mJ HRV);have hKK:dJ g w W':=by rw [hW'];exact AR HKV
 have hRR:jm W' g s E:=by rw [hW'];exact yM (Ne.symm hg2) HAV
 exact bodyPost_ret (v:= .agg (bJ mK mF mT mI mL mk mN)) Adp rfl ⟨rfl,hRR,hKK⟩):P:=h
theorem aqp.Kr215(h:P:=by
 have HR2:=Hq (aI (aI HR1 hb2) (aj w2 (.cells (bJ 0 0 0 0 0 ⟨#[]⟩ 0) 32)));have xA:=Hq (HK.trans (dJ.of_below ((hb2.trans ((aj w2 (.cells (bJ 0 0 0 0 0 ⟨#[]⟩ 0) 32)).mono hb2.size)))));clear hb2;go_wp2_with fail;refine(HF _ HR2).mono ?_;rintro e w3 ⟨rfl,rfl⟩;go_wp2_with fail;exact⟨rfl,⟨_,rfl⟩,xA⟩):P:=h
theorem ady(h:P:=by
 rintro e W1 ⟨rfl,hb1⟩;have jZ:=Hq (ay HN hb1);have oZ:=Hq (ay HR hb1);have HB1:=Hq (HB0.trans (hb1.mono HB0.size));have xq:=Hq (Kt.kc (k:=9) (KC.of_below hb1) Aaa);exact Kr216):P:=h
theorem aqr.Kr216(h:P:=by
 clear hb1 c0 c1 c2 c3 c4 c5 c6 c7 c8 hnl K7 HN HR Kt HB0;exact Kr44):P:=h
theorem aqs.Kr216(h:P:=by
 clear hb1 c0 c1 c2 c3 c4 c5 c6 c7 c8 hnl Gq HN HR Kt HB0;exact Kr82):P:=h
theorem adz(h:P:=by
 have hke:k=L.length:=Aaa
 subst hke;have hnlt:decide ((L.length:Int) < (L.length:Int))=false:=Aac
 exact Kr217):P:=h
theorem aqt.Kr217(h:P:=by
 rw [ah HPE] at HS;obtain⟨m,hm⟩:∃m,iB n L=m:=⟨_,rfl⟩;rw [hm] at HS;have HM:=Hq hm;clear HSD HPS HPE hlt hm hLl;obtain⟨c0,c1,c2,c3,c4,c5,c6,c7,c8⟩:=nine HS.blk;obtain⟨d0,d1,d2,d3,d4,d5,d6,d7,d8⟩:=nine HS.res;have hnl:=aA HS.blk;have hrl:=aA HS.res;have f0:=au HS.res 0;have f1:=au HS.res 1;have f2:=au HS.res 2;have f3:=au HS.res 3;have f4:=au HS.res 4;have f5:=au HS.res 5;have f6:=au HS.res 6;have f7:=au HS.res 7;have f8:=au HS.res 8;go_wp2_with fail;refine aN (λW' hW'=>?_);have e9:W'.heap[w.heap.size+1]?=some (.cells (dH m A2) 30 (0,0)):=by rw [hW'];exact qD HS.res
 obtain⟨r0,r1,r2,r3,r4,r5,r6,r7,r8⟩:=nine e9;have jy:NL (w.heap.size+2) W' A2 m:=by rw [hW'];exact HS.nl.keeps mq (λf hf=>by rw [List.mem_singleton.1 hf];omega)
 have hBB:aX w W':=by rw [hW'];exact oC HS.bel Aaa
 exact bodyPost_ret (v:=fI m A2) (by simp[results,Tryz.results24,go_sem,r0,r1,r2,r3,r4,r5,r6,r7,r8]) rfl ⟨A2,by rw [ah HM],by rw [ah HM];exact jy.aft,hBB⟩):P:=h
theorem aqu.Kr217(h:P:=by
 rw [ah HPE] at HK;obtain⟨m,hm⟩:∃m,iB n L=m:=⟨_,rfl⟩;rw [hm] at HK;have HM:=Hq hm;clear HD HP HPE hlt hm;obtain⟨c0,c1,c2,c3,c4,c5,c6,c7,c8,c9⟩:=iQ HK.blk;have hres:=ay HR HK.keep;have oZ:=Hq hres;have hrl:=aA hres;have hwl:=aA HK.blk;open anh in exact acy):P:=h
theorem adA(h:P:=by
 have hl:=World.lt_of_cell h;have HG:=Hq (show Handle (w.alloc (.cells #[.int .i64 0] 281)) from h.below ((Below.refl _ _).alloc (Nat.le_refl _) _));clear h;go_enter Tryz.func217,Tryz.ntmps217
 exact Kr218):P:=h
theorem aqv.Kr218(h:P:=by
 go_wp2_with (go_at_call 243;refine(LY _ w.heap.size (.int .i64 0) _ ⟨_,rfl⟩ (λtg t a old w h1 h2 h3=>afN p tg t a old w h1 h2 h3) HG ?_ ?_).mono ?_;(simp);(simp);rintro e w' ⟨rfl,hbel⟩)
 go_ret;exact⟨rfl,((Below.refl _ _).alloc (Nat.le_refl _) _).trans hbel⟩):P:=h
theorem aqw.Kr218(h:P:=by
 go_wp2_with (go_at_call 243;refine(LY _ w.heap.size (.int .i64 0) _ ⟨_,rfl⟩ (λtg t a old w h1 h2 h3=>afM p tg t a old w h1 h2 h3) HG ?_ ?_).mono ?_;(simp);(simp);rintro e w' ⟨rfl,hbel⟩)
 go_ret;exact⟨rfl,((Below.refl _ _).alloc (Nat.le_refl _) _).trans hbel⟩):P:=h
theorem Xc(h:P:=by
 generalize l[k]=pu at *;obtain⟨pk,pm,pf,ps⟩:=pu;dsimp only at c0 c1 c2 c3 hf;go_wp2_with fail;exact Kr219):P:=h
theorem aqx.Kr219(h:P:=by
 refine bodyPost_ret (v:= .agg (iL pk pm pf ps)) (by simp[results,Tryz.results120,go_sem]) rfl ⟨by rw [ah HX],?_⟩;exact(Below.refl _ _).alloc (Nat.le_refl _) _):P:=h
theorem aqy.Kr219(h:P:=by
 go_roundw
 case rel=>exact⟨k+1,Aaa,Aai,HX,by first|rfl|trivial⟩
 case measure=>simp[intOf];omega):P:=h
theorem aqz.Kr219(h:P:=by
 go_roundw
 case rel=>exact⟨k+1,Aaa,Aai,HX,by first|exact fO.alloc fO.size _|exact fO,by first|(rw [Below.heap_alloc _ _ _ aa5];exact Ey)|exact Ey⟩
 case measure=>simp[intOf];omega):P:=h
theorem Lp(h:P:=by
 have q0:(mT != n.id)=false:=Abd
 have q0':(mT == n.id)=true:=Abd
 clear h1;exact Kr220):P:=h
theorem aqA.Kr220(h:P:=by
 subst h3;have q4:(mF == n.par)=false:=by simpa using h4
 clear h4;open aqV in exact adH):P:=h
theorem aqB.Kr220(h:P:=by
 subst h3;have q4:(mF == n.par)=true:=by simp[h4]
 clear h4;unfold fq;have H9:=Hq h9;clear h9;have VR:=Hq (λW=>jV ⟨0,mF,mT,mI,mL,mk,mN⟩ W Aal);open aje in exact Xg):P:=h
theorem aqC.Kr220(h:P:=by
 unfold fq;have H9:=Hq h9;clear h9;have VR:=Hq (λW=>jV ⟨mK,mF,mT,mI,mL,mk,mN⟩ W Aal);open ajf in exact Xg):P:=h
theorem aqD.Kr220(h:P:=by
 subst h3;obtain⟨FL,hFL⟩:∃FL:Nat->List kC,∀k,FL k=(n.out.take k).filter (λs=> !iK ⟨2,mF,mT,mI,mL,mk,mN⟩ s):=⟨_,λ_=>rfl⟩;have HFE:Hid (n.out.filter (λs=> !iK ⟨2,mF,mT,mI,mL,mk,mN⟩ s)=FL n.out.length):=by unfold Hid;rw [hFL,List.take_length]
 rw [ah HFE];have HF0:Hid (FL 0=[]):=by unfold Hid;rw [hFL];rfl
 have HFS:Hid (∀k (hk:k < n.out.length),FL (k+1)=if n.out[k].i=mI/\n.out[k].t=mF then FL k else FL k++[n.out[k]]):=λk hk=>by
  rw [hFL,hFL,List.take_succ_eq_append_getElem hk,List.filter_append]
  by_cases e:n.out[k].i=mI/\n.out[k].t=mF
  .rw [if_pos e];have e2:(!iK ⟨2,mF,mT,mI,mL,mk,mN⟩ n.out[k])=false:=by unfold iK;rw [decide_eq_true e];rfl
   rw [List.filter_cons,e2];simp
  .rw [if_neg e];have e2:(!iK ⟨2,mF,mT,mI,mL,mk,mN⟩ n.out[k])=true:=by unfold iK;rw [decide_eq_false e];rfl
   rw [List.filter_cons,e2];simp
 have HFN:Hid (∀k,(FL k).length<=n.out.length):=λk=>by
  rw [hFL]
  exact Nat.le_trans (List.length_filter_le _ _) Abm
 clear hFL HFE;obtain⟨i0,hi,hz0,hz1,hz2⟩:=info_parts Jw;have HI:=Hq (And.intro hi (And.intro hz0 (And.intro hz1 hz2)));clear hi hz0 hz1 hz2;unfold fq;have H9:=Hq h9;clear h9;have VR:=Hq (λW=>jV ⟨2,mF,mT,mI,mL,mk,mN⟩ W Aal);open ajg in exact Xg):P:=h
theorem aqE.Kr220(h:P:=by
 subst h3;open aqU in exact adH):P:=h
theorem adB(h:P:=by
 have hVO:= @run_callFunc_extern Tryz.prog 255 _ (λargs=>ReflectliteValue.unpack (args.getD 0 (.tuple #[]))) Tryz.func255 Aab Aab Aab Aab;exact Kr221):P:=h
theorem aqF.Kr221(h:P:=by
 have hTY:= @run_callFunc_extern Tryz.prog 256 _ (ReflectliteValue.methodAny (ReflectliteValue.valueError "reflectlite.Value.Type" 0) (λt _ _ _=>ReflectliteType.toType t)) Tryz.func256 Aab Aab Aab Aab;have hIN:= @run_callFunc_extern Tryz.prog 257 _ (ReflectliteValue.method (ReflectliteValue.valueError "reflectlite.Value.IsNil" 0) ReflectliteValue.isNil) Tryz.func257 Aab Aab Aab Aab;have hKI:= @run_callFunc_extern Tryz.prog 293 _ (ReflectliteType.abiMethod λt=>do pure (.int .u8 (<-Rtype.kind t))) Tryz.func293 Aab Aab Aab Aab;have hEL:= @run_callFunc_extern Tryz.prog 310 _ (ReflectliteType.method ReflectliteType.elem) Tryz.func310 Aab Aab Aab Aab;have hIM:= @run_callFunc_extern Tryz.prog 311 _ (ReflectliteType.relation "Implements" ReflectliteType.implements_) Tryz.func311 Aab Aab Aab Aab;have f1:=As.valueOfPtr;have f2:=As.typePtr;have f3:=As.methodKind;have f4:=As.kindPtr;have f5:=As.methodElem;have f6:=As.elemType;have f7:=As.kindStruct;have f8:=As.methodImplements;have f9:=As.implements;have hgl:=World.lt_of_cell hg;have htl:=World.lt_of_cell ht;simp only at hgl htl;have n8:=As.isNil ⟨w.heap.size,0,none⟩ ⟨tb,0,none⟩ ((w.alloc (.cells #[.pointer (some ⟨tb,0,none⟩)] 283)).alloc (.cells #[.pointer (some ⟨6,283,none⟩),.pointer (some ⟨w.heap.size,0,none⟩),.int .u64 150] 295)) Aac
 have hg2:((w.alloc (.cells #[.pointer (some ⟨tb,0,none⟩)] 283)).alloc (.cells #[.pointer (some ⟨6,283,none⟩),.pointer (some ⟨w.heap.size,0,none⟩),.int .u64 150] 295)).cell? ⟨5,0,none⟩=some (.iface 317 (.agg #[.pointer (some ⟨6,248,none⟩)])):=by
  rw [World.cell?_alloc_lt _ _ ⟨5,0,none⟩ (by simp<;>omega),World.cell?_alloc_lt _ _ ⟨5,0,none⟩ hgl];exact hg
 go_enter Tryz.func243,Tryz.ntmps243
 go_wp2_with (go_at_call 258;refine(HAS _ ⟨tb,0,none⟩ ⟨w.heap.size,0,none⟩ old _ ?_ ?_ ?_).mono ?_;(simp);(rw [World.cell?_alloc_lt _ _ ⟨tb,0,none⟩ Aag,World.cell?_alloc_lt _ _ ⟨tb,0,none⟩ htl];exact ht);(rw [World.frozen?_alloc_old _ _ ⟨tb,0,none⟩ Aag,World.frozen?_alloc_old _ _ ⟨tb,0,none⟩ (Nat.ne_of_lt htl)];exact hf);rintro e w' ⟨rfl,hbel⟩)
 go_ret;exact⟨rfl,(((Below.refl _ _).alloc Aaa _).alloc Aag _).trans hbel⟩):P:=h
theorem aqG.Kr221(h:P:=by
 have hEL:= @run_callFunc_extern Tryz.prog 267 _ (ReflectliteValue.method (ReflectliteValue.valueError "reflectlite.Value.Elem" 0) ReflectliteValue.elem) Tryz.func267 Aab Aab Aab Aab;have hST:= @run_callFunc_extern Tryz.prog 268 _ ReflectliteValue.set Tryz.func268 Aab Aab Aab Aab;have f1:=As.typeOfNo;have f2:=As.typeOfUnread;have f3:=As.methodAssignableTo;have f4:=As.assignNo;have f5:=As.assignUnread;have f6:=As.noAs;have f7:=As.hasUnwrap;have f8:=As.methodUnwrap;have f9:=As.valueOfNo;have hal:a.block < w.heap.size:=World.lt_of_cell ha;have htl:t.block < w.heap.size:=World.lt_of_cell ht;exact Kr35):P:=h
theorem adC(h:P:=by
 have kc:=(nine HNz).2.2.2.2.2.2.2.2;have kf:=au HNz 8;refine aF 15 rfl Aab Aad ?_;go_simp;refine wpAny_done Aab ?_;go_simp;go_wp2_with fail;exact Kr222):P:=h
theorem aqH.Kr222(h:P:=by
 go_meet
 case rel=>
  refine⟨rfl,avT,cvT,?_,?_,?_,?_,?_,?_,?_,?_⟩
  .rcases HVz.2 with⟨_,hn⟩|⟨g,cap,cur,hv,_⟩
   .omega
   .simp only[Value.slice.injEq] at hv;exact⟨g,hv.1⟩
  .rcases HVz.2 with⟨_,hn⟩|⟨g,cap,cur,hv,_,_,hnc,_⟩
   .omega
   .simp only[Value.slice.injEq] at hv;omega
  .have h:=bC HNz 8 (.slice avT (pos+1+(n.reqs.length - pos)) cvT);rw [show pos+1+(n.reqs.length - pos)=n.reqs.length+1 by omega] at h ⊢;exact h
  .exact gK _ Aaa HRz
  .exact gK _ Aaa HQz
  .have h:=LO.own (en:=aM) (cp:=cvT) (l:=n.reqs.take pos++[(⟨no,k,nn,0⟩:Rq)]++n.reqs.drop pos) (by rw [hL2];exact HVz);rw [ah HIQ];rw [List.append_assoc] at h;exact(h.keeps (aC.set _) (λx hx=>Aaj)).lower Aaa
  .exact(Kv.below QW).keeps (aC.set _) (λx hx=>Aaj)
  .exact(jW.trans (QW.mono jW.size)).setCell (p:=⟨w.heap.size,8,none⟩) (Nat.le_refl _) _):P:=h
theorem aqI.Kr222(h:P:=by
 go_meet
 case rel=>
  refine⟨rfl,avT,cvT,?_,?_,?_,?_,?_,?_,?_⟩
  .rcases HVz.2 with⟨_,hn⟩|⟨g,cap,cur,hv,_⟩
   .omega
   .simp only[Value.slice.injEq] at hv;exact⟨g,hv.1⟩
  .rcases HVz.2 with⟨_,hn⟩|⟨g,cap,cur,hv,_,_,hnc,_⟩
   .omega
   .simp only[Value.slice.injEq] at hv;omega
  .have h:=bC HNz 8 (.slice avT (pos+1+(n.reqs.length - pos)) cvT);rw [show pos+1+(n.reqs.length - pos)=n.reqs.length+1 by omega] at h ⊢;exact h
  .exact gK _ Aaa HRz
  .exact gK _ Aaa HQz
  .have h:=LO.own (en:=aM) (cp:=cvT) (l:=n.reqs.take pos++[(⟨no,k,nn,1⟩:Rq)]++n.reqs.drop pos) (by rw [hL2];exact HVz);rw [ah HIQ];rw [List.append_assoc] at h;exact(h.keeps (aC.set _) (λx hx=>Aaj)).lower Aaa
  .exact(jW.trans (QW.mono jW.size)).setCell (p:=⟨w.heap.size,8,none⟩) (Nat.le_refl _) _):P:=h
theorem adD(h:P:=by
 obtain⟨avR,cvR,Mj,_⟩:=GR.own_at (enc:=aW) (sz:=1) (l:=(aY s0 mL).take pos) aQ (by rw [hlt1];exact SY);rw [hlt1] at Mj;subst Mj;clear Jk Jj wF Qb;exact Kr223):P:=h
theorem aqJ.Kr223(h:P:=by
 generalize x2.heap.size=rb at *;exact Zr3):P:=h
theorem aqK.Kr223(h:P:=by
 generalize x1.heap.size=rb at *;exact Zr3):P:=h
theorem Xd(h:P:=by
 have z2:=cell_regrown p2;have z3:=cell_regrown p3;clear c0 c1 c2 c3 c4 c5 c6 c7 c8 c9 p0 p1 p2 p3 p4 p5 p6 p7 p8 p9 mP;exact Kr224):P:=h
theorem aqL.Kr224(h:P:=by
 open ao9 in exact ac4):P:=h
theorem aqM.Kr224(h:P:=by
 refine bE 16 Aab ?_;show eF _ _ _ _ _ 17 (Array.replicate 17 false) _ _
 refine tk [0,1,2,3,4,5,6,7,8,9,10,11,12,13,14,15] ?_;iterate 16 (refine qA (λK hK=>?_);go_simp;refine hK _ ?_;clear hK K)
 refine iN ?_;clear y0 y1 z2 z3;refine aT Aab (λx hx=>?_);have Gu:=Hq (HSY x c v (HW1.step hx));clear hx;refine aF 16 rfl Aab Aad ?_;go_simp;refine Gu.mono ?_;rintro e y ⟨rfl,c',v',hY⟩;have HY:=Hq hY;clear hY Gu;refine wpAny_done Aab ?_;go_simp;go_wp2_with fail;go_ret;exact⟨rfl,c',v',HY⟩):P:=h
theorem aqN.Kr224(h:P:=by
 refine bE 17 Aab ?_;show eF _ _ _ _ _ 20 (Array.replicate 20 false) _ _
 refine tk [0,1,2,3,4,5,6,7,8,9,10,11,12,13,14,15,16] ?_;iterate 17 (refine qA (λK hK=>?_);go_simp;refine hK _ ?_;clear hK K)
 refine iN ?_;clear y1 z2 z3;refine aT Aab (λx hx=>?_);have Gu:=Hq (CG x c v (HW1.step hx));clear hx;refine aF 17 rfl Aab Aad ?_;go_simp;refine Gu.mono ?_;rintro e y ⟨rfl,A',G',c',v',hY⟩;have HY:=Hq hY;clear hY Gu;refine aF 18 rfl Aab Aad ?_;go_simp;refine aF 19 rfl Aab Aad ?_;go_simp;refine wpAny_done Aab ?_;go_simp;cases gb
 all_goals
  go_wp2_with fail
  go_ret
  exact⟨rfl,A',G',c',v',HY⟩):P:=h
theorem adE(h:P:=by
 have lQ:Hid (aX w W'):=vI.trans (fH.below (λx hx=>by have:x=w.heap.size+2:=Aaf;omega) vI.size);obtain⟨x0,x1,x2,x3,x4,x5,x6,x7,x8⟩:=nine e4;clear hW' e4 fH;exact Kr225):P:=h
theorem aqO.Kr225(h:P:=by
 exact bodyPost_ret (v:= .tuple #[(fI N1 A2),.slice ma L1.length mc,.int .i64 Au]) Aaz rfl ⟨A2,ma,mc,rfl,HAT,HMT,lQ⟩):P:=h
theorem aqP.Kr225(h:P:=by
 exact bodyPost_ret (v:= .tuple #[(fI n A1),.slice (some ⟨W0.heap.size,0,none⟩) 0 0,.int .i64 1]) Aaz rfl ⟨A1,some ⟨W0.heap.size,0,none⟩,0,rfl,HAT,λW'' _ i hi=>Aas,lQ⟩):P:=h
theorem adF(h:P:=by
 have HLQ:=Hq (show IQ.length=n.reqs.length+1 by rw [ah HIQ];simp;omega);have lq:=Hq hN6;have jl:=Hq X9;have Bu:=Hq hQ6;have HL6:=Hq hL6;exact Kr226):P:=h
theorem aqQ.Kr226(h:P:=by
 have V7:=Hq hP6;have vI:=Hq hB6;clear hN6 X9 hQ6 hL6 hP6 hB6;rename_i wo _ _ _
 by_cases h30:30 < n.reqs.length+1
 .have HK:=Hq (show lF (setPu n RL) ⟨no,k,nn,0⟩=dS (lJ (setPu n RL) (IQ.headD default).no) IQ.tail by unfold lF;rw [show((setPu n RL)).reqs=n.reqs from rfl,ah VO,ah HLQ,if_pos h30]);open aiU in exact arz
 .have HK:=Hq (show lF (setPu n RL) ⟨no,k,nn,0⟩=dS (setPu n RL) IQ by unfold lF;rw [show((setPu n RL)).reqs=n.reqs from rfl,ah VO,ah HLQ,if_neg h30]);open alU in exact abX):P:=h
theorem aqR.Kr226(h:P:=by
 have vI:=Hq hB6;clear hN6 X9 hQ6 hL6 hB6;rename_i wo _ _ _
 by_cases h30:30 < n.reqs.length+1
 .have HK:=Hq (show lF n ⟨no,k,nn,1⟩=dS (lJ n (IQ.headD default).no) IQ.tail by unfold lF;rw [show(n).reqs=n.reqs from rfl,ah VO,ah HLQ,if_pos h30]);open aiV in exact arz
 .have HK:=Hq (show lF n ⟨no,k,nn,1⟩=dS n IQ by unfold lF;rw [show(n).reqs=n.reqs from rfl,ah VO,ah HLQ,if_neg h30]);open alV in exact abX):P:=h
theorem adG(h:P:=by
 have c4:V.cell? ⟨g,off+j*4,none⟩=some (.string q):=by rw [hV,World.cell?_alloc_lt _ _ _ hgw];exact d0
 have hgq:g < V.heap.size:=by rw [hV];simp;omega
 clear hblk hV c0 c1 c2 c3 d0;exact Kr227):P:=h
theorem aqS.Kr227(h:P:=by
 open aqa in exact adq):P:=h
theorem aqT.Kr227(h:P:=by
 open ap9 in exact adp):P:=h
theorem adH(h:P:=by
 have h9n:∀x,6 < newC w.heap.size 9 c x->newC w.heap.size 9 c x=9:=λx hx=>by
  by_cases hlt:x < w.heap.size
  .rw [dW hlt] at hx ⊢;exact h9 x hx
  .exact aS Aaa
 exact Kr228):P:=h
theorem aqU.Kr228(h:P:=by
 have Q8:=Hq (λW (hBW:B<=W.heap.size) (hN:NQ W B n A G (newC w.heap.size 9 c))=>ZE n A G (newC w.heap.size 9 c) 1 mF mT mI mL mk mN W B hBW h9n hz hmk hP tu hok h2 hN);clear h9n hz hP tu hok;unfold fq at Q8;dsimp only at Q8 ⊢;generalize (takeN n ⟨1,mF,mT,mI,mL,mk,mN⟩).1=N1 at *;generalize (if (takeN n ⟨1,mF,mT,mI,mL,mk,mN⟩).2=true then[Tp n ⟨1,mF,mT,mI,mL,mk,mN⟩] else[])=L1 at *;generalize (if (takeN n ⟨1,mF,mT,mI,mL,mk,mN⟩).2=true then(0:Int) else 1)=Au at *;unfold fq;have H9:=Hq h9;clear h9;have VR:=Hq (λW=>jV ⟨1,mF,mT,mI,mL,mk,mN⟩ W Aal);open ajh in exact Xg):P:=h
end Go.Proofs.YtacgbldlonoaaaaGreatDoor
