/-
  Parts of proofs that stand more than once, each said once.
-/
import Derived.Test.YtohmklmkjmlpjaaGreatDoorRkZ4
namespace Go.Proofs.YtohmklmkjmlpjaaGreatDoor
open Go.Proofs.Tryz
set_option maxRecDepth 100000
variable{P:Prop}
theorem avy.AeG(h:P:=by
 go_wp2_with (go_at_call 253;refine(OL _ w.heap.size (.int .i64 0) _ ⟨_,rfl⟩ (λtg t a old w h1 h2 h3=>aj2 p tg t a old w h1 h2 h3) HG ?_ ?_).mono ?_;(simp);(simp);rintro e w' ⟨rfl,hbel⟩)
 go_ret;exact⟨rfl,((Below.refl _ _).alloc (Nat.le_refl _) _).trans hbel⟩):P:=h
theorem avz.AeG(h:P:=by
 go_wp2_with (go_at_call 253;refine(OL _ w.heap.size (.int .i64 0) _ ⟨_,rfl⟩ (λtg t a old w h1 h2 h3=>aj1 p tg t a old w h1 h2 h3) HG ?_ ?_).mono ?_;(simp);(simp);rintro e w' ⟨rfl,hbel⟩)
 go_ret;exact⟨rfl,((Below.refl _ _).alloc (Nat.le_refl _) _).trans hbel⟩):P:=h
theorem aae(h:P:=by
 generalize l[k]=pu at *;obtain⟨pk,pm,pf,ps⟩:=pu;dsimp only at c0 c1 c2 c3 hf;go_wp2_with fail;exact AbU):P:=h
theorem avA.AbU(h:P:=by
 refine bodyPost_ret (v:= .agg (iW pk pm pf ps)) (by simp[results,results151,go_sem]) rfl ⟨by rw [ah HX],?_⟩;exact(Below.refl _ _).alloc (Nat.le_refl _) _):P:=h
theorem avB.AbU(h:P:=by
 go_roundw
 case rel=>exact⟨k+1,Aaa,Aah,HX,by first|rfl|trivial⟩
 case measure=>simp[intOf];omega):P:=h
theorem avC.AbU(h:P:=by
 go_roundw
 case rel=>exact⟨k+1,Aaa,Aah,HX,by first|exact cK.alloc cK.size _|exact cK,by first|(rw [Below.heap_alloc _ _ _ aev];exact Gc)|exact Gc⟩
 case measure=>simp[intOf];omega):P:=h
theorem N8(h:P:=by
 have q0:(mT != n.id)=false:=Abb
 have q0':(mT == n.id)=true:=Abb
 clear h1;exact Aa1):P:=h
theorem avD.Aa1(h:P:=by
 subst h3;have q4:(mF == n.par)=false:=by simpa using h4
 clear h4;open avX in exact ag2):P:=h
theorem avE.Aa1(h:P:=by
 subst h3;have q4:(mF == n.par)=true:=by simp[h4]
 clear h4;unfold gD;have H9:=Hq h9;clear h9;have Zd:=Hq (λW=>jZ ⟨0,mF,mT,mI,mL,mk,mN⟩ W Aam);open anO in exact aai):P:=h
theorem avF.Aa1(h:P:=by
 unfold gD;have H9:=Hq h9;clear h9;have Zd:=Hq (λW=>jZ ⟨mK,mF,mT,mI,mL,mk,mN⟩ W Aam);open anP in exact aai):P:=h
theorem avG.Aa1(h:P:=by
 subst h3;obtain⟨FL,hFL⟩:∃FL:Nat->List jK,∀k,FL k=(n.out.take k).filter (λs=> !iV ⟨2,mF,mT,mI,mL,mk,mN⟩ s):=⟨_,λ_=>rfl⟩;have HFE:Hid (n.out.filter (λs=> !iV ⟨2,mF,mT,mI,mL,mk,mN⟩ s)=FL n.out.length):=by unfold Hid;rw [hFL,List.take_length]
 rw [ah HFE];have HF0:Hid (FL 0=[]):=by unfold Hid;rw [hFL];rfl
 have HFS:Hid (∀k (hk:k < n.out.length),FL (k+1)=if n.out[k].i=mI/\n.out[k].t=mF then FL k else FL k++[n.out[k]]):=λk hk=>by
  rw [hFL,hFL,List.take_succ_eq_append_getElem hk,List.filter_append]
  by_cases e:n.out[k].i=mI/\n.out[k].t=mF
  .rw [if_pos e];have e2:(!iV ⟨2,mF,mT,mI,mL,mk,mN⟩ n.out[k])=false:=by unfold iV;rw [decide_eq_true e];rfl
   rw [List.filter_cons,e2];simp
  .rw [if_neg e];have e2:(!iV ⟨2,mF,mT,mI,mL,mk,mN⟩ n.out[k])=true:=by unfold iV;rw [decide_eq_false e];rfl
   rw [List.filter_cons,e2];simp
 have HFN:Hid (∀k,(FL k).length<=n.out.length):=λk=>by
  rw [hFL]
  exact Nat.le_trans (List.length_filter_le _ _) Abj
 clear hFL HFE;obtain⟨i0,hi,hz0,hz1,hz2⟩:=info_parts Lp;have HI:=Hq (And.intro hi (And.intro hz0 (And.intro hz1 hz2)));clear hi hz0 hz1 hz2;unfold gD;have H9:=Hq h9;clear h9;have Zd:=Hq (λW=>jZ ⟨2,mF,mT,mI,mL,mk,mN⟩ W Aam);open anQ in exact aai):P:=h
theorem avH.Aa1(h:P:=by
 subst h3;open avW in exact ag2):P:=h
theorem agY(h:P:=by
 have hVO:= @run_callFunc_extern prog 270 _ (λargs=>ReflectliteValue.unpack (args.getD 0 (.tuple #[]))) func270 Aab Aab Aab Aab;exact AeB):P:=h
theorem avI.AeB(h:P:=by
 have hTY:= @run_callFunc_extern prog 271 _ (ReflectliteValue.methodAny (ReflectliteValue.valueError "reflectlite.Value.Type" 0) (λt _ _ _=>ReflectliteType.toType t)) func271 Aab Aab Aab Aab;have hIN:= @run_callFunc_extern prog 272 _ (ReflectliteValue.method (ReflectliteValue.valueError "reflectlite.Value.IsNil" 0) ReflectliteValue.isNil) func272 Aab Aab Aab Aab;have hKI:= @run_callFunc_extern prog 333 _ (ReflectliteType.abiMethod λt=>do pure (.int .u8 (<-Rtype.kind t))) func333 Aab Aab Aab Aab;have hEL:= @run_callFunc_extern prog 351 _ (ReflectliteType.method ReflectliteType.elem) func351 Aab Aab Aab Aab;have hIM:= @run_callFunc_extern prog 352 _ (ReflectliteType.relation "Implements" ReflectliteType.implements_) func352 Aab Aab Aab Aab;have f1:=As.valueOfPtr;have f2:=As.typePtr;have f3:=As.methodKind;have f4:=As.kindPtr;have f5:=As.methodElem;have f6:=As.elemType;have f7:=As.kindStruct;have f8:=As.methodImplements;have f9:=As.implements;have hgl:=World.lt_of_cell hg;have htl:=World.lt_of_cell ht;simp only at hgl htl;have n8:=As.isNil ⟨w.heap.size,0,none⟩ ⟨tb,0,none⟩ ((w.alloc (.cells #[.pointer (some ⟨tb,0,none⟩)] 276)).alloc (.cells #[.pointer (some ⟨6,276,none⟩),.pointer (some ⟨w.heap.size,0,none⟩),.int .u64 150] 303)) Aac
 have hg2:((w.alloc (.cells #[.pointer (some ⟨tb,0,none⟩)] 276)).alloc (.cells #[.pointer (some ⟨6,276,none⟩),.pointer (some ⟨w.heap.size,0,none⟩),.int .u64 150] 303)).cell? ⟨0,0,none⟩=some (.iface 330 (.agg #[.pointer (some ⟨6,242,none⟩)])):=by
  rw [World.cell?_alloc_lt _ _ ⟨0,0,none⟩ (by simp<;>omega),World.cell?_alloc_lt _ _ ⟨0,0,none⟩ hgl];exact hg
 go_in
 go_wp2_with (go_at_call 273;refine(HAS _ ⟨tb,0,none⟩ ⟨w.heap.size,0,none⟩ old _ ?_ ?_ ?_).mono ?_;(simp);(rw [World.cell?_alloc_lt _ _ ⟨tb,0,none⟩ Aag,World.cell?_alloc_lt _ _ ⟨tb,0,none⟩ htl];exact ht);(rw [World.frozen?_alloc_old _ _ ⟨tb,0,none⟩ Aag,World.frozen?_alloc_old _ _ ⟨tb,0,none⟩ (Nat.ne_of_lt htl)];exact hf);rintro e w' ⟨rfl,hbel⟩)
 go_ret;exact⟨rfl,(((Below.refl _ _).alloc Aaa _).alloc Aag _).trans hbel⟩):P:=h
theorem avJ.AeB(h:P:=by
 have hEL:= @run_callFunc_extern prog 293 _ (ReflectliteValue.method (ReflectliteValue.valueError "reflectlite.Value.Elem" 0) ReflectliteValue.elem) func293 Aab Aab Aab Aab;have hST:= @run_callFunc_extern prog 294 _ ReflectliteValue.set func294 Aab Aab Aab Aab;have f1:=As.typeOfNo;have f2:=As.typeOfUnread;have f3:=As.methodAssignableTo;have f4:=As.assignNo;have f5:=As.assignUnread;have f6:=As.noAs;have f7:=As.hasUnwrap;have f8:=As.methodUnwrap;have f9:=As.valueOfNo;have hal:a.block < w.heap.size:=World.lt_of_cell ha;have htl:t.block < w.heap.size:=World.lt_of_cell ht;exact AdV):P:=h
theorem agZ(h:P:=by
 obtain⟨avR,cvR,Ce,_⟩:=GR.own_at (enc:=aU) (sz:=1) (l:=(aV s0 mL).take pos) aQ (by rw [hlt1];exact RI);rw [hlt1] at Ce;subst Ce;clear GN GL zu GQ;exact AeQ):P:=h
theorem avK.AeQ(h:P:=by
 generalize x1.heap.size=rb at *;exact Zk2):P:=h
theorem avL.AeQ(h:P:=by
 generalize x2.heap.size=rb at *;exact Zk2):P:=h
theorem aaf(h:P:=by
 have z2:=cell_regrown p2;have z3:=cell_regrown p3;clear c0 c1 c2 c3 c4 c5 c6 c7 c8 c9 p0 p1 p2 p3 p4 p5 p6 p7 p8 p9 nT;exact AcA):P:=h
theorem avM.AcA(h:P:=by
 open atS in exact agr):P:=h
theorem avN.AcA(h:P:=by
 refine dB 16 Aab ?_;show eY _ _ _ _ _ 17 (Array.replicate 17 false) _ _
 refine tk [0,1,2,3,4,5,6,7,8,9,10,11,12,13,14,15] ?_;iterate 16 (refine uR (λK hK=>?_);go_simp;refine hK _ ?_;clear hK K)
 refine jJ ?_;clear y0 y1 z2 z3;refine bC Aab (λx hx=>?_);have Jf:=Hq (HSY x c v (HW1.step hx));clear hx;refine aH 16 rfl Aab Aad ?_;go_simp;refine Jf.mono ?_;rintro e y ⟨rfl,c',v',hY⟩;have HY:=Hq hY;clear hY Jf;refine wpAny_done Aab ?_;go_simp;go_wp2_with fail;go_ret;exact⟨rfl,c',v',HY⟩):P:=h
theorem avP.AcA(h:P:=by
 refine dB 17 Aab ?_;show eY _ _ _ _ _ 20 (Array.replicate 20 false) _ _
 refine tk [0,1,2,3,4,5,6,7,8,9,10,11,12,13,14,15,16] ?_;iterate 17 (refine uR (λK hK=>?_);go_simp;refine hK _ ?_;clear hK K)
 refine jJ ?_;clear y1 z2 z3;refine bC Aab (λx hx=>?_);have Jf:=Hq (Gq x c v (HW1.step hx));clear hx;refine aH 17 rfl Aab Aad ?_;go_simp;refine Jf.mono ?_;rintro e y ⟨rfl,A',G',c',v',hY⟩;have HY:=Hq hY;clear hY Jf;refine aH 18 rfl Aab Aad ?_;go_simp;refine aH 19 rfl Aab Aad ?_;go_simp;refine wpAny_done Aab ?_;go_simp;cases gb
 all_goals
  go_wp2_with fail
  go_ret
  exact⟨rfl,A',G',c',v',HY⟩):P:=h
theorem ag0(h:P:=by
 have oh:Hid (aI w W'):=yH.trans (fP.below (λx hx=>by have:x=w.heap.size+2:=Aaf;omega) yH.size);obtain⟨x0,x1,x2,x3,x4,x5,x6,x7,x8⟩:=nine e4;clear hW' e4 fP;exact AeU):P:=h
theorem avQ.AeU(h:P:=by
 exact bodyPost_ret (v:= .tuple #[(gB N1 A2),.slice ma L1.length mc,.int .i64 BZ]) Aay rfl ⟨A2,ma,mc,rfl,HAT,HMT,oh⟩):P:=h
theorem avS.AeU(h:P:=by
 exact bodyPost_ret (v:= .tuple #[(gB n A1),.slice (some ⟨W0.heap.size,0,none⟩) 0 0,.int .i64 1]) Aay rfl ⟨A1,some ⟨W0.heap.size,0,none⟩,0,rfl,HAT,λW'' _ i hi=>Aas,oh⟩):P:=h
theorem ag1(h:P:=by
 have c4:V.cell? ⟨g,off+j*4,none⟩=some (.string q):=by rw [hV,World.cell?_alloc_lt _ _ _ hgw];exact d0
 have hgq:g < V.heap.size:=by rw [hV];simp;omega
 clear hblk hV c0 c1 c2 c3 d0;exact AeH):P:=h
theorem avU.AeH(h:P:=by
 open auY in exact agK):P:=h
theorem avV.AeH(h:P:=by
 open auX in exact agJ):P:=h
theorem ag2(h:P:=by
 have h9n:∀x,6 < newC w.heap.size 9 c x->newC w.heap.size 9 c x=9:=λx hx=>by
  by_cases hlt:x < w.heap.size
  .rw [fq hlt] at hx ⊢;exact h9 x hx
  .exact bJ Aaa
 exact AeS):P:=h
theorem avW.AeS(h:P:=by
 have NJ:=Hq (λW (hBW:B<=W.heap.size) (hN:NQ W B n A G (newC w.heap.size 9 c))=>acQ n A G (newC w.heap.size 9 c) 1 mF mT mI mL mk mN W B hBW h9n hz hmk hP wP hok h2 hN);clear h9n hz hP wP hok;unfold gD at NJ;dsimp only at NJ ⊢;generalize (takeN n ⟨1,mF,mT,mI,mL,mk,mN⟩).1=N1 at *;generalize (if (takeN n ⟨1,mF,mT,mI,mL,mk,mN⟩).2=true then[Wx n ⟨1,mF,mT,mI,mL,mk,mN⟩] else[])=L1 at *;generalize (if (takeN n ⟨1,mF,mT,mI,mL,mk,mN⟩).2=true then(0:Int) else 1)=BZ at *;unfold gD;have H9:=Hq h9;clear h9;have Zd:=Hq (λW=>jZ ⟨1,mF,mT,mI,mL,mk,mN⟩ W Aam);open anR in exact aai):P:=h
theorem avX.AeS(h:P:=by
 have HGV:=Hq (λW (hBW:B<=W.heap.size) (hN:NQ W B n A G (newC w.heap.size 9 c))=>QC n A G (newC w.heap.size 9 c) mF mk mN W B hBW h9n hz hmk hP wP h0 hN);clear h9n hz hP wP;unfold gD at HGV;generalize eZ n mF mk mN=GV at *;obtain⟨N1,L1,b1⟩:=GV;dsimp only at HGV ⊢;generalize (if b1=true then(0:Int) else 1)=BZ at *;unfold gD;have H9:=Hq h9;clear h9;have Zd:=Hq (λW=>jZ ⟨0,mF,mT,mI,mL,mk,mN⟩ W Aam);open anN in exact aai):P:=h
theorem ag3(h:P:=by
 go_wp2_with fail;refine(HCM _).mono ?_;rintro e w1 ⟨rfl,hb1⟩;have HB1:=Hq (HB.trans (hb1.mono HB.size));exact AcJ):P:=h
theorem avY.AcJ(h:P:=by
 have HE:Hid (RF=(ln - no == 0)):=by
  show RF=_
  rw [ah HFP,Bool.eq_iff_iff,decide_eq_true_iff,beq_iff_eq];omega
 clear hb1 q0 q1 q2 q3 HFP;go_wp2_with fail;go_ret2
 exact⟨by rw [ah HE];rfl,HB1⟩):P:=h
theorem avZ.AcJ(h:P:=by
 clear hb1 q0 q1 q2 q3;by_cases hc:ln - no < 0
 .go_wp2_with fail;go_roundw
  case rel=>exact⟨m+1,q,by
   rcases Nat.lt_or_ge R (m+1) with h9|h9
   .have:=ah HHM Aaa;omega
   .exact h9,h3,h4,Aah,rfl,HB1⟩
  case measure=>simp[intOf];omega
 .go_wp2_with fail;go_roundw
  case rel=>exact⟨p,m,h2,by
   rcases Nat.lt_or_ge m R with h9|h9
   .have:=ah HLM h9;omega
   .exact h9,Aaa,rfl,rfl,HB1⟩
  case measure=>simp[intOf];omega):P:=h
theorem ag4(h:P:=by
 go_in
 go_wp2_with fail;refine(HO _).mono ?_;rintro e w1 ⟨rfl,hb1⟩;obtain⟨hA,hC,hbel⟩:=Ae hb1;have HC:=Hq hC;have cK:=Hq hbel;exact Aen):P:=h
theorem av0.Aen(h:P:=by
 obtain⟨⟨p0,p1,p2,p3⟩,_⟩:=fT hA;obtain⟨⟨r0,r1,r2,r3⟩,s0,s1,s2,s3⟩:=fT hC;clear hb1 hA hC hbel;go_wp2_with fail;clear r0 r1 r2 r3;refine Fo.bodyPost_at (λW' hW'=>?_);obtain⟨⟨r0,r1,r2,r3⟩,_⟩:=fT (show W'.heap[w.heap.size+1+1]?=some (.cells (iW pk (pm+dm*n) (pf+df*n) (ps+ds*n)) 108 (0,0)) by rw [hW'];exact Fo.four_set HC);have hbb:aI w W':=by rw [hW'];exact Fo.four_below cK Aaa
 exact bodyPost_ret (v:= .tuple #[.agg (iW pk (pm+dm*n) (pf+df*n) (ps+ds*n)),.nilIface]) (by simp[results,results303,go_sem,r0,r1,r2,r3]) rfl ⟨rfl,hbb⟩):P:=h
theorem av1.Aen(h:P:=by
 have ve:=(HE.below hbel).var 5 Aaa;have hsz:=(show w.heap.size+1+1 < w1.heap.size from Fo.lt_of_blk hC);have hve:5 < w.heap.size:=World.block_lt_of_cell? _ _ (HE.var 5 Aaa);obtain⟨⟨r0,r1,r2,r3⟩,s0,s1,s2,s3⟩:=fT hC;clear hb1 hA hC hbel;go_wp2_with fail;go_region
 all_goals
  go_wp2_with fail
  refine Fo.bodyPost_at (λW' hW'=>?_)
  obtain⟨⟨t0,t1,t2,t3⟩,_⟩:=fT (show W'.heap[w.heap.size+1+1]?=some (.cells (iW ⟨#[]⟩ 0 0 0) 108 (0,0)) by rw [hW'];exact Fo.four_set (w:=w1.drew) HC)
  have hbb:aI w W':=by rw [hW'];exact Fo.four_below (w:=w1.drew) (cK.trans ⟨rfl,rfl,rfl,Nat.le_refl _,λ_ _=>rfl⟩) Aaa
  exact bodyPost_ret (v:= .tuple #[.agg (iW ⟨#[]⟩ 0 0 0),tJ (E 5)]) (by simp[results,results303,go_sem,t0,t1,t2,t3]) rfl ⟨rfl,hbb⟩):P:=h
end Go.Proofs.YtohmklmkjmlpjaaGreatDoor
