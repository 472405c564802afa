/-
  Parts of proofs that stand more than once, each said once.
-/
import Derived.Test.YtacgbldlonoaaaaGreatDoorRaZ1
namespace Go.Proofs.YtacgbldlonoaaaaGreatDoor
set_option maxRecDepth 100000
variable{P:Prop}
theorem adB.Ka30(h:P:=by
 clear y0 y1 y2 y3 y4 cO
 all_goals
  go_wp2_with fail
  go_roundw
  case rel=>exact⟨(j+1)+1,by omega,by go_num,by rw [ah fF,ah kV,ah yZ];rfl,jX⟩
  case measure=>simp[intOf];omega):P:=h
theorem adC.Ka30(h:P:=by
 clear y0 y1 y2 y3 y4 cO
 all_goals
  go_wp2_with fail
  go_ret
  exact⟨aD HBAD.symm,jX⟩):P:=h
theorem alX(h:P:=by
 cases h3:eD lo
 case' false=>
  have cS:=Dl lo false W1 h3
  have HV:=hide (show bb=true by rw [←ah dY];simp[h3])
  clear dY
  refine wp_region_quiet_below (by kernel_rfl) (by kernel_rfl) ?_
  repeat (first|go_big_quiet_step ((first|(go_at_call 47;exact cN _ _)|(go_at_call 61;exact cS _ _)))|quiet_step ((first|(go_at_call 47;exact cN _ _)|(go_at_call 61;exact cS _ _))))
  refine wpQuiet_nil ?_
  intro _ hw'
  obtain⟨⟨dq,osq⟩,hw''⟩:=hw'
  subst hw''
  go_wp2_with fail
  go_meet
  case rel=>exact tC
 have cS:=Dl lo true W1 h3;by_cases h4:ids.length≤40
 case' neg=>
  have hq:decide ((40:Int) < ids.length)=true:=decide_eq_true (by omega)
  have HV:=hide (show bb=true by rw [←ah dY];simp[h4])
  clear dY
  refine wp_region_quiet_below (by kernel_rfl) (by kernel_rfl) ?_
  repeat (first|go_big_quiet_step ((first|(go_at_call 47;exact cN _ _)|(go_at_call 61;exact cS _ _)))|quiet_step ((first|(go_at_call 47;exact cN _ _)|(go_at_call 61;exact cS _ _))))
  refine wpQuiet_nil ?_
  intro _ hw'
  obtain⟨⟨dq,osq⟩,hw''⟩:=hw'
  subst hw''
  go_wp2_with fail
  go_meet
  case rel=>exact tC
 have hq:decide ((40:Int) < ids.length)=false:=decide_eq_false (by omega);exact Ka31):P:=h
theorem adD.Ka31(h:P:=by
 have HV:=hide (show bb=false by rw [←ah dY];simp[h1,h3,h4,h2]);exact ank):P:=h
theorem adE.Ka31(h:P:=by
 have HV:=hide (show bb=false by rw [←ah dY];simp[h1,h3,h4]);exact ank):P:=h
theorem alY(h:P:=by
 open ajj in exact XU):P:=h
theorem adF.Ka32(h:P:=by
 have AX:=hide (show y3.heap[x2.heap.size]?=some (.cells #[.int .i64 no,.string k,.int .i64 nn,.int .i64 0] 97 (0,0)) from by rw [tK.block _ (aA (ah tq)) (fun hm=>ah DK _ hm.symm rfl)];exact tq);open ajW in exact Qx):P:=h
theorem adG.Ka32(h:P:=by
 have AX:=hide (show y3.heap[x2.heap.size]?=some (.cells #[.int .i64 no,.string k,.int .i64 nn,.int .i64 1] 97 (0,0)) from by rw [tK.block _ (aA (ah tq)) (fun hm=>ah DK _ hm.symm rfl)];exact tq);open ajV in exact Qx):P:=h
theorem Ni(h:P:=by
 obtain⟨d0,d1,d2,d3,d4,d5,d6,d7,d8⟩:=nine qB;have f0:=ay qB 0;have f1:=ay qB 1;have f2:=ay qB 2;have f3:=ay qB 3;have f4:=ay qB 4;have f5:=ay qB 5;have f6:=ay qB 6;have f7:=ay qB 7;have f8:=ay qB 8;exact Ka33):P:=h
theorem adH.Ka33(h:P:=by
 have hnl:=aA jg;open ah9 in exact Xr):P:=h
theorem adI.Ka33(h:P:=by
 have hrl:=aA qB;go_wp2_with fail;refine aO (fun W' hW'=>?_)
 have e4:W'.heap[w.heap.size+2]?=some (.cells #[.int .i64 N1.id,.int .i64 N1.par,.slice A2.k N1.kids.length A2.ck,.int .i64 N1.next,.slice A2.p N1.pu.length A2.cp,.slice A2.o N1.out.length A2.co,.slice A2.s N1.seen.length A2.cs,.int .i64 N1.old,.slice A2.r N1.reqs.length A2.cr] 30 (0,0)):=by
  rw [hW'];exact GR.setW_blk [.int .i64 N1.id,.int .i64 N1.par,.slice A2.k N1.kids.length A2.ck,.int .i64 N1.next,.slice A2.p N1.pu.length A2.cp,.slice A2.o N1.out.length A2.co,.slice A2.s N1.seen.length A2.cs,.int .i64 N1.old,.slice A2.r N1.reqs.length A2.cr] (o:=0) (xs:=[.int .i64 0,.int .i64 0,.slice none 0 0,.int .i64 0,.slice none 0 0,.slice none 0 0,.slice none 0 0,.int .i64 0,.slice none 0 0]) qB
 have eU:aC [w.heap.size+2] (W5.alloc (.cells #[.int .i64 N1.id,.int .i64 N1.par,.slice A2.k N1.kids.length A2.ck,.int .i64 N1.next,.slice A2.p N1.pu.length A2.cp,.slice A2.o N1.out.length A2.co,.slice A2.s N1.seen.length A2.cs,.int .i64 N1.old,.slice A2.r N1.reqs.length A2.cr] 30)) W':=by
  rw [hW'];exact aL [.int .i64 N1.id,.int .i64 N1.par,.slice A2.k N1.kids.length A2.ck,.int .i64 N1.next,.slice A2.p N1.pu.length A2.cp,.slice A2.o N1.out.length A2.co,.slice A2.s N1.seen.length A2.cs,.int .i64 N1.old,.slice A2.r N1.reqs.length A2.cr] (W5.alloc (.cells #[.int .i64 N1.id,.int .i64 N1.par,.slice A2.k N1.kids.length A2.ck,.int .i64 N1.next,.slice A2.p N1.pu.length A2.cp,.slice A2.o N1.out.length A2.co,.slice A2.s N1.seen.length A2.cs,.int .i64 N1.old,.slice A2.r N1.reqs.length A2.cr] 30)) 0
 have HAT:=hide (fun W'' (ho:Dx w W' W'')=>Pw W'' (ho.out (c:=c) ((aC.of_below (au W5 (.cells #[.int .i64 N1.id,.int .i64 N1.par,.slice A2.k N1.kids.length A2.ck,.int .i64 N1.next,.slice A2.p N1.pu.length A2.cp,.slice A2.o N1.out.length A2.co,.slice A2.s N1.seen.length A2.cs,.int .i64 N1.old,.slice A2.r N1.reqs.length A2.cr] 30))).trans eU) hrx PE));have jW:Hid (Below w.heap.size w W'):=qA.trans (eU.below (fun x hx=>by have:x=w.heap.size+2:=(by simpa using hx);omega) qA.size);obtain⟨x0,x1,x2,x3,x4,x5,x6,x7,x8⟩:=nine e4;clear hW' e4 eU;exact bodyPost_ret (v:= .tuple #[.agg #[.int .i64 N1.id,.int .i64 N1.par,.slice A2.k N1.kids.length A2.ck,.int .i64 N1.next,.slice A2.p N1.pu.length A2.cp,.slice A2.o N1.out.length A2.co,.slice A2.s N1.seen.length A2.cs,.int .i64 N1.old,.slice A2.r N1.reqs.length A2.cr],.slice (some ⟨W0.heap.size,0,none⟩) 0 0,.int .i64 xL]) (by simp[results,Tryz.results9,go_sem,x0,x1,x2,x3,x4,x5,x6,x7,x8]) rfl ⟨A2,some ⟨W0.heap.size,0,none⟩,0,rfl,HAT,fun W'' _ i hi=>by simp at hi,jW⟩):P:=h
theorem adJ.Ka33(h:P:=by
 have hnl:=aA iQ;open ah8 in exact Xr):P:=h
theorem adK.Ka33(h:P:=by
 have hnl:=aA wN;have hrl:=aA qB;go_wp2_with fail;refine aO (fun W' hW'=>?_)
 have e4:W'.heap[w.heap.size+2]?=some (.cells #[.int .i64 n.id,.int .i64 n.par,.slice A.k n.kids.length A.ck,.int .i64 n.next,.slice A.p n.pu.length A.cp,.slice a (FL n.out.length).length cp,.slice A.s n.seen.length A.cs,.int .i64 n.old,.slice A.r n.reqs.length A.cr] 30 (0,0)):=by
  rw [hW'];exact GR.setW_blk [.int .i64 n.id,.int .i64 n.par,.slice A.k n.kids.length A.ck,.int .i64 n.next,.slice A.p n.pu.length A.cp,.slice a (FL n.out.length).length cp,.slice A.s n.seen.length A.cs,.int .i64 n.old,.slice A.r n.reqs.length A.cr] (o:=0) (xs:=[.int .i64 0,.int .i64 0,.slice none 0 0,.int .i64 0,.slice none 0 0,.slice none 0 0,.slice none 0 0,.int .i64 0,.slice none 0 0]) qB
 have eU:aC [w.heap.size+2] (Z.alloc (.cells #[] 32)) W':=by
  rw [hW'];exact aL [.int .i64 n.id,.int .i64 n.par,.slice A.k n.kids.length A.ck,.int .i64 n.next,.slice A.p n.pu.length A.cp,.slice a (FL n.out.length).length cp,.slice A.s n.seen.length A.cs,.int .i64 n.old,.slice A.r n.reqs.length A.cr] (Z.alloc (.cells #[] 32)) 0
 have HAT:=hide (fun W'' (ho:Out c w W' W'')=>(show RM W'' ⟨A.k,A.p,a,A.s,A.r,A.ck,A.cp,cp,A.cs,A.cr⟩ (setOut n (FL n.out.length)) from by
  have kF:KC (newC w.heap.size 9 c) 9 (Z.alloc (.cells #[] 32)) W'':=(KC.keeps eU (fun y hy=>by have:y=w.heap.size+2:=(by simpa using hy);rw [this];exact aT (by omega))).trans (KC.out H9 ho)
  have hoF:W''.ownsRow W2.heap.size 95 4 (.slice a (FL n.out.length).length cp) (FL n.out.length).length (GR.flat aS (FL n.out.length)):=by
   obtain⟨F,hk,hF⟩:=ho;exact(cK (cK HOA eU (fun y hy=>by have:y=w.heap.size+2:=(by simpa using hy);omega)) hk (fun y hy=>by have:=(hF y hy).1;omega))
  have h5:=O7.kc (k:=9) kF (by omega)
  exact NQ.put h5 h5 (setOut n (FL n.out.length)) ⟨A.k,A.p,a,A.s,A.r,A.ck,A.cp,cp,A.cs,A.cr⟩ rfl rfl rfl rfl h5.p.at (fun g' hg' hp'=> .inl (h5.cpB h5 g' hg' hp')) hoF (fun y hy=> .inr (by have h1:=pU hoF hy;rw [aT (by omega)];omega)) h5.r (fun y hy=> .inl (h5.cr y hy))
   (fun g' hg' hp' h6=>by have:=h5.cpB h5 g' hg' hp';omega) (fun y hy h6 e=>by have:=h5.cr y e;omega)))
 open aiQ in exact XE):P:=h
theorem adL.Ka33(h:P:=by
 have hnl:=aA O7;have hrl:=aA qB;go_wp2_with fail;refine aO (fun W' hW'=>?_)
 have e4:W'.heap[w.heap.size+2]?=some (.cells #[.int .i64 N1.id,.int .i64 N1.par,.slice A1.k N1.kids.length A1.ck,.int .i64 N1.next,.slice A1.p N1.pu.length A1.cp,.slice A1.o N1.out.length A1.co,.slice A1.s N1.seen.length A1.cs,.int .i64 N1.old,.slice A1.r N1.reqs.length A1.cr] 30 (0,0)):=by
  rw [hW'];exact GR.setW_blk [.int .i64 N1.id,.int .i64 N1.par,.slice A1.k N1.kids.length A1.ck,.int .i64 N1.next,.slice A1.p N1.pu.length A1.cp,.slice A1.o N1.out.length A1.co,.slice A1.s N1.seen.length A1.cs,.int .i64 N1.old,.slice A1.r N1.reqs.length A1.cr] (o:=0) (xs:=[.int .i64 0,.int .i64 0,.slice none 0 0,.int .i64 0,.slice none 0 0,.slice none 0 0,.slice none 0 0,.int .i64 0,.slice none 0 0]) qB
 have eU:aC [w.heap.size+2] (W3.alloc (.cells #[.int .i64 N1.id,.int .i64 N1.par,.slice A1.k N1.kids.length A1.ck,.int .i64 N1.next,.slice A1.p N1.pu.length A1.cp,.slice A1.o N1.out.length A1.co,.slice A1.s N1.seen.length A1.cs,.int .i64 N1.old,.slice A1.r N1.reqs.length A1.cr] 30)) W':=by
  rw [hW'];exact aL [.int .i64 N1.id,.int .i64 N1.par,.slice A1.k N1.kids.length A1.ck,.int .i64 N1.next,.slice A1.p N1.pu.length A1.cp,.slice A1.o N1.out.length A1.co,.slice A1.s N1.seen.length A1.cs,.int .i64 N1.old,.slice A1.r N1.reqs.length A1.cr] (W3.alloc (.cells #[.int .i64 N1.id,.int .i64 N1.par,.slice A1.k N1.kids.length A1.ck,.int .i64 N1.next,.slice A1.p N1.pu.length A1.cp,.slice A1.o N1.out.length A1.co,.slice A1.s N1.seen.length A1.cs,.int .i64 N1.old,.slice A1.r N1.reqs.length A1.cr] 30)) 0
 have HAT:=hide (fun W'' (ho:Out c w W' W'')=>(show RM W'' A1 N1 from(by
  obtain⟨F,hk,hF⟩:=ho
  exact Pw _ ⟨(w.heap.size+2)::F,aC.trans (b:=W') ((aC.of_below (au W3 (.cells #[.int .i64 N1.id,.int .i64 N1.par,.slice A1.k N1.kids.length A1.ck,.int .i64 N1.next,.slice A1.p N1.pu.length A1.cp,.slice A1.o N1.out.length A1.co,.slice A1.s N1.seen.length A1.cs,.int .i64 N1.old,.slice A1.r N1.reqs.length A1.cr] 30))).trans (eU.mono (fun x hx=>by simp at hx;simp[hx]))) (hk.mono (fun x hx=>by simp[hx])),fun y hy=>by
   rcases List.mem_cons.1 hy with h1|h1
   ·exact LZ
   ·exact⟨Nat.lt_of_lt_of_le (hF y h1).1 h02,by rw [dH (hF y h1).1];exact(hF y h1).2⟩⟩)))
 have TU:=hide (fun W'' (ho:Out c w W' W'')=>(show GR.At gX 7 W'' ma L1 from(by
  obtain⟨F,hk,hF⟩:=ho
  exact Ut _ ⟨(w.heap.size+2)::F,aC.trans (b:=W') ((aC.of_below (au W3 (.cells #[.int .i64 N1.id,.int .i64 N1.par,.slice A1.k N1.kids.length A1.ck,.int .i64 N1.next,.slice A1.p N1.pu.length A1.cp,.slice A1.o N1.out.length A1.co,.slice A1.s N1.seen.length A1.cs,.int .i64 N1.old,.slice A1.r N1.reqs.length A1.cr] 30))).trans (eU.mono (fun x hx=>by simp at hx;simp[hx]))) (hk.mono (fun x hx=>by simp[hx])),fun y hy=>by
   rcases List.mem_cons.1 hy with h1|h1
   ·exact LZ
   ·exact⟨Nat.lt_of_lt_of_le (hF y h1).1 h02,by rw [dH (hF y h1).1];exact(hF y h1).2⟩⟩)))
 open aiP in exact XE):P:=h
theorem adM.Ka33(h:P:=by
 have hnl:=aA jg;have hrl:=aA qB;go_wp2_with fail;rw [wU];go_upto_region 5 with fail;go_wp2_with fail;have O7:=hide (sW.kc (k:=9) (KC.of_below (au W1 (.cells #[] 32))) (by omega));have qA:=hide (HB1.trans ((au W1 (.cells #[] 32)).mono HB1.size));refine aO (fun W' hW'=>?_)
 have e4:W'.heap[w.heap.size+1]?=some (.cells #[.int .i64 n.id,.int .i64 n.par,.slice A.k n.kids.length A.ck,.int .i64 n.next,.slice A.p n.pu.length A.cp,.slice A.o n.out.length A.co,.slice A.s n.seen.length A.cs,.int .i64 n.old,.slice A.r n.reqs.length A.cr] 30 (0,0)):=by
  exact amX
 have eU:aC [w.heap.size+1] (W1.alloc (.cells #[] 32)) W':=by
  rw [hW'];exact aL [.int .i64 n.id,.int .i64 n.par,.slice A.k n.kids.length A.ck,.int .i64 n.next,.slice A.p n.pu.length A.cp,.slice A.o n.out.length A.co,.slice A.s n.seen.length A.cs,.int .i64 n.old,.slice A.r n.reqs.length A.cr] (W1.alloc (.cells #[] 32)) 0
 have HAT:=hide (fun W'' (ho:Out c w W' W'')=>(O7.kc (k:=9) ((KC.keeps eU (fun x hx=>by have:x=w.heap.size+1:=(by simpa using hx);rw [this];exact aT (by omega))).trans (KC.out H9 ho)) (by omega)).rm);have jW:Hid (Below B w W'):=(qA.mono hB).trans (eU.below (fun x hx=>by have:x=w.heap.size+1:=(by simpa using hx);omega) (Nat.le_trans hB (qA.mono hB).size));have oJ:=hide (Apart.keeps (c:=c) (Apart.of_below qA) (qA.mono hB).size eU (fun x hx=>by have:x=w.heap.size+1:=(by simpa using hx);omega));obtain⟨x0,x1,x2,x3,x4,x5,x6,x7,x8⟩:=nine e4;clear hW' e4 eU;exact bodyPost_ret (v:= .tuple #[.agg #[.int .i64 n.id,.int .i64 n.par,.slice A.k n.kids.length A.ck,.int .i64 n.next,.slice A.p n.pu.length A.cp,.slice A.o n.out.length A.co,.slice A.s n.seen.length A.cs,.int .i64 n.old,.slice A.r n.reqs.length A.cr],.slice (some ⟨W1.heap.size,0,none⟩) 0 0,.int .i64 1]) (by simp[results,Tryz.results42,go_sem,x0,x1,x2,x3,x4,x5,x6,x7,x8]) rfl ⟨A,some ⟨W1.heap.size,0,none⟩,0,rfl,HAT,fun W'' _ i hi=>by simp at hi,jW,oJ⟩):P:=h
theorem alZ(h:P:=by
 have hm1:¬mI < dU s0 mL:=fun h=>by unfold nU at hhas;rw [decide_eq_true h] at hhas;simp at hhas
 have hd:decide (mI < dU s0 mL)=false:=decide_eq_false hm1;have hb:hasB (aW s0 mL) mI=false:=by unfold nU at hhas;rw [hd] at hhas;simpa using hhas
 rw [hb] at PN;obtain⟨c0,c1,c2,c3,c4,c5,c6,c7,c8⟩:=nine mq;have hnl:=aA mq;go_wp2_with (go_at_call 124;refine(PN _ Un.at).mono ?_;rintro e wh ⟨rfl,rfl⟩)
 refine(M8 W7 UA.at.p).mono ?_;rintro e W8 ⟨v8,rfl,aqJ,RH,Bd⟩;obtain⟨av,cv,rfl,_⟩:=GR.own_at (enc:=eG) (sz:=4) aZ RH;have HRW:=hide (qD.own aZ RH);have acd:=hide (aj Px Bd);have nL:=hide (aj mq Bd);have acB:=hide (aj Ux Bd);have uN:=hide (aj kC Bd);have acK:=hide (aj UY Bd);have acv:=hide (Un.below Bd);have aau:=hide (UA.kc (k:=9) (KC.of_below Bd) (by omega));have aal:=hide (aak.trans (Bd.mono (by omega)));have aas:=hide (aar.step (by omega) Bd);have hz8:W7.heap.size≤W8.heap.size:=Bd.size;clear Bd aqJ RH M8 PN c0 c1 c2 c3 c4 c5 c6 c7 c8 m0 m1 m2 m3 m4 m5 m6 s70 s71 s72 hnl hml aqW Px mq Ux kC UY Un UA aak aar;exact Ka34):P:=h
theorem adN.Ka34(h:P:=by
 have hb9:=au W8 (.cells #[] 32);have sZ:=hide (aj nL hb9);have jA:=hide (aj uN hb9);have UD:=hide (aau.kc (k:=9) (KC.of_below hb9) (by omega));have Uk:=hide (aal.trans (hb9.mono (by omega)));have Uq:=hide (aas.step (by omega) hb9);have hz9:(W8.alloc (.cells #[] 32)).heap.size=W8.heap.size+1:=by simp
 clear hb9;obtain⟨c0,c1,c2,c3,c4,c5,c6,c7,c8⟩:=nine nL;obtain⟨d0,d1,d2,d3,d4,d5,d6,d7,d8⟩:=nine jA;have f0:=ay jA 0;have f1:=ay jA 1;have f2:=ay jA 2;have f3:=ay jA 3;have f4:=ay jA 4;have f5:=ay jA 5;have f6:=ay jA 6;have f7:=ay jA 7;have f8:=ay jA 8;have hnl:=aA nL;have hrl:=aA jA;cases ok
 ·exact amI
 ·have h40:40≤(aW s0 mL).length:=by
   rcases hgn with h|h
   ·cases h
   ·exact h
  have aqn:decide ((40:Int)≤((aW s0 mL).length:Int))=true:=decide_eq_true (by omega);exact amI):P:=h
theorem adO.Ka34(h:P:=by
 obtain⟨c0,c1,c2,c3,c4,c5,c6,c7,c8⟩:=nine nL;have cf:=ay nL 4;have hnl:=aA nL;have aqn:decide ((40:Int)≤((aW s0 mL).length:Int))=false:=decide_eq_false (by omega);go_upto_region 22 with fail;refine wp_at (fun W9 J4=>?_);have hnb:w.heap.size≠gi:=by omega
 have Mf:aC [w.heap.size] W8 W9:=by rw [J4];exact aC.set _
 have sZ:Hid (W9.heap[w.heap.size]?=some (.cells #[.int .i64 n.id,.int .i64 n.par,.slice a_k n.kids.length aI,.int .i64 n.next,.slice av RL.length cv,.slice dA n.out.length aM,.slice (some ⟨G.s,0,none⟩) n.seen.length aJ,.int .i64 n.old,.slice fq n.reqs.length aQ] 30 (0,0))):=by rw [J4];exact bg nL 4 _
 have Uy:=hide (Mf.obj acB (fun hx=>by simp at hx));have jA:=hide (Mf.obj uN (fun hx=>by simp at hx));have JH:=hide (Mf.obj acK (fun hx=>by simp at hx;omega));have ace:=hide (Mf.obj acd (fun hx=>by simp at hx;omega));have aaq:=hide (acv.keeps Mf (fun x hx hm=>by have h1:=(gD hx).1;simp at hm;omega));have UD:=hide (aau.kc (k:=9) (KC.keeps Mf (fun x hx=>by have:x=w.heap.size:=(by simpa using hx);rw [this];exact yK _ (Nat.le_refl _) hnb)) (by omega));have Uk:=hide (aal.trans (Mf.below (B:=B) (fun x hx=>by simp at hx;omega) (by omega)));have Uq:=hide (Apart.keeps (c:=c) aas (by omega) Mf (fun x hx=>by have:x=w.heap.size:=(by simpa using hx);omega));have HP9:=hide (HRW.keeps Mf (fun x hx=>by simp at hx;omega));have hz9:W8.heap.size≤W9.heap.size:=Mf.size;clear J4 Mf HRW nL acB uN acK acd acv aau aal aas c0 c1 c2 c3 c4 c5 c6 c7 c8 cf hnl;obtain⟨m0,m1,m2,m3,m4,m5,m6⟩:=iq Uy;have hml:=aA Uy;obtain⟨pos,hpos⟩:∃pos,((aW s0 mL).takeWhile (fun y=>decide (y < mI))).length=pos:=⟨_,rfl⟩;have PO:=hide (show jG (aW s0 mL) mI=(aW s0 mL).take pos++([mI]++(aW s0 mL).drop pos) by rw [←hpos];exact Sg _ _);have hpl:pos≤(aW s0 mL).length:=by rw [←hpos];exact aoc _ _
 have CP:=hide hpos;clear hpos;go_upto_block 4 with fail;go_cut [14] from 15 (fun j wx=>j= .int .i64 (pos:Nat)∧Ge W9 wx)
 case first=>
  go_wp2_with fail;go_loopw [14] (fun j wr=>∃x q:Nat,x≤(aW s0 mL).length∧j= .int .i64 x∧(∀y (hy:y < (aW s0 mL).length),y < x→(aW s0 mL)[y] < mI)∧wr=W9.drewN q) (fun j _=>(aW s0 mL).length - (intOf j).toNat)
  case atStart=>exact⟨0,0,Nat.zero_le _,rfl,fun y hy h=>(by omega),rfl⟩
  case round=>
   obtain⟨x,q,hx,rfl,hlo,rfl⟩:=hrel;have PW:=hide hlo;clear hlo;by_cases hlt:x < (aW s0 mL).length
   ·obtain⟨_,hgb,hcell⟩:=(ah aaq) x hlt;open ajN in exact Yb
   ·have hje:x=(aW s0 mL).length:=by omega
    subst hje;have HJ:=hide (TB (l:=aW s0 mL) (x:=mI) (Nat.le_refl _) PW (fun h=>absurd h (Nat.lt_irrefl _)));have Rs:decide (((aW s0 mL).length:Int) < ((aW s0 mL).length:Int))=false:=by simp
    exact anb
 case rest=>
  obtain⟨rfl,hge⟩:=hcut;clear m0 m1 m2 m3 m4 m5 m6 hml;go_upto_region 25 with fail;refine wp_at (fun qc aqh=>?_);subst aqh;have WL:=hide (aj sZ hge);have P5:=hide (aj Uy hge);have WV:=hide (aj jA hge);have Qf:=hide (aj JH hge);have Wl:=hide (aj ace hge);have Ld:=hide (aaq.below hge);have WJ:=hide (UD.kc (k:=9) (KC.of_below hge) (by omega));have Wn:=hide (Uk.trans (hge.mono (by omega)));have Wz:=hide (Uq.step (by omega) hge);have UK:=hide (HP9.below hge);have asg:W9.heap.size≤qc.heap.size:=hge.size;clear hge sZ Uy jA JH ace aaq UD Uk Uq HP9;have an1:=aA Qf;have arG:∀x∈fp gi (aW s0 mL),x < qc.heap.size:=alM Ld;go_cut [14] from 15 (fun _ wx=>∃g2 cq2,qc.heap.size≤g2∧wx.ownsRow qc.heap.size 3 1 (.slice (some ⟨g2,0,none⟩) ((aW s0 mL).length+1) cq2) ((aW s0 mL).length+1) (GR.flat aR (jG (aW s0 mL) mI))∧wx.heap[sb]?=some (.cells #[.int .i64 mF,.int .i64 (dU s0 mL),.slice (some ⟨g2,0,none⟩) ((aW s0 mL).length+1) cq2] 90 (0,0))∧aC [sb] qc wx)
  case first=>
   obtain⟨m0,m1,m2,m3,m4,m5,m6⟩:=iq P5;have hml:=aA P5;have hwb:qc.heap.size≤qc.heap.size:=Nat.le_refl _;have y3:=fO hml m3;clear m0 m1 m2 m3 m4 m5 m6;have hpc:pos≤Gu:=by omega
   have AY:=hide (show dK qc (some ⟨gi,0,none⟩) ((aW s0 mL).take pos) from GR.At.take Ld.at pos)
   obtain⟨AD,hAD,hDR⟩:∃AD,(if Gu=pos then some (⟨gi,0,none⟩:Addr) else some ⟨gi,pos,none⟩)=AD∧dK qc AD ((aW s0 mL).drop pos):=by
    by_cases hcz:Gu=pos
    ·refine⟨_,rfl,?_⟩;rw [show(aW s0 mL).drop pos=[] by apply List.drop_eq_nil_of_le;omega];exact GR.at_nil _ _
    ·refine⟨_,rfl,?_⟩;rw [if_neg hcz];have h:=GR.At.drop Ld.at pos;rw [Nat.mul_one] at h;exact h
   have HDR:=hide hDR;clear hDR;refine mU 14 qc.heap.size (by kernel_rfl) ?_;show iw _ _ _ _ _ _ 15 (Array.replicate 15 false) _ _
   refine tk [1,2,3,5,6,9,10,11] ?_;iterate 8 (refine tkB hwb (fun K hK=>?_);go_simp;first|refine hK _ ?_|(apply Exists.intro;refine⟨fun _=>?_,hK _ ?_⟩;rfl);clear hK K)
   refine jI ?_;clear y3;have hlt1:((aW s0 mL).take pos).length=pos:=by rw [List.length_take];omega
   have NH:((aW s0 mL).drop pos).length=(aW s0 mL).length - pos:=by rw [List.length_drop]
   have hL1:((aW s0 mL).take pos++[mI]).length=pos+1:=by rw [List.length_append,hlt1];rfl
   have hL2:((aW s0 mL).take pos++[mI]++(aW s0 mL).drop pos).length=pos+1+((aW s0 mL).length - pos):=by rw [List.length_append,hL1,NH]
   have HG0:=hide (Below.refl qc.heap.size qc);refine jB 0 7 rfl rfl (by kernel_rfl) (by rfl) (by rfl) (by decide) (by decide) (fun x1 hx1=>?_) (fun x1 hx1=>?_)
   ·open agv in exact amv
   ·open agu in exact amv
  case rest=>
   obtain⟨g2,cq2,hg2,hown2,an0,Ef⟩:=hcut;have Qg:=hide an0;have Lh:=hide (Ef.obj WL (fun hx=>by simp at hx;omega));have WW:=hide (Ef.obj WV (fun hx=>by simp at hx;omega));have Wm:=hide (Ef.obj Wl (fun hx=>by simp at hx;omega));have P6:=hide (WJ.kc (k:=9) (KC.keeps Ef (fun x hx=>by have:x=sb:=(by simpa using hx);rw [this];exact yK _ (by omega) (by omega))) (by omega));have Wo:=hide (Wn.trans (Ef.below (B:=B) (fun x hx=>by simp at hx;omega) (by omega)));have WB:=hide (Apart.keeps (c:=c) Wz (by omega) Ef (fun x hx=>by have:x=sb:=(by simpa using hx);omega));have acG:=hide (UK.keeps Ef (fun x hx=>by simp at hx;omega));have ash:qc.heap.size≤wc.heap.size:=Ef.size;have Rn:(jG (aW s0 mL) mI).length=(aW s0 mL).length+1:=by rw [ah PO];simp;omega
   have Ry:wc.ownsRow qc.heap.size 3 1 (.slice (some ⟨g2,0,none⟩) (jG (aW s0 mL) mI).length cq2) (jG (aW s0 mL) mI).length (GR.flat aR (jG (aW s0 mL) mI)):=by rw [Rn];exact hown2
   have HW2:=hide (WO.of_own (Xf (l:=jG (aW s0 mL) mI) aN Ry) Ry (fun e=>by rw [e] at Rn;simp at Rn))
   have FX:Hid (∀g,av.map (fun y=>y.block)=some g→0 < RL.length→W7.heap.size≤g∧g < qc.heap.size):=fun g hg hp=>by
    obtain⟨g',off,e,hgl,_⟩:=UK.1 0 hp
    have h2:=UK.2 g' off e
    rw [e] at hg
    cases hg
    exact⟨h2,hgl⟩
   have arF:g2 < wc.heap.size:=(hown2.lt g2 rfl).2;have abr:g2≠gi:=by omega
   have anP:i < (n.seen.set i ⟨mF,dU s0 mL,aW s0 mL⟩).length:=by rw [List.length_set];exact hi
   have HNP:=hide (P6.seenPut i anP ⟨mF,dU s0 mL,jG (aW s0 mL) mI⟩ (some ⟨g2,0,none⟩) cq2 g2 HW2 (fun x hx=>by rw [(gD hx).1];exact yK _ (by omega) abr));obtain⟨T,hT,hlT,hrT⟩:=P6.s;obtain⟨_,_,hcT⟩:=hT i (by rw [hlT];exact anP);open agw in exact amw):P:=h
theorem aaH(h:P:=by
 have HN:=hide (fun w1=>aP n true w1 hn);have HP:=hide (show R=(decide (no=0)&&true&&true&&jV ⟨mK,mF,mT,mI,mL,mk,mN⟩) by rw [←ah HR];simp[bX,hk,hn]);open akO in exact Yu):P:=h
theorem adP.Ka35(h:P:=by
 have hX:W.heap[w.heap.size+1]?=some (.cells #[.int .i64 4,.int .i64 0,.string k,.int .i64 n,.int .i64 0,.int .i64 0,.int .i64 0,.int .i64 0,.int .i64 0,.string ⟨#[]⟩,.int .i64 0] 34 (0,0)):=by rw [hW];exact(jr w _ _).2
 have hY:W.heap[w.heap.size]?=some (.cells #[.int .i64 4,.int .i64 no,.string k,.int .i64 n,.int .i64 mK,.int .i64 mF,.int .i64 mT,.int .i64 mI,.int .i64 mL,.string mk,.int .i64 mN] 34 (0,0)):=by rw [hW];exact(jr w _ _).1
 exact aa3):P:=h
theorem adQ.Ka35(h:P:=by
 have hX:W.heap[w.heap.size+1]?=some (.cells #[.int .i64 3,.int .i64 0,.string k,.int .i64 n,.int .i64 0,.int .i64 0,.int .i64 0,.int .i64 0,.int .i64 0,.string ⟨#[]⟩,.int .i64 0] 34 (0,0)):=by rw [hW];exact(jr w _ _).2
 have hY:W.heap[w.heap.size]?=some (.cells #[.int .i64 3,.int .i64 no,.string k,.int .i64 n,.int .i64 mK,.int .i64 mF,.int .i64 mT,.int .i64 mI,.int .i64 mL,.string mk,.int .i64 mN] 34 (0,0)):=by rw [hW];exact(jr w _ _).1
 exact aa3):P:=h
theorem adR.Ka35(h:P:=by
 have hX:W.heap[w.heap.size+1]?=some (.cells #[.int .i64 0,.int .i64 0,.string k,.int .i64 n,.int .i64 0,.int .i64 0,.int .i64 0,.int .i64 0,.int .i64 0,.string ⟨#[]⟩,.int .i64 0] 34 (0,0)):=by rw [hW];exact(jr w _ _).2
 have hY:W.heap[w.heap.size]?=some (.cells #[.int .i64 0,.int .i64 no,.string k,.int .i64 n,.int .i64 mK,.int .i64 mF,.int .i64 mT,.int .i64 mI,.int .i64 mL,.string mk,.int .i64 mN] 34 (0,0)):=by rw [hW];exact(jr w _ _).1
 exact aa3):P:=h
theorem aaI(h:P:=by
 obtain⟨rfl,hs3,hk3⟩:=hcut;clear m0 m1 m2 m3 m4 m5 m6 s00 s01 s02 sf hml hsl2;go_upto_region 7 with fail;refine wp_at (fun W3 hW3=>?_);subst hW3;have UU:=hide hs3;have jC:=hide (hk3.obj iQ (fun hx=>by simp at hx;omega));have MO:=hide (hk3.obj uJ (fun hx=>by simp at hx;omega));have jD:=hide (hk3.obj iI (fun hx=>by simp at hx;omega));have HB3:=hide (HB2.trans (hk3.below (B:=w.heap.size) (fun x hx=>by simp at hx;omega) HB2.size));have acD:=hide (acC.kc (k:=9) (KC.keeps hk3 (fun x hx=>by have:x=sb:=(by simpa using hx);rw [this];exact aT (by omega))) (by omega));have acP:=hide (acO.keeps hk3 (fun x hx hm=>by have h1:=hilt x hx;simp at hm;omega));clear hs3 hk3 iQ uJ iI HB2 acC acO M9;have ar4:=aA UU;obtain⟨i0,hi0,hz0,hz1',hz2⟩:=info_parts vD;go_upto_block 2 with fail;exact Ka36):P:=h
theorem adS.Ka36(h:P:=by
 go_cut [9] from 15 (fun v wx=>∃g cp,v= .slice (some ⟨g,0,none⟩) (aW s0 mL).length cp∧wx.ownsRow W3.heap.size 3 1 v (aW s0 mL).length (GR.flat aR (aW s0 mL))∧(aW s0 mL=[]→cp=0)∧Below W3.heap.size W3 wx)
 case first=>
  exact Za9
 case rest=>
  open apc in exact aaE):P:=h
theorem adT.Ka36(h:P:=by
 go_cut [9] from 15 (fun v wx=>∃g cp,v= .slice (some ⟨g,0,none⟩) (aW s0 mL).length cp∧wx.ownsRow W3.heap.size 3 1 v (aW s0 mL).length (GR.flat aR (aW s0 mL))∧(aW s0 mL=[]→cp=0)∧Below W3.heap.size W3 wx)
 case first=>
  exact Za9
 case rest=>
  open apb in exact aaE):P:=h
theorem adU.Ka36(h:P:=by
 go_cut [9] from 15 (fun v wx=>∃g cp,v= .slice (some ⟨g,0,none⟩) (aW s0 mL).length cp∧wx.ownsRow W3.heap.size 3 1 v (aW s0 mL).length (GR.flat aR (aW s0 mL))∧(aW s0 mL=[]→cp=0)∧Below W3.heap.size W3 wx)
 case first=>
  exact Za9
 case rest=>
  open apa in exact aaE):P:=h
theorem al0(h:P:=by
 obtain⟨gp,Ru⟩:=hP;subst Ru;have M8:=hide (fun W (ha:aH W (some ⟨gp,0,none⟩) n.pu)=>Tq gp 0 bf n.pu mk mN W (Nat.le_trans hz.p (by omega)) qd hz.pk hmk ha);unfold gM at M8;rw [hu] at M8;clear hu hz qd;open aj2 in exact Yf):P:=h
theorem adV.Ka37(h:P:=by
 go_cut [7] from 15 (fun j wx=>j= .int .i64 (i:Nat)∧Ge W0 wx)
 case first=>
  exact aaX
 case rest=>
  open acZ in exact aaG):P:=h
theorem adW.Ka37(h:P:=by
 go_cut [7] from 15 (fun j wx=>j= .int .i64 (i:Nat)∧Ge W0 wx)
 case first=>
  exact aaX
 case rest=>
  open ac0 in exact aaG):P:=h
theorem al1(h:P:=by
 have hwb:wc.heap.size≤wc.heap.size:=Nat.le_refl _;have y8:=fO hnl c8;have z0:=fO GQ q0;have z1:=fO GQ q1;have z2:=fO GQ q2;have z3:=fO GQ q3;clear c0 c1 c2 c3 c4 c5 c6 c7 c8 q0 q1 q2 q3;have hpc:pos≤aQ:=by omega
 have AY:=hide (show iA wc (some ⟨gr,0,none⟩) (n.reqs.take pos) from GR.At.take HA5 pos)
 obtain⟨AD,hAD,hDR⟩:∃AD,(if aQ=pos then some (⟨gr,0,none⟩:Addr) else some ⟨gr,pos*4,none⟩)=AD∧iA wc AD (n.reqs.drop pos):=by
  exact ap4
 have HDR:=hide hDR;clear hDR;refine mU 15 wc.heap.size (by kernel_rfl) ?_;show iw _ _ _ _ _ _ 16 (Array.replicate 16 false) _ _
 refine tk [1,2,3,4,6,9,10,11,12] ?_;iterate 9 (refine tkB hwb (fun K hK=>?_);go_simp;first|refine hK _ ?_|(apply Exists.intro;refine⟨fun _=>?_,hK _ ?_⟩;rfl);clear hK K)
 refine jI ?_;clear y8 z0 z1 z2 z3;have hlt1:(n.reqs.take pos).length=pos:=by rw [List.length_take];omega
 have NH:(n.reqs.drop pos).length=n.reqs.length - pos:=by rw [List.length_drop]
 exact Ka38):P:=h
theorem adX.Ka38(h:P:=by
 have hL1:(n.reqs.take pos++[(⟨no,k,nn,0⟩:Rq)]).length=pos+1:=by rw [List.length_append,hlt1];rfl
 have hL2:(n.reqs.take pos++[(⟨no,k,nn,0⟩:Rq)]++n.reqs.drop pos).length=pos+1+(n.reqs.length - pos):=by rw [List.length_append,hL1,NH]
 obtain⟨i0,hi,hz0,hz1,hz2⟩:=info_parts vF;have HG0:=hide (Below.refl wc.heap.size wc);refine jB 0 7 rfl rfl (by kernel_rfl) (by rfl) (by rfl) (by decide) (by decide) (fun x1 hx1=>?_) (fun x1 hx1=>?_)
 ·open afR in exact amm
 ·open ai7 in exact Qs):P:=h
theorem adY.Ka38(h:P:=by
 have hL1:(n.reqs.take pos++[(⟨no,k,nn,1⟩:Rq)]).length=pos+1:=by rw [List.length_append,hlt1];rfl
 have hL2:(n.reqs.take pos++[(⟨no,k,nn,1⟩:Rq)]++n.reqs.drop pos).length=pos+1+(n.reqs.length - pos):=by rw [List.length_append,hL1,NH]
 obtain⟨i0,hi,hz0,hz1,hz2⟩:=info_parts vF;have HG0:=hide (Below.refl wc.heap.size wc);refine jB 0 7 rfl rfl (by kernel_rfl) (by rfl) (by rfl) (by decide) (by decide) (fun x1 hx1=>?_) (fun x1 hx1=>?_)
 ·open afQ in exact amm
 ·open ai6 in exact Qs):P:=h
theorem al2(h:P:=by
 clear hz hok hm hL he HR hw hF hks hb HID;generalize (takeN n o.m).1=n' at *;open ahI in exact Qq):P:=h
theorem adZ.Ka39(h:P:=by
 obtain⟨c0,c1,c2,c3,c4,c5,c6,c7,c8,c9⟩:=gY HY.blk;obtain⟨⟨p0,p1,p2,p3,p4,p5,p6⟩,_⟩:=gT za;have abB:=aA HY.blk;have arA:=aA za;go_upto_region 10 with fail;have y0:=cell_regrown c0;have z1:=cell_regrown p1;have z3:=cell_regrown p3;clear c0 c1 c2 c3 c4 c5 c6 c7 c8 c9 p0 p1 p2 p3 p4 p5 p6;refine bn 11 (by kernel_rfl) ?_;show dS _ _ _ _ _ 12 (Array.replicate 12 false) _ _
 refine tk [0,1,2,3,4,5,6,7,8,9,10] ?_;iterate 11 (refine nQ (fun K hK=>?_);go_simp;refine hK _ ?_;clear hK K)
 refine jI ?_;clear y0 z1 z3;refine aV (by kernel_rfl) (fun x hx=>?_);have CR:=hide (TY x A' G' c' n' (HY.step hx));clear hx;refine aG 11 rfl (by kernel_rfl) (by rfl) ?_;go_simp;refine CR.mono ?_;rintro e z ⟨rfl,c2,v2,hZ⟩;have HZ:=hide hZ;clear hZ CR;refine wpAny_done (by kernel_rfl) ?_;go_simp;go_wp2_with fail;go_ret;exact⟨rfl,A',G',c2,v2,HZ⟩):P:=h
theorem ad1.Ka39(h:P:=by
 go_wp2_with fail;go_ret;exact⟨rfl,A',G',c',v,by rw [List.append_nil];exact HY⟩):P:=h
theorem Vd(h:P:=by
 have hbw:Below wr.heap.size wr W1:=by rw [hW1];exact au wr _
 have wK:=hide (aj DC hbw);have qp:=hide (fD.trans (hbw.mono fD.size));exact Ka40):P:=h
theorem ad3.Ka40(h:P:=by
 have HI1:=hide (GR.At.below HI hbw);have hgw1:=hbw.size;have HKI:=hide (GR.At.below HA qp)
 have yw:Hid ((k=0∧pv=true)∨∃(j:Nat) (y:Int),k=j+1∧pv=decide (y < fr)∧W1.cell? ⟨g,off+j*3,none⟩=some (.int .i64 y)):=by
  rcases FW with h|⟨j,y,h1,h2,h3⟩
  ·exact .inl h
  ·exact .inr ⟨j,y,h1,h2,(hbw.cell (p:=⟨g,off+j*3,none⟩) hgw).trans h3⟩
 clear hW1 hbw q0 q1 q2 c0 c1 c2 c3 c4 c5 c6 FW HI DC;obtain⟨d0,d1,d2⟩:=three HW1;open aip in exact Xy):P:=h
theorem ad4.Ka40(h:P:=by
 have hgw1:=hbw.size
 have yw:Hid ((k=0∧pv=true)∨∃(j:Nat) (y:Int),k=j+1∧pv=decide (y < si)∧W1.cell? ⟨g,off+j*4,none⟩=some (.int .i64 y)):=by
  exact Y7
 clear hW1 hbw q0 q1 q2 q3 c0 c1 c2 c3 c4 c5 c6 c7 c8 FW DC;obtain⟨d0,d1,d2,d3⟩:=eY HW1;open aio in exact Xy):P:=h
theorem ad5.Ka40(h:P:=by
 clear hW1 hbw q0 q1 q2 q3 DC;obtain⟨d0,d1,d2,d3⟩:=eY HW1;go_cut [56] (fun r wx=>r= .bool bb∧wx=W1)
 case first=>
  by_cases g1:y < si
  case' neg=>
   have hb1:decide (si≤y)=true:=decide_eq_true (by omega)
   have HV:=hide (show bb=true by rw [←ah dY];simp[g1])
   clear dY wG
   go_wp2_with (fail)
   go_meet
   case rel=>exact⟨by rw [ah HV],rfl⟩
  have hb1:decide (si≤y)=false:=decide_eq_false (by omega);cases g2:mW si
  case' false=>
   have Hg2:=hide (fun w1=>iZ si false w1 g2)
   have HV:=hide (show bb=true by rw [←ah dY];simp[g2])
   clear dY wG
   go_wp2_with (first|(go_at_call 133;refine(Hg2 _).mono ?_;rintro e w9 ⟨rfl,rfl⟩))
   go_meet
   case rel=>exact⟨by rw [ah HV],rfl⟩
  have Hg2:=hide (fun w1=>iZ si true w1 g2);cases g3:keyOk sx.data.toList
  case' false=>
   have Hg3:=hide (fun w1=>gB sx false w1 g3)
   have HV:=hide (show bb=true by rw [←ah dY];simp[g3])
   clear dY wG
   go_wp2_with (first|(go_at_call 133;refine(Hg2 _).mono ?_;rintro e w9 ⟨rfl,rfl⟩)|(go_at_call 131;refine(Hg3 _).mono ?_;rintro e w9 ⟨rfl,rfl⟩))
   go_meet
   case rel=>exact⟨by rw [ah HV],rfl⟩
  have Hg3:=hide (fun w1=>gB sx true w1 g3);cases g4:eD sn
  case' false=>
   have Hg4:=hide (fun w1=>aP sn false w1 g4)
   have HV:=hide (show bb=true by rw [←ah dY];simp[g4])
   clear dY wG
   go_wp2_with (first|(go_at_call 133;refine(Hg2 _).mono ?_;rintro e w9 ⟨rfl,rfl⟩)|(go_at_call 131;refine(Hg3 _).mono ?_;rintro e w9 ⟨rfl,rfl⟩)|(go_at_call 54;refine(Hg4 _).mono ?_;rintro e w9 ⟨rfl,rfl⟩))
   go_meet
   case rel=>exact⟨by rw [ah HV],rfl⟩
  have Hg4:=hide (fun w1=>aP sn true w1 g4);by_cases g5:0≤st
  case' neg=>
   have hb5:decide (st < 0)=true:=decide_eq_true (by omega)
   have HV:=hide (show bb=true by rw [←ah dY];simp[g5])
   clear dY wG
   go_wp2_with (first|(go_at_call 133;refine(Hg2 _).mono ?_;rintro e w9 ⟨rfl,rfl⟩)|(go_at_call 131;refine(Hg3 _).mono ?_;rintro e w9 ⟨rfl,rfl⟩)|(go_at_call 54;refine(Hg4 _).mono ?_;rintro e w9 ⟨rfl,rfl⟩))
   go_meet
   case rel=>exact⟨by rw [ah HV],rfl⟩
  have hb5:decide (st < 0)=false:=decide_eq_false (by omega);by_cases g6:st≤2
  case' neg=>
   have hb6:decide (2 < st)=true:=decide_eq_true (by omega)
   have HV:=hide (show bb=true by rw [←ah dY];simp[g6])
   clear dY wG
   go_wp2_with (first|(go_at_call 133;refine(Hg2 _).mono ?_;rintro e w9 ⟨rfl,rfl⟩)|(go_at_call 131;refine(Hg3 _).mono ?_;rintro e w9 ⟨rfl,rfl⟩)|(go_at_call 54;refine(Hg4 _).mono ?_;rintro e w9 ⟨rfl,rfl⟩))
   go_meet
   case rel=>exact⟨by rw [ah HV],rfl⟩
  have hb6:decide (2 < st)=false:=decide_eq_false (by omega);have HV:=hide (show bb=false by rw [←ah dY];simp[g1,g2,g3,g4,g5,g6]);clear dY wG;go_wp2_with (first|(go_at_call 133;refine(Hg2 _).mono ?_;rintro e w9 ⟨rfl,rfl⟩)|(go_at_call 131;refine(Hg3 _).mono ?_;rintro e w9 ⟨rfl,rfl⟩)|(go_at_call 54;refine(Hg4 _).mono ?_;rintro e w9 ⟨rfl,rfl⟩))
  go_meet
  case rel=>exact⟨by rw [ah HV],rfl⟩
 case rest=>
  obtain⟨rfl,rfl⟩:=hcut;clear dY;cases hbv:bb
  ·have HG:=hide (show fT KB RR (reqs.take (k+1))=true by rw [ah wG,hbv];rfl);subst hbv;clear HBAD wG;go_wp2_with fail;go_roundw
   case rel=>exact⟨k+1,si,by omega,by go_num,rfl,yL.symm,HG,wK,qp⟩
   case measure=>simp[intOf];omega
  ·have HP:=hide (HBAD (by rw [ah wG,hbv];rfl));subst hbv;clear HBAD wG;go_wp2_with fail;go_ret;exact⟨aD HP.symm,qp⟩):P:=h
theorem ad6.Ka40(h:P:=by
 clear hW1 hbw q0 q1 q2 q3 DC;obtain⟨d0,d1,d2,d3⟩:=eY HW1;obtain⟨c0,c1,c2,c3,c4,c5,c6,c7,c8⟩:=nine wK;go_cut [46] (fun r wx=>r= .bool bb∧Below W1.heap.size W1 wx)
 case first=>
  by_cases h1:y < si
  case' neg=>
   have HV:=hide (show bb=true by rw [←ah dY];simp[h1])
   have hb1:decide (si≤y)=true:=decide_eq_true (by omega)
   clear dY wG
   go_wp2_with fail
   go_meet
   case rel=>exact⟨by rw [ah HV],Below.refl _ _⟩
  have hb1:decide (si≤y)=false:=decide_eq_false (by omega);by_cases h2:si < next
  case' neg=>
   have HV:=hide (show bb=true by rw [←ah dY];simp[h2])
   have hb2:decide (next≤si)=true:=decide_eq_true (by omega)
   clear dY wG
   go_wp2_with fail
   go_meet
   case rel=>exact⟨by rw [ah HV],Below.refl _ _⟩
  have hb2:decide (next≤si)=false:=decide_eq_false (by omega);go_wp2_with fail;refine(Js _ _ qp).mono ?_;rintro e w2 ⟨rfl,hb3⟩;have HB3:=hide hb3;have HW2:=hide (aj HW1 hb3);clear hb3 d0 d1 d2 d3 c0 c1 c2 c3 c4 c5 c6 c7 c8;obtain⟨d0,d1,d2,d3⟩:=eY HW2;cases h3:NN st
  case' false=>
   have HV:=hide (show bb=true by rw [←ah dY];simp[h3])
   clear dY wG h3
   go_wp2_with fail
   go_meet
   case rel=>exact⟨by rw [ah HV],HB3⟩
  cases h4:keyOk sx.data.toList
  case' false=>
   have HV:=hide (show bb=true by rw [←ah dY];simp[h4])
   have H4:=hide (fun w1=>gB sx false w1 h4)
   clear dY wG h3 h4
   go_wp2_with (go_at_call 131;refine(H4 _).mono ?_;rintro e w9 ⟨rfl,rfl⟩)
   go_meet
   case rel=>exact⟨by rw [ah HV],HB3⟩
  have H4:=hide (fun w1=>gB sx true w1 h4);have HV:=hide (show bb= !eD sn by rw [←ah dY];simp[h1,h2,h3,h4]);have H5:=hide (fun w1=>aP sn _ w1 rfl);clear dY wG h3 h4;go_wp2_with (first|(go_at_call 131;refine(H4 _).mono ?_;rintro e w9 ⟨rfl,rfl⟩)|(go_at_call 54;refine(H5 _).mono ?_;rintro e w9 ⟨rfl,rfl⟩))
  go_meet
  case rel=>exact⟨by rw [ah HV],HB3⟩
 case rest=>
  obtain⟨rfl,hbx⟩:=hcut;open aiO in exact LW):P:=h
theorem aaJ(h:P:=by
 obtain⟨hjun,oj,hoj,hall⟩:=mem_ready.1 hj
 have hnot:∀e∈oj.after,Region.binds md e=true→e.on≠i:=fun e he hb heq=>by
  have h2:=hall e he hb
  have h0:=(mem_ready.1 hr).1
  rw [heq] at h2
  rcases Nat.lt_or_ge i listed.size with h'|h'
  ·simp[h'] at h0 h2;rw [h0] at h2;cases h2
  ·simp[Array.getElem?_eq_none h'] at h2
 have h2:=O4 hoj (hfree j oj hoj hji hjun hnot) (fun cs b=>hsel i oi cs b hi) (fun cs b=>hsel j oj cs b hoj) hQ h1;refine wpOp_mono (fun a' y hy2=>?_) h2;obtain⟨⟨hs1,hs2⟩,hg,hm⟩:=hy2;exact Ka41):P:=h
theorem ad7.Ka41(h:P:=by
 refine⟨hg,ih (listed.setIfInBounds j true) a' y ?_ (ready_mono hr (Ne.symm hji)) ?_ ?_⟩
 ·exact aa9
 ·unfold nu at *;rw [hs1,hs2];exact hy.imp (fun⟨p,q⟩=>⟨p,fun z hz=>q z (Ge.trans (Ge.trans hx hg) hz)⟩) id
 ·rw [Array.setIfInBounds_comm _ _ hji];exact hm):P:=h
theorem ad8.Ka41(h:P:=by
 have hwy:Below b w y:=(hx.mono hb).trans hg;refine⟨hg,ih (listed.setIfInBounds j true) a' y (Nat.le_trans hb hwy.size) (zo hcl hj) ?_ (ready_mono hr (Ne.symm hji)) ?_ ?_⟩
 ·exact aa9
 ·unfold yM at *;rw [hs1,hs2];exact hy.imp (fun⟨p,q⟩=>⟨p,fun z hz=>q z (hwy.trans hz)⟩) id
 ·rw [Array.setIfInBounds_comm _ _ hji];exact hm):P:=h
theorem ad9.Ka41(h:P:=by
 refine⟨hg,ih (listed.setIfInBounds j true) a' y (zo hcl hj) ?_ (ready_mono hr (Ne.symm hji)) ?_ ?_⟩
 ·exact aa9
 ·unfold nu at *;rw [hs1,hs2];exact hy.imp (fun⟨p,q⟩=>⟨p,fun z hz=>q z (Ge.trans (Ge.trans hx hg) hz)⟩) id
 ·rw [Array.setIfInBounds_comm _ _ hji];exact hm):P:=h
theorem aaK(h:P:=by
 open akd in exact Yg):P:=h
theorem aea.Ka42(h:P:=by
 obtain⟨c0,c1,c2,c3,c4,c5,c6,c7,c8⟩:=nine jg;open aeL in exact QG):P:=h
theorem aeb.Ka42(h:P:=by
 obtain⟨g,e0,hBg,hgb⟩:∃g,fq=some ⟨g,0,none⟩∧B≤g∧(∀x,(Value.slice fq n.reqs.length aQ).ownBlock=some x↔x=g):=by
  exact ap6
 obtain⟨g',off,e0',hg,q0,q1,q2,q3⟩:=iA.four sW.at.r i hi;rw [e0] at e0';simp only[Option.some.injEq,Addr.mk.injEq,and_true] at e0';obtain⟨rfl,rfl⟩:=e0';rw [Nat.zero_add] at q0 q1 q2 q3;rw [ah HST] at q3;obtain⟨c0,c1,c2,c3,c4,c5,c6,c7,c8⟩:=nine jg;open aeK in exact QG):P:=h
theorem aec.Ka42(h:P:=by
 obtain⟨g,off,e0,hg,q0,q1,q2,q3⟩:=iA.four sW.at.r i hi;rw [ah HST] at q3;obtain⟨c0,c1,c2,c3,c4,c5,c6,c7,c8⟩:=nine jg;open aeJ in exact QG):P:=h
theorem al3(h:P:=by
 have tJ:Below Z6.heap.size Z6 Z7:=by
  rw [hZ];exact au Z6 _
 have mq:=hide (aj jK tJ);have kC:=hide (aj iJ tJ);have HN7:=hide (HN6.kc (k:=9) (KC.of_below tJ) (by omega));have WU:=hide (GR.own_below P7 tJ);have Cq:=hide (rW.trans (tJ.mono (Nat.le_trans hB rW.size)));have HK7:=hide (HK6.step rW.size tJ);have hsb:w.heap.size+1 < Z6.heap.size:=aA iJ;generalize Z6.heap.size=sb at *;clear hZ tJ jK iJ HN6 P7 rW HK6 c3n hn6;have c3n:=(nine mq).2.2.2.1;have f3n:=ay mq 3;have hn7:=aA mq;go_upto_region 9 with fail;refine wp_at (fun Z8 hZ=>?_);have nL:Hid (Z8.heap[w.heap.size]?=some (.cells #[.int .i64 n.id,.int .i64 n.par,.slice a_k n.kids.length aI,.int .i64 (n.next+1),.slice av RL.length cv,.slice dA n.out.length aM,.slice dJ n.seen.length aJ,.int .i64 n.old,.slice fq n.reqs.length aQ] 30 (0,0))):=by rw [hZ];exact lM mq
 have uN:Hid (Z8.heap[w.heap.size+1]?=some (.cells iO 30 (0,0))):=by rw [hZ];exact jd kC (by omega)
 exact Ka43):P:=h
theorem aed.Ka43(h:P:=by
 have Qd:Hid (Z8.heap[sb]?=some (.cells #[.int .i64 n.next,.int .i64 dst,.string key,.int .i64 most] 95 (0,0))):=by rw [hZ];exact jd HS7 (by omega)
 open afs in exact amg):P:=h
theorem aee.Ka43(h:P:=by
 have Qd:Hid (Z8.heap[sb]?=some (.cells #[.int .i64 n.next,.int .i64 dst,.string key,.int .i64 pf] 95 (0,0))):=by rw [hZ];exact jd HS7 (by omega)
 open afr in exact amg):P:=h
theorem Ve(h:P:=by
 have h1:nY F=true:=by unfold jZ at hr;simp only[Bool.and_eq_true] at hr;exact hr.1.1
 have h2:nY T=true:=by unfold jZ at hr;simp only[Bool.and_eq_true] at hr;exact hr.1.2
 have hft:¬F=T:=by unfold jZ at hr;simp only[Bool.and_eq_true,decide_eq_true_iff] at hr;exact hr.2
 have H1:=hide (fun w1=>jv F true w1 h1);have H2:=hide (fun w1=>jv T true w1 h2);clear h1 h2;exact Ka44):P:=h
theorem aef.Ka44(h:P:=by
 have HP:=hide (show bJ ⟨K,F,T,I,L,k,N⟩=false by simp[bJ,hr,k0,k1,k2]);clear hr;go_enter Tryz.func113,Tryz.ntmps113
 go_wp2_with (first|(go_at_call_of 134 F;refine(H1 _).mono ?_;rintro e w1 ⟨rfl,rfl⟩)|(go_at_call_of 134 T;refine(H2 _).mono ?_;rintro e w1 ⟨rfl,rfl⟩))
 exact Nn):P:=h
theorem aeg.Ka44(h:P:=by
 cases hc2:eD I
 case' false=>
  have HP:=hide (show bJ ⟨2,F,T,I,L,k,N⟩=false by simp[bJ,hr,hc2])
  have uF:=hide (fun w1=>dM I false w1 hc2)
  clear hr hc2
  go_enter Tryz.func113,Tryz.ntmps113
  go_wp2_with (first|(go_at_call_of 134 F;refine(H1 _).mono ?_;rintro e w1 ⟨rfl,rfl⟩)|(go_at_call_of 134 T;refine(H2 _).mono ?_;rintro e w1 ⟨rfl,rfl⟩)|(go_at_call_of 61 I;refine(uF _).mono ?_;rintro e w1 ⟨rfl,rfl⟩))
  go_ret
  exact⟨aD HP.symm,au w _⟩
 have uF:=hide (fun w1=>dM I true w1 hc2);by_cases hz:k.size=0
 case' neg=>
  have hne:k.toList.isEmpty=false:=xC k (by omega)
  have HP:=hide (show bJ ⟨2,F,T,I,L,k,N⟩=false by simp[bJ,hr,hc2,hz])
  clear hr hc2
  go_enter Tryz.func113,Tryz.ntmps113
  go_wp2_with (first|(go_at_call_of 134 F;refine(H1 _).mono ?_;rintro e w1 ⟨rfl,rfl⟩)|(go_at_call_of 134 T;refine(H2 _).mono ?_;rintro e w1 ⟨rfl,rfl⟩)|(go_at_call_of 61 I;refine(uF _).mono ?_;rintro e w1 ⟨rfl,rfl⟩))
  go_ret
  exact⟨aD HP.symm,au w _⟩
 obtain rfl:=eq_empty k hz;by_cases hzN:N=0
 case' neg=>
  have HP:=hide (show bJ ⟨2,F,T,I,L,ByteArray.empty,N⟩=false by simp[bJ,hr,hc2,hz,hzN])
  have he:(N == 0)=false:=by simp[hzN]
  clear hr hc2
  go_enter Tryz.func113,Tryz.ntmps113
  go_wp2_with (first|(go_at_call_of 134 F;refine(H1 _).mono ?_;rintro e w1 ⟨rfl,rfl⟩)|(go_at_call_of 134 T;refine(H2 _).mono ?_;rintro e w1 ⟨rfl,rfl⟩)|(go_at_call_of 61 I;refine(uF _).mono ?_;rintro e w1 ⟨rfl,rfl⟩))
  go_ret
  exact⟨aD (by first|exact HP.symm|exact he.trans HP.symm),au w _⟩
 subst hzN;by_cases hzL:L=0
 case' neg=>
  have HP:=hide (show bJ ⟨2,F,T,I,L,ByteArray.empty,0⟩=false by simp[bJ,hr,hc2,hz,hzL])
  have he:(L == 0)=false:=by simp[hzL]
  clear hr hc2
  go_enter Tryz.func113,Tryz.ntmps113
  go_wp2_with (first|(go_at_call_of 134 F;refine(H1 _).mono ?_;rintro e w1 ⟨rfl,rfl⟩)|(go_at_call_of 134 T;refine(H2 _).mono ?_;rintro e w1 ⟨rfl,rfl⟩)|(go_at_call_of 61 I;refine(uF _).mono ?_;rintro e w1 ⟨rfl,rfl⟩))
  go_ret
  exact⟨aD (by first|exact HP.symm|exact he.trans HP.symm),au w _⟩
 subst hzL;have HP:=hide (show bJ ⟨2,F,T,I,0,ByteArray.empty,0⟩=true by simp[bJ,hr,hc2,hz]);clear hr hc2;go_enter Tryz.func113,Tryz.ntmps113
 go_wp2_with (first|(go_at_call_of 134 F;refine(H1 _).mono ?_;rintro e w1 ⟨rfl,rfl⟩)|(go_at_call_of 134 T;refine(H2 _).mono ?_;rintro e w1 ⟨rfl,rfl⟩)|(go_at_call_of 61 I;refine(uF _).mono ?_;rintro e w1 ⟨rfl,rfl⟩))
 exact Nn):P:=h
theorem aeh.Ka44(h:P:=by
 cases hc2:keyOk k.data.toList
 case' false=>
  have HP:=hide (show bJ ⟨1,F,T,I,L,k,N⟩=false by simp[bJ,hr,hc2])
  have uF:=hide (fun w1=>jS k false w1 hs hc2)
  clear hr hc2
  go_enter Tryz.func113,Tryz.ntmps113
  go_wp2_with (first|(go_at_call_of 134 F;refine(H1 _).mono ?_;rintro e w1 ⟨rfl,rfl⟩)|(go_at_call_of 134 T;refine(H2 _).mono ?_;rintro e w1 ⟨rfl,rfl⟩)|(go_at_call_of 64 k;refine(uF _).mono ?_;rintro e w1 ⟨rfl,rfl⟩))
  go_ret
  exact⟨aD HP.symm,au w _⟩
 have uF:=hide (fun w1=>jS k true w1 hs hc2);cases hc3:eD N
 case' false=>
  have HP:=hide (show bJ ⟨1,F,T,I,L,k,N⟩=false by simp[bJ,hr,hc2,hc3])
  have PD:=hide (fun w1=>dM N false w1 hc3)
  clear hr hc2 hc3
  go_enter Tryz.func113,Tryz.ntmps113
  go_wp2_with (first|(go_at_call_of 134 F;refine(H1 _).mono ?_;rintro e w1 ⟨rfl,rfl⟩)|(go_at_call_of 134 T;refine(H2 _).mono ?_;rintro e w1 ⟨rfl,rfl⟩)|(go_at_call_of 64 k;refine(uF _).mono ?_;rintro e w1 ⟨rfl,rfl⟩)|(go_at_call_of 61 N;refine(PD _).mono ?_;rintro e w1 ⟨rfl,rfl⟩))
  go_ret
  exact⟨aD HP.symm,au w _⟩
 have PD:=hide (fun w1=>dM N true w1 hc3);cases hc4:eD I
 case' false=>
  have HP:=hide (show bJ ⟨1,F,T,I,L,k,N⟩=false by simp[bJ,hr,hc2,hc3,hc4])
  have HC4:=hide (fun w1=>dM I false w1 hc4)
  clear hr hc2 hc3 hc4
  go_enter Tryz.func113,Tryz.ntmps113
  go_wp2_with (first|(go_at_call_of 134 F;refine(H1 _).mono ?_;rintro e w1 ⟨rfl,rfl⟩)|(go_at_call_of 134 T;refine(H2 _).mono ?_;rintro e w1 ⟨rfl,rfl⟩)|(go_at_call_of 64 k;refine(uF _).mono ?_;rintro e w1 ⟨rfl,rfl⟩)|(go_at_call_of 61 N;refine(PD _).mono ?_;rintro e w1 ⟨rfl,rfl⟩)|(go_at_call_of 61 I;refine(HC4 _).mono ?_;rintro e w1 ⟨rfl,rfl⟩))
  go_ret
  exact⟨aD HP.symm,au w _⟩
 have HC4:=hide (fun w1=>dM I true w1 hc4);cases yO:decide (1≤L∧L≤I)
 case' false=>
  have HP:=hide (show bJ ⟨1,F,T,I,L,k,N⟩=false by simp[bJ,hr,hc2,hc3,hc4,yO])
  have JA:=hide (fun w1=>pz L 1 I false w1 yO)
  clear hr hc2 hc3 hc4 yO
  go_enter Tryz.func113,Tryz.ntmps113
  go_wp2_with (first|(go_at_call_of 134 F;refine(H1 _).mono ?_;rintro e w1 ⟨rfl,rfl⟩)|(go_at_call_of 134 T;refine(H2 _).mono ?_;rintro e w1 ⟨rfl,rfl⟩)|(go_at_call_of 64 k;refine(uF _).mono ?_;rintro e w1 ⟨rfl,rfl⟩)|(go_at_call_of 61 N;refine(PD _).mono ?_;rintro e w1 ⟨rfl,rfl⟩)|(go_at_call_of 61 I;refine(HC4 _).mono ?_;rintro e w1 ⟨rfl,rfl⟩)|(go_at_call 63;refine(JA _).mono ?_;rintro e w1 ⟨rfl,rfl⟩))
  go_ret
  exact⟨aD HP.symm,au w _⟩
 have JA:=hide (fun w1=>pz L 1 I true w1 yO);have HP:=hide (show bJ ⟨1,F,T,I,L,k,N⟩=true by simp[bJ,hr,hc2,hc3,hc4,yO]);clear hr hc2 hc3 hc4 yO;go_enter Tryz.func113,Tryz.ntmps113
 go_wp2_with (first|(go_at_call_of 134 F;refine(H1 _).mono ?_;rintro e w1 ⟨rfl,rfl⟩)|(go_at_call_of 134 T;refine(H2 _).mono ?_;rintro e w1 ⟨rfl,rfl⟩)|(go_at_call_of 64 k;refine(uF _).mono ?_;rintro e w1 ⟨rfl,rfl⟩)|(go_at_call_of 61 N;refine(PD _).mono ?_;rintro e w1 ⟨rfl,rfl⟩)|(go_at_call_of 61 I;refine(HC4 _).mono ?_;rintro e w1 ⟨rfl,rfl⟩)|(go_at_call 63;refine(JA _).mono ?_;rintro e w1 ⟨rfl,rfl⟩))
 exact Nn):P:=h
theorem aei.Ka44(h:P:=by
 cases hc2:keyOk k.data.toList
 case' false=>
  have HP:=hide (show bJ ⟨0,F,T,I,L,k,N⟩=false by simp[bJ,hr,hc2])
  have uF:=hide (fun w1=>jS k false w1 hs hc2)
  clear hr hc2
  go_enter Tryz.func113,Tryz.ntmps113
  go_wp2_with (first|(go_at_call_of 134 F;refine(H1 _).mono ?_;rintro e w1 ⟨rfl,rfl⟩)|(go_at_call_of 134 T;refine(H2 _).mono ?_;rintro e w1 ⟨rfl,rfl⟩)|(go_at_call_of 64 k;refine(uF _).mono ?_;rintro e w1 ⟨rfl,rfl⟩))
  go_ret
  exact⟨aD HP.symm,au w _⟩
 have uF:=hide (fun w1=>jS k true w1 hs hc2);cases hc3:eD N
 case' false=>
  have HP:=hide (show bJ ⟨0,F,T,I,L,k,N⟩=false by simp[bJ,hr,hc2,hc3])
  have PD:=hide (fun w1=>dM N false w1 hc3)
  clear hr hc2 hc3
  go_enter Tryz.func113,Tryz.ntmps113
  go_wp2_with (first|(go_at_call_of 134 F;refine(H1 _).mono ?_;rintro e w1 ⟨rfl,rfl⟩)|(go_at_call_of 134 T;refine(H2 _).mono ?_;rintro e w1 ⟨rfl,rfl⟩)|(go_at_call_of 64 k;refine(uF _).mono ?_;rintro e w1 ⟨rfl,rfl⟩)|(go_at_call_of 61 N;refine(PD _).mono ?_;rintro e w1 ⟨rfl,rfl⟩))
  go_ret
  exact⟨aD HP.symm,au w _⟩
 have PD:=hide (fun w1=>dM N true w1 hc3);by_cases hzI:I=0
 case' neg=>
  have HP:=hide (show bJ ⟨0,F,T,I,L,k,N⟩=false by simp[bJ,hr,hc2,hc3,hzI])
  have he:(I == 0)=false:=by simp[hzI]
  clear hr hc2 hc3
  go_enter Tryz.func113,Tryz.ntmps113
  go_wp2_with (first|(go_at_call_of 134 F;refine(H1 _).mono ?_;rintro e w1 ⟨rfl,rfl⟩)|(go_at_call_of 134 T;refine(H2 _).mono ?_;rintro e w1 ⟨rfl,rfl⟩)|(go_at_call_of 64 k;refine(uF _).mono ?_;rintro e w1 ⟨rfl,rfl⟩)|(go_at_call_of 61 N;refine(PD _).mono ?_;rintro e w1 ⟨rfl,rfl⟩))
  go_ret
  exact⟨aD (by first|exact HP.symm|exact he.trans HP.symm),au w _⟩
 subst hzI;by_cases hzL:L=0
 case' neg=>
  have HP:=hide (show bJ ⟨0,F,T,0,L,k,N⟩=false by simp[bJ,hr,hc2,hc3,hzL])
  have he:(L == 0)=false:=by simp[hzL]
  clear hr hc2 hc3
  go_enter Tryz.func113,Tryz.ntmps113
  go_wp2_with (first|(go_at_call_of 134 F;refine(H1 _).mono ?_;rintro e w1 ⟨rfl,rfl⟩)|(go_at_call_of 134 T;refine(H2 _).mono ?_;rintro e w1 ⟨rfl,rfl⟩)|(go_at_call_of 64 k;refine(uF _).mono ?_;rintro e w1 ⟨rfl,rfl⟩)|(go_at_call_of 61 N;refine(PD _).mono ?_;rintro e w1 ⟨rfl,rfl⟩))
  go_ret
  exact⟨aD (by first|exact HP.symm|exact he.trans HP.symm),au w _⟩
 subst hzL;have HP:=hide (show bJ ⟨0,F,T,0,0,k,N⟩=true by simp[bJ,hr,hc2,hc3]);clear hr hc2 hc3;go_enter Tryz.func113,Tryz.ntmps113
 go_wp2_with (first|(go_at_call_of 134 F;refine(H1 _).mono ?_;rintro e w1 ⟨rfl,rfl⟩)|(go_at_call_of 134 T;refine(H2 _).mono ?_;rintro e w1 ⟨rfl,rfl⟩)|(go_at_call_of 64 k;refine(uF _).mono ?_;rintro e w1 ⟨rfl,rfl⟩)|(go_at_call_of 61 N;refine(PD _).mono ?_;rintro e w1 ⟨rfl,rfl⟩))
 exact Nn):P:=h
theorem Gi(h:P:=by
 go_simp;refine aG 2 rfl (by kernel_rfl) (by rfl) ?_;go_simp;refine aG 4 rfl (by kernel_rfl) (by rfl) ?_;go_simp;refine wpAny_done (by kernel_rfl) ?_;go_simp;go_wp2_with fail;exact Ka45):P:=h
theorem aej.Ka45(h:P:=by
 go_meet
 case rel=>exact⟨rfl,GR.setW_blk [.int .i64 n.id,.int .i64 n.par,.slice a_k n.kids.length aI,.int .i64 n.next,.slice av RL.length cv,.slice dA n.out.length aM,.slice dJ n.seen.length aJ,.int .i64 IH.no,.slice (some ⟨g8,0,none⟩) n.reqs.length zn] (o:=0) (xs:=[.int .i64 0,.int .i64 0,.slice none 0 0,.int .i64 0,.slice none 0 0,.slice none 0 0,.slice none 0 0,.int .i64 0,.slice none 0 0]) rC,(aC.of_below hg3).trans (aL [.int .i64 n.id,.int .i64 n.par,.slice a_k n.kids.length aI,.int .i64 n.next,.slice av RL.length cv,.slice dA n.out.length aM,.slice dJ n.seen.length aJ,.int .i64 IH.no,.slice (some ⟨g8,0,none⟩) n.reqs.length zn] x2 0)⟩):P:=h
theorem aek.Ka45(h:P:=by
 go_meet
 case rel=>exact⟨rfl,GR.setW_blk [.int .i64 n.id,.int .i64 n.par,.slice a_k n.kids.length aI,.int .i64 n.next,.slice av RL.length cv,.slice dA n.out.length aM,.slice dJ n.seen.length aJ,.int .i64 IH.no,.slice (some ⟨g8,0,none⟩) n.reqs.length zn] (o:=0) (xs:=[.int .i64 0,.int .i64 0,.slice none 0 0,.int .i64 0,.slice none 0 0,.slice none 0 0,.slice none 0 0,.int .i64 0,.slice none 0 0]) rC,(aC.of_below hx).trans (aL [.int .i64 n.id,.int .i64 n.par,.slice a_k n.kids.length aI,.int .i64 n.next,.slice av RL.length cv,.slice dA n.out.length aM,.slice dJ n.seen.length aJ,.int .i64 IH.no,.slice (some ⟨g8,0,none⟩) n.reqs.length zn] x 0)⟩):P:=h
theorem ael.Ka45(h:P:=by
 go_meet
 case rel=>exact⟨rfl,GR.setW_blk [.int .i64 n.id,.int .i64 n.par,.slice a_k n.kids.length aI,.int .i64 n.next,.slice av RL.length cv,.slice dA n.out.length aM,.slice dJ n.seen.length aJ,.int .i64 n.old,.slice (some ⟨gv,0,none⟩) (n.reqs.length+1) vc] (o:=0) (xs:=[.int .i64 0,.int .i64 0,.slice none 0 0,.int .i64 0,.slice none 0 0,.slice none 0 0,.slice none 0 0,.int .i64 0,.slice none 0 0]) rC,(aC.of_below hg3).trans (aL [.int .i64 n.id,.int .i64 n.par,.slice a_k n.kids.length aI,.int .i64 n.next,.slice av RL.length cv,.slice dA n.out.length aM,.slice dJ n.seen.length aJ,.int .i64 n.old,.slice (some ⟨gv,0,none⟩) (n.reqs.length+1) vc] x2 0)⟩):P:=h
theorem aem.Ka45(h:P:=by
 go_meet
 case rel=>exact⟨rfl,GR.setW_blk [.int .i64 n.id,.int .i64 n.par,.slice a_k n.kids.length aI,.int .i64 n.next,.slice av RL.length cv,.slice dA n.out.length aM,.slice dJ n.seen.length aJ,.int .i64 n.old,.slice (some ⟨gv,0,none⟩) (n.reqs.length+1) vc] (o:=0) (xs:=[.int .i64 0,.int .i64 0,.slice none 0 0,.int .i64 0,.slice none 0 0,.slice none 0 0,.slice none 0 0,.int .i64 0,.slice none 0 0]) rC,(aC.of_below hx).trans (aL [.int .i64 n.id,.int .i64 n.par,.slice a_k n.kids.length aI,.int .i64 n.next,.slice av RL.length cv,.slice dA n.out.length aM,.slice dJ n.seen.length aJ,.int .i64 n.old,.slice (some ⟨gv,0,none⟩) (n.reqs.length+1) vc] x 0)⟩):P:=h
theorem aen.Ka45(h:P:=by
 go_meet
 case rel=>exact⟨rfl,GR.setW_blk [.int .i64 n.id,.int .i64 n.par,.slice a_k n.kids.length aI,.int .i64 n.next,.slice (some ⟨gp,0,none⟩) n.pu.length bf,.slice dA n.out.length aM,.slice dJ n.seen.length aJ,.int .i64 IH.no,.slice (some ⟨g8,0,none⟩) n.reqs.length zn] (o:=0) (xs:=[.int .i64 0,.int .i64 0,.slice none 0 0,.int .i64 0,.slice none 0 0,.slice none 0 0,.slice none 0 0,.int .i64 0,.slice none 0 0]) rC,(aC.of_below hg3).trans (aL [.int .i64 n.id,.int .i64 n.par,.slice a_k n.kids.length aI,.int .i64 n.next,.slice (some ⟨gp,0,none⟩) n.pu.length bf,.slice dA n.out.length aM,.slice dJ n.seen.length aJ,.int .i64 IH.no,.slice (some ⟨g8,0,none⟩) n.reqs.length zn] x2 0)⟩):P:=h
theorem aeo.Ka45(h:P:=by
 go_meet
 case rel=>exact⟨rfl,GR.setW_blk [.int .i64 n.id,.int .i64 n.par,.slice a_k n.kids.length aI,.int .i64 n.next,.slice (some ⟨gp,0,none⟩) n.pu.length bf,.slice dA n.out.length aM,.slice dJ n.seen.length aJ,.int .i64 IH.no,.slice (some ⟨g8,0,none⟩) n.reqs.length zn] (o:=0) (xs:=[.int .i64 0,.int .i64 0,.slice none 0 0,.int .i64 0,.slice none 0 0,.slice none 0 0,.slice none 0 0,.int .i64 0,.slice none 0 0]) rC,(aC.of_below hx).trans (aL [.int .i64 n.id,.int .i64 n.par,.slice a_k n.kids.length aI,.int .i64 n.next,.slice (some ⟨gp,0,none⟩) n.pu.length bf,.slice dA n.out.length aM,.slice dJ n.seen.length aJ,.int .i64 IH.no,.slice (some ⟨g8,0,none⟩) n.reqs.length zn] x 0)⟩):P:=h
theorem aep.Ka45(h:P:=by
 go_meet
 case rel=>exact⟨rfl,GR.setW_blk [.int .i64 n.id,.int .i64 n.par,.slice a_k n.kids.length aI,.int .i64 n.next,.slice (some ⟨gp,0,none⟩) n.pu.length bf,.slice dA n.out.length aM,.slice dJ n.seen.length aJ,.int .i64 n.old,.slice (some ⟨gv,0,none⟩) (n.reqs.length+1) vc] (o:=0) (xs:=[.int .i64 0,.int .i64 0,.slice none 0 0,.int .i64 0,.slice none 0 0,.slice none 0 0,.slice none 0 0,.int .i64 0,.slice none 0 0]) rC,(aC.of_below hg3).trans (aL [.int .i64 n.id,.int .i64 n.par,.slice a_k n.kids.length aI,.int .i64 n.next,.slice (some ⟨gp,0,none⟩) n.pu.length bf,.slice dA n.out.length aM,.slice dJ n.seen.length aJ,.int .i64 n.old,.slice (some ⟨gv,0,none⟩) (n.reqs.length+1) vc] x2 0)⟩):P:=h
theorem aer.Ka45(h:P:=by
 go_meet
 case rel=>exact⟨rfl,GR.setW_blk [.int .i64 n.id,.int .i64 n.par,.slice a_k n.kids.length aI,.int .i64 n.next,.slice (some ⟨gp,0,none⟩) n.pu.length bf,.slice dA n.out.length aM,.slice dJ n.seen.length aJ,.int .i64 n.old,.slice (some ⟨gv,0,none⟩) (n.reqs.length+1) vc] (o:=0) (xs:=[.int .i64 0,.int .i64 0,.slice none 0 0,.int .i64 0,.slice none 0 0,.slice none 0 0,.slice none 0 0,.int .i64 0,.slice none 0 0]) rC,(aC.of_below hx).trans (aL [.int .i64 n.id,.int .i64 n.par,.slice a_k n.kids.length aI,.int .i64 n.next,.slice (some ⟨gp,0,none⟩) n.pu.length bf,.slice dA n.out.length aM,.slice dJ n.seen.length aJ,.int .i64 n.old,.slice (some ⟨gv,0,none⟩) (n.reqs.length+1) vc] x 0)⟩):P:=h
theorem al4(h:P:=by
 obtain⟨IH,IT,hIQ⟩:∃IH IT,IQ=IH::IT:=by
  exact amG
 subst hIQ;have hIT:IT.length=n.reqs.length:=by have:=ah WI;simp at this;omega
 have y0:wc.cell? ⟨gv,0,none⟩=some (.int .i64 IH.no):=by
  exact amF
 have HTA:=hide (show iA wc (some ⟨gv,1*4,none⟩) IT from GR.At.drop (HL6.lies aY).1 1);have aqY:=(HL6.lies aY).2 gv 0 rfl;obtain⟨c0,c1,c2,c3,c4,c5,c6,c7,c8⟩:=nine jK;have cf:=ay jK 7;have hnl:=aA jK;have aqm:decide ((30:Int) < ((n.reqs.length+1:Nat):Int))=true:=decide_eq_true (by omega);go_upto_region 19 with fail;refine wp_at (fun W7 FD=>?_);have ar8:¬vc=1:=by omega
 have ar9:1≤vc:=by omega
 exact Ka46):P:=h
theorem aes.Ka46(h:P:=by
 have mq:Hid (W7.heap[w.heap.size]?=some (.cells #[.int .i64 n.id,.int .i64 n.par,.slice a_k n.kids.length aI,.int .i64 n.next,.slice av RL.length cv,.slice dA n.out.length aM,.slice dJ n.seen.length aJ,.int .i64 IH.no,.slice (some ⟨gv,0,none⟩) (n.reqs.length+1) vc] 30 (0,0))):=by rw [FD];exact bg jK 7 _
 have kC:Hid (W7.heap[w.heap.size+2]?=some (.cells iO 30 (0,0))):=by rw [FD];exact fI _ (by omega) iJ
 have P8:Hid (W7.heap[W1.heap.size]?=some (.cells #[.int .i64 no,.string k,.int .i64 nn,.int .i64 0] 97 (0,0))):=by rw [FD];exact fI _ (by omega) yx
 open als in exact YL):P:=h
theorem aeu.Ka46(h:P:=by
 have mq:Hid (W7.heap[w.heap.size]?=some (.cells #[.int .i64 n.id,.int .i64 n.par,.slice a_k n.kids.length aI,.int .i64 n.next,.slice (some ⟨gp,0,none⟩) n.pu.length bf,.slice dA n.out.length aM,.slice dJ n.seen.length aJ,.int .i64 IH.no,.slice (some ⟨gv,0,none⟩) (n.reqs.length+1) vc] 30 (0,0))):=by rw [FD];exact bg jK 7 _
 have kC:Hid (W7.heap[w.heap.size+2]?=some (.cells iO 30 (0,0))):=by rw [FD];exact fI _ (by omega) iJ
 have P8:Hid (W7.heap[W1.heap.size]?=some (.cells #[.int .i64 no,.string k,.int .i64 nn,.int .i64 1] 97 (0,0))):=by rw [FD];exact fI _ (by omega) yx
 open alr in exact YL):P:=h
theorem wR(h:P:=by
 unfold jw;have ku:=hide (fun W (h:Below w.heap.size w W)=>Ar n A W (hz.mono (by omega)) (ha.below h));rw [hok] at ku;exact Ka47):P:=h
theorem aev.Ka47(h:P:=by
 have Lj:=hide (fun W=>iW ⟨K,no,k,nn,⟨mK,mF,mT,mI,mL,mk,mN⟩⟩ W (by unfold maxLen;dsimp only;omega) (by unfold maxLen;dsimp only;omega));open adg in exact zf):P:=h
theorem aew.Ka47(h:P:=by
 open alp in exact YK):P:=h
theorem aex.Ka47(h:P:=by
 have iN:=hide (fun W A1 G1 c (hB:0≤W.heap.size) (h9:∀x,6 < c x→c x=9) (hp:((∃g,A1.p=some ⟨g,0,none⟩)∧n.pu.length≤A1.cp)∧(∃g,A1.r=some ⟨g,0,none⟩)∧n.reqs.length≤A1.cr) (hN:NQ W 0 n A1 G1 c)=>Jc n A1 G1 c no W 0 hB h9 hz hp.1.1 hp.1.2 (bq hok).2.2.2.2.2 hN);unfold gG at iN;generalize aX n no=GV at *;obtain⟨N1,xL⟩:=GV;dsimp only at iN ⊢;have Lj:=hide (fun W=>iW ⟨2,no,k,nn,⟨mK,mF,mT,mI,mL,mk,mN⟩⟩ W (by unfold maxLen;dsimp only;omega) (by unfold maxLen;dsimp only;omega));open adh in exact zf):P:=h
theorem aey.Ka47(h:P:=by
 have iN:=hide (fun W A1 G1 c (hB:0≤W.heap.size) (h9:∀x,6 < c x→c x=9) (hp:((∃g,A1.p=some ⟨g,0,none⟩)∧n.pu.length≤A1.cp)∧(∃g,A1.r=some ⟨g,0,none⟩)∧n.reqs.length≤A1.cr) (hN:NQ W 0 n A1 G1 c)=>OO n A1 G1 c 1 no k nn mK mF mT mI mL mk mN W 0 hB h9 hz hk hp.1.1 hp.1.2 hp.2.1 hp.2.2 (bq hok).2.2.2.2.2 hN);unfold gG at iN;generalize eP n no k nn=GV at *;obtain⟨N1,xL⟩:=GV;dsimp only at iN ⊢;have Lj:=hide (fun W=>iW ⟨1,no,k,nn,⟨mK,mF,mT,mI,mL,mk,mN⟩⟩ W (by unfold maxLen;dsimp only;omega) (by unfold maxLen;dsimp only;omega));open adi in exact zf):P:=h
theorem aez.Ka47(h:P:=by
 have hpz:(decide (n.par < 0))=false:=by
  exact Za
 have iN:=hide (fun W A1 G1 c (hB:0≤W.heap.size) (h9:∀x,6 < c x→c x=9) (hp:((∃g,A1.p=some ⟨g,0,none⟩)∧n.pu.length≤A1.cp)∧(∃g,A1.r=some ⟨g,0,none⟩)∧n.reqs.length≤A1.cr) (hN:NQ W 0 n A1 G1 c)=>IZ n A1 G1 c n.par k nn W 0 hB h9 hz hk hp.1.1 hp.1.2 (by have h:=(bq hok).2.2.2.1;unfold eD at h;simp at h;omega) hN);unfold dZ at iN;generalize dV n n.par k nn=GV at *;obtain⟨N1,L1,b1⟩:=GV;dsimp only at iN ⊢;generalize (if b1=true then(0:Int) else 1)=xL at *;have Lj:=hide (fun W=>iW ⟨4,no,k,nn,⟨mK,mF,mT,mI,mL,mk,mN⟩⟩ W (by unfold maxLen;dsimp only;omega) (by unfold maxLen;dsimp only;omega));open adj in exact zf):P:=h
theorem aeA.Ka47(h:P:=by
 have hmo:bJ ⟨mK,mF,mT,mI,mL,mk,mN⟩=true:=by
  have h:=hop;unfold bX at h;dsimp only at h;rw [if_neg (by omega),if_neg (by omega),if_neg (by omega),if_neg (by omega),if_pos rfl,Bool.and_eq_true] at h;exact h.2
 have iN:=hide (fun W A1 G1 c (hB:0≤W.heap.size) (h9:∀x,6 < c x→c x=9) (hp:((∃g,A1.p=some ⟨g,0,none⟩)∧n.pu.length≤A1.cp)∧(∃g,A1.r=some ⟨g,0,none⟩)∧n.reqs.length≤A1.cr) (hN:NQ W 0 n A1 G1 c)=>Tt n A1 G1 c mK mF mT mI mL mk mN W 0 hB h9 hz hmk hok hmo hp.1.1 hp.1.2 hN);clear hmo;unfold dZ at iN;generalize xO n ⟨mK,mF,mT,mI,mL,mk,mN⟩=GV at *;obtain⟨N1,L1,xL⟩:=GV;dsimp only at iN ⊢;have Lj:=hide (fun W=>iW ⟨6,no,k,nn,⟨mK,mF,mT,mI,mL,mk,mN⟩⟩ W (by unfold maxLen;dsimp only;omega) (by unfold maxLen;dsimp only;omega));open adk in exact zf):P:=h
theorem aeB.Ka47(h:P:=by
 have hpz:(decide (n.par < 0))=true:=by rw [hpar];rfl
 clear hpar;have Lj:=hide (fun W=>iW ⟨4,no,k,nn,⟨mK,mF,mT,mI,mL,mk,mN⟩⟩ W (by unfold maxLen;dsimp only;omega) (by unfold maxLen;dsimp only;omega));open adl in exact zf):P:=h
theorem aeC.Ka47(h:P:=by
 have hpz:(decide (n.par < 0))=true:=by rw [hpar];rfl
 clear hpar;have Lj:=hide (fun W=>iW ⟨3,no,k,nn,⟨mK,mF,mT,mI,mL,mk,mN⟩⟩ W (by unfold maxLen;dsimp only;omega) (by unfold maxLen;dsimp only;omega));open adn in exact zf):P:=h
theorem aeD.Ka47(h:P:=by
 have hpg:(decide (n.par≥0))=false:=by rw [hpar];rfl
 have anW:(decide (0≤n.par))=false:=hpg;clear hpar
 have iN:=hide (fun W (A1:bE) (hp:(∃g,A1.p=some ⟨g,0,none⟩)∧n.pu.length≤A1.cp) (hN:aH W A1.p n.pu)=>(by
  obtain⟨⟨g,hg⟩,hc⟩:=hp
  rw [hg] at hN ⊢
  have:=Al g 0 A1.cp n.pu k nn W (Nat.le_trans hz.p (by omega)) hc hz.pk hk hN
  rw [hu] at this
  exact this:Calls Tryz.prog 38 #[.slice A1.p n.pu.length A1.cp,.string k,.int .i64 nn] W (gM W (RL,true))))
 clear hu;unfold gM at iN;have Lj:=hide (fun W=>iW ⟨0,no,k,nn,⟨mK,mF,mT,mI,mL,mk,mN⟩⟩ W (by unfold maxLen;dsimp only;omega) (by unfold maxLen;dsimp only;omega));open ado in exact zf):P:=h
theorem aeE.Ka47(h:P:=by
 have hpg:(decide (n.par≥0))=false:=by rw [hpar];rfl
 have anW:(decide (0≤n.par))=false:=hpg;clear hpar
 have iN:=hide (fun W (A1:bE) (hp:(∃g,A1.p=some ⟨g,0,none⟩)∧n.pu.length≤A1.cp) (hN:aH W A1.p n.pu)=>(by
  obtain⟨⟨g,hg⟩,hc⟩:=hp
  rw [hg] at hN ⊢
  have:=Al g 0 A1.cp n.pu k nn W (Nat.le_trans hz.p (by omega)) hc hz.pk hk hN
  rw [hu] at this
  exact this:Calls Tryz.prog 38 #[.slice A1.p n.pu.length A1.cp,.string k,.int .i64 nn] W (gM W (RL,false))))
 exact Za5):P:=h
theorem aeF.Ka47(h:P:=by
 have hpg:(decide (n.par≥0))=true:=by
  have h:=(bq hok).1;unfold bQ at h;simp only[Bool.and_eq_true,decide_eq_true_eq] at h;exact decide_eq_true (by omega)
 have anW:(decide (0≤n.par))=true:=hpg
 have iN:=hide (fun W (A1:bE) (hp:(∃g,A1.p=some ⟨g,0,none⟩)∧n.pu.length≤A1.cp) (hN:aH W A1.p n.pu)=>(by
  obtain⟨⟨g,hg⟩,hc⟩:=hp
  rw [hg] at hN ⊢
  have:=Al g 0 A1.cp n.pu k nn W (Nat.le_trans hz.p (by omega)) hc hz.pk hk hN
  rw [hu] at this
  exact this:Calls Tryz.prog 38 #[.slice A1.p n.pu.length A1.cp,.string k,.int .i64 nn] W (gM W (RL,ok))))
 exact Za5):P:=h
theorem aeG.Ka47(h:P:=by
 have iN:=hide (fun W A1 (hN:dQ W A1 n)=>Tv n A1 W (hz.mono (by omega)) hN);rw [show Te n=n.out.map (lG n) from if_pos hok] at iN;unfold wJ at iN;dsimp only at iN ⊢;generalize n.out.map (lG n)=L1 at *;have Lj:=hide (fun W=>iW ⟨5,no,k,nn,⟨mK,mF,mT,mI,mL,mk,mN⟩⟩ W (by unfold maxLen;dsimp only;omega) (by unfold maxLen;dsimp only;omega));open adp in exact zf):P:=h
theorem aeH.Ka47(h:P:=by
 have hpz:(decide (n.par < 0))=false:=by
  exact Za
 have Lj:=hide (fun W=>iW ⟨3,no,k,nn,⟨mK,mF,mT,mI,mL,mk,mN⟩⟩ W (by unfold maxLen;dsimp only;omega) (by unfold maxLen;dsimp only;omega));open adq in exact zf):P:=h
theorem QG(h:P:=by
 obtain⟨d0,d1,d2,d3,d4,d5,d6,d7,d8⟩:=nine oH;have f0:=ay oH 0;have f1:=ay oH 1;have f2:=ay oH 2;have f3:=ay oH 3;have f4:=ay oH 4;have f5:=ay oH 5;have f6:=ay oH 6;have f7:=ay oH 7;have f8:=ay oH 8;exact Ka48):P:=h
theorem aeI.Ka48(h:P:=by
 open aib in exact Xt):P:=h
theorem aeJ.Ka48(h:P:=by
 have hnl:=aA jg;have hrl:=aA oH;clear q0 q1 q2 HST;dsimp only at e0;subst e0;go_wp2_with fail;refine aO (fun W' hW'=>?_)
 have e4:W'.heap[w.heap.size+1]?=some (.cells #[.int .i64 n.id,.int .i64 n.par,.slice a_k n.kids.length aI,.int .i64 n.next,.slice iy n.pu.length bf,.slice dA n.out.length aM,.slice dJ n.seen.length aJ,.int .i64 n.old,.slice (some ⟨g,off,none⟩) n.reqs.length aQ] 30 (0,0)):=by
  exact apU
 have eU:aC [w.heap.size+1] W1 W':=by
  exact ap3
 open agm in exact amq):P:=h
theorem aeK.Ka48(h:P:=by
 have hnl:=aA jg;have hrl:=aA oH;first|dsimp only at e0|skip
 subst e0;have HQ3:=hide q3;have HQS:=hide (And.intro q0 (And.intro q1 (And.intro q2 q3)));generalize n.reqs[i].k=qk at *;exact Ka17):P:=h
theorem aeL.Ka48(h:P:=by
 have hnl:=aA jg;open aia in exact Xt):P:=h
theorem aeM.Ka48(h:P:=by
 have hrl:=aA oH;go_wp2_with fail;refine aO (fun W' hW'=>?_)
 have e4:W'.heap[w.heap.size+2]?=some (.cells #[.int .i64 n.id,.int .i64 n.par,.slice A1.k n.kids.length A1.ck,.int .i64 n.next,.slice A1.p n.pu.length A1.cp,.slice A1.o n.out.length A1.co,.slice A1.s n.seen.length A1.cs,.int .i64 n.old,.slice A1.r n.reqs.length A1.cr] 30 (0,0)):=by
  rw [hW'];exact GR.setW_blk [.int .i64 n.id,.int .i64 n.par,.slice A1.k n.kids.length A1.ck,.int .i64 n.next,.slice A1.p n.pu.length A1.cp,.slice A1.o n.out.length A1.co,.slice A1.s n.seen.length A1.cs,.int .i64 n.old,.slice A1.r n.reqs.length A1.cr] (o:=0) (xs:=[.int .i64 0,.int .i64 0,.slice none 0 0,.int .i64 0,.slice none 0 0,.slice none 0 0,.slice none 0 0,.int .i64 0,.slice none 0 0]) oH
 have eU:aC [w.heap.size+2] X W':=by
  rw [hW'];exact aL [.int .i64 n.id,.int .i64 n.par,.slice A1.k n.kids.length A1.ck,.int .i64 n.next,.slice A1.p n.pu.length A1.cp,.slice A1.o n.out.length A1.co,.slice A1.s n.seen.length A1.cs,.int .i64 n.old,.slice A1.r n.reqs.length A1.cr] X 0
 open akI in exact Yr):P:=h
theorem QH(h:P:=by
 rw [hmo] at PY;unfold nX at PY;have Js:=hide (fun W (ha:dK W A.k n.kids)=>Aq n A mF W hkl ha);rw [h2] at Js;clear hmo h2;have jY:=hide (h.nine hB);clear h;go_enter Tryz.func41,Tryz.ntmps41
 go_upto_region 1 with fail;refine wp_at (fun W0 hW=>?_);exact Ka49):P:=h
theorem aeN.Ka49(h:P:=by
 obtain⟨e1,e2,e3,e4⟩:=eT w (.cells (fZ n A) 30) (.cells #[.int .i64 0,.int .i64 mF,.int .i64 mT,.int .i64 mI,.int .i64 mL,.string mk,.int .i64 mN] 32) (.cells iO 30);open aoA in exact Ya4):P:=h
theorem aeO.Ka49(h:P:=by
 obtain⟨e1,e2,e3,e4⟩:=eT w (.cells (fZ n A) 30) (.cells #[.int .i64 0,.int .i64 mF,.int .i64 mT,.int .i64 mI,.int .i64 mL,.string mk,.int .i64 mN] 32) (.cells iO 30);open aoB in exact Ya4):P:=h
theorem aeP.Ka49(h:P:=by
 obtain⟨e1,e2,e3,e4⟩:=eT w (.cells (fZ n A) 30) (.cells #[.int .i64 mK,.int .i64 mF,.int .i64 mT,.int .i64 mI,.int .i64 mL,.string mk,.int .i64 mN] 32) (.cells iO 30);open aoC in exact Ya4):P:=h
theorem aeQ.Ka49(h:P:=by
 obtain⟨e1,e2,e3,e4⟩:=eT w (.cells (fZ n A) 30) (.cells #[.int .i64 2,.int .i64 mF,.int .i64 mT,.int .i64 mI,.int .i64 mL,.string mk,.int .i64 mN] 32) (.cells iO 30);open aoD in exact Ya4):P:=h
theorem aeR.Ka49(h:P:=by
 obtain⟨e1,e2,e3,e4⟩:=eT w (.cells (fZ n A) 30) (.cells #[.int .i64 1,.int .i64 mF,.int .i64 mT,.int .i64 mI,.int .i64 mL,.string mk,.int .i64 mN] 32) (.cells iO 30);open aoE in exact Ya4):P:=h
theorem al5(h:P:=by
 open ah6 in exact Xq):P:=h
theorem aeS.Ka50(h:P:=by
 rintro e W3 ⟨A1,G1,cc,rfl,J3,hb3,_,_⟩;have jD:=hide (aj uM hb3);have HB3:=hide (jJ.trans (hb3.mono jJ.size));have jY:=hide J3;have hrs:=aA uM;clear hb3 J3 c0 c1 c2 c3 c4 c5 c6 c7 c8 hnl Fw yu aav uM;exact amM):P:=h
theorem aeT.Ka50(h:P:=by
 rintro e W3 ⟨A1,G1,cc,rfl,J3,hb3,hP1,hP2,hR1,hR2⟩;have jD:=hide (aj uM hb3);have jC:=hide (aj yu hb3);have DU:=hide (aj aav hb3);have HB3:=hide (jJ.trans (hb3.mono jJ.size));have HPR:=hide (And.intro (And.intro hP1 hP2) (And.intro hR1 hR2));have jY:=hide (J3.flat (b:=0) (Nat.zero_le _));have PE:=hide (fun x (hx:x < w.heap.size+3)=>Ns (b:=0) (Nat.zero_le _) (J3.lo x (by have:=aA uM;omega)));have hrs:=aA uM;have H9:=hide (Rh 0 cc);generalize sJ 0 cc=c at *;have uF:=hide (PE (w.heap.size+2) (by omega));have yY:=hide (PE w.heap.size (by omega));clear hb3 J3 hP1 hP2 hR1 hR2 c0 c1 c2 c3 c4 c5 c6 c7 c8 hnl Fw yu aav uM;obtain⟨d0,d1,d2,d3,d4,d5,d6,d7,d8⟩:=nine jC;have f0:=ay jC 0;have f1:=ay jC 1;have f2:=ay jC 2;have f3:=ay jC 3;have f4:=ay jC 4;have f5:=ay jC 5;have f6:=ay jC 6;have f7:=ay jC 7;have f8:=ay jC 8;obtain⟨⟨p0,p1,p2,p3,p4,p5,p6,p7,p8,p9,lT⟩,_⟩:=dP DU;have hnl:=aA jC;have hol:=aA DU;go_upto_region 5 with fail;refine wp_at (fun X hX=>?_)
 have e5:X.heap[w.heap.size]?=some (.cells #[.int .i64 n.id,.int .i64 n.par,.slice A1.k n.kids.length A1.ck,.int .i64 n.next,.slice A1.p n.pu.length A1.cp,.slice A1.o n.out.length A1.co,.slice A1.s n.seen.length A1.cs,.int .i64 n.old,.slice A1.r n.reqs.length A1.cr] 30 (0,0)):=by
  exact apX
 have hkx:aC [w.heap.size] W3 X:=by
  exact apY
 have fF:=hide e5;have HOX:=hide ((hkx.block _ (aA DU) (by simp)).trans DU);have oH:=hide ((hkx.block _ (aA jD) (by simp)).trans jD);have jy:=hide (HB3.trans (hkx.below (B:=w.heap.size) (fun x hx=>by have:x=w.heap.size:=(by simpa using hx);omega) HB3.size));have wM:=hide (jY.kc (k:=9) (KC.keeps hkx (fun x hx=>by have:x=w.heap.size:=(by simpa using hx);rw [this];exact yY)) (by omega));exact Ka0):P:=h
theorem aaL(h:P:=by
 obtain⟨pk,pm,pf,ps⟩:=p;unfold fH at hp;simp only[Bool.and_eq_true] at hp;obtain⟨⟨⟨⟨_,a1⟩,a2⟩,a3⟩,a4⟩:=hp;have b1:0≤pm∧pm≤1000000000:=of_decide_eq_true a1;have b2:0≤pf∧pf≤1000000000:=of_decide_eq_true a2;have b3:0≤ps∧ps≤1000000000:=of_decide_eq_true a3;obtain⟨a10,a11⟩:=b1;obtain⟨a20,a21⟩:=b2;obtain⟨a30,a31⟩:=b3;obtain⟨h10,h11⟩:=h1;obtain⟨h20,h21⟩:=h2;obtain⟨h30,h31⟩:=h3;clear a1 a2 a3 a4;exact Ka51):P:=h
theorem aeU.Ka51(h:P:=by
 dsimp only at hf;clear he;rcases hf with hf|⟨hf,hs⟩
 all_goals
  go_enter Tryz.func261,Tryz.ntmps261
  go_upto_region 5 with fail
  refine Fo.wp_at (fun V hV=>?_)
  obtain⟨_,hC,hbel⟩:=wu (w:=w) (w1:=V) (by rw [hV];exact Below.refl _ _)
  have HC:=hide hC
  have fD:=hide hbel
  have vv:=(HE.below hbel).var 3 (by omega)
  have hsz:=(show w.heap.size+1+1 < V.heap.size from Fo.lt_of_blk hC)
  obtain⟨⟨r0,r1,r2,r3⟩,s0,s1,s2,s3⟩:=eX hC
  clear hC hbel hV
  go_region
  all_goals
   go_wp2_with fail
   refine Fo.bodyPost_at (fun W' hW'=>?_)
   obtain⟨⟨t0,t1,t2,t3⟩,_⟩:=eX (show W'.heap[w.heap.size+1+1]?=some (.cells #[.string ⟨#[]⟩,.int .i64 0,.int .i64 0,.int .i64 0] 143 (0,0)) by rw [hW'];exact Fo.four_set (w:=V.drew) HC)
   have hbb:Below w.heap.size w W':=by rw [hW'];exact Fo.four_below (w:=V.drew) (fD.trans ⟨rfl,rfl,rfl,Nat.le_refl _,fun _ _=>rfl⟩) (by omega)
   exact bodyPost_ret (v:= .tuple #[.agg #[.string ⟨#[]⟩,.int .i64 0,.int .i64 0,.int .i64 0],qx (E 3)]) (by simp[results,Tryz.results261,go_sem,t0,t1,t2,t3]) rfl ⟨rfl,hbb⟩):P:=h
theorem aeV.Ka51(h:P:=by
 dsimp only at hf hs;clear hok he;open alL in exact YX):P:=h
theorem aeW.Ka51(h:P:=by
 dsimp only at hf hs;clear hok;open alK in exact YX):P:=h
theorem Vf(h:P:=by
 clear h ho;obtain⟨⟨p0,p1,p2,p3,p4,p5,p6,p7,p8,p9,lT⟩,_⟩:=dP uL;have hpl:=aA uL;go_enter Tryz.func35,Tryz.ntmps35
 go_wp2_with fail;refine(HIO _).mono ?_;rintro e w2 ⟨rfl,hb2⟩;have HW2:=hide (HW1.step hb2);have xK:=hide (aj uL hb2);clear hb2 HW1 uL p0 p1 p2 p3 p4 p5 p6 p7 p8 p9 lT HIO;exact Ka52):P:=h
theorem aeX.Ka52(h:P:=by
 obtain rfl:=ah HKQ;obtain⟨⟨p0,p1,p2,p3,p4,p5,p6,p7,p8,p9,lT⟩,_⟩:=dP xK;have abz:=aA xK;go_upto_region 4 with fail;refine wp_at (fun W hW=>?_);have e1:W.heap[w2.heap.size]?=some (.cells #[.func (.func 107) #[.pointer (some ⟨wb,0,none⟩)] #[],.func (.func 108) #[.pointer (some ⟨wb,0,none⟩)] #[],.func (.func 109) #[.pointer (some ⟨wb,0,none⟩)] #[],.func (.func 110) #[.pointer (some ⟨wb,0,none⟩)] #[],.func (.func 111) #[.pointer (some ⟨wb,0,none⟩)] #[],.func (.func 50) #[.pointer (some ⟨wb,0,none⟩)] #[],.func (.func 112) #[.pointer (some ⟨wb,0,none⟩)] #[]] 140 (0,0)):=by rw [hW];exact heap_alloc_new _ _
 have e2:=au w2 (.cells #[.func (.func 107) #[.pointer (some ⟨wb,0,none⟩)] #[],.func (.func 108) #[.pointer (some ⟨wb,0,none⟩)] #[],.func (.func 109) #[.pointer (some ⟨wb,0,none⟩)] #[],.func (.func 110) #[.pointer (some ⟨wb,0,none⟩)] #[],.func (.func 111) #[.pointer (some ⟨wb,0,none⟩)] #[],.func (.func 50) #[.pointer (some ⟨wb,0,none⟩)] #[],.func (.func 112) #[.pointer (some ⟨wb,0,none⟩)] #[]] 140);rw [←hW] at e2;have rT:=hide (HW2.step e2);have MZ:=hide (aj xK e2);exact Ka1):P:=h
theorem aeY.Ka52(h:P:=by
 go_wp2_with fail;go_ret;exact⟨rfl,A,G,c,v,by rw [List.append_nil];exact HW2⟩):P:=h
theorem aeZ.Ka52(h:P:=by
 obtain⟨⟨p0,p1,p2,p3,p4,p5,p6,p7,p8,p9,lT⟩,_⟩:=dP xK;have abz:=aA xK;have hK6:=ah HK6;go_wp2_with fail;refine(HAD w2 HW2).mono ?_;rintro e w3 ⟨rfl,hb3⟩;have HW3:=hide (HW2.step hb3);clear hb3 p0 p1 p2 p3 p4 p5 p6 p7 p8 p9 lT HAD;go_wp2_with fail;go_ret;exact⟨rfl,A,G,c,v,by rw [List.append_nil];exact HW3⟩):P:=h
theorem ae0.Ka52(h:P:=by
 obtain rfl:=ah HKQ;obtain⟨⟨p0,p1,p2,p3,p4,p5,p6,p7,p8,p9,lT⟩,_⟩:=dP xK;have abz:=aA xK;go_wp2_with fail;refine(HAD w2 HW2).mono ?_;rintro e w3 ⟨rfl,hb3⟩;have HW3:=hide (HW2.step hb3);have Pb:=hide (aj xK hb3);clear hb3 HAD;go_upto_region 4 with fail;refine wp_at (fun W hW=>?_);have e1:W.heap[w3.heap.size]?=some (.cells #[.func (.func 107) #[.pointer (some ⟨wb,0,none⟩)] #[],.func (.func 108) #[.pointer (some ⟨wb,0,none⟩)] #[],.func (.func 109) #[.pointer (some ⟨wb,0,none⟩)] #[],.func (.func 110) #[.pointer (some ⟨wb,0,none⟩)] #[],.func (.func 111) #[.pointer (some ⟨wb,0,none⟩)] #[],.func (.func 50) #[.pointer (some ⟨wb,0,none⟩)] #[],.func (.func 112) #[.pointer (some ⟨wb,0,none⟩)] #[]] 140 (0,0)):=by rw [hW];exact heap_alloc_new _ _
 have e2:=au w3 (.cells #[.func (.func 107) #[.pointer (some ⟨wb,0,none⟩)] #[],.func (.func 108) #[.pointer (some ⟨wb,0,none⟩)] #[],.func (.func 109) #[.pointer (some ⟨wb,0,none⟩)] #[],.func (.func 110) #[.pointer (some ⟨wb,0,none⟩)] #[],.func (.func 111) #[.pointer (some ⟨wb,0,none⟩)] #[],.func (.func 50) #[.pointer (some ⟨wb,0,none⟩)] #[],.func (.func 112) #[.pointer (some ⟨wb,0,none⟩)] #[]] 140);rw [←hW] at e2;have rT:=hide (HW3.step e2);have MZ:=hide (aj Pb e2);have c0:W.cell? ⟨w3.heap.size,6,none⟩=some (.func (.func 112) #[.pointer (some ⟨wb,0,none⟩)] #[]):=cell_of_row W _ 6 _ _ (0,0) e1;exact Za7):P:=h
theorem al6(h:P:=by
 open agJ in exact aaQ):P:=h
theorem ae1.Ka53(h:P:=by
 open aj0 in exact Ye):P:=h
theorem ae2.Ka53(h:P:=by
 open aiT in exact XG):P:=h
theorem al7(h:P:=by
 have oJ:=hide eU;clear eU;refine aG 12 rfl (by kernel_rfl) (by rfl) ?_;go_simp;refine aG 13 rfl (by kernel_rfl) (by rfl) ?_;go_simp;refine wpAny_done (by kernel_rfl) ?_;go_simp;go_wp2_with fail;refine aO (fun W' hW'=>?_);subst hW';have eU:=ah oJ;open akH in exact Yr):P:=h
theorem ae3.Ka54(h:P:=by
 exact bodyPost_ret (v:= .tuple #[.agg #[.int .i64 n.id,.int .i64 n.par,.slice A1.k n.kids.length A1.ck,.int .i64 n.next,.slice A1.p n.pu.length A1.cp,.slice A1.o n.out.length A1.co,.slice A1.s n.seen.length A1.cs,.int .i64 n.old,.slice A1.r n.reqs.length A1.cr],.slice (some ⟨y.heap.size,0,none⟩) 1 1,.int .i64 0]) (by simp[results,Tryz.results9,go_sem,x0,x1,x2,x3,x4,x5,x6,x7,x8]) rfl ⟨A1,some ⟨y.heap.size,0,none⟩,1,rfl,HAT,TU,jW⟩):P:=h
theorem ae4.Ka54(h:P:=by
 exact bodyPost_ret (v:= .tuple #[.agg #[.int .i64 n.id,.int .i64 n.par,.slice A1.k n.kids.length A1.ck,.int .i64 n.next,.slice A1.p n.pu.length A1.cp,.slice A1.o n.out.length A1.co,.slice A1.s n.seen.length A1.cs,.int .i64 n.old,.slice A1.r n.reqs.length A1.cr],.slice (some ⟨x.heap.size,0,none⟩) 1 1,.int .i64 0]) (by simp[results,Tryz.results9,go_sem,x0,x1,x2,x3,x4,x5,x6,x7,x8]) rfl ⟨A1,some ⟨x.heap.size,0,none⟩,1,rfl,HAT,TU,jW⟩):P:=h
theorem Nj(h:P:=by
 have Fu:=hide (show Below w.heap.size w V by rw [hV];exact((Below.refl _ _).alloc (Nat.le_refl _) _).alloc (by simp) _);have hgV:=jh hblk;obtain⟨p0,p1,p2,p3,p4,p5,p6⟩:=Q9 hblk;clear hV hblk;exact Ka55):P:=h
theorem ae5.Ka55(h:P:=by
 have cO:∀d os,Calls Tryz.prog 299 #[.agg #[.int .i64 F,.int .i64 T,.int .i64 I]] (Sort.grow (redrawn V d) os) fun e w''=>e= .returned (.bool false)∧∃p:Regrown,w''=Sort.grow (redrawn V p.d) p.os:=fun d os=>Calls.regrown_of (HO _)
 open afA in exact Nk):P:=h
theorem ae6.Ka55(h:P:=by
 have cO:∀d os,Calls Tryz.prog 298 #[.agg #[.int .i64 F,.int .i64 T,.int .i64 I,.int .i64 L,.string k,.int .i64 N]] (Sort.grow (redrawn V d) os) fun e w''=>e= .returned (.bool true)∧∃p:Regrown,w''=Sort.grow (redrawn V p.d) p.os:=fun d os=>Calls.regrown_of (HO _)
 have cM:∀d os,Calls Tryz.prog 135 #[.iface 156 (.agg #[.int .i64 F,.int .i64 T,.int .i64 I,.int .i64 L,.string k,.int .i64 N])] (Sort.grow (redrawn V d) os) fun e w''=>e= .returned (nX ⟨1,F,T,I,L,k,N⟩)∧∃p:Regrown,w''=Sort.grow (redrawn V p.d) p.os:=fun d os=>Calls.regrown_of (HM _)
 open afz in exact Nk):P:=h
theorem ae7.Ka55(h:P:=by
 have cO:∀d os,Calls Tryz.prog 298 #[.agg #[.int .i64 F,.int .i64 T,.int .i64 I,.int .i64 L,.string k,.int .i64 N]] (Sort.grow (redrawn V d) os) fun e w''=>e= .returned (.bool false)∧∃p:Regrown,w''=Sort.grow (redrawn V p.d) p.os:=fun d os=>Calls.regrown_of (HO _)
 open afy in exact Nk):P:=h
theorem ae8.Ka55(h:P:=by
 have cO:∀d os,Calls Tryz.prog 297 #[.agg #[.int .i64 F,.int .i64 T,.string k,.int .i64 N]] (Sort.grow (redrawn V d) os) fun e w''=>e= .returned (.bool false)∧∃p:Regrown,w''=Sort.grow (redrawn V p.d) p.os:=fun d os=>Calls.regrown_of (HO _)
 open afx in exact Nk):P:=h
theorem ae9.Ka55(h:P:=by
 have cO:∀d os,Calls Tryz.prog 297 #[.agg #[.int .i64 F,.int .i64 T,.string k,.int .i64 N]] (Sort.grow (redrawn V d) os) fun e w''=>e= .returned (.bool true)∧∃p:Regrown,w''=Sort.grow (redrawn V p.d) p.os:=fun d os=>Calls.regrown_of (HO _)
 have cM:∀d os,Calls Tryz.prog 135 #[.iface 154 (.agg #[.int .i64 F,.int .i64 T,.string k,.int .i64 N])] (Sort.grow (redrawn V d) os) fun e w''=>e= .returned (nX ⟨0,F,T,0,0,k,N⟩)∧∃p:Regrown,w''=Sort.grow (redrawn V p.d) p.os:=fun d os=>Calls.regrown_of (HM _)
 open afw in exact Nk):P:=h
theorem afa.Ka55(h:P:=by
 have cO:∀d os,Calls Tryz.prog 299 #[.agg #[.int .i64 F,.int .i64 T,.int .i64 I]] (Sort.grow (redrawn V d) os) fun e w''=>e= .returned (.bool true)∧∃p:Regrown,w''=Sort.grow (redrawn V p.d) p.os:=fun d os=>Calls.regrown_of (HO _)
 have cM:∀d os,Calls Tryz.prog 135 #[.iface 158 (.agg #[.int .i64 F,.int .i64 T,.int .i64 I])] (Sort.grow (redrawn V d) os) fun e w''=>e= .returned (nX ⟨2,F,T,I,0,ByteArray.empty,0⟩)∧∃p:Regrown,w''=Sort.grow (redrawn V p.d) p.os:=fun d os=>Calls.regrown_of (HM _)
 open afv in exact Nk):P:=h
theorem al8(h:P:=by
 have M7:=hide hrun;clear hrun C9 NA NV jl k9 ZX Pd HN8 Dz HK8;have c5n:=(nine nL).2.2.2.2.2.1;obtain⟨s0,s1,s2,s3⟩:=eY Qd;have c5w:=(nine sZ).2.2.2.2.2.1;have f5w:=ay sZ 5;have hn8:=aA nL;have hs8:=aA Qd;go_upto_region 10 with(at_builtin;refine fA rfl _ _ 26 rfl _ _ rfl rfl _ _ M7 ?_)
 refine wp_at (fun Z9 hZ=>?_);have FV:Hid (Z9.heap[w.heap.size]?=some (.cells #[.int .i64 n.id,.int .i64 n.par,.slice a_k n.kids.length aI,.int .i64 (n.next+1),.slice av RL.length cv,.slice a6 (n.out.length+1) c6,.slice dJ n.seen.length aJ,.int .i64 n.old,.slice fq n.reqs.length aQ] 30 (0,0))):=by rw [hZ];exact lM sZ
 have aaB:Hid (Z9.heap[w.heap.size+1]?=some (.cells iO 30 (0,0))):=by rw [hZ];exact jd jA (by omega)
 exact Ka56):P:=h
theorem afb.Ka56(h:P:=by
 have UZ:Hid (Z9.heap[sb]?=some (.cells #[.int .i64 n.next,.int .i64 dst,.string key,.int .i64 pf] 95 (0,0))):=by rw [hZ];exact jd JH (by omega)
 have AU:Hid (∀W' W'',aC [w.heap.size+1] Z9 W'→Out c w W' W''→RM W'' ⟨a_k,av,a6,dJ,fq,aI,cv,c6,aJ,aQ⟩ ⟨n.id,n.par,n.kids,n.next+1,RL,n.out++[⟨n.next,dst,key,pf⟩],n.seen,n.old,n.reqs⟩):=fun W' W'' hk ho=>by
  obtain⟨F,hk2,hF⟩:=ho
  refine fF W'' ⟨w.heap.size::(w.heap.size+1)::F,aC.trans (b:=Z9) (by rw [hZ];exact(aC.set _).mono (fun x hx=>by simp at hx;simp[hx])) (aC.trans (hk.mono (fun x hx=>by simp at hx;simp[hx])) (hk2.mono (fun x hx=>by simp[hx]))),fun y hy=>?_⟩
  rcases List.mem_cons.1 hy with h1|h1
  ·exact .inl (.inl h1)
  ·exact Zy
 open aiI in exact XC):P:=h
theorem afc.Ka56(h:P:=by
 have UZ:Hid (Z9.heap[sb]?=some (.cells #[.int .i64 n.next,.int .i64 dst,.string key,.int .i64 most] 95 (0,0))):=by rw [hZ];exact jd JH (by omega)
 have AU:Hid (∀W' W'',aC [w.heap.size+1] Z9 W'→Out c w W' W''→RM W'' ⟨a_k,av,a6,dJ,fq,aI,cv,c6,aJ,aQ⟩ ⟨n.id,n.par,n.kids,n.next+1,RL,n.out++[⟨n.next,dst,key,most⟩],n.seen,n.old,n.reqs⟩):=fun W' W'' hk ho=>by
  obtain⟨F,hk2,hF⟩:=ho
  refine fF W'' ⟨w.heap.size::(w.heap.size+1)::F,aC.trans (b:=Z9) (by rw [hZ];exact(aC.set _).mono (fun x hx=>by simp at hx;simp[hx])) (aC.trans (hk.mono (fun x hx=>by simp at hx;simp[hx])) (hk2.mono (fun x hx=>by simp[hx]))),fun y hy=>?_⟩
  rcases List.mem_cons.1 hy with h1|h1
  ·exact .inl (.inl h1)
  ·exact Zy
 open aiH in exact XC):P:=h
theorem al9(h:P:=by
 obtain⟨c0,c1,c2,c3,c4,c5,c6,c7,c8⟩:=nine mq;have cf:=ay mq 8;have hnl:=aA mq;obtain⟨i0,hi,hz0,hz1,hz2⟩:=info_parts vF;obtain⟨a8,zn,W8,hrun,GN,Bd,⟨g8,rfl⟩,hc8⟩:=run_copy_row (P:=Tryz.prog) aY (by omega) W7 28 97 i0 (.agg #[.int .i64 0,.string ByteArray.empty,.int .i64 0,.int .i64 0]) 40 Tryz.underlying28 hi hz0 hz1 hz2 rfl (some ⟨gv,1*4,none⟩) IT (vc - 1) aaC (gI _) (by unfold maxLen;omega) (by omega);rw [hIT,Nat.one_mul] at hrun;have M7:=hide hrun;have nL:=hide (aj mq Bd);have uN:=hide (aj kC Bd);have UL:=hide (aj P8 Bd);have Dz:=hide (Cq.trans (Bd.mono Cq.size));have HL8:=hide (LO.own (en:=aK) GN);have hz7:w.heap.size+3≤W7.heap.size:=by have:=aA P8;omega
 exact Ka57):P:=h
theorem afd.Ka57(h:P:=by
 skip
 open aki in exact Yh):P:=h
theorem afe.Ka57(h:P:=by
 have Pd:=hide (WU.below Bd);open akh in exact Yh):P:=h
theorem ama(h:P:=by
 have hat:jc l k=(fH l[k]&&(k == 0|| !sle l[k].k (l.getD (k - 1) default).k)):=by unfold jc;rw [getD_at l k hlt]
 exact Ka58):P:=h
theorem aff.Ka58(h:P:=by
 cases k with
 |zero=>
  obtain⟨g,off,rfl,hgw,c0,c1,c2,c3⟩:=aH.four (GR.At.below HA fD) 0 hlt
  simp only[Nat.zero_mul,Nat.add_zero] at c0 c1 c2 c3
  have hgt:decide ((0:Int) < ((0:Nat):Int))=false:=rfl
  have gZ:=hide hat
  have fF:=hide (jM (jc l) 0)
  clear hat
  generalize l[0]=pu at *
  obtain⟨pk,pm,pf,ps⟩:=pu
  dsimp only at c0 c1 c2 c3 hks
  cases hkb:keyOk pk.data.toList
  ·have HB:=hide hkb;have HBAD:=hide (gK hlt (show jc l 0=false by rw [ah gZ];simp[fH,ah HB]));clear gZ fF;have hkb':=ah HB;exact aaV
  have hkb':=hkb
  by_cases h1:0≤pm∧pm≤1000000000
  case' neg=>
   have hA:mW pm=false:=decide_eq_false h1
   have g1:decide (sG pm 0 1000000000)=false:=decide_eq_false h1
   have HBAD:=hide (gK hlt (show jc l 0=false by rw [ah gZ];simp[fH,hA]))
   clear gZ fF hA
   go_wp2_with fail
   refine wp_region_quiet_lit (by kernel_rfl) (by kernel_rfl) ?_
   repeat (first|go_big_quiet_step ((first|(go_at_call 64;exact lU _ _ hks hkb' _ _)|(go_at_call_of 62 (IntKind.i64.wrap (pf+ps));exact fC _ _ g4 _ _)|(go_at_call_of 62 (pf+ps);exact fC _ _ g5 _ _)|(go_at_call_of 62 pm;exact fC _ _ g1 _ _)|(go_at_call_of 62 pf;exact fC _ _ g2 _ _)|(go_at_call_of 62 ps;exact fC _ _ g3 _ _)))|quiet_step ((first|(go_at_call 64;exact lU _ _ hks hkb' _ _)|(go_at_call_of 62 (IntKind.i64.wrap (pf+ps));exact fC _ _ g4 _ _)|(go_at_call_of 62 (pf+ps);exact fC _ _ g5 _ _)|(go_at_call_of 62 pm;exact fC _ _ g1 _ _)|(go_at_call_of 62 pf;exact fC _ _ g2 _ _)|(go_at_call_of 62 ps;exact fC _ _ g3 _ _))))
   refine wpQuiet_nil ?_
   intro _ hw'
   obtain⟨nq,hw''⟩:=hw'
   subst hw''
   go_wp2_with fail
   go_ret
   exact⟨aD HBAD.symm,(fD.alloc fD.size _).trans ⟨rfl,rfl,rfl,Nat.le_refl _,fun _ _=>rfl⟩⟩
  have g1:decide (sG pm 0 1000000000)=true:=decide_eq_true h1
  have hA1:mW pm=true:=decide_eq_true h1
  by_cases h2:0≤pf∧pf≤1000000000
  case' neg=>
   have hA:mW pf=false:=decide_eq_false h2
   have g2:decide (sG pf 0 1000000000)=false:=decide_eq_false h2
   have HBAD:=hide (gK hlt (show jc l 0=false by rw [ah gZ];simp[fH,hA]))
   clear gZ fF hA
   go_wp2_with fail
   refine wp_region_quiet_lit (by kernel_rfl) (by kernel_rfl) ?_
   repeat (first|go_big_quiet_step ((first|(go_at_call 64;exact lU _ _ hks hkb' _ _)|(go_at_call_of 62 (IntKind.i64.wrap (pf+ps));exact fC _ _ g4 _ _)|(go_at_call_of 62 (pf+ps);exact fC _ _ g5 _ _)|(go_at_call_of 62 pm;exact fC _ _ g1 _ _)|(go_at_call_of 62 pf;exact fC _ _ g2 _ _)|(go_at_call_of 62 ps;exact fC _ _ g3 _ _)))|quiet_step ((first|(go_at_call 64;exact lU _ _ hks hkb' _ _)|(go_at_call_of 62 (IntKind.i64.wrap (pf+ps));exact fC _ _ g4 _ _)|(go_at_call_of 62 (pf+ps);exact fC _ _ g5 _ _)|(go_at_call_of 62 pm;exact fC _ _ g1 _ _)|(go_at_call_of 62 pf;exact fC _ _ g2 _ _)|(go_at_call_of 62 ps;exact fC _ _ g3 _ _))))
   refine wpQuiet_nil ?_
   intro _ hw'
   obtain⟨nq,hw''⟩:=hw'
   subst hw''
   go_wp2_with fail
   go_ret
   exact⟨aD HBAD.symm,(fD.alloc fD.size _).trans ⟨rfl,rfl,rfl,Nat.le_refl _,fun _ _=>rfl⟩⟩
  have g2:decide (sG pf 0 1000000000)=true:=decide_eq_true h2
  have hA2:mW pf=true:=decide_eq_true h2
  by_cases h3:0≤ps∧ps≤1000000000
  case' neg=>
   have hA:mW ps=false:=decide_eq_false h3
   have g3:decide (sG ps 0 1000000000)=false:=decide_eq_false h3
   have HBAD:=hide (gK hlt (show jc l 0=false by rw [ah gZ];simp[fH,hA]))
   clear gZ fF hA
   go_wp2_with fail
   refine wp_region_quiet_lit (by kernel_rfl) (by kernel_rfl) ?_
   repeat (first|go_big_quiet_step ((first|(go_at_call 64;exact lU _ _ hks hkb' _ _)|(go_at_call_of 62 (IntKind.i64.wrap (pf+ps));exact fC _ _ g4 _ _)|(go_at_call_of 62 (pf+ps);exact fC _ _ g5 _ _)|(go_at_call_of 62 pm;exact fC _ _ g1 _ _)|(go_at_call_of 62 pf;exact fC _ _ g2 _ _)|(go_at_call_of 62 ps;exact fC _ _ g3 _ _)))|quiet_step ((first|(go_at_call 64;exact lU _ _ hks hkb' _ _)|(go_at_call_of 62 (IntKind.i64.wrap (pf+ps));exact fC _ _ g4 _ _)|(go_at_call_of 62 (pf+ps);exact fC _ _ g5 _ _)|(go_at_call_of 62 pm;exact fC _ _ g1 _ _)|(go_at_call_of 62 pf;exact fC _ _ g2 _ _)|(go_at_call_of 62 ps;exact fC _ _ g3 _ _))))
   refine wpQuiet_nil ?_
   intro _ hw'
   obtain⟨nq,hw''⟩:=hw'
   subst hw''
   go_wp2_with fail
   go_ret
   exact⟨aD HBAD.symm,(fD.alloc fD.size _).trans ⟨rfl,rfl,rfl,Nat.le_refl _,fun _ _=>rfl⟩⟩
  have g3:decide (sG ps 0 1000000000)=true:=decide_eq_true h3
  have hA3:mW ps=true:=decide_eq_true h3
  have e4:IntKind.i64.wrap (pf+ps)=pf+ps:=IntWalk.i64_in _ ⟨by omega,by omega⟩
  by_cases h4:0≤(pf+ps)∧(pf+ps)≤1000000000
  case' neg=>
   have hA:mW (pf+ps)=false:=decide_eq_false h4
   have g4:decide (sG (pf+ps) 0 1000000000)=false:=decide_eq_false h4
   have g5:=g4
   rw [←e4] at g4
   have HBAD:=hide (gK hlt (show jc l 0=false by rw [ah gZ];simp[fH,hA]))
   clear gZ fF hA
   go_wp2_with fail
   refine wp_region_quiet_lit (by kernel_rfl) (by kernel_rfl) ?_
   repeat (first|go_big_quiet_step ((first|(go_at_call 64;exact lU _ _ hks hkb' _ _)|(go_at_call_of 62 (IntKind.i64.wrap (pf+ps));exact fC _ _ g4 _ _)|(go_at_call_of 62 (pf+ps);exact fC _ _ g5 _ _)|(go_at_call_of 62 pm;exact fC _ _ g1 _ _)|(go_at_call_of 62 pf;exact fC _ _ g2 _ _)|(go_at_call_of 62 ps;exact fC _ _ g3 _ _)))|quiet_step ((first|(go_at_call 64;exact lU _ _ hks hkb' _ _)|(go_at_call_of 62 (IntKind.i64.wrap (pf+ps));exact fC _ _ g4 _ _)|(go_at_call_of 62 (pf+ps);exact fC _ _ g5 _ _)|(go_at_call_of 62 pm;exact fC _ _ g1 _ _)|(go_at_call_of 62 pf;exact fC _ _ g2 _ _)|(go_at_call_of 62 ps;exact fC _ _ g3 _ _))))
   refine wpQuiet_nil ?_
   intro _ hw'
   obtain⟨nq,hw''⟩:=hw'
   subst hw''
   go_wp2_with fail
   go_ret
   exact⟨aD HBAD.symm,(fD.alloc fD.size _).trans ⟨rfl,rfl,rfl,Nat.le_refl _,fun _ _=>rfl⟩⟩
  have g4:decide (sG (pf+ps) 0 1000000000)=true:=decide_eq_true h4
  have ZQ:mW (pf+ps)=true:=decide_eq_true h4
  have g5:=g4
  rw [←e4] at g4
  have yZ:=hide (show jc l 0=true by rw [ah gZ];simp[fH,hkb,hA1,hA2,hA3,ZQ])
  clear gZ hA1 hA2 hA3 ZQ
  go_wp2_with fail
  refine wp_region_quiet_lit (by kernel_rfl) (by kernel_rfl) ?_
  repeat (first|go_big_quiet_step ((first|(go_at_call 64;exact lU _ _ hks hkb' _ _)|(go_at_call_of 62 (IntKind.i64.wrap (pf+ps));exact fC _ _ g4 _ _)|(go_at_call_of 62 (pf+ps);exact fC _ _ g5 _ _)|(go_at_call_of 62 pm;exact fC _ _ g1 _ _)|(go_at_call_of 62 pf;exact fC _ _ g2 _ _)|(go_at_call_of 62 ps;exact fC _ _ g3 _ _)))|quiet_step ((first|(go_at_call 64;exact lU _ _ hks hkb' _ _)|(go_at_call_of 62 (IntKind.i64.wrap (pf+ps));exact fC _ _ g4 _ _)|(go_at_call_of 62 (pf+ps);exact fC _ _ g5 _ _)|(go_at_call_of 62 pm;exact fC _ _ g1 _ _)|(go_at_call_of 62 pf;exact fC _ _ g2 _ _)|(go_at_call_of 62 ps;exact fC _ _ g3 _ _))))
  refine wpQuiet_nil ?_
  intro _ hw'
  obtain⟨nq,hw''⟩:=hw'
  subst hw''
  go_wp2_with fail
  go_roundw
  case rel=>exact⟨0+1,by omega,by go_num,by rw [ah fF,ah kV,ah yZ];rfl,(fD.alloc fD.size _).trans ⟨rfl,rfl,rfl,Nat.le_refl _,fun _ _=>rfl⟩⟩
  case measure=>simp[intOf];omega
 |succ j=>
  obtain⟨g,off,rfl,hgw,c0,c1,c2,c3⟩:=aH.four (GR.At.below HA fD) (j+1) hlt
  obtain⟨g',off',e',_,d0,_,_,_⟩:=aH.four (GR.At.below HA fD) j (by omega)
  have eg:g=g'∧off=off':=by injection e' with e';injection e' with e1 e2;exact⟨e1,e2⟩
  obtain⟨rfl,rfl⟩:=eg
  have hgd:l.getD j default=l[j]:=getD_at l j (by omega)
  rw [show j+1 - 1=j from rfl,hgd] at hat
  have hgt:decide ((0:Int) < ((j:Int)+1))=true:=decide_eq_true (by omega)
  clear e' hgd
  generalize l[j].k=q at *
  have gZ:=hide hat
  have fF:=hide (jM (jc l) (j+1))
  clear hat
  generalize l[j+1]=pu at *
  obtain⟨pk,pm,pf,ps⟩:=pu
  dsimp only at c0 c1 c2 c3 hks
  cases hkb:keyOk pk.data.toList
  ·have HB:=hide hkb;have HBAD:=hide (gK hlt (show jc l (j+1)=false by rw [ah gZ];simp[fH,ah HB]));clear gZ fF;have hkb':=ah HB;exact aaV
  have hkb':=hkb
  cases hbl:Op.bytesLess pk.toList q.toList
  case' true=>
   have hsl:sle pk q=true:=by unfold sle;rw [hbl];rfl
   cases heq:pk.toList == q.toList
   ·exact Y9
   ·exact Y9
  cases heq:pk.toList == q.toList
  case' true=>
   have hsl:sle pk q=true:=by unfold sle;rw [hbl,heq];rfl
   have HBAD:=hide (gK hlt (show jc l (j+1)=false by rw [ah gZ];simp[hsl]))
   clear gZ fF hsl
   go_wp2_with fail
   refine wp_region_quiet_lit (by kernel_rfl) (by kernel_rfl) ?_
   repeat (first|go_big_quiet_step ((first|(go_at_call 64;exact lU _ _ hks hkb' _ _)|(go_at_call_of 62 (IntKind.i64.wrap (pf+ps));exact fC _ _ g4 _ _)|(go_at_call_of 62 (pf+ps);exact fC _ _ g5 _ _)|(go_at_call_of 62 pm;exact fC _ _ g1 _ _)|(go_at_call_of 62 pf;exact fC _ _ g2 _ _)|(go_at_call_of 62 ps;exact fC _ _ g3 _ _)))|quiet_step ((first|(go_at_call 64;exact lU _ _ hks hkb' _ _)|(go_at_call_of 62 (IntKind.i64.wrap (pf+ps));exact fC _ _ g4 _ _)|(go_at_call_of 62 (pf+ps);exact fC _ _ g5 _ _)|(go_at_call_of 62 pm;exact fC _ _ g1 _ _)|(go_at_call_of 62 pf;exact fC _ _ g2 _ _)|(go_at_call_of 62 ps;exact fC _ _ g3 _ _))))
   refine wpQuiet_nil ?_
   intro _ hw'
   obtain⟨nq,hw''⟩:=hw'
   subst hw''
   go_wp2_with fail
   go_ret
   exact⟨aD HBAD.symm,(fD.alloc fD.size _).trans ⟨rfl,rfl,rfl,Nat.le_refl _,fun _ _=>rfl⟩⟩
  have hsl:Hid (sle pk q=false):=by unfold sle;rw [hbl,heq];rfl
  by_cases h1:0≤pm∧pm≤1000000000
  case' neg=>
   have hA:mW pm=false:=decide_eq_false h1
   have g1:decide (sG pm 0 1000000000)=false:=decide_eq_false h1
   have HBAD:=hide (gK hlt (show jc l (j+1)=false by rw [ah gZ];simp[fH,hA]))
   clear gZ fF hA
   go_wp2_with fail
   refine wp_region_quiet_lit (by kernel_rfl) (by kernel_rfl) ?_
   repeat (first|go_big_quiet_step ((first|(go_at_call 64;exact lU _ _ hks hkb' _ _)|(go_at_call_of 62 (IntKind.i64.wrap (pf+ps));exact fC _ _ g4 _ _)|(go_at_call_of 62 (pf+ps);exact fC _ _ g5 _ _)|(go_at_call_of 62 pm;exact fC _ _ g1 _ _)|(go_at_call_of 62 pf;exact fC _ _ g2 _ _)|(go_at_call_of 62 ps;exact fC _ _ g3 _ _)))|quiet_step ((first|(go_at_call 64;exact lU _ _ hks hkb' _ _)|(go_at_call_of 62 (IntKind.i64.wrap (pf+ps));exact fC _ _ g4 _ _)|(go_at_call_of 62 (pf+ps);exact fC _ _ g5 _ _)|(go_at_call_of 62 pm;exact fC _ _ g1 _ _)|(go_at_call_of 62 pf;exact fC _ _ g2 _ _)|(go_at_call_of 62 ps;exact fC _ _ g3 _ _))))
   refine wpQuiet_nil ?_
   intro _ hw'
   obtain⟨nq,hw''⟩:=hw'
   subst hw''
   go_wp2_with fail
   go_ret
   exact⟨aD HBAD.symm,(fD.alloc fD.size _).trans ⟨rfl,rfl,rfl,Nat.le_refl _,fun _ _=>rfl⟩⟩
  have g1:decide (sG pm 0 1000000000)=true:=decide_eq_true h1
  have hA1:mW pm=true:=decide_eq_true h1
  by_cases h2:0≤pf∧pf≤1000000000
  case' neg=>
   have hA:mW pf=false:=decide_eq_false h2
   have g2:decide (sG pf 0 1000000000)=false:=decide_eq_false h2
   have HBAD:=hide (gK hlt (show jc l (j+1)=false by rw [ah gZ];simp[fH,hA]))
   clear gZ fF hA
   go_wp2_with fail
   refine wp_region_quiet_lit (by kernel_rfl) (by kernel_rfl) ?_
   repeat (first|go_big_quiet_step ((first|(go_at_call 64;exact lU _ _ hks hkb' _ _)|(go_at_call_of 62 (IntKind.i64.wrap (pf+ps));exact fC _ _ g4 _ _)|(go_at_call_of 62 (pf+ps);exact fC _ _ g5 _ _)|(go_at_call_of 62 pm;exact fC _ _ g1 _ _)|(go_at_call_of 62 pf;exact fC _ _ g2 _ _)|(go_at_call_of 62 ps;exact fC _ _ g3 _ _)))|quiet_step ((first|(go_at_call 64;exact lU _ _ hks hkb' _ _)|(go_at_call_of 62 (IntKind.i64.wrap (pf+ps));exact fC _ _ g4 _ _)|(go_at_call_of 62 (pf+ps);exact fC _ _ g5 _ _)|(go_at_call_of 62 pm;exact fC _ _ g1 _ _)|(go_at_call_of 62 pf;exact fC _ _ g2 _ _)|(go_at_call_of 62 ps;exact fC _ _ g3 _ _))))
   refine wpQuiet_nil ?_
   intro _ hw'
   obtain⟨nq,hw''⟩:=hw'
   subst hw''
   go_wp2_with fail
   go_ret
   exact⟨aD HBAD.symm,(fD.alloc fD.size _).trans ⟨rfl,rfl,rfl,Nat.le_refl _,fun _ _=>rfl⟩⟩
  have g2:decide (sG pf 0 1000000000)=true:=decide_eq_true h2
  have hA2:mW pf=true:=decide_eq_true h2
  by_cases h3:0≤ps∧ps≤1000000000
  case' neg=>
   have hA:mW ps=false:=decide_eq_false h3
   have g3:decide (sG ps 0 1000000000)=false:=decide_eq_false h3
   have HBAD:=hide (gK hlt (show jc l (j+1)=false by rw [ah gZ];simp[fH,hA]))
   clear gZ fF hA
   go_wp2_with fail
   refine wp_region_quiet_lit (by kernel_rfl) (by kernel_rfl) ?_
   repeat (first|go_big_quiet_step ((first|(go_at_call 64;exact lU _ _ hks hkb' _ _)|(go_at_call_of 62 (IntKind.i64.wrap (pf+ps));exact fC _ _ g4 _ _)|(go_at_call_of 62 (pf+ps);exact fC _ _ g5 _ _)|(go_at_call_of 62 pm;exact fC _ _ g1 _ _)|(go_at_call_of 62 pf;exact fC _ _ g2 _ _)|(go_at_call_of 62 ps;exact fC _ _ g3 _ _)))|quiet_step ((first|(go_at_call 64;exact lU _ _ hks hkb' _ _)|(go_at_call_of 62 (IntKind.i64.wrap (pf+ps));exact fC _ _ g4 _ _)|(go_at_call_of 62 (pf+ps);exact fC _ _ g5 _ _)|(go_at_call_of 62 pm;exact fC _ _ g1 _ _)|(go_at_call_of 62 pf;exact fC _ _ g2 _ _)|(go_at_call_of 62 ps;exact fC _ _ g3 _ _))))
   refine wpQuiet_nil ?_
   intro _ hw'
   obtain⟨nq,hw''⟩:=hw'
   subst hw''
   go_wp2_with fail
   go_ret
   exact⟨aD HBAD.symm,(fD.alloc fD.size _).trans ⟨rfl,rfl,rfl,Nat.le_refl _,fun _ _=>rfl⟩⟩
  have g3:decide (sG ps 0 1000000000)=true:=decide_eq_true h3
  have hA3:mW ps=true:=decide_eq_true h3
  have e4:IntKind.i64.wrap (pf+ps)=pf+ps:=IntWalk.i64_in _ ⟨by omega,by omega⟩
  by_cases h4:0≤(pf+ps)∧(pf+ps)≤1000000000
  case' neg=>
   have hA:mW (pf+ps)=false:=decide_eq_false h4
   have g4:decide (sG (pf+ps) 0 1000000000)=false:=decide_eq_false h4
   have g5:=g4
   rw [←e4] at g4
   have HBAD:=hide (gK hlt (show jc l (j+1)=false by rw [ah gZ];simp[fH,hA]))
   clear gZ fF hA
   go_wp2_with fail
   refine wp_region_quiet_lit (by kernel_rfl) (by kernel_rfl) ?_
   repeat (first|go_big_quiet_step ((first|(go_at_call 64;exact lU _ _ hks hkb' _ _)|(go_at_call_of 62 (IntKind.i64.wrap (pf+ps));exact fC _ _ g4 _ _)|(go_at_call_of 62 (pf+ps);exact fC _ _ g5 _ _)|(go_at_call_of 62 pm;exact fC _ _ g1 _ _)|(go_at_call_of 62 pf;exact fC _ _ g2 _ _)|(go_at_call_of 62 ps;exact fC _ _ g3 _ _)))|quiet_step ((first|(go_at_call 64;exact lU _ _ hks hkb' _ _)|(go_at_call_of 62 (IntKind.i64.wrap (pf+ps));exact fC _ _ g4 _ _)|(go_at_call_of 62 (pf+ps);exact fC _ _ g5 _ _)|(go_at_call_of 62 pm;exact fC _ _ g1 _ _)|(go_at_call_of 62 pf;exact fC _ _ g2 _ _)|(go_at_call_of 62 ps;exact fC _ _ g3 _ _))))
   refine wpQuiet_nil ?_
   intro _ hw'
   obtain⟨nq,hw''⟩:=hw'
   subst hw''
   go_wp2_with fail
   go_ret
   exact⟨aD HBAD.symm,(fD.alloc fD.size _).trans ⟨rfl,rfl,rfl,Nat.le_refl _,fun _ _=>rfl⟩⟩
  have g4:decide (sG (pf+ps) 0 1000000000)=true:=decide_eq_true h4
  have ZQ:mW (pf+ps)=true:=decide_eq_true h4
  have g5:=g4
  rw [←e4] at g4
  have yZ:=hide (show jc l (j+1)=true by rw [ah gZ];simp[fH,hkb,hA1,hA2,hA3,ZQ,ah hsl])
  clear gZ hA1 hA2 hA3 ZQ
  go_wp2_with fail
  refine wp_region_quiet_lit (by kernel_rfl) (by kernel_rfl) ?_
  repeat (first|go_big_quiet_step ((first|(go_at_call 64;exact lU _ _ hks hkb' _ _)|(go_at_call_of 62 (IntKind.i64.wrap (pf+ps));exact fC _ _ g4 _ _)|(go_at_call_of 62 (pf+ps);exact fC _ _ g5 _ _)|(go_at_call_of 62 pm;exact fC _ _ g1 _ _)|(go_at_call_of 62 pf;exact fC _ _ g2 _ _)|(go_at_call_of 62 ps;exact fC _ _ g3 _ _)))|quiet_step ((first|(go_at_call 64;exact lU _ _ hks hkb' _ _)|(go_at_call_of 62 (IntKind.i64.wrap (pf+ps));exact fC _ _ g4 _ _)|(go_at_call_of 62 (pf+ps);exact fC _ _ g5 _ _)|(go_at_call_of 62 pm;exact fC _ _ g1 _ _)|(go_at_call_of 62 pf;exact fC _ _ g2 _ _)|(go_at_call_of 62 ps;exact fC _ _ g3 _ _))))
  refine wpQuiet_nil ?_
  intro _ hw'
  obtain⟨nq,hw''⟩:=hw'
  subst hw''
  go_wp2_with fail
  go_roundw
  case rel=>exact⟨(j+1)+1,by omega,by go_num,by rw [ah fF,ah kV,ah yZ];rfl,(fD.alloc fD.size _).trans ⟨rfl,rfl,rfl,Nat.le_refl _,fun _ _=>rfl⟩⟩
  case measure=>simp[intOf];omega):P:=h
theorem afg.Ka58(h:P:=by
 cases k with
 |zero=>
  obtain⟨g,off,rfl,hgw,c0,c1,c2,c3⟩:=aH.four (GR.At.below HA fD) 0 hlt
  simp only[Nat.zero_mul,Nat.add_zero] at c0 c1 c2 c3
  have hgt:decide ((0:Int) < ((0:Nat):Int))=false:=rfl
  have gZ:=hide hat
  have fF:=hide (jM (jc l) 0)
  clear hat
  generalize l[0]=pu at *
  cases hpo:fH pu
  ·have HO:=hide (fun w1=>l7 pu false w1 hpo);have HBAD:=hide (gK hlt (show jc l 0=false by rw [ah gZ,hpo];rfl));clear gZ fF hpo;obtain⟨pk,pm,pf,ps⟩:=pu;dsimp only at c0 c1 c2 c3;open apS in exact QF
  ·have HO:=hide (fun w1=>l7 pu true w1 hpo);have yZ:=hide (show jc l 0=true by rw [ah gZ,hpo];rfl);clear gZ hpo;obtain⟨pk,pm,pf,ps⟩:=pu;dsimp only at c0 c1 c2 c3;open apR in exact QF
 |succ j=>
  have hlt2:j < l.length:=by omega
  obtain⟨g,off,rfl,hgw,c0,c1,c2,c3⟩:=aH.four (GR.At.below HA fD) (j+1) hlt
  obtain⟨g2,off2,e2,abq,d0,d1,d2,d3⟩:=aH.four (GR.At.below HA fD) j hlt2
  have e3:g=g2:=by injection e2 with e2;injection e2 with e2 e4
  have e4:off=off2:=by injection e2 with e2;injection e2 with e2 e4
  subst e3 e4
  clear e2 abq d1 d2 d3
  have hgt:decide ((0:Int) < ((j+1:Nat):Int))=true:=decide_eq_true (by omega)
  have ej:IntKind.i64.wrap (((j+1:Nat):Int) - 1)=(j:Int):=by rw [IntWalk.i64_in _ ⟨by omega,by omega⟩];omega
  rw [show j+1 - 1=j by omega,getD_at l j hlt2] at hat
  have gZ:=hide hat
  have fF:=hide (jM (jc l) (j+1))
  clear hat
  generalize l[j+1]=pu at *
  generalize l[j]=pq at *
  obtain⟨q,qm,qf,qs⟩:=pq
  dsimp only at d0
  cases hpo:fH pu
  ·have HO:=hide (fun w1=>l7 pu false w1 hpo);have HBAD:=hide (gK hlt (show jc l (j+1)=false by rw [ah gZ,hpo];rfl));clear gZ fF hpo;obtain⟨pk,pm,pf,ps⟩:=pu;dsimp only at c0 c1 c2 c3;open apQ in exact QF
  ·have HO:=hide (fun w1=>l7 pu true w1 hpo);cases hsl:Op.bytesLess q.toList pu.k.toList
   ·have HBAD:=hide (gK hlt (show jc l (j+1)=false by rw [ah gZ,hpo];dsimp only;rw [←Ii,hsl];simp));clear gZ fF hpo;obtain⟨pk,pm,pf,ps⟩:=pu;dsimp only at c0 c1 c2 c3 hsl;open apP in exact QF
   ·have yZ:=hide (show jc l (j+1)=true by rw [ah gZ,hpo];dsimp only;rw [←Ii,hsl];simp);clear gZ hpo;obtain⟨pk,pm,pf,ps⟩:=pu;dsimp only at c0 c1 c2 c3 hsl;open apO in exact QF):P:=h
theorem amb(h:P:=by
 open akK in exact Yt):P:=h
theorem afh.Ka59(h:P:=by
 open ape in exact DW):P:=h
theorem afi.Ka59(h:P:=by
 open apd in exact DW):P:=h
theorem amc(h:P:=by
 obtain⟨e1,e2,e3,e4⟩:=eT w (.cells (fZ n A) 30) (.cells #[.int .i64 4,.int .i64 no,.string k,.int .i64 nn,.int .i64 mK,.int .i64 mF,.int .i64 mT,.int .i64 mI,.int .i64 mL,.string mk,.int .i64 mN] 34) (.cells iO 30);have hsz:(((w.alloc (.cells (fZ n A) 30)).alloc (.cells #[.int .i64 4,.int .i64 no,.string k,.int .i64 nn,.int .i64 mK,.int .i64 mF,.int .i64 mT,.int .i64 mI,.int .i64 mL,.string mk,.int .i64 mN] 34)).alloc (.cells iO 30)).heap.size=w.heap.size+3:=by simp
 generalize hW0:((w.alloc (.cells (fZ n A) 30)).alloc (.cells #[.int .i64 4,.int .i64 no,.string k,.int .i64 nn,.int .i64 mK,.int .i64 mF,.int .i64 mT,.int .i64 mI,.int .i64 mL,.string mk,.int .i64 mN] 34)).alloc (.cells iO 30)=W0 at *;exact Ka60):P:=h
theorem afj.Ka60(h:P:=by
 exact amE):P:=h
theorem afk.Ka60(h:P:=by
 exact Za8):P:=h
theorem amd(h:P:=by
 obtain⟨e1,e2,e3,e4⟩:=eT w (.cells (fZ n A) 30) (.cells #[.int .i64 3,.int .i64 no,.string k,.int .i64 nn,.int .i64 mK,.int .i64 mF,.int .i64 mT,.int .i64 mI,.int .i64 mL,.string mk,.int .i64 mN] 34) (.cells iO 30);have hsz:(((w.alloc (.cells (fZ n A) 30)).alloc (.cells #[.int .i64 3,.int .i64 no,.string k,.int .i64 nn,.int .i64 mK,.int .i64 mF,.int .i64 mT,.int .i64 mI,.int .i64 mL,.string mk,.int .i64 mN] 34)).alloc (.cells iO 30)).heap.size=w.heap.size+3:=by simp
 generalize hW0:((w.alloc (.cells (fZ n A) 30)).alloc (.cells #[.int .i64 3,.int .i64 no,.string k,.int .i64 nn,.int .i64 mK,.int .i64 mF,.int .i64 mT,.int .i64 mI,.int .i64 mL,.string mk,.int .i64 mN] 34)).alloc (.cells iO 30)=W0 at *;exact Ka61):P:=h
theorem afl.Ka61(h:P:=by
 open aph in exact DW):P:=h
theorem afm.Ka61(h:P:=by
 exact amE):P:=h
theorem ame(h:P:=by
 obtain⟨e1,e2,e3,e4⟩:=eT w (.cells (fZ n A) 30) (.cells #[.int .i64 0,.int .i64 no,.string k,.int .i64 nn,.int .i64 mK,.int .i64 mF,.int .i64 mT,.int .i64 mI,.int .i64 mL,.string mk,.int .i64 mN] 34) (.cells iO 30);have hsz:(((w.alloc (.cells (fZ n A) 30)).alloc (.cells #[.int .i64 0,.int .i64 no,.string k,.int .i64 nn,.int .i64 mK,.int .i64 mF,.int .i64 mT,.int .i64 mI,.int .i64 mL,.string mk,.int .i64 mN] 34)).alloc (.cells iO 30)).heap.size=w.heap.size+3:=by simp
 generalize hW0:((w.alloc (.cells (fZ n A) 30)).alloc (.cells #[.int .i64 0,.int .i64 no,.string k,.int .i64 nn,.int .i64 mK,.int .i64 mF,.int .i64 mT,.int .i64 mI,.int .i64 mL,.string mk,.int .i64 mN] 34)).alloc (.cells iO 30)=W0 at *;exact Ka62):P:=h
theorem afn.Ka62(h:P:=by
 open apl in exact DW):P:=h
theorem afo.Ka62(h:P:=by
 open apf in exact DW):P:=h
theorem amf(h:P:=by
 obtain⟨gp,Ru⟩:=hP;obtain⟨gr,hgr⟩:=hR;subst Ru;subst hgr;have M8:=hide (fun W (ha:aH W (some ⟨gp,0,none⟩) n.pu)=>OQ gp 0 bf n.pu k nn W (Nat.le_trans hz.p (by omega)) qd hz.pk hkz ha);unfold gM at M8;rw [hu] at M8;have hp:=gQ hok;have FZ:=hide (fun W1 (ha:iA W1 (some ⟨gr,0,none⟩) n.reqs)=>vZ n (⟨a_k,(some ⟨gp,0,none⟩),dA,dJ,(some ⟨gr,0,none⟩),aI,bf,aM,aJ,aQ⟩:bE) no W1 (by omega) hp.1 ha);rw [show oq n.reqs no= -1 by unfold oq;rw [hf];rfl] at FZ;have AR:=hide hp.1;have arS:=hp.2.1;clear hp hok hf hu hkz hz qd;unfold gG;have H9:=hide h9;clear h9;have jY:=hide (h.nine hB);clear h;exact Ka63):P:=h
theorem afp.Ka63(h:P:=by
 open apn in exact alP):P:=h
theorem afq.Ka63(h:P:=by
 open apo in exact alP):P:=h
theorem amg(h:P:=by
 have HN8:Hid (NQ Z8 B n (⟨a_k,(some ⟨gp,0,none⟩),dA,dJ,fq,aI,bf,aM,aJ,aQ⟩:bE) G (newC w.heap.size 9 c)):=by rw [hZ];exact HN7.kc (k:=9) (KC.set (aT (Nat.le_refl _))) (by omega)
 have Pd:Hid (Z8.ownsRow bs 143 4 (.slice av RL.length cv) RL.length (GR.flat eG RL)):=by rw [hZ];exact cK WU (aC.set _) (fun y hy=>by have:y=w.heap.size:=(by simpa using hy);omega)
 have Dz:Hid (Below B w Z8):=by rw [hZ];exact Cq.setCell (p:=⟨w.heap.size,3,none⟩) hB _
 have HK8:Hid (Apart c w Z8):=by rw [hZ];exact HK7.keeps Cq.size (aC.set _) (fun y hy=>by have:y=w.heap.size:=(by simpa using hy);omega)
 clear hZ HK7 mq kC HN7 WU Cq HS7 c3n f3n hn7;exact Ka64):P:=h
theorem afr.Ka64(h:P:=by
 obtain⟨a6,c6,W9,hrun,C9,NA,NV⟩:∃a6 c6 W9,(Builtin.append_ #[26,26] 26 #[.slice dA n.out.length aM,.slice (some ⟨Z8.heap.size,0,none⟩) 1 1]).run Tryz.prog (Z8.alloc (.cells #[.int .i64 n.next,.int .i64 dst,.string key,.int .i64 pf] 95))= .ok (.slice a6 (n.out.length+1) c6) W9∧W9.ownsRow B 95 4 (.slice a6 (n.out.length+1) c6) (n.out.length+1) (GR.flat aS (n.out++[⟨n.next,dst,key,pf⟩]))∧(Z8.alloc (.cells #[.int .i64 n.next,.int .i64 dst,.string key,.int .i64 pf] 95)).grownBy W9 (Value.slice dA n.out.length aM).ownBlock∧∀x,(Value.slice a6 (n.out.length+1) c6).ownBlock=some x→(Value.slice dA n.out.length aM).ownBlock=some x∨(Z8.alloc (.cells #[.int .i64 n.next,.int .i64 dst,.string key,.int .i64 pf] 95)).heap.size≤x:=by
  obtain⟨hi,hz0,hz1,hz2⟩:=ah HI;obtain⟨v',w',hr,ho,hg,hw⟩:=fu (P:=Tryz.prog) (Z8.alloc (.cells #[.int .i64 n.next,.int .i64 dst,.string key,.int .i64 pf] 95)) B 26 26 95 i0 (.agg #[.int .i64 0,.int .i64 0,.string ByteArray.empty,.int .i64 0]) 4 40 Tryz.underlying26 hi hz0 hz1 hz2 rfl (by decide) (.slice dA n.out.length aM) n.out.length (GR.flat aS n.out) (GR.own_below HN8.o (au Z8 _)) ⟨Z8.heap.size,0,none⟩ 1 1 (aS ⟨n.next,dst,key,pf⟩) rfl (World.news_of_block (heap_alloc_new Z8 _)) (oU _) (by unfold maxLen;omega) (by omega) (Nat.le_trans (Nat.le_trans hB Dz.size) (au Z8 _).size);obtain⟨a6,c6,hv6,_⟩:=GR.own_at (enc:=aS) (sz:=4) (l:=n.out++[⟨n.next,dst,key,pf⟩]) bH (by rw [List.length_append,fV];exact ho);exact YZ
 have jl:=HN8.kc (k:=9) (KC.of_below (au Z8 (.cells #[.int .i64 n.next,.int .i64 dst,.string key,.int .i64 pf] 95))) (by omega);have k9:KC (newC w.heap.size 9 c) 3 (Z8.alloc (.cells #[.int .i64 n.next,.int .i64 dst,.string key,.int .i64 pf] 95)) W9:=KC.grown NA jl.co;have ZX:∀x,w.heap.size≤x→newC w.heap.size 9 c x≠3:=fun x hx=>by rw [aT hx];omega
 have sZ:=hide (k9.obj (aj nL (au Z8 (.cells #[.int .i64 n.next,.int .i64 dst,.string key,.int .i64 pf] 95))) (ZX _ (Nat.le_refl _)));have jA:=hide (k9.obj (aj uN (au Z8 (.cells #[.int .i64 n.next,.int .i64 dst,.string key,.int .i64 pf] 95))) (ZX _ (by omega)));have JH:=hide (k9.obj (aj Qd (au Z8 (.cells #[.int .i64 n.next,.int .i64 dst,.string key,.int .i64 pf] 95))) (ZX _ (by omega)));have Uj:=hide (k9.below (B:=B) (Dz.trans ((au Z8 (.cells #[.int .i64 n.next,.int .i64 dst,.string key,.int .i64 pf] 95)).mono (Nat.le_trans hB Dz.size))) jl.lo (by omega) (Nat.le_trans (Nat.le_trans hB Dz.size) (au Z8 _).size));have hZ8:w.heap.size+1 < Z8.heap.size:=aA uN
 have fF:Hid (∀W',(∃F,aC F W9 W'∧∀y∈F,(y=w.heap.size∨y=w.heap.size+1)∨(y < w.heap.size∧6 < c y))→RM W' ⟨a_k,av,a6,dJ,fq,aI,cv,c6,aJ,aQ⟩ ⟨n.id,n.par,n.kids,n.next+1,RL,n.out++[⟨n.next,dst,key,pf⟩],n.seen,n.old,n.reqs⟩):=fun W' hkF=>by
  obtain⟨F,hk,hF⟩:=hkF
  have kF:KC (newC w.heap.size 9 c) 9 W9 W':=KC.keeps hk (fun y hy=>by
   rcases hF y hy with h1|h1
   ·exact aT (by omega)
   ·rw [dH h1.1];exact H9 y h1.2)
  have hr:=(kF.own (k9.own jl.r jl.cr (by omega)) jl.cr (by omega))
  have hp:=(cK (k9.own (j:=9) (GR.own_below Pd (au Z8 _)) (fun x hx=>aT (by have:=pU Pd hx;omega)) (by omega)) hk (fun y hy=>by
   have:=hF y hy
   omega))
  have ho:W'.ownsRow B 95 4 (.slice a6 (n.out++[(⟨n.next,dst,key,pf⟩:jm)]).length c6) (n.out++[(⟨n.next,dst,key,pf⟩:jm)]).length (GR.flat aS (n.out++[(⟨n.next,dst,key,pf⟩:jm)])):=(by
   rw [List.length_append]
   exact iT C9 (fun x hx=>by
    have hx9:=ED C9 hx
    refine hk.block x hx9 (fun hm=>?_)
    have hm':=hF x hm
    rcases NV x hx with h1|h1
    ·exact ant
    ·have:=(au Z8 (.cells #[.int .i64 n.next,.int .i64 dst,.string key,.int .i64 pf] 95)).size
     omega))
  have Vz:∀g,av.map (fun y=>y.block)=some g→6 < newC w.heap.size 9 c g:=fun g hg=>by
   have h1:=pU hp (lq hp hg)
   rw [aT (by omega)]
   omega
  have ho9:∀x,(Value.slice a6 (n.out++[(⟨n.next,dst,key,pf⟩:jm)]).length c6).ownBlock=some x→(Value.slice dA n.out.length aM).ownBlock=some x∨(Z8.alloc (.cells #[.int .i64 n.next,.int .i64 dst,.string key,.int .i64 pf] 95)).heap.size≤x:=fun x hx=>by
   rw [List.length_append] at hx
   exact NV x hx
  have hz9:(Z8.alloc (.cells #[.int .i64 n.next,.int .i64 dst,.string key,.int .i64 pf] 95)).heap.size=Z8.heap.size+1:=by simp
  exact RM.of (n:=⟨n.id,n.par,n.kids,n.next+1,RL,n.out++[⟨n.next,dst,key,pf⟩],n.seen,n.old,n.reqs⟩) (A:=⟨a_k,av,a6,dJ,fq,aI,cv,c6,aJ,aQ⟩) (c:=newC w.heap.size 9 c) (kF.w (k9.w jl.k jl.ck (by omega)) jl.ck (by omega)) jl.ck (kF.seenQ (k9.seenQ jl.sq jl.c4 jl.ci (by omega) (by omega)) jl.c4 jl.ci (by omega) (by omega)) jl.c4 jl.ci jl.ni
   (GR.own_ati aZ hp) (fun g hg _=> .inr (Vz g hg)) ho (fun x hx=>by
    rcases ho9 x hx with h1|h1
    ·exact .inl (jl.co x h1)
    ·refine .inr ?_;rw [aT (by omega)]
     omega) hr (fun x hx=> .inl (jl.cr x hx))
   (fun g hg _ h6=>⟨fun e=>by
    rcases ho9 g e with h1|h1
    ·have:=jl.co g h1;omega
    ·have h2:=ED Pd (lq Pd hg)
     omega,fun e=>by have:=jl.cr g e;omega⟩) (fun x hx h6 e=>by have:=jl.cr x e;omega)
 have HK9:=hide ((HK8.step Dz.size (au Z8 (.cells #[.int .i64 n.next,.int .i64 dst,.string key,.int .i64 pf] 95))).grown (Nat.le_trans Dz.size (au Z8 _).size) NA (fun x hx hlt=>by
  have h1:=jl.co x hx
  rw [dH hlt] at h1
  omega))
 open afb in exact al8):P:=h
theorem afs.Ka64(h:P:=by
 obtain⟨a6,c6,W9,hrun,C9,NA,NV⟩:∃a6 c6 W9,(Builtin.append_ #[26,26] 26 #[.slice dA n.out.length aM,.slice (some ⟨Z8.heap.size,0,none⟩) 1 1]).run Tryz.prog (Z8.alloc (.cells #[.int .i64 n.next,.int .i64 dst,.string key,.int .i64 most] 95))= .ok (.slice a6 (n.out.length+1) c6) W9∧W9.ownsRow B 95 4 (.slice a6 (n.out.length+1) c6) (n.out.length+1) (GR.flat aS (n.out++[⟨n.next,dst,key,most⟩]))∧(Z8.alloc (.cells #[.int .i64 n.next,.int .i64 dst,.string key,.int .i64 most] 95)).grownBy W9 (Value.slice dA n.out.length aM).ownBlock∧∀x,(Value.slice a6 (n.out.length+1) c6).ownBlock=some x→(Value.slice dA n.out.length aM).ownBlock=some x∨(Z8.alloc (.cells #[.int .i64 n.next,.int .i64 dst,.string key,.int .i64 most] 95)).heap.size≤x:=by
  obtain⟨hi,hz0,hz1,hz2⟩:=ah HI;obtain⟨v',w',hr,ho,hg,hw⟩:=fu (P:=Tryz.prog) (Z8.alloc (.cells #[.int .i64 n.next,.int .i64 dst,.string key,.int .i64 most] 95)) B 26 26 95 i0 (.agg #[.int .i64 0,.int .i64 0,.string ByteArray.empty,.int .i64 0]) 4 40 Tryz.underlying26 hi hz0 hz1 hz2 rfl (by decide) (.slice dA n.out.length aM) n.out.length (GR.flat aS n.out) (GR.own_below HN8.o (au Z8 _)) ⟨Z8.heap.size,0,none⟩ 1 1 (aS ⟨n.next,dst,key,most⟩) rfl (World.news_of_block (heap_alloc_new Z8 _)) (oU _) (by unfold maxLen;omega) (by omega) (Nat.le_trans (Nat.le_trans hB Dz.size) (au Z8 _).size);obtain⟨a6,c6,hv6,_⟩:=GR.own_at (enc:=aS) (sz:=4) (l:=n.out++[⟨n.next,dst,key,most⟩]) bH (by rw [List.length_append,fV];exact ho);exact YZ
 have jl:=HN8.kc (k:=9) (KC.of_below (au Z8 (.cells #[.int .i64 n.next,.int .i64 dst,.string key,.int .i64 most] 95))) (by omega);have k9:KC (newC w.heap.size 9 c) 3 (Z8.alloc (.cells #[.int .i64 n.next,.int .i64 dst,.string key,.int .i64 most] 95)) W9:=KC.grown NA jl.co;have ZX:∀x,w.heap.size≤x→newC w.heap.size 9 c x≠3:=fun x hx=>by rw [aT hx];omega
 have sZ:=hide (k9.obj (aj nL (au Z8 (.cells #[.int .i64 n.next,.int .i64 dst,.string key,.int .i64 most] 95))) (ZX _ (Nat.le_refl _)));have jA:=hide (k9.obj (aj uN (au Z8 (.cells #[.int .i64 n.next,.int .i64 dst,.string key,.int .i64 most] 95))) (ZX _ (by omega)));have JH:=hide (k9.obj (aj Qd (au Z8 (.cells #[.int .i64 n.next,.int .i64 dst,.string key,.int .i64 most] 95))) (ZX _ (by omega)));have Uj:=hide (k9.below (B:=B) (Dz.trans ((au Z8 (.cells #[.int .i64 n.next,.int .i64 dst,.string key,.int .i64 most] 95)).mono (Nat.le_trans hB Dz.size))) jl.lo (by omega) (Nat.le_trans (Nat.le_trans hB Dz.size) (au Z8 _).size));have hZ8:w.heap.size+1 < Z8.heap.size:=aA uN
 have fF:Hid (∀W',(∃F,aC F W9 W'∧∀y∈F,(y=w.heap.size∨y=w.heap.size+1)∨(y < w.heap.size∧6 < c y))→RM W' ⟨a_k,av,a6,dJ,fq,aI,cv,c6,aJ,aQ⟩ ⟨n.id,n.par,n.kids,n.next+1,RL,n.out++[⟨n.next,dst,key,most⟩],n.seen,n.old,n.reqs⟩):=fun W' hkF=>by
  obtain⟨F,hk,hF⟩:=hkF
  have kF:KC (newC w.heap.size 9 c) 9 W9 W':=KC.keeps hk (fun y hy=>by
   rcases hF y hy with h1|h1
   ·exact aT (by omega)
   ·rw [dH h1.1];exact H9 y h1.2)
  have hr:=(kF.own (k9.own jl.r jl.cr (by omega)) jl.cr (by omega))
  have hp:=(cK (k9.own (j:=9) (GR.own_below Pd (au Z8 _)) (fun x hx=>aT (by have:=pU Pd hx;omega)) (by omega)) hk (fun y hy=>by
   have:=hF y hy
   omega))
  have ho:W'.ownsRow B 95 4 (.slice a6 (n.out++[(⟨n.next,dst,key,most⟩:jm)]).length c6) (n.out++[(⟨n.next,dst,key,most⟩:jm)]).length (GR.flat aS (n.out++[(⟨n.next,dst,key,most⟩:jm)])):=(by
   rw [List.length_append]
   exact iT C9 (fun x hx=>by
    have hx9:=ED C9 hx
    refine hk.block x hx9 (fun hm=>?_)
    have hm':=hF x hm
    rcases NV x hx with h1|h1
    ·exact ant
    ·have:=(au Z8 (.cells #[.int .i64 n.next,.int .i64 dst,.string key,.int .i64 most] 95)).size
     omega))
  have Vz:∀g,av.map (fun y=>y.block)=some g→6 < newC w.heap.size 9 c g:=fun g hg=>by
   have h1:=pU hp (lq hp hg)
   rw [aT (by omega)]
   omega
  have ho9:∀x,(Value.slice a6 (n.out++[(⟨n.next,dst,key,most⟩:jm)]).length c6).ownBlock=some x→(Value.slice dA n.out.length aM).ownBlock=some x∨(Z8.alloc (.cells #[.int .i64 n.next,.int .i64 dst,.string key,.int .i64 most] 95)).heap.size≤x:=fun x hx=>by
   rw [List.length_append] at hx
   exact NV x hx
  have hz9:(Z8.alloc (.cells #[.int .i64 n.next,.int .i64 dst,.string key,.int .i64 most] 95)).heap.size=Z8.heap.size+1:=by simp
  exact RM.of (n:=⟨n.id,n.par,n.kids,n.next+1,RL,n.out++[⟨n.next,dst,key,most⟩],n.seen,n.old,n.reqs⟩) (A:=⟨a_k,av,a6,dJ,fq,aI,cv,c6,aJ,aQ⟩) (c:=newC w.heap.size 9 c) (kF.w (k9.w jl.k jl.ck (by omega)) jl.ck (by omega)) jl.ck (kF.seenQ (k9.seenQ jl.sq jl.c4 jl.ci (by omega) (by omega)) jl.c4 jl.ci (by omega) (by omega)) jl.c4 jl.ci jl.ni
   (GR.own_ati aZ hp) (fun g hg _=> .inr (Vz g hg)) ho (fun x hx=>by
    rcases ho9 x hx with h1|h1
    ·exact .inl (jl.co x h1)
    ·refine .inr ?_;rw [aT (by omega)]
     omega) hr (fun x hx=> .inl (jl.cr x hx))
   (fun g hg _ h6=>⟨fun e=>by
    rcases ho9 g e with h1|h1
    ·have:=jl.co g h1;omega
    ·have h2:=ED Pd (lq Pd hg)
     omega,fun e=>by have:=jl.cr g e;omega⟩) (fun x hx h6 e=>by have:=jl.cr x e;omega)
 have HK9:=hide ((HK8.step Dz.size (au Z8 (.cells #[.int .i64 n.next,.int .i64 dst,.string key,.int .i64 most] 95))).grown (Nat.le_trans Dz.size (au Z8 _).size) NA (fun x hx hlt=>by
  have h1:=jl.co x hx
  rw [dH hlt] at h1
  omega))
 open afc in exact al8):P:=h
theorem amh(h:P:=by
 go_enter Tryz.func248,Tryz.ntmps248
 go_upto_region 1 with fail;refine Fo.wp_at (fun V hV=>?_);have hbV:Below w.heap.size w V:=by rw [hV];exact bZ w _
 have hblk:V.heap[w.heap.size]?=some (.cells #[.int .i64 dm,.int .i64 df,.int .i64 ds] 220 (0,0)):=by rw [hV];exact heap_alloc_new w _
 have hlt:=Fo.lt_of_blk hblk;have c0:V.cell? ⟨w.heap.size,0,none⟩=some (.int .i64 dm):=by rw [cell_of_row V _ _ _ _ (0,0) hblk];rfl
 have c1:V.cell? ⟨w.heap.size,1,none⟩=some (.int .i64 df):=by rw [cell_of_row V _ _ _ _ (0,0) hblk];rfl
 have c2:V.cell? ⟨w.heap.size,2,none⟩=some (.int .i64 ds):=by rw [cell_of_row V _ _ _ _ (0,0) hblk];rfl
 have Fu:=hide hbV;clear hblk hV hbV;exact Ka65):P:=h
end Go.Proofs.YtacgbldlonoaaaaGreatDoor
