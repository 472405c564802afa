/-
  Parts of proofs that stand more than once, each said once.
-/
import Derived.Test.YtacgbldlonoaaaaGreatDoorRrZ1
namespace Go.Proofs.YtacgbldlonoaaaaGreatDoor
set_option maxRecDepth 100000
variable{P:Prop}
theorem ahS.Kr29(h:P:=by
 open ami in exact ab3):P:=h
theorem aro(h:P:=by
 open aoK in exact WJ):P:=h
theorem ahT.Kr30(h:P:=by
 have Yb:=aj x3 (.cells (dX no k nn 0) 97);have EG:=Hq (heap_alloc_new x3 (.cells (dX no k nn 0) 97));open alD in exact afv):P:=h
theorem ahU.Kr30(h:P:=by
 have Yb:=aj x3 (.cells (dX no k nn 1) 97);have EG:=Hq (heap_alloc_new x3 (.cells (dX no k nn 1) 97));open alC in exact afv):P:=h
theorem arp(h:P:=by
 cases h3:fD lo
 case' false=>
  have cS:=Ie lo false W1 h3
  have HV:=Hq (show bb=true by rw [<-ah eY];simp[h3])
  clear eY
  refine wp_region_quiet_below Aab Aab ?_
  repeat (first|go_big_quiet_step ((first|(go_at_call 47;exact cN _ _)|(go_at_call 61;exact cS _ _)))|quiet_step ((first|(go_at_call 47;exact cN _ _)|(go_at_call 61;exact cS _ _))))
  refine wpQuiet_nil ?_
  intro _ hw'
  obtain⟨⟨dq,osq⟩,hw''⟩:=hw'
  subst hw''
  go_wp2_with fail
  go_meet
  case rel=>exact wB
 have cS:=Ie lo true W1 h3;by_cases h4:ids.length<=40
 case' neg=>
  have hq:decide ((40:Int) < ids.length)=true:=decide_eq_true Aaa
  have HV:=Hq (show bb=true by rw [<-ah eY];simp[h4])
  clear eY
  refine wp_region_quiet_below Aab Aab ?_
  repeat (first|go_big_quiet_step ((first|(go_at_call 47;exact cN _ _)|(go_at_call 61;exact cS _ _)))|quiet_step ((first|(go_at_call 47;exact cN _ _)|(go_at_call 61;exact cS _ _))))
  refine wpQuiet_nil ?_
  intro _ hw'
  obtain⟨⟨dq,osq⟩,hw''⟩:=hw'
  subst hw''
  go_wp2_with fail
  go_meet
  case rel=>exact wB
 have hq:decide ((40:Int) < ids.length)=false:=decide_eq_false Aaa;exact Kr31):P:=h
theorem ahV.Kr31(h:P:=by
 have HV:=Hq (show bb=false by rw [<-ah eY];simp[h1,h3,h4,h2]);exact asY):P:=h
theorem ahW.Kr31(h:P:=by
 have HV:=Hq (show bb=false by rw [<-ah eY];simp[h1,h3,h4]);exact asY):P:=h
theorem Xe(h:P:=by
 go_upto_region 6 with fail;refine Fo.wp_at (λV hV=>?_);open apA in exact ac9):P:=h
theorem ahX.Kr32(h:P:=by
 open amv in exact ab8):P:=h
theorem ahY.Kr32(h:P:=by
 open amu in exact ab8):P:=h
theorem ahZ.Kr32(h:P:=by
 open aqT in exact adG):P:=h
theorem ah0.Kr32(h:P:=by
 clear hblk hV c0 c1 c2 c3;open aqb in exact adq):P:=h
theorem ah1.Kr32(h:P:=by
 clear hblk hV c0 c1 c2 c3;open ap8 in exact adp):P:=h
theorem arq(h:P:=by
 refine tk [0,1,2,5,6] ?_;iterate 5 (refine tY (λK hK=>?_);go_simp;refine hK _ ?_;clear hK K)
 refine iN ?_;refine dD 7 rfl Aab Aab Aab (λ_ _ _ _ h=>h) (λK hK=>?_);go_simp
 first
  |(refine hK _ ?_;clear hK K)
  |(apply Exists.intro
    refine⟨λ_=>?_,hK _ ?_⟩
    (exact N1 _)
    clear hK K)
 refine tk [9,10] ?_;iterate 2 (refine tY (λK hK=>?_);go_simp;refine hK _ ?_;clear hK K)
 refine iN ?_;refine dD 11 rfl Aab Aab Aab (λ_ _ _ _ h=>h) (λK hK=>?_);go_simp
 first
  |(refine hK _ ?_;clear hK K)
  |(apply Exists.intro
    refine⟨λ_=>?_,hK _ ?_⟩
    (exact N2 _)
    clear hK K)
 refine tk [13,14] ?_;iterate 2 (refine tY (λK hK=>?_);go_simp;refine hK _ ?_;clear hK K)
 refine iN ?_;refine dD 15 rfl Aab Aab Aab (λ_ _ _ _ h=>h) (λK hK=>?_);go_simp
 first
  |(refine hK _ ?_;clear hK K)
  |(apply Exists.intro
    refine⟨λ_=>?_,hK _ ?_⟩
    (exact N3 _)
    clear hK K)
 refine tk [17,18] ?_;iterate 2 (refine tY (λK hK=>?_);go_simp;refine hK _ ?_;clear hK K)
 refine iN ?_;refine dD 19 rfl Aab Aab Aab (λ_ _ _ _ h=>h) (λK hK=>?_);go_simp;exact Kr33):P:=h
theorem ah2.Kr33(h:P:=by
 first
  |(refine hK _ ?_;clear hK K)
  |(apply Exists.intro
    refine⟨λ_=>?_,hK _ ?_⟩
    (exact N4 _)
    clear hK K)
 refine tk [21,22] ?_;iterate 2 (refine tY (λK hK=>?_);go_simp;refine hK _ ?_;clear hK K)
 refine iN ?_;refine dD 23 rfl Aab Aab Aab (λ_ _ _ _ h=>h) (λK hK=>?_);go_simp
 first
  |(refine hK _ ?_;clear hK K)
  |(apply Exists.intro
    refine⟨λ_=>?_,hK _ ?_⟩
    (exact N5 _)
    clear hK K)
 refine tk [25,26] ?_;iterate 2 (refine tY (λK hK=>?_);go_simp;refine hK _ ?_;clear hK K)
 refine iN ?_;refine dD 27 rfl Aab Aab Aab (λ_ _ _ _ h=>h) (λK hK=>?_);go_simp
 first
  |(refine hK _ ?_;clear hK K)
  |(apply Exists.intro
    refine⟨λ_=>?_,hK _ ?_⟩
    (exact N6 _)
    clear hK K)
 clear y0 y1 y2 y3 y4 y5 y6 N1 N2 N3 N4 N5 N6;open aml in exact ab4):P:=h
theorem ah3.Kr33(h:P:=by
 first
  |(refine hK _ ?_;clear hK K)
  |(apply Exists.intro
    refine⟨λ_=>?_,hK _ ?_⟩
    (exact NM _)
    clear hK K)
 refine dD 20 rfl Aab Aab Aab (λ_ _ _ _ h=>h) (λK hK=>?_);go_simp
 first
  |(refine hK _ ?_;clear hK K)
  |(apply Exists.intro
    refine⟨λ_=>?_,hK _ ?_⟩
    (exact N4 _)
    clear hK K)
 clear y0 y1 y2 y3 y4 y5 y6 y7 y8 y9 y10 N1 N2 N3 N4 NM;open amk in exact ab4):P:=h
theorem ars(h:P:=by
 open aoj in exact acR):P:=h
theorem ah4.Kr34(h:P:=by
 have EG:=Hq (show y3.heap[x2.heap.size]?=some (.cells (dX no k nn 0) 97 (0,0)) from by rw [wF.block _ (aA (ah wm)) (λhm=>ah IJ _ hm.symm rfl)];exact wm);open ao6 in exact WU):P:=h
theorem ah5.Kr34(h:P:=by
 have EG:=Hq (show y3.heap[x2.heap.size]?=some (.cells (dX no k nn 1) 97 (0,0)) from by rw [wF.block _ (aA (ah wm)) (λhm=>ah IJ _ hm.symm rfl)];exact wm);open ao5 in exact WU):P:=h
theorem aru(h:P:=by
 have hTO:= @run_callFunc_extern Tryz.prog 263 _ ReflectliteType.typeOf Tryz.func263 Aab Aab Aab Aab;have hAT:= @run_callFunc_extern Tryz.prog 308 _ (ReflectliteType.relation "AssignableTo" ReflectliteType.assignableTo) Tryz.func308 Aab Aab Aab Aab;open aqG in exact adB):P:=h
theorem ah6.Kr35(h:P:=by
 have el:=As.elemV a t (((w.alloc (.cells #[.pointer (some ⟨6,283,none⟩),.pointer (some a),.int .u64 150] 295)).alloc (.cells #[.iface 279 (.agg #[.iface 281 (.agg #[.int .i64 p])])] 279)).alloc (.cells #[.iface 281 (.agg #[.int .i64 p])] 279))
  (by rw [World.cell?_alloc_lt _ _ a Aag,World.cell?_alloc_lt _ _ a Aag,World.cell?_alloc_lt _ _ a hal];exact ha)
 have st:=As.setNo t ⟨w.heap.size+1+1+1,0,none⟩ p old ((((w.alloc (.cells #[.pointer (some ⟨6,283,none⟩),.pointer (some a),.int .u64 150] 295)).alloc (.cells #[.iface 279 (.agg #[.iface 281 (.agg #[.int .i64 p])])] 279)).alloc (.cells #[.iface 281 (.agg #[.int .i64 p])] 279)).alloc (.cells #[.int .i64 p] 281))
  (by rw [World.cell?_alloc_at _ _ _ _ Aac];rfl)
  (by rw [World.cell?_alloc_lt _ _ t Aag,World.cell?_alloc_lt _ _ t Aag,World.cell?_alloc_lt _ _ t Aag,World.cell?_alloc_lt _ _ t htl];exact ht)
  (by rw [World.frozen?_alloc_old _ _ t Aag,World.frozen?_alloc_old _ _ t Aag,World.frozen?_alloc_old _ _ t Aag,World.frozen?_alloc_old _ _ t (Nat.ne_of_lt htl)];exact hf)
 go_enter Tryz.func258,Tryz.ntmps258
 go_wp2
 refine wp_loop_rounds 3 ?_;rw [rounds_succ];go_wp2
 rw [rounds_succ];go_wp2
 rw [rounds_succ];go_wp2
 go_ret;exact⟨rfl,by exact(((((Below.refl _ _).alloc Aaa _).alloc Aag _).alloc Aag _).alloc Aag _).setCell (Nat.le_refl _) _⟩):P:=h
theorem ah7.Kr35(h:P:=by
 have el:=As.elemV a t ((w.alloc (.cells #[.pointer (some ⟨6,283,none⟩),.pointer (some a),.int .u64 150] 295)).alloc (.cells #[.iface 281 (.agg #[.int .i64 p])] 279))
  (by rw [World.cell?_alloc_lt _ _ a Aag,World.cell?_alloc_lt _ _ a hal];exact ha)
 have st:=As.setNo t ⟨w.heap.size+1+1,0,none⟩ p old (((w.alloc (.cells #[.pointer (some ⟨6,283,none⟩),.pointer (some a),.int .u64 150] 295)).alloc (.cells #[.iface 281 (.agg #[.int .i64 p])] 279)).alloc (.cells #[.int .i64 p] 281))
  (by rw [World.cell?_alloc_at _ _ _ _ Aac];rfl)
  (by rw [World.cell?_alloc_lt _ _ t Aag,World.cell?_alloc_lt _ _ t Aag,World.cell?_alloc_lt _ _ t htl];exact ht)
  (by rw [World.frozen?_alloc_old _ _ t Aag,World.frozen?_alloc_old _ _ t Aag,World.frozen?_alloc_old _ _ t (Nat.ne_of_lt htl)];exact hf)
 go_enter Tryz.func258,Tryz.ntmps258
 go_wp2
 refine wp_loop_rounds 2 ?_;rw [rounds_succ];go_wp2
 rw [rounds_succ];go_wp2
 go_ret;exact⟨rfl,by exact((((Below.refl _ _).alloc Aaa _).alloc Aag _).alloc Aag _).setCell (Nat.le_refl _) _⟩):P:=h
theorem afh(h:P:=by
 obtain⟨rfl,hs3,hk3⟩:=hcut;clear m0 m1 m2 m3 m4 m5 m6 s00 s01 s02 sf hml hsl2;go_upto_region 7 with fail;refine wp_at (λW3 hW3=>?_);subst hW3;have aaz:=Hq hs3;have kS:=Hq (hk3.obj jE (λhx=>Aaj));have SA:=Hq (hk3.obj xB (λhx=>Aaj));have kU:=Hq (hk3.obj jk (λhx=>Aaj));have HB3:=Hq (HB2.trans (hk3.below (B:=w.heap.size) (λx hx=>Aaj) HB2.size));have ag5:=Hq (ag4.kc (k:=9) (KC.keeps hk3 (λx hx=>by have:x=sb:=Aaf;rw [this];exact aS Aaa)) Aaa);have ahi:=Hq (ahh.keeps hk3 (λx hx hm=>by have h1:=hilt x hx;simp at hm;omega));clear hs3 hk3 jE xB jk HB2 ag4 ahh SV;have axK:=aA aaz;obtain⟨i0,hi0,hz0,hz1',hz2⟩:=info_parts yc;go_upto_block 2 with fail;exact Kr36):P:=h
theorem ah8.Kr36(h:P:=by
 go_cut [9] from 15 (λv wx=>∃g cp,v= .slice (some ⟨g,0,none⟩) (aY s0 mL).length cp/\wx.ownsRow W3.heap.size 3 1 v (aY s0 mL).length (GR.flat aW (aY s0 mL))/\(aY s0 mL=[]->cp=0)/\aX W3 wx)
 case first=>
  exact Zr5
 case rest=>
  open au5 in exact aff):P:=h
theorem ah9.Kr36(h:P:=by
 go_cut [9] from 15 (λv wx=>∃g cp,v= .slice (some ⟨g,0,none⟩) (aY s0 mL).length cp/\wx.ownsRow W3.heap.size 3 1 v (aY s0 mL).length (GR.flat aW (aY s0 mL))/\(aY s0 mL=[]->cp=0)/\aX W3 wx)
 case first=>
  exact Zr5
 case rest=>
  open au4 in exact aff):P:=h
theorem aia.Kr36(h:P:=by
 go_cut [9] from 15 (λv wx=>∃g cp,v= .slice (some ⟨g,0,none⟩) (aY s0 mL).length cp/\wx.ownsRow W3.heap.size 3 1 v (aY s0 mL).length (GR.flat aW (aY s0 mL))/\(aY s0 mL=[]->cp=0)/\aX W3 wx)
 case first=>
  exact Zr5
 case rest=>
  open au3 in exact aff):P:=h
theorem arv(h:P:=by
 obtain⟨gp,Yf⟩:=hP;subst Yf;have SS:=Hq (λW (ha:aH W (some ⟨gp,0,none⟩) n.pu)=>Zy gp 0 bq n.pu mk mN W (Nat.le_trans hz.p Aaa) tu hz.pk hmk ha);unfold iH at SS;rw [hu] at SS;clear hu hz tu;open apc in exact ac5):P:=h
theorem aib.Kr37(h:P:=by
 go_cut [7] from 15 (λj wx=>j= .int .i64 (i:Nat)/\Ge W0 wx)
 case first=>
  exact afA
 case rest=>
  open ahl in exact afg):P:=h
theorem aic.Kr37(h:P:=by
 go_cut [7] from 15 (λj wx=>j= .int .i64 (i:Nat)/\Ge W0 wx)
 case first=>
  exact afA
 case rest=>
  open ahm in exact afg):P:=h
theorem arw(h:P:=by
 have hwb:wc.heap.size<=wc.heap.size:=Nat.le_refl _;have y8:=cK hnl c8;have z0:=cK Mi q0;have z1:=cK Mi q1;have z2:=cK Mi q2;have z3:=cK Mi q3;clear c0 c1 c2 c3 c4 c5 c6 c7 c8 q0 q1 q2 q3;have hpc:pos<=aP:=Aaa
 have EH:=Hq (show iU wc (some ⟨gr,0,none⟩) (n.reqs.take pos) from GR.At.take HA5 pos)
 obtain⟨AD,hAD,hDR⟩:∃AD,(if aP=pos then some (⟨gr,0,none⟩:Addr) else some ⟨gr,pos*4,none⟩)=AD/\iU wc AD (n.reqs.drop pos):=by
  exact avY
 have HDR:=Hq hDR;clear hDR;refine lN 15 wc.heap.size Aab ?_;show iR _ _ _ _ _ _ 16 (Array.replicate 16 false) _ _
 refine tk [1,2,3,4,6,9,10,11,12] ?_;iterate 9 (refine tkB hwb (λK hK=>?_);go_simp;first|refine hK _ ?_|(apply Exists.intro;refine⟨λ_=>?_,hK _ ?_⟩;rfl);clear hK K)
 refine iN ?_;clear y8 z0 z1 z2 z3;have hlt1:(n.reqs.take pos).length=pos:=Abm
 have TU:(n.reqs.drop pos).length=n.reqs.length - pos:=by rw [List.length_drop]
 exact Kr38):P:=h
theorem aie.Kr38(h:P:=by
 have hL1:(n.reqs.take pos++[(⟨no,k,nn,0⟩:Rq)]).length=pos+1:=Adc
 have hL2:(n.reqs.take pos++[(⟨no,k,nn,0⟩:Rq)]++n.reqs.drop pos).length=pos+1+(n.reqs.length - pos):=Ade
 obtain⟨i0,hi,hz0,hz1,hz2⟩:=info_parts yg;have HG0:=Hq (Below.refl wc.heap.size wc);refine jM 0 7 rfl rfl Aab Aad Aad Aae Aae (λx1 hx1=>?_) (λx1 hx1=>?_)
 .open akl in exact arQ
 .open an9 in exact WG):P:=h
theorem aif.Kr38(h:P:=by
 have hL1:(n.reqs.take pos++[(⟨no,k,nn,1⟩:Rq)]).length=pos+1:=Adc
 have hL2:(n.reqs.take pos++[(⟨no,k,nn,1⟩:Rq)]++n.reqs.drop pos).length=pos+1+(n.reqs.length - pos):=Ade
 obtain⟨i0,hi,hz0,hz1,hz2⟩:=info_parts yg;have HG0:=Hq (Below.refl wc.heap.size wc);refine jM 0 7 rfl rfl Aab Aad Aad Aae Aae (λx1 hx1=>?_) (λx1 hx1=>?_)
 .open akk in exact arQ
 .open an8 in exact WG):P:=h
theorem Tg(h:P:=by
 obtain⟨d0,d1,d2,d3,d4,d5,d6,d7,d8⟩:=nine tO;have f0:=au tO 0;have f1:=au tO 1;have f2:=au tO 2;have f3:=au tO 3;have f4:=au tO 4;have f5:=au tO 5;have f6:=au tO 6;have f7:=au tO 7;have f8:=au tO 8;exact Kr39):P:=h
theorem aii.Kr39(h:P:=by
 have hnl:=aA jZ;have hrl:=aA tO;go_wp2_with fail;refine aN (λW' hW'=>?_)
 have e4:W'.heap[w.heap.size+2]?=some (.cells (dH n A) 30 (0,0)):=by
  exact Xn
 have fH:aC [w.heap.size+2] (W1.alloc (.cells #[] 32)) W':=by
  rw [hW'];exact aL (dH n A).toList (W1.alloc (.cells #[] 32)) 0
 open akw in exact arR):P:=h
theorem aij.Kr39(h:P:=by
 have hnl:=aA jE;have hrl:=aA tO;go_wp2_with fail;refine aN (λW' hW'=>?_)
 have e4:W'.heap[w.heap.size+2]?=some (.cells (dH n A) 30 (0,0)):=by
  exact Xn
 have fH:aC [w.heap.size+2] (W2.alloc (.cells #[] 32)) W':=by
  rw [hW'];exact aL (dH n A).toList (W2.alloc (.cells #[] 32)) 0
 open akv in exact arR):P:=h
theorem aik.Kr39(h:P:=by
 have hrl:=aA tO;go_wp2_with fail;refine aN (λW' hW'=>?_)
 have e4:W'.heap[w.heap.size+2]?=some (.cells (dH N1 A2) 30 (0,0)):=by
  rw [hW'];exact GR.setW_blk (dH N1 A2).toList (o:=0) (xs:=gu.toList) tO
 have fH:aC [w.heap.size+2] (W5.alloc (.cells (dH N1 A2) 30)) W':=by
  rw [hW'];exact aL (dH N1 A2).toList (W5.alloc (.cells (dH N1 A2) 30)) 0
 have HAT:=Hq (λW'' (ho:Co w W' W'')=>Vz W'' (ho.out (c:=c) ((aC.of_below (aj W5 (.cells (dH N1 A2) 30))).trans fH) hrx VG));have lQ:Hid (aX w W'):=tZ.trans (fH.below (λx hx=>by have:x=w.heap.size+2:=Aaf;omega) tZ.size);obtain⟨x0,x1,x2,x3,x4,x5,x6,x7,x8⟩:=nine e4;clear hW' e4 fH;exact bodyPost_ret (v:= .tuple #[(fI N1 A2),.slice (some ⟨W0.heap.size,0,none⟩) 0 0,.int .i64 Au]) Aaz rfl ⟨A2,some ⟨W0.heap.size,0,none⟩,0,rfl,HAT,λW'' _ i hi=>Aas,lQ⟩):P:=h
theorem ail.Kr39(h:P:=by
 have hnl:=aA zq;have hrl:=aA tO;go_wp2_with fail;refine aN (λW' hW'=>?_)
 have e4:W'.heap[w.heap.size+2]?=some (.cells (fK n.id n.par A.k n.kids.length A.ck n.next A.p n.pu.length A.cp a (FL n.out.length).length cp A.s n.seen.length A.cs n.old A.r n.reqs.length A.cr) 30 (0,0)):=by
  rw [hW'];exact GR.setW_blk (fK n.id n.par A.k n.kids.length A.ck n.next A.p n.pu.length A.cp a (FL n.out.length).length cp A.s n.seen.length A.cs n.old A.r n.reqs.length A.cr).toList (o:=0) (xs:=gu.toList) tO
 have fH:aC [w.heap.size+2] (Z.alloc (.cells #[] 32)) W':=by
  rw [hW'];exact aL (fK n.id n.par A.k n.kids.length A.ck n.next A.p n.pu.length A.cp a (FL n.out.length).length cp A.s n.seen.length A.cs n.old A.r n.reqs.length A.cr).toList (Z.alloc (.cells #[] 32)) 0
 have HAT:=Hq (λW'' (ho:Out c w W' W'')=>(show RM W'' ⟨A.k,A.p,a,A.s,A.r,A.ck,A.cp,cp,A.cs,A.cr⟩ (setOut n (FL n.out.length)) from by
  have kF:KC (newC w.heap.size 9 c) 9 (Z.alloc (.cells #[] 32)) W'':=(KC.keeps fH (λy hy=>by have:y=w.heap.size+2:=Aar;rw [this];exact aS Aaa)).trans (KC.out H9 ho)
  have hoF:W''.ownsRow W2.heap.size 95 4 (.slice a (FL n.out.length).length cp) (FL n.out.length).length (GR.flat aR (FL n.out.length)):=by
   obtain⟨F,hk,hF⟩:=ho;exact(dA (dA HOA fH (λy hy=>by have:y=w.heap.size+2:=Aar;omega)) hk (λy hy=>by have:=(hF y hy).1;omega))
  have h5:=Vl.kc (k:=9) kF Aaa
  exact NQ.put h5 h5 (setOut n (FL n.out.length)) ⟨A.k,A.p,a,A.s,A.r,A.ck,A.cp,cp,A.cs,A.cr⟩ rfl rfl rfl rfl h5.p.at (λg' hg' hp'=> .inl (h5.cpB h5 g' hg' hp')) hoF (λy hy=> .inr (by have h1:=sG hoF hy;rw [aS Aaa];omega)) h5.r (λy hy=> .inl (h5.cr y hy))
   (λg' hg' hp' h6=>by have:=h5.cpB h5 g' hg' hp';omega) (λy hy h6 e=>by have:=h5.cr y e;omega)))
 open anA in exact acC):P:=h
theorem ain.Kr39(h:P:=by
 have hnl:=aA Vl;have hrl:=aA tO;go_wp2_with fail;refine aN (λW' hW'=>?_)
 have e4:W'.heap[w.heap.size+2]?=some (.cells (dH N1 A1) 30 (0,0)):=by
  rw [hW'];exact GR.setW_blk (dH N1 A1).toList (o:=0) (xs:=gu.toList) tO
 have fH:aC [w.heap.size+2] (W3.alloc (.cells (dH N1 A1) 30)) W':=by
  rw [hW'];exact aL (dH N1 A1).toList (W3.alloc (.cells (dH N1 A1) 30)) 0
 have HAT:=Hq (λW'' (ho:Out c w W' W'')=>(show RM W'' A1 N1 from(by
  obtain⟨F,hk,hF⟩:=ho
  exact Vz _ ⟨(w.heap.size+2)::F,aC.trans (b:=W') ((aC.of_below (aj W3 (.cells (dH N1 A1) 30))).trans (fH.mono (λx hx=>Aba))) (hk.mono (λx hx=>Abb)),λy hy=>by
   rcases List.mem_cons.1 hy with h1|h1
   .exact Ru
   .exact⟨Nat.lt_of_lt_of_le (hF y h1).1 h02,by rw [dW (hF y h1).1];exact(hF y h1).2⟩⟩)))
 have HMT:=Hq (λW'' (ho:Out c w W' W'')=>(show GR.At jF 7 W'' ma L1 from(by
  obtain⟨F,hk,hF⟩:=ho
  exact aaj _ ⟨(w.heap.size+2)::F,aC.trans (b:=W') ((aC.of_below (aj W3 (.cells (dH N1 A1) 30))).trans (fH.mono (λx hx=>Aba))) (hk.mono (λx hx=>Abb)),λy hy=>by
   rcases List.mem_cons.1 hy with h1|h1
   .exact Ru
   .exact⟨Nat.lt_of_lt_of_le (hF y h1).1 h02,by rw [dW (hF y h1).1];exact(hF y h1).2⟩⟩)))
 open anz in exact acC):P:=h
theorem aio.Kr39(h:P:=by
 have hnl:=aA jZ;have hrl:=aA tO;go_wp2_with fail;rw [zF];go_upto_region 5 with fail;go_wp2_with fail;have Vl:=Hq (xq.kc (k:=9) (KC.of_below (aj W1 (.cells #[] 32))) Aaa);have tZ:=Hq (HB1.trans ((aj W1 (.cells #[] 32)).mono HB1.size));refine aN (λW' hW'=>?_)
 have e4:W'.heap[w.heap.size+1]?=some (.cells (dH n A) 30 (0,0)):=by
  exact Xn
 have fH:aC [w.heap.size+1] (W1.alloc (.cells #[] 32)) W':=by
  rw [hW'];exact aL (dH n A).toList (W1.alloc (.cells #[] 32)) 0
 have HAT:=Hq (λW'' (ho:Out c w W' W'')=>(Vl.kc (k:=9) ((KC.keeps fH (λx hx=>by have:x=w.heap.size+1:=Aaf;rw [this];exact aS Aaa)).trans (KC.out H9 ho)) Aaa).rm);have lQ:Hid (Below B w W'):=(tZ.mono hB).trans (fH.below (λx hx=>by have:x=w.heap.size+1:=Aaf;omega) (Nat.le_trans hB (tZ.mono hB).size));have rG:=Hq (Apart.keeps (c:=c) (Apart.of_below tZ) (tZ.mono hB).size fH (λx hx=>by have:x=w.heap.size+1:=Aaf;omega));obtain⟨x0,x1,x2,x3,x4,x5,x6,x7,x8⟩:=nine e4;clear hW' e4 fH;exact bodyPost_ret (v:= .tuple #[(fI n A),.slice (some ⟨W1.heap.size,0,none⟩) 0 0,.int .i64 1]) Adb rfl ⟨A,some ⟨W1.heap.size,0,none⟩,0,rfl,HAT,λW'' _ i hi=>Aas,lQ,rG⟩):P:=h
theorem arx(h:P:=by
 have hm1:¬mI < eH s0 mL:=λh=>by unfold qH at hhas;rw [decide_eq_true h] at hhas;simp at hhas
 have hd:decide (mI < eH s0 mL)=false:=decide_eq_false hm1;have hb:hasB (aY s0 mL) mI=false:=Adn
 rw [hb] at VN;obtain⟨c0,c1,c2,c3,c4,c5,c6,c7,c8⟩:=nine ou;have hnl:=aA ou;go_wp2_with (go_at_call 124;refine(VN _ aah.at).mono ?_;rintro e wh ⟨rfl,rfl⟩)
 refine(SS W7 aap.at.p).mono ?_;rintro e W8 ⟨v8,rfl,awF,Ym,ET⟩;obtain⟨av,cv,rfl,_⟩:=GR.own_at (enc:=fE) (sz:=4) aZ Ym;have HRW:=Hq (um.own aZ Ym);have agL:=Hq (ay VB ET);have qp:=Hq (ay ou ET);have ag3:=Hq (ay aam ET);have xG:=Hq (ay lY ET);have ahd:=Hq (ay aaB ET);have agY:=Hq (aah.below ET);have ae4:=Hq (aap.kc (k:=9) (KC.of_below ET) Aaa);have aeV:=Hq (aeU.trans (ET.mono Aaa));have ae2:=Hq (ae1.step Aaa ET);have hz8:W7.heap.size<=W8.heap.size:=ET.size;clear ET awF Ym SS VN c0 c1 c2 c3 c4 c5 c6 c7 c8 m0 m1 m2 m3 m4 m5 m6 s70 s71 s72 hnl hml awS VB ou aam lY aaB aah aap aeU ae1;exact Kr40):P:=h
theorem aip.Kr40(h:P:=by
 have P6:=aj W8 (.cells #[] 32);have vZ:=Hq (ay qp P6);have kJ:=Hq (ay xG P6);have aaq:=Hq (ae4.kc (k:=9) (KC.of_below P6) Aaa);have aae:=Hq (aeV.trans (P6.mono Aaa));have aai:=Hq (ae2.step Aaa P6);have hz9:(W8.alloc (.cells #[] 32)).heap.size=W8.heap.size+1:=Aac
 clear P6;obtain⟨c0,c1,c2,c3,c4,c5,c6,c7,c8⟩:=nine qp;obtain⟨d0,d1,d2,d3,d4,d5,d6,d7,d8⟩:=nine kJ;have f0:=au kJ 0;have f1:=au kJ 1;have f2:=au kJ 2;have f3:=au kJ 3;have f4:=au kJ 4;have f5:=au kJ 5;have f6:=au kJ 6;have f7:=au kJ 7;have f8:=au kJ 8;have hnl:=aA qp;have hrl:=aA kJ;cases ok
 .exact ar9
 .have h40:40<=(aY s0 mL).length:=by
   rcases hgn with h|h
   .cases h
   .exact h
  have awi:decide ((40:Int)<=((aY s0 mL).length:Int))=true:=decide_eq_true Aaa;exact ar9):P:=h
theorem aiq.Kr40(h:P:=by
 obtain⟨c0,c1,c2,c3,c4,c5,c6,c7,c8⟩:=nine qp;have cf:=au qp 4;have hnl:=aA qp;have awi:decide ((40:Int)<=((aY s0 mL).length:Int))=false:=decide_eq_false Aaa;go_upto_region 22 with fail;refine wp_at (λW9 P5=>?_);have hnb:w.heap.size≠gi:=Aaa
 have RI:aC [w.heap.size] W8 W9:=by rw [P5];exact aC.set _
 have vZ:Hid (W9.heap[w.heap.size]?=some (.cells (fK n.id n.par a_k n.kids.length aJ n.next av RL.length cv dR n.out.length aO (some ⟨G.s,0,none⟩) n.seen.length aK n.old fU n.reqs.length aP) 30 (0,0))):=by rw [P5];exact bC qp 4 _
 have aan:=Hq (RI.obj ag3 (λhx=>by simp at hx));have kJ:=Hq (RI.obj xG (λhx=>by simp at hx));have Pj:=Hq (RI.obj ahd (λhx=>Aaj));have agM:=Hq (RI.obj agL (λhx=>Aaj));have ae0:=Hq (agY.keeps RI (λx hx hm=>by have h1:=(gH hx).1;simp at hm;omega));have aaq:=Hq (ae4.kc (k:=9) (KC.keeps RI (λx hx=>by have:x=w.heap.size:=Aaf;rw [this];exact BX _ (Nat.le_refl _) hnb)) Aaa);have aae:=Hq (aeV.trans (RI.below (B:=B) (λx hx=>Aaj) Aaa));have aai:=Hq (Apart.keeps (c:=c) ae2 Aaa RI (λx hx=>by have:x=w.heap.size:=Aaf;omega));have HP9:=Hq (HRW.keeps RI (λx hx=>Aaj));have hz9:W8.heap.size<=W9.heap.size:=RI.size;clear P5 RI HRW qp ag3 xG ahd agL agY ae4 aeV ae2 c0 c1 c2 c3 c4 c5 c6 c7 c8 cf hnl;obtain⟨m0,m1,m2,m3,m4,m5,m6⟩:=jr aan;have hml:=aA aan;obtain⟨pos,hpos⟩:∃pos,((aY s0 mL).takeWhile (λy=>decide (y < mI))).length=pos:=⟨_,rfl⟩;have VO:=Hq (show kW (aY s0 mL) mI=(aY s0 mL).take pos++([mI]++(aY s0 mL).drop pos) by rw [<-hpos];exact YE _ _);have hpl:pos<=(aY s0 mL).length:=by rw [<-hpos];exact atO _ _
 have Gq:=Hq hpos;clear hpos;go_upto_block 4 with fail;go_cut [14] from 15 (λj wx=>j= .int .i64 (pos:Nat)/\Ge W9 wx)
 case first=>
  go_wp2_with fail;go_loopw [14] (λj wr=>∃x q:Nat,x<=(aY s0 mL).length/\j= .int .i64 x/\(∀y (hy:y < (aY s0 mL).length),y < x->(aY s0 mL)[y] < mI)/\wr=W9.drewN q) (λj _=>(aY s0 mL).length - (intOf j).toNat)
  case atStart=>exact⟨0,0,Nat.zero_le _,rfl,λy hy h=>Aaa,rfl⟩
  case round=>
   obtain⟨x,q,hx,rfl,hlo,rfl⟩:=hrel;have VQ:=Hq hlo;clear hlo;by_cases hlt:x < (aY s0 mL).length
   .obtain⟨_,hgb,hcell⟩:=(ah ae0) x hlt;open aoL in exact acZ
   .have hje:x=(aY s0 mL).length:=Aaa
    subst hje;have HJ:=Hq (ZJ (l:=aY s0 mL) (x:=mI) (Nat.le_refl _) VQ (λh=>absurd h (Nat.lt_irrefl _)));have Yd:decide (((aY s0 mL).length:Int) < ((aY s0 mL).length:Int))=false:=Aac
    exact asU
 case rest=>
  obtain⟨rfl,hge⟩:=hcut;clear m0 m1 m2 m3 m4 m5 m6 hml;go_upto_region 25 with fail;refine wp_at (λtq awc=>?_);subst awc;have abN:=Hq (ay vZ hge);have VU:=Hq (ay aan hge);have abQ:=Hq (ay kJ hge);have Wo:=Hq (ay Pj hge);have abC:=Hq (ay agM hge);have QX:=Hq (ae0.below hge);have abM:=Hq (aaq.kc (k:=9) (KC.of_below hge) Aaa);have abE:=Hq (aae.trans (hge.mono Aaa));have abH:=Hq (aai.step Aaa hge);have aat:=Hq (HP9.below hge);have axT:W9.heap.size<=tq.heap.size:=hge.size;clear hge vZ aan kJ Pj agM ae0 aaq aae aai HP9;have atE:=aA Wo;have axm:∀x∈fp gi (aY s0 mL),x < tq.heap.size:=ara QX;go_cut [14] from 15 (λ_ wx=>∃g2 cq2,tq.heap.size<=g2/\wx.ownsRow tq.heap.size 3 1 (.slice (some ⟨g2,0,none⟩) ((aY s0 mL).length+1) cq2) ((aY s0 mL).length+1) (GR.flat aW (kW (aY s0 mL) mI))/\wx.heap[sb]?=some (.cells #[.int .i64 mF,.int .i64 (eH s0 mL),.slice (some ⟨g2,0,none⟩) ((aY s0 mL).length+1) cq2] 90 (0,0))/\aC [sb] tq wx)
  case first=>
   obtain⟨m0,m1,m2,m3,m4,m5,m6⟩:=jr VU;have hml:=aA VU;have hwb:tq.heap.size<=tq.heap.size:=Nat.le_refl _;have y3:=cK hml m3;clear m0 m1 m2 m3 m4 m5 m6;have hpc:pos<=LJ:=Aaa
   have EH:=Hq (show eu tq (some ⟨gi,0,none⟩) ((aY s0 mL).take pos) from GR.At.take QX.at pos)
   obtain⟨AD,hAD,hDR⟩:∃AD,(if LJ=pos then some (⟨gi,0,none⟩:Addr) else some ⟨gi,pos,none⟩)=AD/\eu tq AD ((aY s0 mL).drop pos):=by
    by_cases hcz:LJ=pos
    .refine⟨_,rfl,?_⟩;rw [show(aY s0 mL).drop pos=[] by apply List.drop_eq_nil_of_le;omega];exact GR.at_nil _ _
    .refine⟨_,rfl,?_⟩;rw [if_neg hcz];have h:=GR.At.drop QX.at pos;rw [Nat.mul_one] at h;exact h
   have HDR:=Hq hDR;clear hDR;refine lN 14 tq.heap.size Aab ?_;show iR _ _ _ _ _ _ 15 (Array.replicate 15 false) _ _
   refine tk [1,2,3,5,6,9,10,11] ?_;iterate 8 (refine tkB hwb (λK hK=>?_);go_simp;first|refine hK _ ?_|(apply Exists.intro;refine⟨λ_=>?_,hK _ ?_⟩;rfl);clear hK K)
   refine iN ?_;clear y3;have hlt1:((aY s0 mL).take pos).length=pos:=Abm
   have TU:((aY s0 mL).drop pos).length=(aY s0 mL).length - pos:=by rw [List.length_drop]
   have hL1:((aY s0 mL).take pos++[mI]).length=pos+1:=Adc
   have hL2:((aY s0 mL).take pos++[mI]++(aY s0 mL).drop pos).length=pos+1+((aY s0 mL).length - pos):=Ade
   have HG0:=Hq (Below.refl tq.heap.size tq);refine jM 0 7 rfl rfl Aab Aad Aad Aae Aae (λx1 hx1=>?_) (λx1 hx1=>?_)
   .open ams in exact ab7
   .open amr in exact ab7
  case rest=>
   obtain⟨g2,cq2,hg2,hown2,atD,Jh⟩:=hcut;have Wp:=Hq atD;have Q0:=Hq (Jh.obj abN (λhx=>Aaj));have abR:=Hq (Jh.obj abQ (λhx=>Aaj));have abD:=Hq (Jh.obj abC (λhx=>Aaj));have VY:=Hq (abM.kc (k:=9) (KC.keeps Jh (λx hx=>by have:x=sb:=Aaf;rw [this];exact BX _ Aaa Aaa)) Aaa);have abF:=Hq (abE.trans (Jh.below (B:=B) (λx hx=>Aaj) Aaa));have abI:=Hq (Apart.keeps (c:=c) abH Aaa Jh (λx hx=>by have:x=sb:=Aaf;omega));have ag9:=Hq (aat.keeps Jh (λx hx=>Aaj));have axU:tq.heap.size<=wc.heap.size:=Jh.size;have XV:(kW (aY s0 mL) mI).length=(aY s0 mL).length+1:=by rw [ah VO];simp;omega
   have Yj:wc.ownsRow tq.heap.size 3 1 (.slice (some ⟨g2,0,none⟩) (kW (aY s0 mL) mI).length cq2) (kW (aY s0 mL) mI).length (GR.flat aW (kW (aY s0 mL) mI)):=by rw [XV];exact hown2
   have HW2:=Hq (WO.of_own (abV (l:=kW (aY s0 mL) mI) aQ Yj) Yj (λe=>by rw [e] at XV;simp at XV))
   have KW:Hid (∀g,av.map (λy=>y.block)=some g->0 < RL.length->W7.heap.size<=g/\g < tq.heap.size):=λg hg hp=>by
    obtain⟨g',off,e,hgl,_⟩:=aat.1 0 hp
    have h2:=aat.2 g' off e
    rw [e] at hg
    cases hg
    exact⟨h2,hgl⟩
   have axl:g2 < wc.heap.size:=(hown2.lt g2 rfl).2;have af3:g2≠gi:=Aaa
   have atr:i < (n.seen.set i ⟨mF,eH s0 mL,aY s0 mL⟩).length:=by rw [List.length_set];exact hi
   have HNP:=Hq (VY.seenPut i atr ⟨mF,eH s0 mL,kW (aY s0 mL) mI⟩ (some ⟨g2,0,none⟩) cq2 g2 HW2 (λx hx=>by rw [(gH hx).1];exact BX _ Aaa af3));obtain⟨T,hT,hlT,hrT⟩:=VY.s;obtain⟨_,_,hcT⟩:=hT i (by rw [hlT];exact atr);open ak2 in exact arY):P:=h
theorem afi(h:P:=by
 have HN:=Hq (λw1=>isSomeAmount n true w1 hn);have HP:=Hq (show R=(decide (no=0)&&true&&true&&kX ⟨mK,mF,mT,mI,mL,mk,mN⟩) by rw [<-ah HR];simp[bV,hk,hn]);open apZ in exact adl):P:=h
theorem air.Kr41(h:P:=by
 have hX:W.heap[w.heap.size+1]?=some (.cells (bY 4 0 k n 0 0 0 0 0 ⟨#[]⟩ 0) 34 (0,0)):=Abv
 have hY:W.heap[w.heap.size]?=some (.cells (bY 4 no k n mK mF mT mI mL mk mN) 34 (0,0)):=Abw
 exact afE):P:=h
theorem ais.Kr41(h:P:=by
 have hX:W.heap[w.heap.size+1]?=some (.cells (bY 3 0 k n 0 0 0 0 0 ⟨#[]⟩ 0) 34 (0,0)):=Abv
 have hY:W.heap[w.heap.size]?=some (.cells (bY 3 no k n mK mF mT mI mL mk mN) 34 (0,0)):=Abw
 exact afE):P:=h
theorem ait.Kr41(h:P:=by
 have hX:W.heap[w.heap.size+1]?=some (.cells (bY 0 0 k n 0 0 0 0 0 ⟨#[]⟩ 0) 34 (0,0)):=Abv
 have hY:W.heap[w.heap.size]?=some (.cells (bY 0 no k n mK mF mT mI mL mk mN) 34 (0,0)):=Abw
 exact afE):P:=h
theorem aaH(h:P:=by
 have hrs:(iD (tl s a)).size<=maxLen:=by have:=qW (tl s a);rw [vG] at this;unfold maxLen;omega
 have HG:=Hq (Ju (iD (tl s a)) 0 hrs w hH);have hub:=Qv (iD (tl s a)) 0;have hsz:=qW (tl s a);have hz1:yR (tl s a)<=1002:=by unfold yR;omega
 have e1:jc (iD (tl s a)) 0=BP (tl s a):=rfl;have e2:iO (iD (tl s a)) 0=yR (tl s a):=rfl;rw [e1,e2] at HG;exact Kr42):P:=h
theorem aiu.Kr42(h:P:=by
 generalize yR (tl s a)=z at *;clear e1 e2 hrs hub hsz hH hcap hs;generalize BP (tl s a)=tx at *;generalize iD (tl s a)=rs at *;have HC:=Hq hc;clear hc;rw [h4];clear h4;exact asq):P:=h
theorem aiv.Kr42(h:P:=by
 generalize yR (tl s a)=z at *;clear e1 e2 hrs hub hsz hH hcap;generalize BP (tl s a)=tx at *;generalize iD (tl s a)=rs at *;have HC:=Hq hc;clear hc;exact asq):P:=h
theorem aiw.Kr42(h:P:=by
 open an0 in exact acJ):P:=h
theorem aix.Kr42(h:P:=by
 open anZ in exact acJ):P:=h
theorem afj(h:P:=by
 obtain⟨hjun,oj,hoj,hall⟩:=mem_ready.1 hj
 have hnot:∀e∈oj.after,Region.binds md e=true->e.on≠i:=λe he hb heq=>by
  have h2:=hall e he hb
  have h0:=(mem_ready.1 hr).1
  rw [heq] at h2
  rcases Nat.lt_or_ge i listed.size with h'|h'
  .simp[h'] at h0 h2;rw [h0] at h2;cases h2
  .simp[Array.getElem?_eq_none h'] at h2
 have h2:=Vi hoj (hfree j oj hoj hji hjun hnot) (λcs b=>hsel i oi cs b hi) (λcs b=>hsel j oj cs b hoj) hQ h1;refine wpOp_mono (λa' y hy2=>?_) h2;obtain⟨⟨hs1,hs2⟩,hg,hm⟩:=hy2;exact Kr43):P:=h
theorem aiy.Kr43(h:P:=by
 refine⟨hg,ih (listed.setIfInBounds j true) a' y ?_ (ready_mono hr (Ne.symm hji)) ?_ ?_⟩
 .exact Xj
 .unfold pV at *;rw [hs1,hs2];exact hy.imp (fun⟨p,q⟩=>⟨p,λz hz=>q z (Ge.trans (Ge.trans hx hg) hz)⟩) id
 .rw [Array.setIfInBounds_comm _ _ hji];exact hm):P:=h
theorem aiz.Kr43(h:P:=by
 have hwy:Below b w y:=(hx.mono hb).trans hg;refine⟨hg,ih (listed.setIfInBounds j true) a' y (Nat.le_trans hb hwy.size) (CY hcl hj) ?_ (ready_mono hr (Ne.symm hji)) ?_ ?_⟩
 .exact Xj
 .unfold Cc at *;rw [hs1,hs2];exact hy.imp (fun⟨p,q⟩=>⟨p,λz hz=>q z (hwy.trans hz)⟩) id
 .rw [Array.setIfInBounds_comm _ _ hji];exact hm):P:=h
theorem aiA.Kr43(h:P:=by
 refine⟨hg,ih (listed.setIfInBounds j true) a' y (CY hcl hj) ?_ (ready_mono hr (Ne.symm hji)) ?_ ?_⟩
 .exact Xj
 .unfold pV at *;rw [hs1,hs2];exact hy.imp (fun⟨p,q⟩=>⟨p,λz hz=>q z (Ge.trans (Ge.trans hx hg) hz)⟩) id
 .rw [Array.setIfInBounds_comm _ _ hji];exact hm):P:=h
theorem afk(h:P:=by
 open apr in exact ac6):P:=h
theorem aiB.Kr44(h:P:=by
 obtain⟨c0,c1,c2,c3,c4,c5,c6,c7,c8⟩:=nine jZ;open ajb in exact Xf):P:=h
theorem aiC.Kr44(h:P:=by
 obtain⟨g,e0,hBg,hgb⟩:∃g,fU=some ⟨g,0,none⟩/\B<=g/\(∀x,(Value.slice fU n.reqs.length aP).ownBlock=some x↔x=g):=by
  exact ar5
 obtain⟨g',off,e0',hg,q0,q1,q2,q3⟩:=iU.four xq.at.r i hi;rw [e0] at e0';simp only[Option.some.injEq,Addr.mk.injEq,and_true] at e0';obtain⟨rfl,rfl⟩:=e0';rw [Nat.zero_add] at q0 q1 q2 q3;rw [ah HST] at q3;obtain⟨c0,c1,c2,c3,c4,c5,c6,c7,c8⟩:=nine jZ;open aja in exact Xf):P:=h
theorem aiD.Kr44(h:P:=by
 obtain⟨g,off,e0,hg,q0,q1,q2,q3⟩:=iU.four xq.at.r i hi;rw [ah HST] at q3;obtain⟨c0,c1,c2,c3,c4,c5,c6,c7,c8⟩:=nine jZ;open ai9 in exact Xf):P:=h
theorem aaI(h:P:=by
 have hbw:aX wr W1:=by rw [hW1];exact aj wr _
 have zl:=Hq (ay Ey hbw);have tN:=Hq (fO.trans (hbw.mono fO.size));exact Kr45):P:=h
theorem aiE.Kr45(h:P:=by
 have HI1:=Hq (GR.At.below HI hbw);have hgw1:=hbw.size;have HKI:=Hq (GR.At.below HA tN)
 have Bq:Hid ((k=0/\pv=true)\/∃(j:Nat) (y:Int),k=j+1/\pv=decide (y < fr)/\W1.cell? ⟨g,off+j*3,none⟩=some (.int .i64 y)):=by
  rcases KV with h|⟨j,y,h1,h2,h3⟩
  .exact .inl h
  .exact .inr ⟨j,y,h1,h2,(hbw.cell (p:=⟨g,off+j*3,none⟩) hgw).trans h3⟩
 clear hW1 hbw q0 q1 q2 c0 c1 c2 c3 c4 c5 c6 KV HI Ey;obtain⟨d0,d1,d2⟩:=three HW1;open am9 in exact acu):P:=h
theorem aiF.Kr45(h:P:=by
 have hgw1:=hbw.size
 have Bq:Hid ((k=0/\pv=true)\/∃(j:Nat) (y:Int),k=j+1/\pv=decide (y < si)/\W1.cell? ⟨g,off+j*4,none⟩=some (.int .i64 y)):=by
  exact adX
 clear hW1 hbw q0 q1 q2 q3 c0 c1 c2 c3 c4 c5 c6 c7 c8 KV Ey;obtain⟨d0,d1,d2,d3⟩:=fQ HW1;open am8 in exact acu):P:=h
theorem aiG.Kr45(h:P:=by
 clear hW1 hbw q0 q1 q2 q3 Ey;obtain⟨d0,d1,d2,d3⟩:=fQ HW1;go_cut [56] (λr wx=>r= .bool bb/\wx=W1)
 case first=>
  by_cases g1:y < si
  case' neg=>
   have hb1:decide (si<=y)=true:=decide_eq_true Aaa
   have HV:=Hq (show bb=true by rw [<-ah eY];simp[g1])
   clear eY za
   go_wp2_with (fail)
   go_meet
   case rel=>exact⟨Aam,rfl⟩
  have hb1:decide (si<=y)=false:=decide_eq_false Aaa;cases g2:pz si
  case' false=>
   have Hg2:=Hq (λw1=>jR si false w1 g2)
   have HV:=Hq (show bb=true by rw [<-ah eY];simp[g2])
   clear eY za
   go_wp2_with (first|(go_at_call 133;refine(Hg2 _).mono ?_;rintro e w9 ⟨rfl,rfl⟩))
   go_meet
   case rel=>exact⟨Aam,rfl⟩
  have Hg2:=Hq (λw1=>jR si true w1 g2);cases g3:keyOk sx.data.toList
  case' false=>
   have Hg3:=Hq (λw1=>gV sx false w1 g3)
   have HV:=Hq (show bb=true by rw [<-ah eY];simp[g3])
   clear eY za
   go_wp2_with (first|(go_at_call 133;refine(Hg2 _).mono ?_;rintro e w9 ⟨rfl,rfl⟩)|(go_at_call 131;refine(Hg3 _).mono ?_;rintro e w9 ⟨rfl,rfl⟩))
   go_meet
   case rel=>exact⟨Aam,rfl⟩
  have Hg3:=Hq (λw1=>gV sx true w1 g3);cases g4:fD sn
  case' false=>
   have Hg4:=Hq (λw1=>isSomeAmount sn false w1 g4)
   have HV:=Hq (show bb=true by rw [<-ah eY];simp[g4])
   clear eY za
   go_wp2_with (first|(go_at_call 133;refine(Hg2 _).mono ?_;rintro e w9 ⟨rfl,rfl⟩)|(go_at_call 131;refine(Hg3 _).mono ?_;rintro e w9 ⟨rfl,rfl⟩)|(go_at_call 54;refine(Hg4 _).mono ?_;rintro e w9 ⟨rfl,rfl⟩))
   go_meet
   case rel=>exact⟨Aam,rfl⟩
  have Hg4:=Hq (λw1=>isSomeAmount sn true w1 g4);by_cases g5:0<=st
  case' neg=>
   have hb5:decide (st < 0)=true:=decide_eq_true Aaa
   have HV:=Hq (show bb=true by rw [<-ah eY];simp[g5])
   clear eY za
   go_wp2_with (first|(go_at_call 133;refine(Hg2 _).mono ?_;rintro e w9 ⟨rfl,rfl⟩)|(go_at_call 131;refine(Hg3 _).mono ?_;rintro e w9 ⟨rfl,rfl⟩)|(go_at_call 54;refine(Hg4 _).mono ?_;rintro e w9 ⟨rfl,rfl⟩))
   go_meet
   case rel=>exact⟨Aam,rfl⟩
  have hb5:decide (st < 0)=false:=decide_eq_false Aaa;by_cases g6:st<=2
  case' neg=>
   have hb6:decide (2 < st)=true:=decide_eq_true Aaa
   have HV:=Hq (show bb=true by rw [<-ah eY];simp[g6])
   clear eY za
   go_wp2_with (first|(go_at_call 133;refine(Hg2 _).mono ?_;rintro e w9 ⟨rfl,rfl⟩)|(go_at_call 131;refine(Hg3 _).mono ?_;rintro e w9 ⟨rfl,rfl⟩)|(go_at_call 54;refine(Hg4 _).mono ?_;rintro e w9 ⟨rfl,rfl⟩))
   go_meet
   case rel=>exact⟨Aam,rfl⟩
  have hb6:decide (2 < st)=false:=decide_eq_false Aaa;have HV:=Hq (show bb=false by rw [<-ah eY];simp[g1,g2,g3,g4,g5,g6]);clear eY za;go_wp2_with (first|(go_at_call 133;refine(Hg2 _).mono ?_;rintro e w9 ⟨rfl,rfl⟩)|(go_at_call 131;refine(Hg3 _).mono ?_;rintro e w9 ⟨rfl,rfl⟩)|(go_at_call 54;refine(Hg4 _).mono ?_;rintro e w9 ⟨rfl,rfl⟩))
  go_meet
  case rel=>exact⟨Aam,rfl⟩
 case rest=>
  obtain⟨rfl,rfl⟩:=hcut;clear eY;cases hbv:bb
  .have HG:=Hq (show gQ KB RR (reqs.take (k+1))=true by rw [ah za,hbv];rfl);subst hbv;clear HBAD za;go_wp2_with fail;go_roundw
   case rel=>exact⟨k+1,si,Aaa,Aai,rfl,BZ.symm,HG,zl,tN⟩
   case measure=>simp[intOf];omega
  .have HP:=Hq (HBAD (by rw [ah za,hbv];rfl));subst hbv;clear HBAD za;go_wp2_with fail;go_ret;exact⟨aD HP.symm,tN⟩):P:=h
theorem aiH.Kr45(h:P:=by
 clear hW1 hbw q0 q1 q2 q3 Ey;obtain⟨d0,d1,d2,d3⟩:=fQ HW1;obtain⟨c0,c1,c2,c3,c4,c5,c6,c7,c8⟩:=nine zl;go_cut [46] (λr wx=>r= .bool bb/\aX W1 wx)
 case first=>
  by_cases h1:y < si
  case' neg=>
   have HV:=Hq (show bb=true by rw [<-ah eY];simp[h1])
   have hb1:decide (si<=y)=true:=decide_eq_true Aaa
   clear eY za
   go_wp2_with fail
   go_meet
   case rel=>exact⟨Aam,Below.refl _ _⟩
  have hb1:decide (si<=y)=false:=decide_eq_false Aaa;by_cases h2:si < next
  case' neg=>
   have HV:=Hq (show bb=true by rw [<-ah eY];simp[h2])
   have hb2:decide (next<=si)=true:=decide_eq_true Aaa
   clear eY za
   go_wp2_with fail
   go_meet
   case rel=>exact⟨Aam,Below.refl _ _⟩
  have hb2:decide (next<=si)=false:=decide_eq_false Aaa;go_wp2_with fail;refine(OY _ _ tN).mono ?_;rintro e w2 ⟨rfl,hb3⟩;have HB3:=Hq hb3;have HW2:=Hq (ay HW1 hb3);clear hb3 d0 d1 d2 d3 c0 c1 c2 c3 c4 c5 c6 c7 c8;obtain⟨d0,d1,d2,d3⟩:=fQ HW2;cases h3:NN st
  case' false=>
   have HV:=Hq (show bb=true by rw [<-ah eY];simp[h3])
   clear eY za h3
   go_wp2_with fail
   go_meet
   case rel=>exact⟨Aam,HB3⟩
  cases h4:keyOk sx.data.toList
  case' false=>
   have HV:=Hq (show bb=true by rw [<-ah eY];simp[h4])
   have H4:=Hq (λw1=>gV sx false w1 h4)
   clear eY za h3 h4
   go_wp2_with (go_at_call 131;refine(H4 _).mono ?_;rintro e w9 ⟨rfl,rfl⟩)
   go_meet
   case rel=>exact⟨Aam,HB3⟩
  have H4:=Hq (λw1=>gV sx true w1 h4);have HV:=Hq (show bb= !fD sn by rw [<-ah eY];simp[h1,h2,h3,h4]);have H5:=Hq (λw1=>isSomeAmount sn _ w1 rfl);clear eY za h3 h4;go_wp2_with (first|(go_at_call 131;refine(H4 _).mono ?_;rintro e w9 ⟨rfl,rfl⟩)|(go_at_call 54;refine(H5 _).mono ?_;rintro e w9 ⟨rfl,rfl⟩))
  go_meet
  case rel=>exact⟨Aam,HB3⟩
 case rest=>
  obtain⟨rfl,hbx⟩:=hcut;open anG in exact Rm):P:=h
theorem aaJ(h:P:=by
 have h1:rF F=true:=by unfold lU at hr;simp only[Bool.and_eq_true] at hr;exact hr.1.1
 have h2:rF T=true:=by unfold lU at hr;simp only[Bool.and_eq_true] at hr;exact hr.1.2
 have hft:¬F=T:=by unfold lU at hr;simp only[Bool.and_eq_true,decide_eq_true_iff] at hr;exact hr.2
 have H1:=Hq (λw1=>l04Node F true w1 h1);have H2:=Hq (λw1=>l04Node T true w1 h2);clear h1 h2;exact Kr46):P:=h
theorem aiI.Kr46(h:P:=by
 have HP:=Hq (show bX ⟨K,F,T,I,L,k,N⟩=false by simp[bX,hr,k0,k1,k2]);clear hr;go_enter Tryz.func113,Tryz.ntmps113
 go_wp2_with (first|(go_at_call_of 134 F;refine(H1 _).mono ?_;rintro e w1 ⟨rfl,rfl⟩)|(go_at_call_of 134 T;refine(H2 _).mono ?_;rintro e w1 ⟨rfl,rfl⟩))
 exact Tn):P:=h
theorem aiJ.Kr46(h:P:=by
 cases hc2:fD I
 case' false=>
  have HP:=Hq (show bX ⟨2,F,T,I,L,k,N⟩=false by simp[bX,hr,hc2])
  have wY:=Hq (λw1=>l04Some I false w1 hc2)
  clear hr hc2
  go_enter Tryz.func113,Tryz.ntmps113
  go_wp2_with (first|(go_at_call_of 134 F;refine(H1 _).mono ?_;rintro e w1 ⟨rfl,rfl⟩)|(go_at_call_of 134 T;refine(H2 _).mono ?_;rintro e w1 ⟨rfl,rfl⟩)|(go_at_call_of 61 I;refine(wY _).mono ?_;rintro e w1 ⟨rfl,rfl⟩))
  go_ret
  exact⟨aD HP.symm,aj w _⟩
 have wY:=Hq (λw1=>l04Some I true w1 hc2);by_cases hz:k.size=0
 case' neg=>
  have hne:k.toList.isEmpty=false:=jS k Aaa
  have HP:=Hq (show bX ⟨2,F,T,I,L,k,N⟩=false by simp[bX,hr,hc2,hz])
  clear hr hc2
  go_enter Tryz.func113,Tryz.ntmps113
  go_wp2_with (first|(go_at_call_of 134 F;refine(H1 _).mono ?_;rintro e w1 ⟨rfl,rfl⟩)|(go_at_call_of 134 T;refine(H2 _).mono ?_;rintro e w1 ⟨rfl,rfl⟩)|(go_at_call_of 61 I;refine(wY _).mono ?_;rintro e w1 ⟨rfl,rfl⟩))
  go_ret
  exact⟨aD HP.symm,aj w _⟩
 obtain rfl:=eq_empty k hz;by_cases hzN:N=0
 case' neg=>
  have HP:=Hq (show bX ⟨2,F,T,I,L,ByteArray.empty,N⟩=false by simp[bX,hr,hc2,hz,hzN])
  have he:(N == 0)=false:=by simp[hzN]
  clear hr hc2
  go_enter Tryz.func113,Tryz.ntmps113
  go_wp2_with (first|(go_at_call_of 134 F;refine(H1 _).mono ?_;rintro e w1 ⟨rfl,rfl⟩)|(go_at_call_of 134 T;refine(H2 _).mono ?_;rintro e w1 ⟨rfl,rfl⟩)|(go_at_call_of 61 I;refine(wY _).mono ?_;rintro e w1 ⟨rfl,rfl⟩))
  go_ret
  exact⟨aD (by first|exact HP.symm|exact he.trans HP.symm),aj w _⟩
 subst hzN;by_cases hzL:L=0
 case' neg=>
  have HP:=Hq (show bX ⟨2,F,T,I,L,ByteArray.empty,0⟩=false by simp[bX,hr,hc2,hz,hzL])
  have he:(L == 0)=false:=by simp[hzL]
  clear hr hc2
  go_enter Tryz.func113,Tryz.ntmps113
  go_wp2_with (first|(go_at_call_of 134 F;refine(H1 _).mono ?_;rintro e w1 ⟨rfl,rfl⟩)|(go_at_call_of 134 T;refine(H2 _).mono ?_;rintro e w1 ⟨rfl,rfl⟩)|(go_at_call_of 61 I;refine(wY _).mono ?_;rintro e w1 ⟨rfl,rfl⟩))
  go_ret
  exact⟨aD (by first|exact HP.symm|exact he.trans HP.symm),aj w _⟩
 subst hzL;have HP:=Hq (show bX ⟨2,F,T,I,0,ByteArray.empty,0⟩=true by simp[bX,hr,hc2,hz]);clear hr hc2;go_enter Tryz.func113,Tryz.ntmps113
 go_wp2_with (first|(go_at_call_of 134 F;refine(H1 _).mono ?_;rintro e w1 ⟨rfl,rfl⟩)|(go_at_call_of 134 T;refine(H2 _).mono ?_;rintro e w1 ⟨rfl,rfl⟩)|(go_at_call_of 61 I;refine(wY _).mono ?_;rintro e w1 ⟨rfl,rfl⟩))
 exact Tn):P:=h
theorem aiK.Kr46(h:P:=by
 cases hc2:keyOk k.data.toList
 case' false=>
  have HP:=Hq (show bX ⟨1,F,T,I,L,k,N⟩=false by simp[bX,hr,hc2])
  have wY:=Hq (λw1=>lK k false w1 hs hc2)
  clear hr hc2
  go_enter Tryz.func113,Tryz.ntmps113
  go_wp2_with (first|(go_at_call_of 134 F;refine(H1 _).mono ?_;rintro e w1 ⟨rfl,rfl⟩)|(go_at_call_of 134 T;refine(H2 _).mono ?_;rintro e w1 ⟨rfl,rfl⟩)|(go_at_call_of 64 k;refine(wY _).mono ?_;rintro e w1 ⟨rfl,rfl⟩))
  go_ret
  exact⟨aD HP.symm,aj w _⟩
 have wY:=Hq (λw1=>lK k true w1 hs hc2);cases hc3:fD N
 case' false=>
  have HP:=Hq (show bX ⟨1,F,T,I,L,k,N⟩=false by simp[bX,hr,hc2,hc3])
  have VF:=Hq (λw1=>l04Some N false w1 hc3)
  clear hr hc2 hc3
  go_enter Tryz.func113,Tryz.ntmps113
  go_wp2_with (first|(go_at_call_of 134 F;refine(H1 _).mono ?_;rintro e w1 ⟨rfl,rfl⟩)|(go_at_call_of 134 T;refine(H2 _).mono ?_;rintro e w1 ⟨rfl,rfl⟩)|(go_at_call_of 64 k;refine(wY _).mono ?_;rintro e w1 ⟨rfl,rfl⟩)|(go_at_call_of 61 N;refine(VF _).mono ?_;rintro e w1 ⟨rfl,rfl⟩))
  go_ret
  exact⟨aD HP.symm,aj w _⟩
 have VF:=Hq (λw1=>l04Some N true w1 hc3);cases hc4:fD I
 case' false=>
  have HP:=Hq (show bX ⟨1,F,T,I,L,k,N⟩=false by simp[bX,hr,hc2,hc3,hc4])
  have HC4:=Hq (λw1=>l04Some I false w1 hc4)
  clear hr hc2 hc3 hc4
  go_enter Tryz.func113,Tryz.ntmps113
  go_wp2_with (first|(go_at_call_of 134 F;refine(H1 _).mono ?_;rintro e w1 ⟨rfl,rfl⟩)|(go_at_call_of 134 T;refine(H2 _).mono ?_;rintro e w1 ⟨rfl,rfl⟩)|(go_at_call_of 64 k;refine(wY _).mono ?_;rintro e w1 ⟨rfl,rfl⟩)|(go_at_call_of 61 N;refine(VF _).mono ?_;rintro e w1 ⟨rfl,rfl⟩)|(go_at_call_of 61 I;refine(HC4 _).mono ?_;rintro e w1 ⟨rfl,rfl⟩))
  go_ret
  exact⟨aD HP.symm,aj w _⟩
 have HC4:=Hq (λw1=>l04Some I true w1 hc4);cases Ci:decide (1<=L/\L<=I)
 case' false=>
  have HP:=Hq (show bX ⟨1,F,T,I,L,k,N⟩=false by simp[bX,hr,hc2,hc3,hc4,Ci])
  have Pb:=Hq (λw1=>rW L 1 I false w1 Ci)
  clear hr hc2 hc3 hc4 Ci
  go_enter Tryz.func113,Tryz.ntmps113
  go_wp2_with (first|(go_at_call_of 134 F;refine(H1 _).mono ?_;rintro e w1 ⟨rfl,rfl⟩)|(go_at_call_of 134 T;refine(H2 _).mono ?_;rintro e w1 ⟨rfl,rfl⟩)|(go_at_call_of 64 k;refine(wY _).mono ?_;rintro e w1 ⟨rfl,rfl⟩)|(go_at_call_of 61 N;refine(VF _).mono ?_;rintro e w1 ⟨rfl,rfl⟩)|(go_at_call_of 61 I;refine(HC4 _).mono ?_;rintro e w1 ⟨rfl,rfl⟩)|(go_at_call 63;refine(Pb _).mono ?_;rintro e w1 ⟨rfl,rfl⟩))
  go_ret
  exact⟨aD HP.symm,aj w _⟩
 have Pb:=Hq (λw1=>rW L 1 I true w1 Ci);have HP:=Hq (show bX ⟨1,F,T,I,L,k,N⟩=true by simp[bX,hr,hc2,hc3,hc4,Ci]);clear hr hc2 hc3 hc4 Ci;go_enter Tryz.func113,Tryz.ntmps113
 go_wp2_with (first|(go_at_call_of 134 F;refine(H1 _).mono ?_;rintro e w1 ⟨rfl,rfl⟩)|(go_at_call_of 134 T;refine(H2 _).mono ?_;rintro e w1 ⟨rfl,rfl⟩)|(go_at_call_of 64 k;refine(wY _).mono ?_;rintro e w1 ⟨rfl,rfl⟩)|(go_at_call_of 61 N;refine(VF _).mono ?_;rintro e w1 ⟨rfl,rfl⟩)|(go_at_call_of 61 I;refine(HC4 _).mono ?_;rintro e w1 ⟨rfl,rfl⟩)|(go_at_call 63;refine(Pb _).mono ?_;rintro e w1 ⟨rfl,rfl⟩))
 exact Tn):P:=h
theorem aiL.Kr46(h:P:=by
 cases hc2:keyOk k.data.toList
 case' false=>
  have HP:=Hq (show bX ⟨0,F,T,I,L,k,N⟩=false by simp[bX,hr,hc2])
  have wY:=Hq (λw1=>lK k false w1 hs hc2)
  clear hr hc2
  go_enter Tryz.func113,Tryz.ntmps113
  go_wp2_with (first|(go_at_call_of 134 F;refine(H1 _).mono ?_;rintro e w1 ⟨rfl,rfl⟩)|(go_at_call_of 134 T;refine(H2 _).mono ?_;rintro e w1 ⟨rfl,rfl⟩)|(go_at_call_of 64 k;refine(wY _).mono ?_;rintro e w1 ⟨rfl,rfl⟩))
  go_ret
  exact⟨aD HP.symm,aj w _⟩
 have wY:=Hq (λw1=>lK k true w1 hs hc2);cases hc3:fD N
 case' false=>
  have HP:=Hq (show bX ⟨0,F,T,I,L,k,N⟩=false by simp[bX,hr,hc2,hc3])
  have VF:=Hq (λw1=>l04Some N false w1 hc3)
  clear hr hc2 hc3
  go_enter Tryz.func113,Tryz.ntmps113
  go_wp2_with (first|(go_at_call_of 134 F;refine(H1 _).mono ?_;rintro e w1 ⟨rfl,rfl⟩)|(go_at_call_of 134 T;refine(H2 _).mono ?_;rintro e w1 ⟨rfl,rfl⟩)|(go_at_call_of 64 k;refine(wY _).mono ?_;rintro e w1 ⟨rfl,rfl⟩)|(go_at_call_of 61 N;refine(VF _).mono ?_;rintro e w1 ⟨rfl,rfl⟩))
  go_ret
  exact⟨aD HP.symm,aj w _⟩
 have VF:=Hq (λw1=>l04Some N true w1 hc3);by_cases hzI:I=0
 case' neg=>
  have HP:=Hq (show bX ⟨0,F,T,I,L,k,N⟩=false by simp[bX,hr,hc2,hc3,hzI])
  have he:(I == 0)=false:=by simp[hzI]
  clear hr hc2 hc3
  go_enter Tryz.func113,Tryz.ntmps113
  go_wp2_with (first|(go_at_call_of 134 F;refine(H1 _).mono ?_;rintro e w1 ⟨rfl,rfl⟩)|(go_at_call_of 134 T;refine(H2 _).mono ?_;rintro e w1 ⟨rfl,rfl⟩)|(go_at_call_of 64 k;refine(wY _).mono ?_;rintro e w1 ⟨rfl,rfl⟩)|(go_at_call_of 61 N;refine(VF _).mono ?_;rintro e w1 ⟨rfl,rfl⟩))
  go_ret
  exact⟨aD (by first|exact HP.symm|exact he.trans HP.symm),aj w _⟩
 subst hzI;by_cases hzL:L=0
 case' neg=>
  have HP:=Hq (show bX ⟨0,F,T,0,L,k,N⟩=false by simp[bX,hr,hc2,hc3,hzL])
  have he:(L == 0)=false:=by simp[hzL]
  clear hr hc2 hc3
  go_enter Tryz.func113,Tryz.ntmps113
  go_wp2_with (first|(go_at_call_of 134 F;refine(H1 _).mono ?_;rintro e w1 ⟨rfl,rfl⟩)|(go_at_call_of 134 T;refine(H2 _).mono ?_;rintro e w1 ⟨rfl,rfl⟩)|(go_at_call_of 64 k;refine(wY _).mono ?_;rintro e w1 ⟨rfl,rfl⟩)|(go_at_call_of 61 N;refine(VF _).mono ?_;rintro e w1 ⟨rfl,rfl⟩))
  go_ret
  exact⟨aD (by first|exact HP.symm|exact he.trans HP.symm),aj w _⟩
 subst hzL;have HP:=Hq (show bX ⟨0,F,T,0,0,k,N⟩=true by simp[bX,hr,hc2,hc3]);clear hr hc2 hc3;go_enter Tryz.func113,Tryz.ntmps113
 go_wp2_with (first|(go_at_call_of 134 F;refine(H1 _).mono ?_;rintro e w1 ⟨rfl,rfl⟩)|(go_at_call_of 134 T;refine(H2 _).mono ?_;rintro e w1 ⟨rfl,rfl⟩)|(go_at_call_of 64 k;refine(wY _).mono ?_;rintro e w1 ⟨rfl,rfl⟩)|(go_at_call_of 61 N;refine(VF _).mono ?_;rintro e w1 ⟨rfl,rfl⟩))
 exact Tn):P:=h
theorem Lr(h:P:=by
 go_simp;refine aF 2 rfl Aab Aad ?_;go_simp;refine aF 4 rfl Aab Aad ?_;go_simp;refine wpAny_done Aab ?_;go_simp;go_wp2_with fail;exact Kr47):P:=h
theorem aiM.Kr47(h:P:=by
 go_meet
 case rel=>exact⟨rfl,GR.setW_blk (fK n.id n.par a_k n.kids.length aJ n.next av RL.length cv dR n.out.length aO dY n.seen.length aK IH.no (some ⟨g8,0,none⟩) n.reqs.length CV).toList (o:=0) (xs:=gu.toList) uS,(aC.of_below hg3).trans (aL (fK n.id n.par a_k n.kids.length aJ n.next av RL.length cv dR n.out.length aO dY n.seen.length aK IH.no (some ⟨g8,0,none⟩) n.reqs.length CV).toList x2 0)⟩):P:=h
theorem aiN.Kr47(h:P:=by
 go_meet
 case rel=>exact⟨rfl,GR.setW_blk (fK n.id n.par a_k n.kids.length aJ n.next av RL.length cv dR n.out.length aO dY n.seen.length aK IH.no (some ⟨g8,0,none⟩) n.reqs.length CV).toList (o:=0) (xs:=gu.toList) uS,(aC.of_below hx).trans (aL (fK n.id n.par a_k n.kids.length aJ n.next av RL.length cv dR n.out.length aO dY n.seen.length aK IH.no (some ⟨g8,0,none⟩) n.reqs.length CV).toList x 0)⟩):P:=h
theorem aiO.Kr47(h:P:=by
 go_meet
 case rel=>exact⟨rfl,GR.setW_blk (fK n.id n.par a_k n.kids.length aJ n.next av RL.length cv dR n.out.length aO dY n.seen.length aK n.old (some ⟨gv,0,none⟩) (n.reqs.length+1) vc).toList (o:=0) (xs:=gu.toList) uS,(aC.of_below hg3).trans (aL (fK n.id n.par a_k n.kids.length aJ n.next av RL.length cv dR n.out.length aO dY n.seen.length aK n.old (some ⟨gv,0,none⟩) (n.reqs.length+1) vc).toList x2 0)⟩):P:=h
theorem aiP.Kr47(h:P:=by
 go_meet
 case rel=>exact⟨rfl,GR.setW_blk (fK n.id n.par a_k n.kids.length aJ n.next av RL.length cv dR n.out.length aO dY n.seen.length aK n.old (some ⟨gv,0,none⟩) (n.reqs.length+1) vc).toList (o:=0) (xs:=gu.toList) uS,(aC.of_below hx).trans (aL (fK n.id n.par a_k n.kids.length aJ n.next av RL.length cv dR n.out.length aO dY n.seen.length aK n.old (some ⟨gv,0,none⟩) (n.reqs.length+1) vc).toList x 0)⟩):P:=h
theorem aiQ.Kr47(h:P:=by
 go_meet
 case rel=>exact⟨rfl,GR.setW_blk (fK n.id n.par a_k n.kids.length aJ n.next (some ⟨gp,0,none⟩) n.pu.length bq dR n.out.length aO dY n.seen.length aK IH.no (some ⟨g8,0,none⟩) n.reqs.length CV).toList (o:=0) (xs:=gu.toList) uS,(aC.of_below hg3).trans (aL (fK n.id n.par a_k n.kids.length aJ n.next (some ⟨gp,0,none⟩) n.pu.length bq dR n.out.length aO dY n.seen.length aK IH.no (some ⟨g8,0,none⟩) n.reqs.length CV).toList x2 0)⟩):P:=h
theorem aiR.Kr47(h:P:=by
 go_meet
 case rel=>exact⟨rfl,GR.setW_blk (fK n.id n.par a_k n.kids.length aJ n.next (some ⟨gp,0,none⟩) n.pu.length bq dR n.out.length aO dY n.seen.length aK IH.no (some ⟨g8,0,none⟩) n.reqs.length CV).toList (o:=0) (xs:=gu.toList) uS,(aC.of_below hx).trans (aL (fK n.id n.par a_k n.kids.length aJ n.next (some ⟨gp,0,none⟩) n.pu.length bq dR n.out.length aO dY n.seen.length aK IH.no (some ⟨g8,0,none⟩) n.reqs.length CV).toList x 0)⟩):P:=h
theorem aiS.Kr47(h:P:=by
 go_meet
 case rel=>exact⟨rfl,GR.setW_blk (fK n.id n.par a_k n.kids.length aJ n.next (some ⟨gp,0,none⟩) n.pu.length bq dR n.out.length aO dY n.seen.length aK n.old (some ⟨gv,0,none⟩) (n.reqs.length+1) vc).toList (o:=0) (xs:=gu.toList) uS,(aC.of_below hg3).trans (aL (fK n.id n.par a_k n.kids.length aJ n.next (some ⟨gp,0,none⟩) n.pu.length bq dR n.out.length aO dY n.seen.length aK n.old (some ⟨gv,0,none⟩) (n.reqs.length+1) vc).toList x2 0)⟩):P:=h
theorem aiT.Kr47(h:P:=by
 go_meet
 case rel=>exact⟨rfl,GR.setW_blk (fK n.id n.par a_k n.kids.length aJ n.next (some ⟨gp,0,none⟩) n.pu.length bq dR n.out.length aO dY n.seen.length aK n.old (some ⟨gv,0,none⟩) (n.reqs.length+1) vc).toList (o:=0) (xs:=gu.toList) uS,(aC.of_below hx).trans (aL (fK n.id n.par a_k n.kids.length aJ n.next (some ⟨gp,0,none⟩) n.pu.length bq dR n.out.length aO dY n.seen.length aK n.old (some ⟨gv,0,none⟩) (n.reqs.length+1) vc).toList x 0)⟩):P:=h
theorem arz(h:P:=by
 obtain⟨IH,IT,hIQ⟩:∃IH IT,IQ=IH::IT:=by
  exact asa
 subst hIQ;have hIT:IT.length=n.reqs.length:=by have:=ah HLQ;simp at this;omega
 have y0:wc.cell? ⟨gv,0,none⟩=some (.int .i64 IH.no):=by
  exact ar8
 have HTA:=Hq (show iU wc (some ⟨gv,1*4,none⟩) IT from GR.At.drop (HL6.lies bg).1 1);have awU:=(HL6.lies bg).2 gv 0 rfl;obtain⟨c0,c1,c2,c3,c4,c5,c6,c7,c8⟩:=nine lq;have cf:=au lq 7;have hnl:=aA lq;have awh:decide ((30:Int) < ((n.reqs.length+1:Nat):Int))=true:=decide_eq_true Aaa;go_upto_region 19 with fail;refine wp_at (λW7 Jf=>?_);have axP:¬vc=1:=Aaa
 have axQ:1<=vc:=Aaa
 exact Kr48):P:=h
theorem aiU.Kr48(h:P:=by
 have ou:Hid (W7.heap[w.heap.size]?=some (.cells (fK n.id n.par a_k n.kids.length aJ n.next av RL.length cv dR n.out.length aO dY n.seen.length aK IH.no (some ⟨gv,0,none⟩) (n.reqs.length+1) vc) 30 (0,0))):=by rw [Jf];exact bC lq 7 _
 have lY:Hid (W7.heap[w.heap.size+2]?=some (.cells gu 30 (0,0))):=by rw [Jf];exact gK _ Aaa jl
 have Wh:Hid (W7.heap[W1.heap.size]?=some (.cells (dX no k nn 0) 97 (0,0))):=by rw [Jf];exact gK _ Aaa Bu
 have BU:Hid (aX w W7):=by rw [Jf];exact vI.setCell (p:=⟨w.heap.size,7,none⟩) (Nat.le_refl _) _
 have aaD:Hid (iU W7 (some ⟨gv,1*4,none⟩) IT):=by
  exact as5
 have HP7:Hid (LO 143 fE 4 (w.heap.size+3) W7 av cv RL):=by rw [Jf];exact V7.keeps (aC.set _) (λx hx=>by simp at hx;omega)
 clear Jf HTA y0 cf c0 c1 c2 c3 c4 c5 c6 c7 c8 hnl lq jl Bu vI HL6 V7;open ajH in exact arG):P:=h
theorem aiV.Kr48(h:P:=by
 have ou:Hid (W7.heap[w.heap.size]?=some (.cells (fK n.id n.par a_k n.kids.length aJ n.next (some ⟨gp,0,none⟩) n.pu.length bq dR n.out.length aO dY n.seen.length aK IH.no (some ⟨gv,0,none⟩) (n.reqs.length+1) vc) 30 (0,0))):=by rw [Jf];exact bC lq 7 _
 have lY:Hid (W7.heap[w.heap.size+2]?=some (.cells gu 30 (0,0))):=by rw [Jf];exact gK _ Aaa jl
 have Wh:Hid (W7.heap[W1.heap.size]?=some (.cells (dX no k nn 1) 97 (0,0))):=by rw [Jf];exact gK _ Aaa Bu
 have BU:Hid (aX w W7):=by rw [Jf];exact vI.setCell (p:=⟨w.heap.size,7,none⟩) (Nat.le_refl _) _
 have aaD:Hid (iU W7 (some ⟨gv,1*4,none⟩) IT):=by
  exact as5
 skip
 clear Jf HTA y0 cf c0 c1 c2 c3 c4 c5 c6 c7 c8 hnl lq jl Bu vI HL6;open ajG in exact arG):P:=h
theorem arA(h:P:=by
 have uf:aX Z6 Z7:=by
  rw [hZ];exact aj Z6 _
 have ou:=Hq (ay lq uf);have lY:=Hq (ay jl uf);have HN7:=Hq (HN6.kc (k:=9) (KC.of_below uf) Aaa);have HP7:=Hq (GR.own_below V7 uf);have BU:=Hq (vI.trans (uf.mono (Nat.le_trans hB vI.size)));have HK7:=Hq (HK6.step vI.size uf);have hsb:w.heap.size+1 < Z6.heap.size:=aA jl;generalize Z6.heap.size=sb at *;clear hZ uf lq jl HN6 V7 vI HK6 c3n hn6;have c3n:=(nine ou).2.2.2.1;have f3n:=au ou 3;have hn7:=aA ou;go_upto_region 9 with fail;refine wp_at (λZ8 hZ=>?_);have qp:Hid (Z8.heap[w.heap.size]?=some (.cells (fK n.id n.par a_k n.kids.length aJ (n.next+1) av RL.length cv dR n.out.length aO dY n.seen.length aK n.old fU n.reqs.length aP) 30 (0,0))):=by rw [hZ];exact nP ou
 have xG:Hid (Z8.heap[w.heap.size+1]?=some (.cells gu 30 (0,0))):=by rw [hZ];exact jU lY Aaa
 exact Kr49):P:=h
theorem aiW.Kr49(h:P:=by
 have Wn:Hid (Z8.heap[sb]?=some (.cells (eU n.next dst key most) 95 (0,0))):=by rw [hZ];exact jU HS7 Aaa
 open akh in exact arO):P:=h
theorem aiX.Kr49(h:P:=by
 have Wn:Hid (Z8.heap[sb]?=some (.cells (eU n.next dst key pf) 95 (0,0))):=by rw [hZ];exact jU HS7 Aaa
 open akg in exact arO):P:=h
theorem arB(h:P:=by
 clear hz hok hm hL he HR hw hF hks hb HID;generalize (takeN n o.m).1=n' at *;open amC in exact WB):P:=h
theorem aiY.Kr50(h:P:=by
 obtain⟨c0,c1,c2,c3,c4,c5,c6,c7,c8,c9⟩:=iQ HY.blk;obtain⟨⟨p0,p1,p2,p3,p4,p5,p6⟩,_⟩:=dG CG;have agc:=aA HY.blk;have axf:=aA CG;go_upto_region 10 with fail;have y0:=cell_regrown c0;have z1:=cell_regrown p1;have z3:=cell_regrown p3;clear c0 c1 c2 c3 c4 c5 c6 c7 c8 c9 p0 p1 p2 p3 p4 p5 p6;refine bE 11 Aab ?_;show eF _ _ _ _ _ 12 (Array.replicate 12 false) _ _
 refine tk [0,1,2,3,4,5,6,7,8,9,10] ?_;iterate 11 (refine qA (λK hK=>?_);go_simp;refine hK _ ?_;clear hK K)
 refine iN ?_;clear y0 z1 z3;refine aT Aab (λx hx=>?_);have Gu:=Hq (HSY x A' G' c' n' (HY.step hx));clear hx;refine aF 11 rfl Aab Aad ?_;go_simp;refine Gu.mono ?_;rintro e z ⟨rfl,c2,v2,hZ⟩;have HZ:=Hq hZ;clear hZ Gu;refine wpAny_done Aab ?_;go_simp;go_wp2_with fail;go_ret;exact⟨rfl,A',G',c2,v2,HZ⟩):P:=h
theorem aiZ.Kr50(h:P:=by
 go_wp2_with fail;go_ret;exact⟨rfl,A',G',c',v,by rw [List.append_nil];exact HY⟩):P:=h
theorem Ls(h:P:=by
 open apl in exact Ll):P:=h
theorem ai0.Kr51(h:P:=by
 clear HO p0 p1 p2 p3 p4 p5 p6;have f1:=YX;open avB in exact Pp):P:=h
theorem ai1.Kr51(h:P:=by
 clear HO HM p0 p1 p2 p3 p4 p5 p6;have f1:=YZ;open aj6 in exact afm):P:=h
theorem ai2.Kr51(h:P:=by
 clear HO p0 p1 p2 p3 p4 p5 p6;have f1:=YZ;open avC in exact Pp):P:=h
theorem ai3.Kr51(h:P:=by
 clear HO p0 p1 p2 p3 p4 p5 p6;have f1:=R6;open avD in exact Pp):P:=h
theorem ai4.Kr51(h:P:=by
 clear p0 p1 p2 p3 p4 p5 p6;refine dw Aab ?_;show gX _ _ _ _ 30 (Array.replicate 30 false) _ _
 open ah2 in exact arq):P:=h
theorem ai5.Kr51(h:P:=by
 have y7:=cell_regrown p7;have y8:=cell_regrown p8;have y9:=cell_regrown p9;have y10:=cell_regrown mP;clear p0 p1 p2 p3 p4 p5 p6 p7 p8 p9 mP;refine dw Aab ?_;show gX _ _ _ _ 23 (Array.replicate 23 false) _ _
 open ah3 in exact arq):P:=h
theorem ai6.Kr51(h:P:=by
 clear HO HM p0 p1 p2 p3 p4 p5 p6;have f1:=R6;open aj5 in exact afm):P:=h
theorem ai7.Kr51(h:P:=by
 clear HO HM p0 p1 p2 p3 p4 p5 p6;have f1:=YX;open aj4 in exact afm):P:=h
theorem Xf(h:P:=by
 obtain⟨d0,d1,d2,d3,d4,d5,d6,d7,d8⟩:=nine oZ;have f0:=au oZ 0;have f1:=au oZ 1;have f2:=au oZ 2;have f3:=au oZ 3;have f4:=au oZ 4;have f5:=au oZ 5;have f6:=au oZ 6;have f7:=au oZ 7;have f8:=au oZ 8;exact Kr52):P:=h
theorem ai8.Kr52(h:P:=by
 open apV in exact adk):P:=h
theorem ai9.Kr52(h:P:=by
 have hnl:=aA jZ;have hrl:=aA oZ;clear q0 q1 q2 HST;dsimp only at e0;subst e0;go_wp2_with fail;refine aN (λW' hW'=>?_)
 have e4:W'.heap[w.heap.size+1]?=some (.cells (fK n.id n.par a_k n.kids.length aJ n.next iX n.pu.length bq dR n.out.length aO dY n.seen.length aK n.old (some ⟨g,off,none⟩) n.reqs.length aP) 30 (0,0)):=by
  exact avZ
 have fH:aC [w.heap.size+1] W1 W':=by
  exact av0
 open akN in exact arT):P:=h
theorem aja.Kr52(h:P:=by
 have hnl:=aA jZ;have hrl:=aA oZ;first|dsimp only at e0|skip
 subst e0;have HQ3:=Hq q3;have HQS:=Hq (And.intro q0 (And.intro q1 (And.intro q2 q3)));generalize n.reqs[i].k=qk at *;exact Kr16):P:=h
theorem ajb.Kr52(h:P:=by
 have hnl:=aA jZ;open apU in exact adk):P:=h
theorem ajc.Kr52(h:P:=by
 have hrl:=aA oZ;go_wp2_with fail;refine aN (λW' hW'=>?_)
 have e4:W'.heap[w.heap.size+2]?=some (.cells (dH n A1) 30 (0,0)):=by
  rw [hW'];exact GR.setW_blk (dH n A1).toList (o:=0) (xs:=gu.toList) oZ
 have fH:aC [w.heap.size+2] X W':=by
  rw [hW'];exact aL (dH n A1).toList X 0
 open apT in exact adj):P:=h
theorem Xg(h:P:=by
 rw [hmo] at VR;unfold nS at VR;have OY:=Hq (λW (ha:eu W A.k n.kids)=>Eh n A mF W hkl ha);rw [h2] at OY;clear hmo h2;have jP:=Hq (h.nine hB);clear h;go_enter Tryz.func41,Tryz.ntmps41
 go_upto_region 1 with fail;refine wp_at (λW0 hW=>?_);exact Kr53):P:=h
theorem ajd.Kr53(h:P:=by
 obtain⟨e1,e2,e3,e4⟩:=fC w (.cells (dH n A) 30) (.cells (bJ 0 mF mT mI mL mk mN) 32) (.cells gu 30);open aus in exact Yr3):P:=h
theorem aje.Kr53(h:P:=by
 obtain⟨e1,e2,e3,e4⟩:=fC w (.cells (dH n A) 30) (.cells (bJ 0 mF mT mI mL mk mN) 32) (.cells gu 30);open aut in exact Yr3):P:=h
theorem ajf.Kr53(h:P:=by
 obtain⟨e1,e2,e3,e4⟩:=fC w (.cells (dH n A) 30) (.cells (bJ mK mF mT mI mL mk mN) 32) (.cells gu 30);open auu in exact Yr3):P:=h
theorem ajg.Kr53(h:P:=by
 obtain⟨e1,e2,e3,e4⟩:=fC w (.cells (dH n A) 30) (.cells (bJ 2 mF mT mI mL mk mN) 32) (.cells gu 30);open auv in exact Yr3):P:=h
theorem ajh.Kr53(h:P:=by
 obtain⟨e1,e2,e3,e4⟩:=fC w (.cells (dH n A) 30) (.cells (bJ 1 mF mT mI mL mk mN) 32) (.cells gu 30);open auw in exact Yr3):P:=h
theorem arC(h:P:=by
 go_upto_region 1 with fail;have y0:=cell_regrown c0;have y1:=cell_regrown c1;clear c0 c1;refine dw Aab ?_;show gX _ _ _ _ 14 (Array.replicate 14 false) _ _
 refine tk [0,1,2,3,4,5,6,7] ?_;iterate 8 (refine tY (λK hK=>?_);go_simp;refine hK _ ?_;clear hK K)
 refine iN ?_;refine dD 8 rfl Aab Aab Aab (λ_ _ _ _ h=>h) (λK hK=>?_);go_simp
 first
  |(refine hK _ ?_;clear hK K)
  |(apply Exists.intro
    refine⟨λ_=>?_,hK _ ?_⟩
    (exact HC _ (Pk _))
    clear hK K)
 refine tk [9,10,11,12,13] ?_;iterate 5 (refine tY (λK hK=>?_);go_simp;refine hK _ ?_;clear hK K)
 refine iN ?_;refine eX Aab (λz hz=>?_);have HZ:=Hq hz;have Gs:=Hq (aI H hz);clear hz y0 y1 Pk HC H;go_simp;go_wp2_with fail;refine(HG _ Gs).mono ?_;rintro e w1 ⟨rfl,rfl⟩;go_wp2_with fail;exact Kr54):P:=h
theorem aji.Kr54(h:P:=by
 exact⟨rfl,rfl,HZ⟩):P:=h
theorem ajj.Kr54(h:P:=by
 go_ret;exact⟨rfl,jm.set Gs _,(dJ.of_below HZ).trans (dJ.set _)⟩):P:=h
theorem arD(h:P:=by
 open amY in exact acn):P:=h
theorem ajk.Kr55(h:P:=by
 rintro e W3 ⟨A1,G1,cc,rfl,ES,hb3,_,_⟩;have kU:=Hq (ay xE hb3);have HB3:=Hq (jW.trans (hb3.mono jW.size));have jP:=Hq ES;have hrs:=aA xE;clear hb3 ES c0 c1 c2 c3 c4 c5 c6 c7 c8 hnl Bf Bp ae6 xE;exact asr):P:=h
theorem ajl.Kr55(h:P:=by
 rintro e W3 ⟨A1,G1,cc,rfl,ES,hb3,hP1,hP2,XZ,hR2⟩;have kU:=Hq (ay xE hb3);have kS:=Hq (ay Bp hb3);have IL:=Hq (ay ae6 hb3);have HB3:=Hq (jW.trans (hb3.mono jW.size));have HPR:=Hq (And.intro (And.intro hP1 hP2) (And.intro XZ hR2));have jP:=Hq (ES.flat (b:=0) (Nat.zero_le _));have VG:=Hq (λx (hx:x < w.heap.size+3)=>TB (b:=0) (Nat.zero_le _) (ES.lo x (by have:=aA xE;omega)));have hrs:=aA xE;have H9:=Hq (XK 0 cc);generalize vU 0 cc=c at *;have wY:=Hq (VG (w.heap.size+2) Aaa);have CB:=Hq (VG w.heap.size Aaa);clear hb3 ES hP1 hP2 XZ hR2 c0 c1 c2 c3 c4 c5 c6 c7 c8 hnl Bf Bp ae6 xE;obtain⟨d0,d1,d2,d3,d4,d5,d6,d7,d8⟩:=nine kS;have f0:=au kS 0;have f1:=au kS 1;have f2:=au kS 2;have f3:=au kS 3;have f4:=au kS 4;have f5:=au kS 5;have f6:=au kS 6;have f7:=au kS 7;have f8:=au kS 8;obtain⟨⟨p0,p1,p2,p3,p4,p5,p6,p7,p8,p9,mP⟩,_⟩:=aU IL;have hnl:=aA kS;have hol:=aA IL;go_upto_region 5 with fail;refine wp_at (λX hX=>?_)
 have e5:X.heap[w.heap.size]?=some (.cells (dH n A1) 30 (0,0)):=by
  exact ar6
 have hkx:aC [w.heap.size] W3 X:=by
  exact ase
 have gG:=Hq e5;have HOX:=Hq ((hkx.block _ (aA IL) Aac).trans IL);have oZ:=Hq ((hkx.block _ (aA kU) Aac).trans kU);have kE:=Hq (HB3.trans (hkx.below (B:=w.heap.size) (λx hx=>by have:x=w.heap.size:=Aaf;omega) HB3.size));have zo:=Hq (jP.kc (k:=9) (KC.keeps hkx (λx hx=>by have:x=w.heap.size:=Aaf;rw [this];exact CB)) Aaa);exact Kr0):P:=h
theorem afl(h:P:=by
 obtain⟨pk,pm,pf,ps⟩:=p;unfold gJ at hp;simp only[Bool.and_eq_true] at hp;obtain⟨⟨⟨⟨_,a1⟩,a2⟩,a3⟩,a4⟩:=hp;have b1:0<=pm/\pm<=1000000000:=of_decide_eq_true a1;have b2:0<=pf/\pf<=1000000000:=of_decide_eq_true a2;have b3:0<=ps/\ps<=1000000000:=of_decide_eq_true a3;obtain⟨Pv,a11⟩:=b1;obtain⟨a20,a21⟩:=b2;obtain⟨a30,a31⟩:=b3;obtain⟨h10,h11⟩:=h1;obtain⟨h20,h21⟩:=h2;obtain⟨h30,h31⟩:=h3;clear a1 a2 a3 a4;exact Kr56):P:=h
theorem ajm.Kr56(h:P:=by
 dsimp only at hf;clear he;rcases hf with hf|⟨hf,hs⟩
 all_goals
  go_enter Tryz.func261,Tryz.ntmps261
  go_upto_region 5 with fail
  refine Fo.wp_at (λV hV=>?_)
  obtain⟨_,hC,hbel⟩:=yQ (w:=w) (w1:=V) (by rw [hV];exact Below.refl _ _)
  have HC:=Hq hC
  have fO:=Hq hbel
  have vv:=(HE.below hbel).var 3 Aaa
  have hsz:=(show w.heap.size+1+1 < V.heap.size from Fo.lt_of_blk hC)
  obtain⟨⟨r0,r1,r2,r3⟩,s0,s1,s2,s3⟩:=fJ hC
  clear hC hbel hV
  go_region
  all_goals
   go_wp2_with fail
   refine Fo.bodyPost_at (λW' hW'=>?_)
   obtain⟨⟨t0,t1,t2,t3⟩,_⟩:=fJ (show W'.heap[w.heap.size+1+1]?=some (.cells (iL ⟨#[]⟩ 0 0 0) 143 (0,0)) by rw [hW'];exact Fo.four_set (w:=V.drew) HC)
   have hbb:aX w W':=by rw [hW'];exact Fo.four_below (w:=V.drew) (fO.trans ⟨rfl,rfl,rfl,Nat.le_refl _,λ_ _=>rfl⟩) Aaa
   exact bodyPost_ret (v:= .tuple #[.agg (iL ⟨#[]⟩ 0 0 0),tV (E 3)]) (by simp[results,Tryz.results261,go_sem,t0,t1,t2,t3]) rfl ⟨rfl,hbb⟩):P:=h
theorem ajn.Kr56(h:P:=by
 dsimp only at hf hs;clear hok he;open aqZ in exact adJ):P:=h
theorem ajo.Kr56(h:P:=by
 dsimp only at hf hs;clear hok;open aqY in exact adJ):P:=h
theorem arE(h:P:=by
 have rG:=Hq fH;clear fH;refine aF 12 rfl Aab Aad ?_;go_simp;refine aF 13 rfl Aab Aad ?_;go_simp;refine wpAny_done Aab ?_;go_simp;go_wp2_with fail;refine aN (λW' hW'=>?_);subst hW';have fH:=ah rG;open apS in exact adj):P:=h
theorem ajp.Kr57(h:P:=by
 exact bodyPost_ret (v:= .tuple #[(fI n A1),.slice (some ⟨y.heap.size,0,none⟩) 1 1,.int .i64 0]) Aaz rfl ⟨A1,some ⟨y.heap.size,0,none⟩,1,rfl,HAT,HMT,lQ⟩):P:=h
theorem ajq.Kr57(h:P:=by
 exact bodyPost_ret (v:= .tuple #[(fI n A1),.slice (some ⟨x.heap.size,0,none⟩) 1 1,.int .i64 0]) Aaz rfl ⟨A1,some ⟨x.heap.size,0,none⟩,1,rfl,HAT,HMT,lQ⟩):P:=h
theorem zy(h:P:=by
 unfold jC;have lS:=Hq (λW (h:aX w W)=>Ei n A W (hz.mono Aaa) (ha.below h));rw [hok] at lS;exact Kr58):P:=h
theorem ajr.Kr58(h:P:=by
 have Ez:=Hq (λW=>jf ⟨K,no,k,nn,⟨mK,mF,mT,mI,mL,mk,mN⟩⟩ W Aal Aal);open ahI in exact CK):P:=h
theorem ajs.Kr58(h:P:=by
 have Bf:=Hq (λW (h:aX w W)=>sQ n A W hz (ha.below h));clear hz ha hok;go_enter Tryz.func9,Tryz.ntmps9
 go_upto_region 2 with fail;refine wp_at (λW1 hW=>?_);open al8 in exact ab0):P:=h
theorem ajt.Kr58(h:P:=by
 have jO:=Hq (λW A1 G1 c (hB:0<=W.heap.size) (h9:∀x,6 < c x->c x=9) (hp:((∃g,A1.p=some ⟨g,0,none⟩)/\n.pu.length<=A1.cp)/\(∃g,A1.r=some ⟨g,0,none⟩)/\n.reqs.length<=A1.cr) (hN:NQ W 0 n A1 G1 c)=>Oz n A1 G1 c no W 0 hB h9 hz hp.1.1 hp.1.2 (bQ hok).2.2.2.2.2 hN);unfold gY at jO;generalize bf n no=GV at *;obtain⟨N1,Au⟩:=GV;dsimp only at jO ⊢;have Ez:=Hq (λW=>jf ⟨2,no,k,nn,⟨mK,mF,mT,mI,mL,mk,mN⟩⟩ W Aal Aal);open ahJ in exact CK):P:=h
theorem aju.Kr58(h:P:=by
 have jO:=Hq (λW A1 G1 c (hB:0<=W.heap.size) (h9:∀x,6 < c x->c x=9) (hp:((∃g,A1.p=some ⟨g,0,none⟩)/\n.pu.length<=A1.cp)/\(∃g,A1.r=some ⟨g,0,none⟩)/\n.reqs.length<=A1.cr) (hN:NQ W 0 n A1 G1 c)=>UR n A1 G1 c 1 no k nn mK mF mT mI mL mk mN W 0 hB h9 hz hk hp.1.1 hp.1.2 hp.2.1 hp.2.2 (bQ hok).2.2.2.2.2 hN);unfold gY at jO;generalize fF n no k nn=GV at *;obtain⟨N1,Au⟩:=GV;dsimp only at jO ⊢;have Ez:=Hq (λW=>jf ⟨1,no,k,nn,⟨mK,mF,mT,mI,mL,mk,mN⟩⟩ W Aal Aal);open ahK in exact CK):P:=h
theorem ajv.Kr58(h:P:=by
 have hpz:(decide (n.par < 0))=false:=by
  exact ad3
 have jO:=Hq (λW A1 G1 c (hB:0<=W.heap.size) (h9:∀x,6 < c x->c x=9) (hp:((∃g,A1.p=some ⟨g,0,none⟩)/\n.pu.length<=A1.cp)/\(∃g,A1.r=some ⟨g,0,none⟩)/\n.reqs.length<=A1.cr) (hN:NQ W 0 n A1 G1 c)=>Ol n A1 G1 c n.par k nn W 0 hB h9 hz hk hp.1.1 hp.1.2 (by have h:=(bQ hok).2.2.2.1;unfold fD at h;simp at h;omega) hN);unfold fq at jO;generalize eO n n.par k nn=GV at *;obtain⟨N1,L1,b1⟩:=GV;dsimp only at jO ⊢;generalize (if b1=true then(0:Int) else 1)=Au at *;have Ez:=Hq (λW=>jf ⟨4,no,k,nn,⟨mK,mF,mT,mI,mL,mk,mN⟩⟩ W Aal Aal);open ahL in exact CK):P:=h
theorem ajw.Kr58(h:P:=by
 have hmo:bX ⟨mK,mF,mT,mI,mL,mk,mN⟩=true:=by
  have h:=hop;unfold bV at h;dsimp only at h;rw [if_neg Aaa,if_neg Aaa,if_neg Aaa,if_neg Aaa,if_pos rfl,Bool.and_eq_true] at h;exact h.2
 have jO:=Hq (λW A1 G1 c (hB:0<=W.heap.size) (h9:∀x,6 < c x->c x=9) (hp:((∃g,A1.p=some ⟨g,0,none⟩)/\n.pu.length<=A1.cp)/\(∃g,A1.r=some ⟨g,0,none⟩)/\n.reqs.length<=A1.cr) (hN:NQ W 0 n A1 G1 c)=>Zz n A1 G1 c mK mF mT mI mL mk mN W 0 hB h9 hz hmk hok hmo hp.1.1 hp.1.2 hN);clear hmo;unfold fq at jO;generalize AA n ⟨mK,mF,mT,mI,mL,mk,mN⟩=GV at *;obtain⟨N1,L1,Au⟩:=GV;dsimp only at jO ⊢;have Ez:=Hq (λW=>jf ⟨6,no,k,nn,⟨mK,mF,mT,mI,mL,mk,mN⟩⟩ W Aal Aal);open ahM in exact CK):P:=h
theorem ajx.Kr58(h:P:=by
 have hpz:(decide (n.par < 0))=true:=by rw [hpar];rfl
 clear hpar;have Ez:=Hq (λW=>jf ⟨4,no,k,nn,⟨mK,mF,mT,mI,mL,mk,mN⟩⟩ W Aal Aal);open ahN in exact CK):P:=h
theorem ajy.Kr58(h:P:=by
 have hpz:(decide (n.par < 0))=true:=by rw [hpar];rfl
 clear hpar;have Ez:=Hq (λW=>jf ⟨3,no,k,nn,⟨mK,mF,mT,mI,mL,mk,mN⟩⟩ W Aal Aal);open ahO in exact CK):P:=h
theorem ajz.Kr58(h:P:=by
 have hpg:(decide (n.par≥0))=false:=by rw [hpar];rfl
 have aty:(decide (0<=n.par))=false:=hpg;clear hpar
 have jO:=Hq (λW (A1:bH) (hp:(∃g,A1.p=some ⟨g,0,none⟩)/\n.pu.length<=A1.cp) (hN:aH W A1.p n.pu)=>(by
  obtain⟨⟨g,hg⟩,hc⟩:=hp
  rw [hg] at hN ⊢
  have:=Ed g 0 A1.cp n.pu k nn W (Nat.le_trans hz.p Aaa) hc hz.pk hk hN
  rw [hu] at this
  exact this:Calls Tryz.prog 38 #[.slice A1.p n.pu.length A1.cp,.string k,.int .i64 nn] W (iH W (RL,true))))
 clear hu;unfold iH at jO;have Ez:=Hq (λW=>jf ⟨0,no,k,nn,⟨mK,mF,mT,mI,mL,mk,mN⟩⟩ W Aal Aal);open ahP in exact CK):P:=h
theorem ajA.Kr58(h:P:=by
 have hpg:(decide (n.par≥0))=false:=by rw [hpar];rfl
 have aty:(decide (0<=n.par))=false:=hpg;clear hpar
 have jO:=Hq (λW (A1:bH) (hp:(∃g,A1.p=some ⟨g,0,none⟩)/\n.pu.length<=A1.cp) (hN:aH W A1.p n.pu)=>(by
  obtain⟨⟨g,hg⟩,hc⟩:=hp
  rw [hg] at hN ⊢
  have:=Ed g 0 A1.cp n.pu k nn W (Nat.le_trans hz.p Aaa) hc hz.pk hk hN
  rw [hu] at this
  exact this:Calls Tryz.prog 38 #[.slice A1.p n.pu.length A1.cp,.string k,.int .i64 nn] W (iH W (RL,false))))
 exact Zr7):P:=h
theorem ajB.Kr58(h:P:=by
 have hpg:(decide (n.par≥0))=true:=by
  have h:=(bQ hok).1;unfold dZ at h;simp only[Bool.and_eq_true,decide_eq_true_eq] at h;exact decide_eq_true Aaa
 have aty:(decide (0<=n.par))=true:=hpg
 have jO:=Hq (λW (A1:bH) (hp:(∃g,A1.p=some ⟨g,0,none⟩)/\n.pu.length<=A1.cp) (hN:aH W A1.p n.pu)=>(by
  obtain⟨⟨g,hg⟩,hc⟩:=hp
  rw [hg] at hN ⊢
  have:=Ed g 0 A1.cp n.pu k nn W (Nat.le_trans hz.p Aaa) hc hz.pk hk hN
  rw [hu] at this
  exact this:Calls Tryz.prog 38 #[.slice A1.p n.pu.length A1.cp,.string k,.int .i64 nn] W (iH W (RL,ok))))
 exact Zr7):P:=h
theorem ajC.Kr58(h:P:=by
 have jO:=Hq (λW A1 (hN:dK W A1 n)=>ZA n A1 W (hz.mono Aaa) hN);rw [show Zi n=n.out.map (nI n) from if_pos hok] at jO;unfold zk at jO;dsimp only at jO ⊢;generalize n.out.map (nI n)=L1 at *;have Ez:=Hq (λW=>jf ⟨5,no,k,nn,⟨mK,mF,mT,mI,mL,mk,mN⟩⟩ W Aal Aal);open ahQ in exact CK):P:=h
theorem ajD.Kr58(h:P:=by
 have hpz:(decide (n.par < 0))=false:=by
  exact ad3
 have Ez:=Hq (λW=>jf ⟨3,no,k,nn,⟨mK,mF,mT,mI,mL,mk,mN⟩⟩ W Aal Aal);open ahR in exact CK):P:=h
theorem arF(h:P:=by
 have hat:jT l k=(gJ l[k]&&(k == 0|| !sle l[k].k (l.getD (k - 1) default).k)):=by unfold jT;rw [getD_at l k hlt]
 exact Kr59):P:=h
theorem ajE.Kr59(h:P:=by
 cases k with
 |zero=>
  obtain⟨g,off,rfl,hgw,c0,c1,c2,c3⟩:=aH.four (GR.At.below HA fO) 0 hlt
  simp only[Nat.zero_mul,Nat.add_zero] at c0 c1 c2 c3
  have hgt:decide ((0:Int) < ((0:Nat):Int))=false:=rfl
  have iT:=Hq hat
  have gG:=Hq (lC (jT l) 0)
  clear hat
  generalize l[0]=pu at *
  obtain⟨pk,pm,pf,ps⟩:=pu
  dsimp only at c0 c1 c2 c3 hks
  cases hkb:keyOk pk.data.toList
  .have HB:=Hq hkb;have HBAD:=Hq (iC hlt (show jT l 0=false by rw [ah iT];simp[gJ,ah HB]));clear iT gG;have hkb':=ah HB;exact afy
  have hkb':=hkb
  by_cases h1:0<=pm/\pm<=1000000000
  case' neg=>
   have hA:pz pm=false:=decide_eq_false h1
   have g1:decide (vR pm 0 1000000000)=false:=decide_eq_false h1
   have HBAD:=Hq (iC hlt (show jT l 0=false by rw [ah iT];simp[gJ,hA]))
   clear iT gG hA
   go_wp2_with fail
   refine wp_region_quiet_lit Aab Aab ?_
   repeat (first|go_big_quiet_step ((first|(go_at_call 64;exact nT _ _ hks hkb' _ _)|(go_at_call_of 62 (IntKind.i64.wrap (pf+ps));exact gB _ _ g4 _ _)|(go_at_call_of 62 (pf+ps);exact gB _ _ g5 _ _)|(go_at_call_of 62 pm;exact gB _ _ g1 _ _)|(go_at_call_of 62 pf;exact gB _ _ g2 _ _)|(go_at_call_of 62 ps;exact gB _ _ g3 _ _)))|quiet_step ((first|(go_at_call 64;exact nT _ _ hks hkb' _ _)|(go_at_call_of 62 (IntKind.i64.wrap (pf+ps));exact gB _ _ g4 _ _)|(go_at_call_of 62 (pf+ps);exact gB _ _ g5 _ _)|(go_at_call_of 62 pm;exact gB _ _ g1 _ _)|(go_at_call_of 62 pf;exact gB _ _ g2 _ _)|(go_at_call_of 62 ps;exact gB _ _ g3 _ _))))
   refine wpQuiet_nil ?_
   intro _ hw'
   obtain⟨nq,hw''⟩:=hw'
   subst hw''
   go_wp2_with fail
   go_ret
   exact⟨aD HBAD.symm,(fO.alloc fO.size _).trans ⟨rfl,rfl,rfl,Nat.le_refl _,λ_ _=>rfl⟩⟩
  have g1:decide (vR pm 0 1000000000)=true:=decide_eq_true h1
  have hA1:pz pm=true:=decide_eq_true h1
  by_cases h2:0<=pf/\pf<=1000000000
  case' neg=>
   have hA:pz pf=false:=decide_eq_false h2
   have g2:decide (vR pf 0 1000000000)=false:=decide_eq_false h2
   have HBAD:=Hq (iC hlt (show jT l 0=false by rw [ah iT];simp[gJ,hA]))
   clear iT gG hA
   go_wp2_with fail
   refine wp_region_quiet_lit Aab Aab ?_
   repeat (first|go_big_quiet_step ((first|(go_at_call 64;exact nT _ _ hks hkb' _ _)|(go_at_call_of 62 (IntKind.i64.wrap (pf+ps));exact gB _ _ g4 _ _)|(go_at_call_of 62 (pf+ps);exact gB _ _ g5 _ _)|(go_at_call_of 62 pm;exact gB _ _ g1 _ _)|(go_at_call_of 62 pf;exact gB _ _ g2 _ _)|(go_at_call_of 62 ps;exact gB _ _ g3 _ _)))|quiet_step ((first|(go_at_call 64;exact nT _ _ hks hkb' _ _)|(go_at_call_of 62 (IntKind.i64.wrap (pf+ps));exact gB _ _ g4 _ _)|(go_at_call_of 62 (pf+ps);exact gB _ _ g5 _ _)|(go_at_call_of 62 pm;exact gB _ _ g1 _ _)|(go_at_call_of 62 pf;exact gB _ _ g2 _ _)|(go_at_call_of 62 ps;exact gB _ _ g3 _ _))))
   refine wpQuiet_nil ?_
   intro _ hw'
   obtain⟨nq,hw''⟩:=hw'
   subst hw''
   go_wp2_with fail
   go_ret
   exact⟨aD HBAD.symm,(fO.alloc fO.size _).trans ⟨rfl,rfl,rfl,Nat.le_refl _,λ_ _=>rfl⟩⟩
  have g2:decide (vR pf 0 1000000000)=true:=decide_eq_true h2
  have hA2:pz pf=true:=decide_eq_true h2
  by_cases h3:0<=ps/\ps<=1000000000
  case' neg=>
   have hA:pz ps=false:=decide_eq_false h3
   have g3:decide (vR ps 0 1000000000)=false:=decide_eq_false h3
   have HBAD:=Hq (iC hlt (show jT l 0=false by rw [ah iT];simp[gJ,hA]))
   clear iT gG hA
   go_wp2_with fail
   refine wp_region_quiet_lit Aab Aab ?_
   repeat (first|go_big_quiet_step ((first|(go_at_call 64;exact nT _ _ hks hkb' _ _)|(go_at_call_of 62 (IntKind.i64.wrap (pf+ps));exact gB _ _ g4 _ _)|(go_at_call_of 62 (pf+ps);exact gB _ _ g5 _ _)|(go_at_call_of 62 pm;exact gB _ _ g1 _ _)|(go_at_call_of 62 pf;exact gB _ _ g2 _ _)|(go_at_call_of 62 ps;exact gB _ _ g3 _ _)))|quiet_step ((first|(go_at_call 64;exact nT _ _ hks hkb' _ _)|(go_at_call_of 62 (IntKind.i64.wrap (pf+ps));exact gB _ _ g4 _ _)|(go_at_call_of 62 (pf+ps);exact gB _ _ g5 _ _)|(go_at_call_of 62 pm;exact gB _ _ g1 _ _)|(go_at_call_of 62 pf;exact gB _ _ g2 _ _)|(go_at_call_of 62 ps;exact gB _ _ g3 _ _))))
   refine wpQuiet_nil ?_
   intro _ hw'
   obtain⟨nq,hw''⟩:=hw'
   subst hw''
   go_wp2_with fail
   go_ret
   exact⟨aD HBAD.symm,(fO.alloc fO.size _).trans ⟨rfl,rfl,rfl,Nat.le_refl _,λ_ _=>rfl⟩⟩
  have g3:decide (vR ps 0 1000000000)=true:=decide_eq_true h3
  have hA3:pz ps=true:=decide_eq_true h3
  have e4:IntKind.i64.wrap (pf+ps)=pf+ps:=IntWalk.i64_in _ ⟨Aaa,Aaa⟩
  by_cases h4:0<=(pf+ps)/\(pf+ps)<=1000000000
  case' neg=>
   have hA:pz (pf+ps)=false:=decide_eq_false h4
   have g4:decide (vR (pf+ps) 0 1000000000)=false:=decide_eq_false h4
   have g5:=g4
   rw [<-e4] at g4
   have HBAD:=Hq (iC hlt (show jT l 0=false by rw [ah iT];simp[gJ,hA]))
   clear iT gG hA
   go_wp2_with fail
   refine wp_region_quiet_lit Aab Aab ?_
   repeat (first|go_big_quiet_step ((first|(go_at_call 64;exact nT _ _ hks hkb' _ _)|(go_at_call_of 62 (IntKind.i64.wrap (pf+ps));exact gB _ _ g4 _ _)|(go_at_call_of 62 (pf+ps);exact gB _ _ g5 _ _)|(go_at_call_of 62 pm;exact gB _ _ g1 _ _)|(go_at_call_of 62 pf;exact gB _ _ g2 _ _)|(go_at_call_of 62 ps;exact gB _ _ g3 _ _)))|quiet_step ((first|(go_at_call 64;exact nT _ _ hks hkb' _ _)|(go_at_call_of 62 (IntKind.i64.wrap (pf+ps));exact gB _ _ g4 _ _)|(go_at_call_of 62 (pf+ps);exact gB _ _ g5 _ _)|(go_at_call_of 62 pm;exact gB _ _ g1 _ _)|(go_at_call_of 62 pf;exact gB _ _ g2 _ _)|(go_at_call_of 62 ps;exact gB _ _ g3 _ _))))
   refine wpQuiet_nil ?_
   intro _ hw'
   obtain⟨nq,hw''⟩:=hw'
   subst hw''
   go_wp2_with fail
   go_ret
   exact⟨aD HBAD.symm,(fO.alloc fO.size _).trans ⟨rfl,rfl,rfl,Nat.le_refl _,λ_ _=>rfl⟩⟩
  have g4:decide (vR (pf+ps) 0 1000000000)=true:=decide_eq_true h4
  have hA4:pz (pf+ps)=true:=decide_eq_true h4
  have g5:=g4
  rw [<-e4] at g4
  have CF:=Hq (show jT l 0=true by rw [ah iT];simp[gJ,hkb,hA1,hA2,hA3,hA4])
  clear iT hA1 hA2 hA3 hA4
  go_wp2_with fail
  refine wp_region_quiet_lit Aab Aab ?_
  repeat (first|go_big_quiet_step ((first|(go_at_call 64;exact nT _ _ hks hkb' _ _)|(go_at_call_of 62 (IntKind.i64.wrap (pf+ps));exact gB _ _ g4 _ _)|(go_at_call_of 62 (pf+ps);exact gB _ _ g5 _ _)|(go_at_call_of 62 pm;exact gB _ _ g1 _ _)|(go_at_call_of 62 pf;exact gB _ _ g2 _ _)|(go_at_call_of 62 ps;exact gB _ _ g3 _ _)))|quiet_step ((first|(go_at_call 64;exact nT _ _ hks hkb' _ _)|(go_at_call_of 62 (IntKind.i64.wrap (pf+ps));exact gB _ _ g4 _ _)|(go_at_call_of 62 (pf+ps);exact gB _ _ g5 _ _)|(go_at_call_of 62 pm;exact gB _ _ g1 _ _)|(go_at_call_of 62 pf;exact gB _ _ g2 _ _)|(go_at_call_of 62 ps;exact gB _ _ g3 _ _))))
  refine wpQuiet_nil ?_
  intro _ hw'
  obtain⟨nq,hw''⟩:=hw'
  subst hw''
  go_wp2_with fail
  go_roundw
  case rel=>exact⟨0+1,Aaa,Aai,Aco,(fO.alloc fO.size _).trans ⟨rfl,rfl,rfl,Nat.le_refl _,λ_ _=>rfl⟩⟩
  case measure=>simp[intOf];omega
 |succ j=>
  obtain⟨g,off,rfl,hgw,c0,c1,c2,c3⟩:=aH.four (GR.At.below HA fO) (j+1) hlt
  obtain⟨g',off',e',_,d0,_,_,_⟩:=aH.four (GR.At.below HA fO) j Aaa
  have eg:g=g'/\off=off':=by injection e' with e';injection e' with e1 e2;exact⟨e1,e2⟩
  obtain⟨rfl,rfl⟩:=eg
  have hgd:l.getD j default=l[j]:=getD_at l j Aaa
  rw [show j+1 - 1=j from rfl,hgd] at hat
  have hgt:decide ((0:Int) < ((j:Int)+1))=true:=decide_eq_true Aaa
  clear e' hgd
  generalize l[j].k=q at *
  have iT:=Hq hat
  have gG:=Hq (lC (jT l) (j+1))
  clear hat
  generalize l[j+1]=pu at *
  obtain⟨pk,pm,pf,ps⟩:=pu
  dsimp only at c0 c1 c2 c3 hks
  cases hkb:keyOk pk.data.toList
  .have HB:=Hq hkb;have HBAD:=Hq (iC hlt (show jT l (j+1)=false by rw [ah iT];simp[gJ,ah HB]));clear iT gG;have hkb':=ah HB;exact afy
  have hkb':=hkb
  cases hbl:Op.bytesLess pk.toList q.toList
  case' true=>
   have hsl:sle pk q=true:=by unfold sle;rw [hbl];rfl
   cases heq:pk.toList == q.toList
   .exact ad1
   .exact ad1
  cases heq:pk.toList == q.toList
  case' true=>
   have hsl:sle pk q=true:=by unfold sle;rw [hbl,heq];rfl
   have HBAD:=Hq (iC hlt (show jT l (j+1)=false by rw [ah iT];simp[hsl]))
   clear iT gG hsl
   go_wp2_with fail
   refine wp_region_quiet_lit Aab Aab ?_
   repeat (first|go_big_quiet_step ((first|(go_at_call 64;exact nT _ _ hks hkb' _ _)|(go_at_call_of 62 (IntKind.i64.wrap (pf+ps));exact gB _ _ g4 _ _)|(go_at_call_of 62 (pf+ps);exact gB _ _ g5 _ _)|(go_at_call_of 62 pm;exact gB _ _ g1 _ _)|(go_at_call_of 62 pf;exact gB _ _ g2 _ _)|(go_at_call_of 62 ps;exact gB _ _ g3 _ _)))|quiet_step ((first|(go_at_call 64;exact nT _ _ hks hkb' _ _)|(go_at_call_of 62 (IntKind.i64.wrap (pf+ps));exact gB _ _ g4 _ _)|(go_at_call_of 62 (pf+ps);exact gB _ _ g5 _ _)|(go_at_call_of 62 pm;exact gB _ _ g1 _ _)|(go_at_call_of 62 pf;exact gB _ _ g2 _ _)|(go_at_call_of 62 ps;exact gB _ _ g3 _ _))))
   refine wpQuiet_nil ?_
   intro _ hw'
   obtain⟨nq,hw''⟩:=hw'
   subst hw''
   go_wp2_with fail
   go_ret
   exact⟨aD HBAD.symm,(fO.alloc fO.size _).trans ⟨rfl,rfl,rfl,Nat.le_refl _,λ_ _=>rfl⟩⟩
  have hsl:Hid (sle pk q=false):=by unfold sle;rw [hbl,heq];rfl
  by_cases h1:0<=pm/\pm<=1000000000
  case' neg=>
   have hA:pz pm=false:=decide_eq_false h1
   have g1:decide (vR pm 0 1000000000)=false:=decide_eq_false h1
   have HBAD:=Hq (iC hlt (show jT l (j+1)=false by rw [ah iT];simp[gJ,hA]))
   clear iT gG hA
   go_wp2_with fail
   refine wp_region_quiet_lit Aab Aab ?_
   repeat (first|go_big_quiet_step ((first|(go_at_call 64;exact nT _ _ hks hkb' _ _)|(go_at_call_of 62 (IntKind.i64.wrap (pf+ps));exact gB _ _ g4 _ _)|(go_at_call_of 62 (pf+ps);exact gB _ _ g5 _ _)|(go_at_call_of 62 pm;exact gB _ _ g1 _ _)|(go_at_call_of 62 pf;exact gB _ _ g2 _ _)|(go_at_call_of 62 ps;exact gB _ _ g3 _ _)))|quiet_step ((first|(go_at_call 64;exact nT _ _ hks hkb' _ _)|(go_at_call_of 62 (IntKind.i64.wrap (pf+ps));exact gB _ _ g4 _ _)|(go_at_call_of 62 (pf+ps);exact gB _ _ g5 _ _)|(go_at_call_of 62 pm;exact gB _ _ g1 _ _)|(go_at_call_of 62 pf;exact gB _ _ g2 _ _)|(go_at_call_of 62 ps;exact gB _ _ g3 _ _))))
   refine wpQuiet_nil ?_
   intro _ hw'
   obtain⟨nq,hw''⟩:=hw'
   subst hw''
   go_wp2_with fail
   go_ret
   exact⟨aD HBAD.symm,(fO.alloc fO.size _).trans ⟨rfl,rfl,rfl,Nat.le_refl _,λ_ _=>rfl⟩⟩
  have g1:decide (vR pm 0 1000000000)=true:=decide_eq_true h1
  have hA1:pz pm=true:=decide_eq_true h1
  by_cases h2:0<=pf/\pf<=1000000000
  case' neg=>
   have hA:pz pf=false:=decide_eq_false h2
   have g2:decide (vR pf 0 1000000000)=false:=decide_eq_false h2
   have HBAD:=Hq (iC hlt (show jT l (j+1)=false by rw [ah iT];simp[gJ,hA]))
   clear iT gG hA
   go_wp2_with fail
   refine wp_region_quiet_lit Aab Aab ?_
   repeat (first|go_big_quiet_step ((first|(go_at_call 64;exact nT _ _ hks hkb' _ _)|(go_at_call_of 62 (IntKind.i64.wrap (pf+ps));exact gB _ _ g4 _ _)|(go_at_call_of 62 (pf+ps);exact gB _ _ g5 _ _)|(go_at_call_of 62 pm;exact gB _ _ g1 _ _)|(go_at_call_of 62 pf;exact gB _ _ g2 _ _)|(go_at_call_of 62 ps;exact gB _ _ g3 _ _)))|quiet_step ((first|(go_at_call 64;exact nT _ _ hks hkb' _ _)|(go_at_call_of 62 (IntKind.i64.wrap (pf+ps));exact gB _ _ g4 _ _)|(go_at_call_of 62 (pf+ps);exact gB _ _ g5 _ _)|(go_at_call_of 62 pm;exact gB _ _ g1 _ _)|(go_at_call_of 62 pf;exact gB _ _ g2 _ _)|(go_at_call_of 62 ps;exact gB _ _ g3 _ _))))
   refine wpQuiet_nil ?_
   intro _ hw'
   obtain⟨nq,hw''⟩:=hw'
   subst hw''
   go_wp2_with fail
   go_ret
   exact⟨aD HBAD.symm,(fO.alloc fO.size _).trans ⟨rfl,rfl,rfl,Nat.le_refl _,λ_ _=>rfl⟩⟩
  have g2:decide (vR pf 0 1000000000)=true:=decide_eq_true h2
  have hA2:pz pf=true:=decide_eq_true h2
  by_cases h3:0<=ps/\ps<=1000000000
  case' neg=>
   have hA:pz ps=false:=decide_eq_false h3
   have g3:decide (vR ps 0 1000000000)=false:=decide_eq_false h3
   have HBAD:=Hq (iC hlt (show jT l (j+1)=false by rw [ah iT];simp[gJ,hA]))
   clear iT gG hA
   go_wp2_with fail
   refine wp_region_quiet_lit Aab Aab ?_
   repeat (first|go_big_quiet_step ((first|(go_at_call 64;exact nT _ _ hks hkb' _ _)|(go_at_call_of 62 (IntKind.i64.wrap (pf+ps));exact gB _ _ g4 _ _)|(go_at_call_of 62 (pf+ps);exact gB _ _ g5 _ _)|(go_at_call_of 62 pm;exact gB _ _ g1 _ _)|(go_at_call_of 62 pf;exact gB _ _ g2 _ _)|(go_at_call_of 62 ps;exact gB _ _ g3 _ _)))|quiet_step ((first|(go_at_call 64;exact nT _ _ hks hkb' _ _)|(go_at_call_of 62 (IntKind.i64.wrap (pf+ps));exact gB _ _ g4 _ _)|(go_at_call_of 62 (pf+ps);exact gB _ _ g5 _ _)|(go_at_call_of 62 pm;exact gB _ _ g1 _ _)|(go_at_call_of 62 pf;exact gB _ _ g2 _ _)|(go_at_call_of 62 ps;exact gB _ _ g3 _ _))))
   refine wpQuiet_nil ?_
   intro _ hw'
   obtain⟨nq,hw''⟩:=hw'
   subst hw''
   go_wp2_with fail
   go_ret
   exact⟨aD HBAD.symm,(fO.alloc fO.size _).trans ⟨rfl,rfl,rfl,Nat.le_refl _,λ_ _=>rfl⟩⟩
  have g3:decide (vR ps 0 1000000000)=true:=decide_eq_true h3
  have hA3:pz ps=true:=decide_eq_true h3
  have e4:IntKind.i64.wrap (pf+ps)=pf+ps:=IntWalk.i64_in _ ⟨Aaa,Aaa⟩
  by_cases h4:0<=(pf+ps)/\(pf+ps)<=1000000000
  case' neg=>
   have hA:pz (pf+ps)=false:=decide_eq_false h4
   have g4:decide (vR (pf+ps) 0 1000000000)=false:=decide_eq_false h4
   have g5:=g4
   rw [<-e4] at g4
   have HBAD:=Hq (iC hlt (show jT l (j+1)=false by rw [ah iT];simp[gJ,hA]))
   clear iT gG hA
   go_wp2_with fail
   refine wp_region_quiet_lit Aab Aab ?_
   repeat (first|go_big_quiet_step ((first|(go_at_call 64;exact nT _ _ hks hkb' _ _)|(go_at_call_of 62 (IntKind.i64.wrap (pf+ps));exact gB _ _ g4 _ _)|(go_at_call_of 62 (pf+ps);exact gB _ _ g5 _ _)|(go_at_call_of 62 pm;exact gB _ _ g1 _ _)|(go_at_call_of 62 pf;exact gB _ _ g2 _ _)|(go_at_call_of 62 ps;exact gB _ _ g3 _ _)))|quiet_step ((first|(go_at_call 64;exact nT _ _ hks hkb' _ _)|(go_at_call_of 62 (IntKind.i64.wrap (pf+ps));exact gB _ _ g4 _ _)|(go_at_call_of 62 (pf+ps);exact gB _ _ g5 _ _)|(go_at_call_of 62 pm;exact gB _ _ g1 _ _)|(go_at_call_of 62 pf;exact gB _ _ g2 _ _)|(go_at_call_of 62 ps;exact gB _ _ g3 _ _))))
   refine wpQuiet_nil ?_
   intro _ hw'
   obtain⟨nq,hw''⟩:=hw'
   subst hw''
   go_wp2_with fail
   go_ret
   exact⟨aD HBAD.symm,(fO.alloc fO.size _).trans ⟨rfl,rfl,rfl,Nat.le_refl _,λ_ _=>rfl⟩⟩
  have g4:decide (vR (pf+ps) 0 1000000000)=true:=decide_eq_true h4
  have hA4:pz (pf+ps)=true:=decide_eq_true h4
  have g5:=g4
  rw [<-e4] at g4
  have CF:=Hq (show jT l (j+1)=true by rw [ah iT];simp[gJ,hkb,hA1,hA2,hA3,hA4,ah hsl])
  clear iT hA1 hA2 hA3 hA4
  go_wp2_with fail
  refine wp_region_quiet_lit Aab Aab ?_
  repeat (first|go_big_quiet_step ((first|(go_at_call 64;exact nT _ _ hks hkb' _ _)|(go_at_call_of 62 (IntKind.i64.wrap (pf+ps));exact gB _ _ g4 _ _)|(go_at_call_of 62 (pf+ps);exact gB _ _ g5 _ _)|(go_at_call_of 62 pm;exact gB _ _ g1 _ _)|(go_at_call_of 62 pf;exact gB _ _ g2 _ _)|(go_at_call_of 62 ps;exact gB _ _ g3 _ _)))|quiet_step ((first|(go_at_call 64;exact nT _ _ hks hkb' _ _)|(go_at_call_of 62 (IntKind.i64.wrap (pf+ps));exact gB _ _ g4 _ _)|(go_at_call_of 62 (pf+ps);exact gB _ _ g5 _ _)|(go_at_call_of 62 pm;exact gB _ _ g1 _ _)|(go_at_call_of 62 pf;exact gB _ _ g2 _ _)|(go_at_call_of 62 ps;exact gB _ _ g3 _ _))))
  refine wpQuiet_nil ?_
  intro _ hw'
  obtain⟨nq,hw''⟩:=hw'
  subst hw''
  go_wp2_with fail
  go_roundw
  case rel=>exact⟨(j+1)+1,Aaa,Aai,Aco,(fO.alloc fO.size _).trans ⟨rfl,rfl,rfl,Nat.le_refl _,λ_ _=>rfl⟩⟩
  case measure=>simp[intOf];omega):P:=h
theorem ajF.Kr59(h:P:=by
 cases k with
 |zero=>
  obtain⟨g,off,rfl,hgw,c0,c1,c2,c3⟩:=aH.four (GR.At.below HA fO) 0 hlt
  simp only[Nat.zero_mul,Nat.add_zero] at c0 c1 c2 c3
  have hgt:decide ((0:Int) < ((0:Nat):Int))=false:=rfl
  have iT:=Hq hat
  have gG:=Hq (lC (jT l) 0)
  clear hat
  generalize l[0]=pu at *
  cases hpo:gJ pu
  .have HO:=Hq (λw1=>og pu false w1 hpo);have HBAD:=Hq (iC hlt (show jT l 0=false by rw [ah iT,hpo];rfl));clear iT gG hpo;obtain⟨pk,pm,pf,ps⟩:=pu;dsimp only at c0 c1 c2 c3;open ah1 in exact Xe
  .have HO:=Hq (λw1=>og pu true w1 hpo);have CF:=Hq (show jT l 0=true by rw [ah iT,hpo];rfl);clear iT hpo;obtain⟨pk,pm,pf,ps⟩:=pu;dsimp only at c0 c1 c2 c3;open ah0 in exact Xe
 |succ j=>
  have hlt2:j < l.length:=Aaa
  obtain⟨g,off,rfl,hgw,c0,c1,c2,c3⟩:=aH.four (GR.At.below HA fO) (j+1) hlt
  obtain⟨g2,off2,e2,af2,d0,d1,d2,d3⟩:=aH.four (GR.At.below HA fO) j hlt2
  have e3:g=g2:=by injection e2 with e2;injection e2 with e2 e4
  have e4:off=off2:=by injection e2 with e2;injection e2 with e2 e4
  subst e3 e4
  clear e2 af2 d1 d2 d3
  have hgt:decide ((0:Int) < ((j+1:Nat):Int))=true:=decide_eq_true Aaa
  have ej:IntKind.i64.wrap (((j+1:Nat):Int) - 1)=(j:Int):=by rw [IntWalk.i64_in _ ⟨by omega,by omega⟩];omega
  rw [show j+1 - 1=j by omega,getD_at l j hlt2] at hat
  have iT:=Hq hat
  have gG:=Hq (lC (jT l) (j+1))
  clear hat
  generalize l[j+1]=pu at *
  generalize l[j]=pq at *
  obtain⟨q,qm,qf,qs⟩:=pq
  dsimp only at d0
  cases hpo:gJ pu
  .have HO:=Hq (λw1=>og pu false w1 hpo);have HBAD:=Hq (iC hlt (show jT l (j+1)=false by rw [ah iT,hpo];rfl));clear iT gG hpo;obtain⟨pk,pm,pf,ps⟩:=pu;dsimp only at c0 c1 c2 c3;open ahZ in exact Xe
  .have HO:=Hq (λw1=>og pu true w1 hpo);cases hsl:Op.bytesLess q.toList pu.k.toList
   .have HBAD:=Hq (iC hlt (show jT l (j+1)=false by rw [ah iT,hpo];dsimp only;rw [<-Nf,hsl];simp));clear iT gG hpo;obtain⟨pk,pm,pf,ps⟩:=pu;dsimp only at c0 c1 c2 c3 hsl;open ahY in exact Xe
   .have CF:=Hq (show jT l (j+1)=true by rw [ah iT,hpo];dsimp only;rw [<-Nf,hsl];simp);clear iT hpo;obtain⟨pk,pm,pf,ps⟩:=pu;dsimp only at c0 c1 c2 c3 hsl;open ahX in exact Xe):P:=h
theorem arG(h:P:=by
 obtain⟨c0,c1,c2,c3,c4,c5,c6,c7,c8⟩:=nine ou;have cf:=au ou 8;have hnl:=aA ou;obtain⟨i0,hi,hz0,hz1,hz2⟩:=info_parts yg;obtain⟨a8,CV,W8,hrun,Mh,ET,⟨g8,rfl⟩,hc8⟩:=run_copy_row (P:=Tryz.prog) bg Aaa W7 28 97 i0 (.agg (dX 0 ByteArray.empty 0 0)) 40 Tryz.underlying28 hi hz0 hz1 hz2 rfl (some ⟨gv,1*4,none⟩) IT (vc - 1) aaD (iy _) Aah Aaa;rw [hIT,Nat.one_mul] at hrun;have SN:=Hq hrun;have qp:=Hq (ay ou ET);have xG:=Hq (ay lY ET);have aau:=Hq (ay Wh ET);have IE:=Hq (BU.trans (ET.mono BU.size));have HL8:=Hq (LO.own (en:=aM) Mh);have hz7:w.heap.size+3<=W7.heap.size:=by have:=aA Wh;omega
 exact Kr60):P:=h
theorem ajG.Kr60(h:P:=by
 skip
 open apw in exact ac7):P:=h
theorem ajH.Kr60(h:P:=by
 have Vn:=Hq (HP7.below ET);open apv in exact ac7):P:=h
theorem arH(h:P:=by
 open ao0 in exact WQ):P:=h
theorem ajI.Kr61(h:P:=by
 open apa in exact ac4):P:=h
theorem ajJ.Kr61(h:P:=by
 open anK in exact acF):P:=h
theorem Ti(h:P:=by
 have uR:=Hq (show aX w V by rw [hV];exact((Below.refl _ _).alloc (Nat.le_refl _) _).alloc Aac _);have hgV:=cu hblk;obtain⟨p0,p1,p2,p3,p4,p5,p6⟩:=rH hblk;clear hV hblk;exact Kr62):P:=h
theorem ajK.Kr62(h:P:=by
 have cO:∀d os,Calls Tryz.prog 299 #[.agg #[.int .i64 F,.int .i64 T,.int .i64 I]] (Sort.grow (redrawn V d) os) λe w''=>e= .returned (.bool false)/\∃p:Regrown,w''=Sort.grow (redrawn V p.d) p.os:=λd os=>Calls.regrown_of (HO _)
 open ai0 in exact Ls):P:=h
theorem ajL.Kr62(h:P:=by
 have cO:∀d os,Calls Tryz.prog 298 #[.agg #[.int .i64 F,.int .i64 T,.int .i64 I,.int .i64 L,.string k,.int .i64 N]] (Sort.grow (redrawn V d) os) λe w''=>e= .returned (.bool true)/\∃p:Regrown,w''=Sort.grow (redrawn V p.d) p.os:=λd os=>Calls.regrown_of (HO _)
 have cM:∀d os,Calls Tryz.prog 135 #[.iface 156 (.agg #[.int .i64 F,.int .i64 T,.int .i64 I,.int .i64 L,.string k,.int .i64 N])] (Sort.grow (redrawn V d) os) λe w''=>e= .returned (nS ⟨1,F,T,I,L,k,N⟩)/\∃p:Regrown,w''=Sort.grow (redrawn V p.d) p.os:=λd os=>Calls.regrown_of (HM _)
 open ai1 in exact Ls):P:=h
theorem ajM.Kr62(h:P:=by
 have cO:∀d os,Calls Tryz.prog 298 #[.agg #[.int .i64 F,.int .i64 T,.int .i64 I,.int .i64 L,.string k,.int .i64 N]] (Sort.grow (redrawn V d) os) λe w''=>e= .returned (.bool false)/\∃p:Regrown,w''=Sort.grow (redrawn V p.d) p.os:=λd os=>Calls.regrown_of (HO _)
 open ai2 in exact Ls):P:=h
theorem ajN.Kr62(h:P:=by
 have cO:∀d os,Calls Tryz.prog 297 #[.agg #[.int .i64 F,.int .i64 T,.string k,.int .i64 N]] (Sort.grow (redrawn V d) os) λe w''=>e= .returned (.bool false)/\∃p:Regrown,w''=Sort.grow (redrawn V p.d) p.os:=λd os=>Calls.regrown_of (HO _)
 open ai3 in exact Ls):P:=h
theorem ajO.Kr62(h:P:=by
 have cO:∀d os,Calls Tryz.prog 297 #[.agg #[.int .i64 F,.int .i64 T,.string k,.int .i64 N]] (Sort.grow (redrawn V d) os) λe w''=>e= .returned (.bool true)/\∃p:Regrown,w''=Sort.grow (redrawn V p.d) p.os:=λd os=>Calls.regrown_of (HO _)
 have cM:∀d os,Calls Tryz.prog 135 #[.iface 154 (.agg #[.int .i64 F,.int .i64 T,.string k,.int .i64 N])] (Sort.grow (redrawn V d) os) λe w''=>e= .returned (nS ⟨0,F,T,0,0,k,N⟩)/\∃p:Regrown,w''=Sort.grow (redrawn V p.d) p.os:=λd os=>Calls.regrown_of (HM _)
 open ai6 in exact Ls):P:=h
theorem ajP.Kr62(h:P:=by
 have cO:∀d os,Calls Tryz.prog 299 #[.agg #[.int .i64 F,.int .i64 T,.int .i64 I]] (Sort.grow (redrawn V d) os) λe w''=>e= .returned (.bool true)/\∃p:Regrown,w''=Sort.grow (redrawn V p.d) p.os:=λd os=>Calls.regrown_of (HO _)
 have cM:∀d os,Calls Tryz.prog 135 #[.iface 158 (.agg #[.int .i64 F,.int .i64 T,.int .i64 I])] (Sort.grow (redrawn V d) os) λe w''=>e= .returned (nS ⟨2,F,T,I,0,ByteArray.empty,0⟩)/\∃p:Regrown,w''=Sort.grow (redrawn V p.d) p.os:=λd os=>Calls.regrown_of (HM _)
 open ai7 in exact Ls):P:=h
theorem arI(h:P:=by
 have SN:=Hq hrun;clear hrun GX TP T9 jy k9 hn9 Vn HN8 IE HK8;have c5n:=(nine qp).2.2.2.2.2.1;obtain⟨s0,s1,s2,s3⟩:=fQ Wn;have c5w:=(nine vZ).2.2.2.2.2.1;have f5w:=au vZ 5;have hn8:=aA qp;have hs8:=aA Wn;go_upto_region 10 with(at_builtin;refine fZ rfl _ _ 26 rfl _ _ rfl rfl _ _ SN ?_)
 refine wp_at (λZ9 hZ=>?_);have KU:Hid (Z9.heap[w.heap.size]?=some (.cells (fK n.id n.par a_k n.kids.length aJ (n.next+1) av RL.length cv a6 (n.out.length+1) c6 dY n.seen.length aK n.old fU n.reqs.length aP) 30 (0,0))):=by rw [hZ];exact nP vZ
 have afc:Hid (Z9.heap[w.heap.size+1]?=some (.cells gu 30 (0,0))):=by rw [hZ];exact jU kJ Aaa
 exact Kr63):P:=h
theorem ajQ.Kr63(h:P:=by
 have aaC:Hid (Z9.heap[sb]?=some (.cells (eU n.next dst key pf) 95 (0,0))):=by rw [hZ];exact jU Pj Aaa
 have Cb:Hid (∀W' W'',aC [w.heap.size+1] Z9 W'->Out c w W' W''->RM W'' ⟨a_k,av,a6,dY,fU,aJ,cv,c6,aK,aP⟩ ⟨n.id,n.par,n.kids,n.next+1,RL,n.out++[⟨n.next,dst,key,pf⟩],n.seen,n.old,n.reqs⟩):=λW' W'' hk ho=>by
  obtain⟨F,hk2,hF⟩:=ho
  refine gG W'' ⟨w.heap.size::(w.heap.size+1)::F,aC.trans (b:=Z9) (by rw [hZ];exact(aC.set _).mono (λx hx=>Aba)) (aC.trans (hk.mono (λx hx=>Aba)) (hk2.mono (λx hx=>Abb))),λy hy=>?_⟩
  rcases List.mem_cons.1 hy with h1|h1
  .exact .inl (.inl h1)
  .exact aes
 open anx in exact acB):P:=h
theorem ajR.Kr63(h:P:=by
 have aaC:Hid (Z9.heap[sb]?=some (.cells (eU n.next dst key most) 95 (0,0))):=by rw [hZ];exact jU Pj Aaa
 have Cb:Hid (∀W' W'',aC [w.heap.size+1] Z9 W'->Out c w W' W''->RM W'' ⟨a_k,av,a6,dY,fU,aJ,cv,c6,aK,aP⟩ ⟨n.id,n.par,n.kids,n.next+1,RL,n.out++[⟨n.next,dst,key,most⟩],n.seen,n.old,n.reqs⟩):=λW' W'' hk ho=>by
  obtain⟨F,hk2,hF⟩:=ho
  refine gG W'' ⟨w.heap.size::(w.heap.size+1)::F,aC.trans (b:=Z9) (by rw [hZ];exact(aC.set _).mono (λx hx=>Aba)) (aC.trans (hk.mono (λx hx=>Aba)) (hk2.mono (λx hx=>Abb))),λy hy=>?_⟩
  rcases List.mem_cons.1 hy with h1|h1
  .exact .inl (.inl h1)
  .exact aes
 open anw in exact acB):P:=h
theorem Tj(h:P:=by
 have HW1:=Hq (h.step (aj w (.cells (bY K no k nn mK mF mT mI mL mk mN) 34)));have xD:=Hq (heap_alloc_new w (.cells (bY K no k nn mK mF mT mI mL mk mN) 34));exact Kr64):P:=h
theorem ajS.Kr64(h:P:=by
 clear h he hR hz hk hpar;open aov in exact Rp):P:=h
theorem ajT.Kr64(h:P:=by
 clear h hR hpar;obtain⟨c0,c1,c2,c3,c4,c5,c6,c7,c8,c9⟩:=iQ HW1.blk;have hwl:=aA HW.blk;have hne:wb≠w.heap.size:=Aaa
 go_enter Tryz.func107,Tryz.ntmps107
 go_upto_region 1 with fail;have y1:=cell_regrown c1;clear c0 c1 c2 c3 c4 c5 c6 c7 c8 c9;open anJ in exact acF):P:=h
theorem ajU.Kr64(h:P:=by
 have hq2:(n.par == -1)=false:=Abg
 clear h hR hpar;open aou in exact Rp):P:=h
theorem ajV.Kr64(h:P:=by
 have hq2:(n.par == -1)=false:=Abg
 clear h hR hpar;generalize eO n n.par k nn=gv at *;obtain⟨gn,gl,gb⟩:=gv;dsimp only at CG ⊢;open aot in exact Rp):P:=h
theorem ajW.Kr64(h:P:=by
 clear h ho;obtain⟨⟨p0,p1,p2,p3,p4,p5,p6,p7,p8,p9,mP⟩,_⟩:=aU xD;have hpl:=aA xD;go_enter Tryz.func35,Tryz.ntmps35
 go_wp2_with fail;refine(HIO _).mono ?_;rintro e w2 ⟨rfl,hb2⟩;have HW2:=Hq (HW1.step hb2);have yZ:=Hq (ay xD hb2);clear hb2 HW1 xD p0 p1 p2 p3 p4 p5 p6 p7 p8 p9 mP HIO;exact Kr18):P:=h
theorem ajX.Kr64(h:P:=by
 open aos in exact Rp):P:=h
theorem arJ(h:P:=by
 obtain⟨gp,Yf⟩:=hP;obtain⟨gr,hgr⟩:=hR;subst Yf;subst hgr;have SS:=Hq (λW (ha:aH W (some ⟨gp,0,none⟩) n.pu)=>UZ gp 0 bq n.pu k nn W (Nat.le_trans hz.p Aaa) tu hz.pk hkz ha);unfold iH at SS;rw [hu] at SS;have hp:=iM hok;have K7:=Hq (λW1 (ha:iU W1 (some ⟨gr,0,none⟩) n.reqs)=>yP n (⟨a_k,(some ⟨gp,0,none⟩),dR,dY,(some ⟨gr,0,none⟩),aJ,bq,aO,aK,aP⟩:bH) no W1 Aaa hp.1 ha);rw [show qV n.reqs no= -1 by unfold qV;rw [hf];rfl] at K7;have EA:=Hq hp.1;have axB:=hp.2.1;clear hp hok hf hu hkz hz tu;unfold gY;have H9:=Hq h9;clear h9;have jP:=Hq (h.nine hB);clear h;exact Kr65):P:=h
theorem ajY.Kr65(h:P:=by
 open avf in exact ard):P:=h
theorem ajZ.Kr65(h:P:=by
 open avg in exact ard):P:=h
theorem arK(h:P:=by
 have Vm:=Hq (ay xD hbw);have HR3:=Hq (ay HR1 hbw);have Gj:=Hq (ay HO1 hbw);have HB3:=Hq (HB1.trans (hbw.mono HB1.size));clear hW3 hbw c0 c1 c2 c3 c4 c5 c6 c7 c8 d0 d1 d2 d3;obtain⟨c0,c1,c2,c3,c4,c5,c6,c7,c8⟩:=nine Vm;obtain⟨d0,d1,d2,d3⟩:=fQ HR3;obtain⟨r0,r1,r2,r3,r4,r5,r6⟩:=jr Gj;have f0:=au Gj 0;have f1:=au Gj 1;have f2:=au Gj 2;have f3:=au Gj 3;have f4:=au Gj 4;have f5:=au Gj 5;have f6:=au Gj 6;go_wp2_with fail;refine aN (λW' hW'=>?_);exact Kr66):P:=h
theorem aj0.Kr66(h:P:=by
 have hR:=wV (b0:= .int .i64 1) (b1:= .int .i64 id) (b2:= .int .i64 st) (b3:= .int .i64 LO) (b4:= .int .i64 LO) (b5:= .string sx) (b6:= .int .i64 sn) Gj;have hK:=sK (w:=W3) (g:=w.heap.size+1+1) (b0:= .int .i64 1) (b1:= .int .i64 id) (b2:= .int .i64 st) (b3:= .int .i64 LO) (b4:= .int .i64 LO) (b5:= .string sx) (b6:= .int .i64 sn);rw [<-hW'] at hR hK;obtain⟨x0,x1,x2,x3,x4,x5,x6⟩:=jr hR;refine bodyPost_ret (v:= .agg (bJ 1 id st LO LO sx sn)) Adm rfl ⟨rfl,HB3.trans (hK.below (λx hx=>by have:x=w.heap.size+1+1:=Aaf;omega) HB3.size)⟩):P:=h
theorem aj1.Kr66(h:P:=by
 have hR:=wV (b0:= .int .i64 1) (b1:= .int .i64 id) (b2:= .int .i64 st) (b3:= .int .i64 si) (b4:= .int .i64 LO) (b5:= .string sx) (b6:= .int .i64 sn) Gj;have hK:=sK (w:=W3) (g:=w.heap.size+1+1) (b0:= .int .i64 1) (b1:= .int .i64 id) (b2:= .int .i64 st) (b3:= .int .i64 si) (b4:= .int .i64 LO) (b5:= .string sx) (b6:= .int .i64 sn);rw [<-hW'] at hR hK;obtain⟨x0,x1,x2,x3,x4,x5,x6⟩:=jr hR;refine bodyPost_ret (v:= .agg (bJ 1 id st si LO sx sn)) Adm rfl ⟨rfl,HB3.trans (hK.below (λx hx=>by have:x=w.heap.size+1+1:=Aaf;omega) HB3.size)⟩):P:=h
theorem arL(h:P:=by
 go_enter Tryz.func248,Tryz.ntmps248
 go_upto_region 1 with fail;refine Fo.wp_at (λV hV=>?_);have hbV:aX w V:=by rw [hV];exact dM w _
 have hblk:V.heap[w.heap.size]?=some (.cells #[.int .i64 dm,.int .i64 df,.int .i64 ds] 220 (0,0)):=by rw [hV];exact heap_alloc_new w _
 have hlt:=Fo.lt_of_blk hblk;have c0:V.cell? ⟨w.heap.size,0,none⟩=some (.int .i64 dm):=by rw [cell_of_row V _ _ _ _ (0,0) hblk];rfl
 have c1:V.cell? ⟨w.heap.size,1,none⟩=some (.int .i64 df):=by rw [cell_of_row V _ _ _ _ (0,0) hblk];rfl
 have c2:V.cell? ⟨w.heap.size,2,none⟩=some (.int .i64 ds):=by rw [cell_of_row V _ _ _ _ (0,0) hblk];rfl
 have uR:=Hq hbV;clear hblk hV hbV;exact Kr67):P:=h
theorem aj2.Kr67(h:P:=by
 go_cut [9,10] (λp9 mP wx=>∃pb:Nat,p9= .pointer (some ⟨pb,0,none⟩)/\mP= .nilIface/\aX w wx/\wx.heap[pb]?=some (.cells (iL pk qm qf qs) 143 (0,0))/\w.heap.size<=pb)
 case first=>
  have hnV:w.heap.size≠V.heap.size:=Aaa
  have hmV:V.heap.size≠w.heap.size:=Aaa
  go_region_held (λw'=>w'.cell? ⟨w.heap.size,0,none⟩=some (.int .i64 dm)/\w'.cell? ⟨w.heap.size,1,none⟩=some (.int .i64 df)/\w'.cell? ⟨w.heap.size,2,none⟩=some (.int .i64 ds)) (go_keep)
   (first
    |((go_at_call 260);(refine(KH _ (by exact uR.trans (by exact⟨rfl,rfl,rfl,Aac,λk hk=>by first|rfl|exact Below.heap_alloc _ _ _ Aaa⟩))).mono ?_);(rintro e w4 ⟨rfl,hb4⟩);(have hs4:=hb4.size);(simp at hs4);(have pE:=Hq (uR.trans (Below.trans (b:=_) (by exact⟨rfl,rfl,rfl,Aac,λk hk=>by first|rfl|exact Below.heap_alloc _ _ _ Aaa⟩) (hb4.mono (by first|omega|(simp<;>omega))))));(obtain⟨hc4,hf4⟩:=Ar hb4);(have d0:w4.cell? ⟨w.heap.size,0,none⟩=some (.int .i64 dm):=by rw [hc4 _ _ (by first|omega|(simp<;>omega))];first|exact c0|exact(World.cell?_alloc_lt _ _ _ hlt).trans c0);(have d1:w4.cell? ⟨w.heap.size,1,none⟩=some (.int .i64 df):=by rw [hc4 _ _ (by first|omega|(simp<;>omega))];first|exact c1|exact(World.cell?_alloc_lt _ _ _ hlt).trans c1);(have d2:w4.cell? ⟨w.heap.size,2,none⟩=some (.int .i64 ds):=by rw [hc4 _ _ (by first|omega|(simp<;>omega))];first|exact c2|exact(World.cell?_alloc_lt _ _ _ hlt).trans c2);(first|(guard_hyp hs4:V.heap.size+1<=w4.heap.size;obtain⟨⟨z0,z1,z2,z3⟩,x0,x1,x2,x3⟩:=fJ (Fo.one_block (show Below (V.alloc (.cells (iL ⟨#[]⟩ 0 0 0) 143)).heap.size (V.alloc (.cells (iL ⟨#[]⟩ 0 0 0) 143)) w4 from⟨hb4.os,hb4.tape,hb4.output,hb4.size,hb4.block⟩)).1;have ze:V.heap.size < w4.heap.size:=World.block_lt_of_cell? _ _ z0;have HZ:=Hq (Fo.one_block (show Below (V.alloc (.cells (iL ⟨#[]⟩ 0 0 0) 143)).heap.size (V.alloc (.cells (iL ⟨#[]⟩ 0 0 0) 143)) w4 from⟨hb4.os,hb4.tape,hb4.output,hb4.size,hb4.block⟩)).1)|skip);(have P8:w.heap.size < w4.heap.size:=by omega);(have hn4:w.heap.size≠w4.heap.size:=by omega);(have hm4:w4.heap.size≠w.heap.size:=by omega);(clear hb4 hc4 hf4))
    |((go_at_call 261);(refine(HSH _ (by exact pE.trans (by exact⟨rfl,rfl,rfl,Aac,λk hk=>by first|rfl|exact Below.heap_alloc _ _ _ Aaa⟩))).mono ?_);(rintro e w5 ⟨rfl,hb5⟩);(have hs5:=hb5.size);(try simp at hs5);(have jW:=Hq (pE.trans (Below.trans (b:=_) (by exact⟨rfl,rfl,rfl,Aac,λk hk=>by first|rfl|exact Below.heap_alloc _ _ _ Aaa⟩) (hb5.mono (by first|omega|(simp<;>omega))))));(obtain⟨Ci,TM⟩:=Ar hb5);(have e0:w5.cell? ⟨w.heap.size,0,none⟩=some (.int .i64 dm):=by rw [Ci _ _ (by first|omega|(simp<;>omega))];first|exact d0|exact(World.cell?_alloc_lt _ _ _ P8).trans d0);(have e1:w5.cell? ⟨w.heap.size,1,none⟩=some (.int .i64 df):=by rw [Ci _ _ (by first|omega|(simp<;>omega))];first|exact d1|exact(World.cell?_alloc_lt _ _ _ P8).trans d1);(have e2:w5.cell? ⟨w.heap.size,2,none⟩=some (.int .i64 ds):=by rw [Ci _ _ (by first|omega|(simp<;>omega))];first|exact d2|exact(World.cell?_alloc_lt _ _ _ P8).trans d2);(first|(guard_hyp ze:V.heap.size < w4.heap.size;have HY:=Hq ((hb5.block _ ze).trans HZ);have y0:=(Ci _ 0 ze).trans z0;have y1:=(Ci _ 1 ze).trans z1;have y2:=(Ci _ 2 ze).trans z2;have y3:=(Ci _ 3 ze).trans z3;have v0:=(TM _ 0 ze).trans x0;have v1:=(TM _ 1 ze).trans x1;have v2:=(TM _ 2 ze).trans x2;have v3:=(TM _ 3 ze).trans x3)|(guard_hyp hs5:w4.heap.size+1<=w5.heap.size;have HY:=Hq (Fo.one_block hb5).1;obtain⟨⟨y0,y1,y2,y3⟩,v0,v1,v2,v3⟩:=fJ (Fo.one_block hb5).1)|skip);(have awt:w.heap.size < w5.heap.size:=by omega);(have hn5:w.heap.size≠w5.heap.size:=by omega);(have hm5:w5.heap.size≠w.heap.size:=by omega);(clear hb5 Ci TM)))
  all_goals
   go_wp2_with fail
   go_meet
   case rel=>
    first
     |exact⟨_,rfl,rfl,Fo.four_below jW Aaa,Fo.four_set HY,Aaa⟩
     |exact⟨_,rfl,rfl,jW.alloc jW.size _,heap_alloc_new w5 _,Aaa⟩
 case rest=>
  obtain⟨pb,rfl,rfl,hbx,hpb,hge⟩:=hcut;obtain⟨⟨p0,p1,p2,p3⟩,_⟩:=fJ hpb;have agI:=Hq (aad _ hbx);have kE:=Hq hbx;have IU:=Hq hpb;have awv:=Fo.lt_of_blk hpb
  have HNE:=Hq (show pb≠mp/\v.ownBlock≠some pb from⟨λe=>by
   have:=(Vo _ hbx).blk
   rw [<-e,hpb] at this
   injection this with this
   injection this with h1 h2 h3
   exact absurd h2 Aae,own_ne (Vo _ hbx).row hpb Aae⟩)
  clear hbx hpb aad KH HSH uR c0 c1 c2 hlt;go_wp2_with fail;refine agI.mono ?_;rintro e w6 ⟨hb6,atn,hcase⟩;have vI:=Hq (Below.trans (kE.mono hB) hb6);have af9:=(atn pb awv HNE.1 HNE.2).trans IU;clear atn hb6 p0 p1 p2 p3 agI;rcases hcase with⟨hf,rfl,zO⟩|⟨hf,h20,rfl⟩|⟨hf,h20,rfl,v',zO⟩
  .rw [ah rG hf] at zO;open alj in exact ar0
  .have HF:=Hq hf;have H20:=Hq h20;clear hf h20 af9;go_wp2_with fail;go_ret;exact⟨vI,.inl ⟨HF,H20,rfl⟩⟩
  .rw [ah HKN hf] at zO;open ali in exact ar0):P:=h
theorem aj3.Kr67(h:P:=by
 have hnV:w.heap.size≠V.heap.size:=Aaa
 have hmV:V.heap.size≠w.heap.size:=Aaa
 go_region_held (λw'=>w'.cell? ⟨w.heap.size,0,none⟩=some (.int .i64 dm)/\w'.cell? ⟨w.heap.size,1,none⟩=some (.int .i64 df)/\w'.cell? ⟨w.heap.size,2,none⟩=some (.int .i64 ds)) (go_keep)
  (first
   |((go_at_call 260);(refine(KH _ (by exact uR.trans (by exact⟨rfl,rfl,rfl,Aac,λk hk=>by first|rfl|exact Below.heap_alloc _ _ _ Aaa⟩))).mono ?_);(rintro e w4 ⟨rfl,hb4⟩);(have hs4:=hb4.size);(simp at hs4);(have pE:=Hq (uR.trans (Below.trans (b:=_) (by exact⟨rfl,rfl,rfl,Aac,λk hk=>by first|rfl|exact Below.heap_alloc _ _ _ Aaa⟩) (hb4.mono (by first|omega|(simp<;>omega))))));(obtain⟨hc4,hf4⟩:=Ar hb4);(have d0:w4.cell? ⟨w.heap.size,0,none⟩=some (.int .i64 dm):=by rw [hc4 _ _ (by first|omega|(simp<;>omega))];first|exact c0|exact(World.cell?_alloc_lt _ _ _ hlt).trans c0);(have d1:w4.cell? ⟨w.heap.size,1,none⟩=some (.int .i64 df):=by rw [hc4 _ _ (by first|omega|(simp<;>omega))];first|exact c1|exact(World.cell?_alloc_lt _ _ _ hlt).trans c1);(have d2:w4.cell? ⟨w.heap.size,2,none⟩=some (.int .i64 ds):=by rw [hc4 _ _ (by first|omega|(simp<;>omega))];first|exact c2|exact(World.cell?_alloc_lt _ _ _ hlt).trans c2);(first|(guard_hyp hs4:V.heap.size+1<=w4.heap.size;obtain⟨⟨z0,z1,z2,z3⟩,x0,x1,x2,x3⟩:=fJ (Fo.one_block (show Below (V.alloc (.cells (iL ⟨#[]⟩ 0 0 0) 143)).heap.size (V.alloc (.cells (iL ⟨#[]⟩ 0 0 0) 143)) w4 from⟨hb4.os,hb4.tape,hb4.output,hb4.size,hb4.block⟩)).1;have ze:V.heap.size < w4.heap.size:=World.block_lt_of_cell? _ _ z0)|skip);(have P8:w.heap.size < w4.heap.size:=by omega);(have hn4:w.heap.size≠w4.heap.size:=by omega);(have hm4:w4.heap.size≠w.heap.size:=by omega);(clear hb4 hc4 hf4))
   |((go_at_call 261);(refine(HSH _ (by exact pE.trans (by exact⟨rfl,rfl,rfl,Aac,λk hk=>by first|rfl|exact Below.heap_alloc _ _ _ Aaa⟩))).mono ?_);(rintro e w5 ⟨ix,hix,rfl,hb5⟩);(have hs5:=hb5.size);(try simp at hs5);(have jW:=Hq (pE.trans (Below.trans (b:=_) (by exact⟨rfl,rfl,rfl,Aac,λk hk=>by first|rfl|exact Below.heap_alloc _ _ _ Aaa⟩) (hb5.mono (by first|omega|(simp<;>omega))))));(obtain⟨Ci,TM⟩:=Ar hb5);(have e0:w5.cell? ⟨w.heap.size,0,none⟩=some (.int .i64 dm):=by rw [Ci _ _ (by first|omega|(simp<;>omega))];first|exact d0|exact(World.cell?_alloc_lt _ _ _ P8).trans d0);(have e1:w5.cell? ⟨w.heap.size,1,none⟩=some (.int .i64 df):=by rw [Ci _ _ (by first|omega|(simp<;>omega))];first|exact d1|exact(World.cell?_alloc_lt _ _ _ P8).trans d1);(have e2:w5.cell? ⟨w.heap.size,2,none⟩=some (.int .i64 ds):=by rw [Ci _ _ (by first|omega|(simp<;>omega))];first|exact d2|exact(World.cell?_alloc_lt _ _ _ P8).trans d2);(first|(guard_hyp ze:V.heap.size < w4.heap.size;have y0:=(Ci _ 0 ze).trans z0;have y1:=(Ci _ 1 ze).trans z1;have y2:=(Ci _ 2 ze).trans z2;have y3:=(Ci _ 3 ze).trans z3;have v0:=(TM _ 0 ze).trans x0;have v1:=(TM _ 1 ze).trans x1;have v2:=(TM _ 2 ze).trans x2;have v3:=(TM _ 3 ze).trans x3)|(guard_hyp hs5:w4.heap.size+1<=w5.heap.size;obtain⟨⟨y0,y1,y2,y3⟩,v0,v1,v2,v3⟩:=fJ (Fo.one_block hb5).1)|skip);(have awt:w.heap.size < w5.heap.size:=by omega);(have hn5:w.heap.size≠w5.heap.size:=by omega);(have hm5:w5.heap.size≠w.heap.size:=by omega);(clear hb5 Ci TM)))
 all_goals
  go_wp2_with fail
  go_ret
  refine⟨ix,hix,rfl,?_⟩
  first|exact jW.alloc jW.size _|exact Fo.four_below jW Aaa):P:=h
theorem afm(h:P:=by
 refine wp_region_quiet_below Aab Aab ?_;repeat (first|go_big_quiet_step (first|exact cO _ _|exact cM _ _)|quiet_step (first|exact cO _ _|exact cM _ _))
 refine wpQuiet_nil ?_;intro _ hw';obtain⟨⟨dq,osq⟩,hw''⟩:=hw';subst hw'';have lT:=Hq (uR.trans ((below_regrown _ dq osq).mono uR.size));clear cO cM y0 y1 y2 y3 y4 y5 y6;exact Kr68):P:=h
theorem aj4.Kr68(h:P:=by
 exact Kr6):P:=h
theorem aj5.Kr68(h:P:=by
 exact Kr11):P:=h
theorem aj6.Kr68(h:P:=by
 go_wp2_with fail;exact bodyPost_ret (v:= .tuple #[uZ ⟨1,F,T,I,L,k,N⟩,.bool true]) Aay rfl ⟨Aau,lT⟩):P:=h
theorem arM(h:P:=by
 rw [<-hW] at e1 e2 e3 e4;have HN:=Hq e1;have HM:=Hq e2;have HR:=Hq e3;have HB0:=Hq e4;have Kt:=Hq (jP.kc (k:=9) (KC.of_below e4) Aaa);clear hW e1 e2 e3 e4 jP;obtain⟨m0,m1,m2,m3,m4,m5,m6⟩:=jr HM;have hml:=aA HM;have hnl:=aA HN;go_wp2_with fail;refine(VR W0).mono ?_;rintro e W1 ⟨rfl,hb1⟩;have jZ:=Hq (ay HN hb1);have KO:=Hq (ay HM hb1);have ow:=Hq (ay HR hb1);have HB1:=Hq (HB0.trans (hb1.mono HB0.size));have xq:=Hq (Kt.kc (k:=9) (KC.of_below hb1) Aaa);clear hb1 HM HR HN HB0 Kt;clear m0 m1 m2 m3 m4 m5 m6 hml hnl VR;obtain⟨m0,m1,m2,m3,m4,m5,m6⟩:=jr KO;exact Kr69):P:=h
theorem aj7.Kr69(h:P:=by
 have hml:=aA KO;have tO:=Hq (ay ow (aj W1 (.cells #[] 32)));have Vl:=Hq (xq.kc (k:=9) (KC.of_below (aj W1 (.cells #[] 32))) Aaa);have tZ:=Hq (HB1.trans ((aj W1 (.cells #[] 32)).mono HB1.size));obtain⟨c0,c1,c2,c3,c4,c5,c6,c7,c8⟩:=nine jZ;open aii in exact Tg):P:=h
theorem aj8.Kr69(h:P:=by
 obtain⟨c0,c1,c2,c3,c4,c5,c6,c7,c8⟩:=nine jZ;have hml:=aA KO;have hnl:=aA jZ;go_wp2_with fail;refine(OY W1 xq.at.k).mono ?_;rintro e W2 ⟨rfl,hb2⟩;have jE:=Hq (ay jZ hb2);have xB:=Hq (ay KO hb2);have jk:=Hq (ay ow hb2);have HB2:=Hq (HB1.trans (hb2.mono HB1.size));have KP:=Hq (xq.kc (k:=9) (KC.of_below hb2) Aaa);clear hb2 KO ow jZ HB1 xq;clear m0 m1 m2 m3 m4 m5 m6 c0 c1 c2 c3 c4 c5 c6 c7 c8 hml hnl OY;obtain⟨m0,m1,m2,m3,m4,m5,m6⟩:=jr xB;exact Kr3):P:=h
theorem aaK(h:P:=by
 refine uQ 3 Aab ?_;show jv _ _ _ _ _ 5 (Array.replicate 5 false) _ _
 refine tk [0] ?_;(refine tkF (λK hK=>?_);go_simp;refine hK _ ?_;clear hK K)
 refine iN ?_;clear y0 y1 y2 y3 y4 y5 y6 y7 y8;exact Kr70):P:=h
theorem aj9.Kr70(h:P:=by
 refine jd 1 rfl rfl Aab Aad Aad Aae (λx hx=>?_) (λx hx=>?_)
 .go_simp;refine⟨Below.refl _ _,?_⟩;refine jd 2 rfl rfl Aab Aad Aad Aae (λx2 hx2=>?_) (λx2 hx2=>?_)
  .have O7:=(fQ (ay IV (Ge.trans hx hx2))).2.2.2;open amV in exact Rk
  .have hg3:=Ge.trans hx hx2;have O7:=(fQ (ay IV hg3)).2.2.2;have uS:=Hq (ay kJ hg3);open auG in exact Vu
 .have O7:=(fQ (ay IV hx)).2.2.2;have uS:=Hq (ay kJ hx);open auF in exact Vu):P:=h
theorem akb.Kr70(h:P:=by
 refine jd 1 rfl rfl Aab Aad Aad Aae (λx hx=>?_) (λx hx=>?_)
 .go_simp;refine⟨Below.refl _ _,?_⟩;refine jd 2 rfl rfl Aab Aad Aad Aae (λx2 hx2=>?_) (λx2 hx2=>?_)
  .have O7:=(fQ (ay Bu (Ge.trans hx hx2))).2.2.2;open amU in exact Rk
  .have hg3:=Ge.trans hx hx2;have O7:=(fQ (ay Bu hg3)).2.2.2;have uS:=Hq (ay jl hg3);open auD in exact Vu
 .have O7:=(fQ (ay Bu hx)).2.2.2;have uS:=Hq (ay jl hx);open auC in exact Vu):P:=h
theorem akc.Kr70(h:P:=by
 refine jd 1 rfl rfl Aab Aad Aad Aae (λx hx=>?_) (λx hx=>?_)
 .go_simp;refine⟨Below.refl _ _,?_⟩;refine jd 2 rfl rfl Aab Aad Aad Aae (λx2 hx2=>?_) (λx2 hx2=>?_)
  .have O7:=(fQ (ay IV (Ge.trans hx hx2))).2.2.2;open amT in exact Rk
  .have hg3:=Ge.trans hx hx2;have O7:=(fQ (ay IV hg3)).2.2.2;have uS:=Hq (ay kJ hg3);open auM in exact Vu
 .have O7:=(fQ (ay IV hx)).2.2.2;have uS:=Hq (ay kJ hx);open auL in exact Vu):P:=h
theorem akd.Kr70(h:P:=by
 refine jd 1 rfl rfl Aab Aad Aad Aae (λx hx=>?_) (λx hx=>?_)
 .go_simp;refine⟨Below.refl _ _,?_⟩;refine jd 2 rfl rfl Aab Aad Aad Aae (λx2 hx2=>?_) (λx2 hx2=>?_)
  .have O7:=(fQ (ay Bu (Ge.trans hx hx2))).2.2.2;open amS in exact Rk
  .have hg3:=Ge.trans hx hx2;have O7:=(fQ (ay Bu hg3)).2.2.2;have uS:=Hq (ay jl hg3);open auJ in exact Vu
 .have O7:=(fQ (ay Bu hx)).2.2.2;have uS:=Hq (ay jl hx);open auI in exact Vu):P:=h
end Go.Proofs.YtacgbldlonoaaaaGreatDoor
