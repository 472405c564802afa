/-
  Parts of proofs that stand more than once, each said once.
-/
import Derived.Test.YtfmdndhliinhpaaGreatDoorRaZ4
namespace Go.Proofs.YtfmdndhliinhpaaGreatDoor
set_option maxRecDepth 100000
variable{P:Prop}
theorem alV.Ka142(h:P:=by
 rw [hgd] at hs;open anO in exact Tk):P:=h
theorem aal(h:P:=by
 clear HR;clear ho hk hn;go_enter Tryz.func44,Tryz.ntmps44
 go_wp2_with (first|(go_at_call_of 40 no;refine(HO _).mono ?_;rintro e w1 ⟨rfl,rfl⟩)|(go_at_call_of 71 k;refine(HK _).mono ?_;rintro e w1 ⟨rfl,rfl⟩)|(go_at_call_of 40 n;refine(HN _).mono ?_;rintro e w1 ⟨rfl,rfl⟩))
 exact Ka143):P:=h
theorem alW.Ka143(h:P:=by
 go_region
 go_upto_region 23 with fail;open amV in exact OA):P:=h
theorem alX.Ka143(h:P:=by
 go_ret;exact⟨aD (by rw [ah HP];simp),by first|exact iT w _ _|exact Below.setNew (iT w _ _) (by omega)⟩):P:=h
theorem Ow(h:P:=by
 have acN:=hide (au xX hbx);have EU:=hide (rF.trans (hbx.mono rF.size));exact Ka144):P:=h
theorem alY.Ka144(h:P:=by
 have HI2:=hide (GR.At.below HI1 hbx);clear hbx d0 d1 d2 c0 c1 c2 c3 c4 c5 c6 c7 c8 k0 k1 k2 k3 k4 k5 k6 k7 k8 m0 m1 m2 HW1 xX rF HI1 zM HKI;cases hbv:bb
 case' true=>
  have HP:Hid (TT=false):=ah HBAD (by
   rw [ah fP]
   have h:=ah eP
   rw [hbv] at h
   unfold rM
   dsimp only
   cases h1:NN fr<;>cases h2:pv<;>cases h3:eU lo<;>cases h4:decide (ids.length≤40)<;>simp_all)
  clear HBAD fP eP
  subst hbv
  go_wp2_with fail
  go_ret
  exact⟨aD HP.symm,EU⟩
 have HGD:Hid (gH PP RR (seen.take (k+1))=gH (xU lo) gU ids):=by
  rw [ah fP];have h:=ah eP;rw [hbv] at h;unfold rM;dsimp only;cases h1:NN fr<;>cases h2:pv<;>cases h3:eU lo<;>cases h4:decide (ids.length≤40)<;>simp_all
 subst hbv;clear fP eP;obtain⟨d0,d1,d2⟩:=three HW2;have av8:=ah zJ;go_wp2_with fail;go_loopw [6] (fun i wr2=>∃m:Nat,m≤ids.length∧i= .int .i64 m∧gH (xU lo) gU (ids.take m)=true∧Below wc.heap.size wc wr2) (fun i _=>ids.length - (intOf i).toNat)
 case atStart=>exact Ua
 case round=>
  obtain⟨m,hm,rfl,hall,hbx⟩:=hrel;have kR:=hide hbx;have aeQ:=hide hall;have HW3:=hide (au HW2 hbx);obtain⟨d0,d1,d2⟩:=three HW3;clear hall;by_cases hlm:m < ids.length
  case' neg=>
   have hke:m=ids.length:=by omega
   subst hke
   have hnlt:decide ((ids.length:Int) < (ids.length:Int))=false:=by simp
   have HF:Hid (gH PP RR (seen.take (k+1))=true):=by
    have h:=ah aeQ;rw [List.take_length] at h;exact HGD.trans h
   have Xb:=hide (au acN hbx)
   have HL9:=hide (EU.trans (hbx.mono EU.size))
   clear hbx
   go_wp2_with fail
   go_roundw
   case rel=>exact⟨k+1,by omega,by go_num,HF,Xb,HL9⟩
   case measure=>simp[intOf];omega
  have Y7:Hid (gH (xU lo) gU (ids.take (m+1))=false→TT=false):=fun h=>HBAD (HGD.trans (mY _ _ _ _ h))
  have HL9:=hide (EU.trans (hbx.mono EU.size));have Ux:=GR.At.below HI2 hbx;clear hbx;cases m with
  |zero=>
   obtain⟨g2,off2,rfl,hg2,q0⟩:=dM.one Ux 0 hlm
   rw [Nat.add_zero] at q0
   have hgt:decide ((0:Int) < ((0:Nat):Int))=false:=rfl
   have fP:Hid (gH (xU lo) gU (ids.take (0+1))=xU lo ids[0]):=oN (xU lo) gU ids hlm
   clear Ux
   generalize ids[0]=x at *
   cases h1:decide (lo≤x∧x≤1000000000)
   case' false=>
    have HV:=hide (Y7 (by rw [ah fP];simp[xU,h1]))
    clear fP Y7
    go_wp2_with fail
    refine wp_region_quiet_lit (by kernel_rfl) (by kernel_rfl) ?_
    repeat (first|go_big_quiet_step ((first|(go_at_call 23;exact WX _ _ _ _ h1 _ _)))|quiet_step ((first|(go_at_call 23;exact WX _ _ _ _ h1 _ _))))
    refine wpQuiet_nil ?_
    intro _ hw'
    obtain⟨nq,hw''⟩:=hw'
    subst hw''
    go_wp2_with fail
    go_ret
    exact⟨aD HV.symm,HL9.trans ⟨rfl,rfl,rfl,Nat.le_refl _,fun _ _=>rfl⟩⟩
   have HV:=hide (show gH (xU lo) gU (ids.take (0+1))=true by rw [ah fP];simp[xU,h1])
   clear fP Y7
   go_wp2_with fail
   refine wp_region_quiet_lit (by kernel_rfl) (by kernel_rfl) ?_
   repeat (first|go_big_quiet_step ((first|(go_at_call 23;exact WX _ _ _ _ h1 _ _)))|quiet_step ((first|(go_at_call 23;exact WX _ _ _ _ h1 _ _))))
   refine wpQuiet_nil ?_
   intro _ hw'
   obtain⟨nq,hw''⟩:=hw'
   subst hw''
   go_wp2_with fail
   go_roundw
   case rel=>exact⟨0+1,by omega,by go_num,HV,kR.trans ⟨rfl,rfl,rfl,Nat.le_refl _,fun _ _=>rfl⟩⟩
   case measure=>simp[intOf];omega
  |succ j=>
   obtain⟨g2,off2,e1,hg2,q0⟩:=dM.one Ux (j+1) hlm
   obtain⟨g3,awz,e2,hg3,q1⟩:=dM.one Ux j (by omega)
   rw [e1] at e2
   injection e2 with e2
   injection e2 with e2 e3
   subst e2 e3 e1
   have hgt:decide ((0:Int) < ((j+1:Nat):Int))=true:=decide_eq_true (by omega)
   have fP:Hid (gH (xU lo) gU (ids.take (j+1+1))=(xU lo ids[j+1]&&gU ids[j] ids[j+1])):=by
    have h:=rU (xU lo) gU ids j hlm;rw [ah aeQ] at h;exact h
   clear Ux
   generalize ids[j]=y at *
   generalize ids[j+1]=x at *
   cases h1:decide (lo≤x∧x≤1000000000)
   case' false=>
    have HV:=hide (Y7 (by rw [ah fP];simp[xU,h1]))
    clear fP Y7
    go_wp2_with fail
    refine wp_region_quiet_lit (by kernel_rfl) (by kernel_rfl) ?_
    repeat (first|go_big_quiet_step ((first|(go_at_call 23;exact WX _ _ _ _ h1 _ _)))|quiet_step ((first|(go_at_call 23;exact WX _ _ _ _ h1 _ _))))
    refine wpQuiet_nil ?_
    intro _ hw'
    obtain⟨nq,hw''⟩:=hw'
    subst hw''
    go_wp2_with fail
    go_ret
    exact⟨aD HV.symm,HL9.trans ⟨rfl,rfl,rfl,Nat.le_refl _,fun _ _=>rfl⟩⟩
   by_cases h2:y < x
   case' neg=>
    have hy:decide (x≤y)=true:=decide_eq_true (by omega)
    have HV:=hide (Y7 (by rw [ah fP];simp[gU,h2]))
    clear fP Y7
    go_wp2_with fail
    refine wp_region_quiet_lit (by kernel_rfl) (by kernel_rfl) ?_
    repeat (first|go_big_quiet_step ((first|(go_at_call 23;exact WX _ _ _ _ h1 _ _)))|quiet_step ((first|(go_at_call 23;exact WX _ _ _ _ h1 _ _))))
    refine wpQuiet_nil ?_
    intro _ hw'
    obtain⟨nq,hw''⟩:=hw'
    subst hw''
    go_wp2_with fail
    go_ret
    exact⟨aD HV.symm,HL9.trans ⟨rfl,rfl,rfl,Nat.le_refl _,fun _ _=>rfl⟩⟩
   have hy:decide (x≤y)=false:=decide_eq_false (by omega)
   have HV:=hide (show gH (xU lo) gU (ids.take (j+1+1))=true by rw [ah fP];simp[xU,h1,gU,h2])
   clear fP Y7
   go_wp2_with fail
   refine wp_region_quiet_lit (by kernel_rfl) (by kernel_rfl) ?_
   repeat (first|go_big_quiet_step ((first|(go_at_call 23;exact WX _ _ _ _ h1 _ _)))|quiet_step ((first|(go_at_call 23;exact WX _ _ _ _ h1 _ _))))
   refine wpQuiet_nil ?_
   intro _ hw'
   obtain⟨nq,hw''⟩:=hw'
   subst hw''
   go_wp2_with fail
   go_roundw
   case rel=>exact⟨j+1+1,by omega,by go_num,HV,kR.trans ⟨rfl,rfl,rfl,Nat.le_refl _,fun _ _=>rfl⟩⟩
   case measure=>simp[intOf];omega):P:=h
theorem alZ.Ka144(h:P:=by
 clear hbx d0 d1 d2 d3 c0 c1 c2 c3 c4 c5 c6 c7 c8 k0 k1 k2 k3 k4 k5 k6 k7 k8 m0 m1 m2 m3 HW1 xX rF zM
 have xS:=hide (show gH RQ RR (reqs.take (k+1))= !bb by
  rw [ah fP,←ah eP,ah mg]
  simp only[Bool.not_not])
 cases hbv:bb
 ·have HG:Hid (gH RQ RR (reqs.take (k+1))=true):=by rw [ah xS,hbv];exact hide rfl
  exact ark
 ·exact ard):P:=h
theorem al0.Ka144(h:P:=by
 clear hbx d0 d1 d2 d3 c0 c1 c2 c3 c4 c5 c6 c7 c8 k0 k1 k2 k3 k4 k5 k6 k7 k8 m0 m1 m2 m3 HW1 xX rF zM
 have xS:=hide (show gH OT RO (out.take (k+1))= !bb by
  rw [ah fP,←ah eP,ah mg]
  simp only[Bool.not_not])
 cases hbv:bb
 ·have HG:Hid (gH OT RO (out.take (k+1))=true):=by rw [ah xS,hbv];exact hide rfl
  exact ark
 ·exact ard):P:=h
theorem al1.Ka144(h:P:=by
 have HW2:=hide (au HW1 hbx);clear hbx d0 d1 d2 d3 c0 c1 c2 c3 c4 c5 c6 c7 c8 HW1 xX rF eP;obtain⟨d0,d1,d2,d3⟩:=fC HW2;cases hbv:bb
 ·have HG:=hide (show gH KB RR (out.take (k+1))=true by rw [ah xS,hbv];rfl);subst hbv;clear HBAD xS;go_wp2_with fail;go_roundw
  case rel=>exact⟨k+1,si,by omega,by go_num,rfl,Ae.symm,HG,acN,EU⟩
  case measure=>simp[intOf];omega
 ·have HP:=hide (HBAD (by rw [ah xS,hbv];rfl));subst hbv;clear HBAD xS;go_wp2_with fail;go_ret;exact⟨aD HP.symm,EU⟩):P:=h
theorem aam(h:P:=by
 rw [hL1] at Ew;subst Ew;clear Qg Mx Bq Va;refine gW 13 rfl (by kernel_rfl) (by rfl) (by decide) (fun x5 hx5=>?_);have H7:=hide (Ry.trans (hx5.mono Ry.size));have Js:wc.heap.size≤x5.heap.size:=H7.size;have IG:=hide (GR.own_below LK hx5);have Io:=hide (au Xy hx5);clear hx5;exact Ka145):P:=h
theorem al2.Ka145(h:P:=by
 obtain⟨v5,y5,FQ,CV,zO,Qi⟩:=eH aY (by omega) x5 wc.heap.size 28 28 43 i0 (.agg #[.int .i64 0,.string ByteArray.empty,.int .i64 0,.int .i64 0]) 40 Tryz.underlying28 hi hz0 hz1 hz2 rfl (.slice avO (pos+1) cvO) (pos+1) (GR.flat aJ (n.reqs.take pos++[(⟨no,k,nn,1⟩:Rq)])) IG AD (n.reqs.drop pos) (aT - pos) (GR.At.below HDR H7) (gQ _) (by unfold maxLen;omega) (by omega) Js;open amw in exact aaw):P:=h
theorem al3.Ka145(h:P:=by
 obtain⟨v5,y5,FQ,CV,zO,Qi⟩:=eH aY (by omega) x5 wc.heap.size 28 28 43 i0 (.agg #[.int .i64 0,.string ByteArray.empty,.int .i64 0,.int .i64 0]) 40 Tryz.underlying28 hi hz0 hz1 hz2 rfl (.slice avO (pos+1) cvO) (pos+1) (GR.flat aJ (n.reqs.take pos++[(⟨no,k,nn,0⟩:Rq)])) IG AD (n.reqs.drop pos) (aT - pos) (GR.At.below HDR H7) (gQ _) (by unfold maxLen;omega) (by omega) Js;open amv in exact aaw):P:=h
theorem Oz(h:P:=by
 have hlo:=h.o.lt;have l7:=hide (h.nine hB);clear h;go_enter Tryz.func61,Tryz.ntmps61
 go_upto_region 1 with fail;refine wp_at (fun W0 hW=>?_);exact Ka146):P:=h
theorem al4.Ka146(h:P:=by
 obtain⟨e1,e2,e3⟩:=jL w (.cells (fO n A) 30) (.cells iV 30);open ag2 in exact adf):P:=h
theorem al5.Ka146(h:P:=by
 obtain⟨e1,e2,e3⟩:=jL w (.cells (fO n A) 30) (.cells iV 30);open anM in exact aaP):P:=h
theorem al6.Ka146(h:P:=by
 obtain⟨e1,e2,e3⟩:=jL w (.cells (fO n (⟨a_k,(some ⟨gp,0,none⟩),dP,dS,fA,aK,bq,aO,aL,aT⟩:bQ)) 30) (.cells iV 30);open ag3 in exact adf):P:=h
theorem al7.Ka146(h:P:=by
 obtain⟨e1,e2,e3⟩:=jL w (.cells (fO n (⟨a_k,iH,dP,dS,fA,aK,bq,aO,aL,aT⟩:bQ)) 30) (.cells iV 30);open ag4 in exact adf):P:=h
theorem aan(h:P:=by
 have tZ:Hid (Below B w Z9):=by rw [hZ];exact Xb.setCell (p:=⟨w.heap.size,5,none⟩) hB _
 have HKZ:Hid (Apart c w Z9):=by rw [hZ];exact HK9.keeps Xb.size (aC.set _) (fun y hy=>by have:y=w.heap.size:=(by simpa using hy);omega)
 clear hZ HK9 fP Pv uJ jV LJ Xb c5n s0 s1 s2 s3 c5w f5w hn8 hs8 oC vQ Sd hZ8;exact Ka147):P:=h
theorem al8.Ka147(h:P:=by
 have HNV:Hid (fU ⟨n.id,n.par,n.kids,n.next+1,RL,n.out++[⟨n.next,dst,key,most⟩],n.seen,n.old,n.reqs⟩ ⟨a_k,av,a6,dS,fA,aK,cv,c6,aL,aT⟩= .agg #[.int .i64 n.id,.int .i64 n.par,.slice a_k n.kids.length aK,.int .i64 (n.next+1),.slice av RL.length cv,.slice a6 (n.out.length+1) c6,.slice dS n.seen.length aL,.int .i64 n.old,.slice fA n.reqs.length aT]):=by unfold Hid;simp[fU,fO]
 have AO:Hid (∀x,Ge Z9 x→Calls Tryz.prog 96 #[.agg #[.int .i64 n.id,.int .i64 n.par,.slice a_k n.kids.length aK,.int .i64 (n.next+1),.slice av RL.length cv,.slice a6 (n.out.length+1) c6,.slice dS n.seen.length aL,.int .i64 n.old,.slice fA n.reqs.length aT],.agg #[.int .i64 n.next,.int .i64 dst,.string key,.int .i64 most]] x fun e w'=>e= .returned (qd PM)∧Below x.heap.size x w'):=fun x hx=>by
  have h1:=GN ⟨n.id,n.par,n.kids,n.next+1,RL,n.out++[⟨n.next,dst,key,most⟩],n.seen,n.old,n.reqs⟩ ⟨a_k,av,a6,dS,fA,aK,cv,c6,aL,aT⟩ ⟨n.next,dst,key,most⟩ x (by simp;omega) (GR.At.below (Cz Z9 Z9 (aC.refl _ _) Out.refl).at.o hx)
  rw [ah Ra,ah HNV] at h1
  exact h1
 obtain⟨qK,qF,qT,qI,qL,qk,qN⟩:=PM;unfold qd at AO
 have zI:Hid (∀W' mb,aC [w.heap.size+1] Z9 W'→W'.heap[mb]?=some (.cells #[.int .i64 qK,.int .i64 qF,.int .i64 qT,.int .i64 qI,.int .i64 qL,.string qk,.int .i64 qN] 32 (0,0))→w.heap.size≤mb→(∀W'',Out c w W' W''→RM W'' ⟨a_k,av,a6,dS,fA,aK,cv,c6,aL,aT⟩ ⟨n.id,n.par,n.kids,n.next+1,RL,n.out++[⟨n.next,dst,key,most⟩],n.seen,n.old,n.reqs⟩)∧(∀W'',Out c w W' W''→GR.At je 7 W'' (some ⟨mb,0,none⟩) [⟨qK,qF,qT,qI,qL,qk,qN⟩])∧Below B w W'∧Apart c w W'):=fun W' mb hk hm hmb=>by
  refine⟨fun W'' ho=>Cz W' W'' hk ho,fun W'' ho i hi=>?_,tZ.trans (hk.below (fun x hx=>by have:x=w.heap.size+1:=(by simpa using hx);omega) (Nat.le_trans hB tZ.size)),HKZ.keeps tZ.size hk (fun x hx=>by have:x=w.heap.size+1:=(by simpa using hx);omega)⟩
  obtain⟨F,hk2,hF⟩:=ho
  have hm2:=hk2.obj hm (fun hx=>by have:=(hF mb hx).1;omega)
  refine⟨mb,0,rfl,aA hm2,fun j hj=>?_⟩
  have hi0:i=0:=by simp at hi;omega
  subst hi0
  have h1:=cell_of_row W'' mb (0+(0*7+j)) _ _ (0,0) hm2
  rw [h1]
  simp[je]
 exact Za6):P:=h
theorem al9.Ka147(h:P:=by
 have HNV:Hid (fU ⟨n.id,n.par,n.kids,n.next+1,RL,n.out++[⟨n.next,dst,key,pf⟩],n.seen,n.old,n.reqs⟩ ⟨a_k,av,a6,dS,fA,aK,cv,c6,aL,aT⟩= .agg #[.int .i64 n.id,.int .i64 n.par,.slice a_k n.kids.length aK,.int .i64 (n.next+1),.slice av RL.length cv,.slice a6 (n.out.length+1) c6,.slice dS n.seen.length aL,.int .i64 n.old,.slice fA n.reqs.length aT]):=by unfold Hid;simp[fU,fO]
 have AO:Hid (∀x,Ge Z9 x→Calls Tryz.prog 96 #[.agg #[.int .i64 n.id,.int .i64 n.par,.slice a_k n.kids.length aK,.int .i64 (n.next+1),.slice av RL.length cv,.slice a6 (n.out.length+1) c6,.slice dS n.seen.length aL,.int .i64 n.old,.slice fA n.reqs.length aT],.agg #[.int .i64 n.next,.int .i64 dst,.string key,.int .i64 pf]] x fun e w'=>e= .returned (qd PM)∧Below x.heap.size x w'):=fun x hx=>by
  have h1:=GN ⟨n.id,n.par,n.kids,n.next+1,RL,n.out++[⟨n.next,dst,key,pf⟩],n.seen,n.old,n.reqs⟩ ⟨a_k,av,a6,dS,fA,aK,cv,c6,aL,aT⟩ ⟨n.next,dst,key,pf⟩ x (by simp;omega) (GR.At.below (Cz Z9 Z9 (aC.refl _ _) Out.refl).at.o hx)
  rw [ah Ra,ah HNV] at h1
  exact h1
 obtain⟨qK,qF,qT,qI,qL,qk,qN⟩:=PM;unfold qd at AO
 have zI:Hid (∀W' mb,aC [w.heap.size+1] Z9 W'→W'.heap[mb]?=some (.cells #[.int .i64 qK,.int .i64 qF,.int .i64 qT,.int .i64 qI,.int .i64 qL,.string qk,.int .i64 qN] 32 (0,0))→w.heap.size≤mb→(∀W'',Out c w W' W''→RM W'' ⟨a_k,av,a6,dS,fA,aK,cv,c6,aL,aT⟩ ⟨n.id,n.par,n.kids,n.next+1,RL,n.out++[⟨n.next,dst,key,pf⟩],n.seen,n.old,n.reqs⟩)∧(∀W'',Out c w W' W''→GR.At je 7 W'' (some ⟨mb,0,none⟩) [⟨qK,qF,qT,qI,qL,qk,qN⟩])∧Below B w W'∧Apart c w W'):=fun W' mb hk hm hmb=>by
  refine⟨fun W'' ho=>Cz W' W'' hk ho,fun W'' ho i hi=>?_,tZ.trans (hk.below (fun x hx=>by have:x=w.heap.size+1:=(by simpa using hx);omega) (Nat.le_trans hB tZ.size)),HKZ.keeps tZ.size hk (fun x hx=>by have:x=w.heap.size+1:=(by simpa using hx);omega)⟩
  obtain⟨F,hk2,hF⟩:=ho
  have hm2:=hk2.obj hm (fun hx=>by have:=(hF mb hx).1;omega)
  refine⟨mb,0,rfl,aA hm2,fun j hj=>?_⟩
  have hi0:i=0:=by simp at hi;omega
  subst hi0
  have h1:=cell_of_row W'' mb (0+(0*7+j)) _ _ (0,0) hm2
  rw [h1]
  simp[je]
 exact Za6):P:=h
theorem aao(h:P:=by
 have lH:Hid (Below B w W'):=rP.trans (fu.below (fun x hx=>by have:x=w.heap.size+2:=(by simpa using hx);omega) (Nat.le_trans hB rP.size));have qg:=hide (Apart.keeps (c:=c) Zg rP.size fu (fun x hx=>by have:x=w.heap.size+2:=(by simpa using hx);omega));obtain⟨x0,x1,x2,x3,x4,x5,x6,x7,x8⟩:=nine e4;clear hW' e4 fu;exact Ka148):P:=h
theorem ama.Ka148(h:P:=by
 exact bodyPost_ret (v:= .tuple #[.agg #[.int .i64 N1.id,.int .i64 N1.par,.slice A1.k N1.kids.length A1.ck,.int .i64 N1.next,.slice A1.p N1.pu.length A1.cp,.slice A1.o N1.out.length A1.co,.slice A1.s N1.seen.length A1.cs,.int .i64 N1.old,.slice A1.r N1.reqs.length A1.cr],.slice ma L1.length mc,.int .i64 0]) (by simp[results,Tryz.results63,go_sem,x0,x1,x2,x3,x4,x5,x6,x7,x8]) rfl ⟨A1,ma,mc,rfl,HAT,WB,lH,qg⟩):P:=h
theorem amb.Ka148(h:P:=by
 exact bodyPost_ret (v:= .tuple #[.agg #[.int .i64 n.id,.int .i64 n.par,.slice A.k n.kids.length A.ck,.int .i64 n.next,.slice A.p n.pu.length A.cp,.slice a (FL n.out.length).length cp,.slice A.s n.seen.length A.cs,.int .i64 n.old,.slice A.r n.reqs.length A.cr],.slice (some ⟨Z.heap.size,0,none⟩) 0 0,.int .i64 0]) (by simp[results,Tryz.results63,go_sem,x0,x1,x2,x3,x4,x5,x6,x7,x8]) rfl ⟨⟨A.k,A.p,a,A.s,A.r,A.ck,A.cp,cp,A.cs,A.cr⟩,some ⟨Z.heap.size,0,none⟩,0,rfl,HAT,fun W'' _ i hi=>by simp at hi,lH,qg⟩):P:=h
theorem aap(h:P:=by
 open aog in exact Tp):P:=h
theorem amc.Ka149(h:P:=by
 exact aqA):P:=h
theorem amd.Ka149(h:P:=by
 exact aqm):P:=h
theorem aaq(h:P:=by
 refine gu (by kernel_rfl) ?_;show jq _ _ _ _ 23 (Array.replicate 23 false) _ _
 refine tk [0,1,2,3,4,5,6,7,8,9,10,11,12,13,14,15,16,17,18,19,20,21,22] ?_;iterate 23 (refine Rm (fun K hK=>?_);go_simp;refine hK _ ?_;clear hK K)
 refine kK ?_;refine iO (by kernel_rfl) (fun z hz=>?_);exact Ka150):P:=h
theorem ame.Ka150(h:P:=by
 have HZ:=hide ((ay w (.cells #[.int .i64 mK,.int .i64 mF,.int .i64 mT,.int .i64 mI,.int .i64 mL,.string mk,.int .i64 mN] 32)).trans (hz.mono (by simp)));clear hz y4 z3 z5 z6 x1 hlen;go_simp;go_wp2_with fail;go_ret;exact⟨rfl,HZ⟩):P:=h
theorem amf.Ka150(h:P:=by
 have HZ:=hide (HW1.step hz);clear hz y1;go_simp;go_wp2_with fail;go_ret;exact⟨rfl,A,G,c,HZ⟩):P:=h
theorem aar(h:P:=by
 clear hge c0 c1 c2 c3 c4 c5 c6 c7 c8 p0 p1 p2 p3 p4 p5 p6 p7 p8 p9 mZ hnl hol yc Xu Ir ac1 kC HA4;obtain⟨c0,c1,c2,c3,c4,c5,c6,c7,c8⟩:=nine zL;obtain⟨q0,q1,q2,q3⟩:=fC Pt;have hnl:=aA zL;have Jp:=aA Pt;exact Ka151):P:=h
theorem amg.Ka151(h:P:=by
 have HIQ:=hide (show jN n.reqs ⟨no,k,nn,1⟩=n.reqs.take (bH n.reqs no)++⟨no,k,nn,1⟩::n.reqs.drop (bH n.reqs no) from rfl);generalize bH n.reqs no=pos at *;obtain⟨IQ,Mq⟩:∃IQ,jN n.reqs ⟨no,k,nn,1⟩=IQ:=⟨_,rfl⟩;rw [Mq] at HIQ;have RA:=hide Mq;clear Mq;go_upto_region 16 with fail;go_cut [10] from 11 (fun i wx=>i= .int .i64 pos∧∃va vc,(∃g,va=some ⟨g,0,none⟩)∧n.reqs.length+1≤vc∧wx.heap[w.heap.size]?=some (.cells #[.int .i64 n.id,.int .i64 n.par,.slice a_k n.kids.length aK,.int .i64 n.next,.slice (some ⟨gp,0,none⟩) n.pu.length bq,.slice dP n.out.length aO,.slice dS n.seen.length aL,.int .i64 n.old,.slice va (n.reqs.length+1) vc] 30 (0,0))∧wx.heap[w.heap.size+2]?=some (.cells iV 30 (0,0))∧wx.heap[W1.heap.size]?=some (.cells #[.int .i64 no,.string k,.int .i64 nn,.int .i64 1] 43 (0,0))∧LO 43 aJ 4 (w.heap.size+3) wx va vc IQ∧Below w.heap.size w wx)
 case first=>
  open agJ in exact apL
 case rest=>
  clear c0 c1 c2 c3 c4 c5 c6 c7 c8 q0 q1 q2 q3 hnl Jp zL vP Pt jd HA5;obtain⟨rfl,va,vc,⟨gv,rfl⟩,hvc,hN6,hR6,hQ6,hL6,hB6⟩:=hcut;open aph in exact abq):P:=h
theorem amh.Ka151(h:P:=by
 have HIQ:=hide (show jN n.reqs ⟨no,k,nn,0⟩=n.reqs.take (bH n.reqs no)++⟨no,k,nn,0⟩::n.reqs.drop (bH n.reqs no) from rfl);generalize bH n.reqs no=pos at *;obtain⟨IQ,Mq⟩:∃IQ,jN n.reqs ⟨no,k,nn,0⟩=IQ:=⟨_,rfl⟩;rw [Mq] at HIQ;have RA:=hide Mq;clear Mq;go_upto_region 16 with fail;go_cut [10] from 11 (fun i wx=>i= .int .i64 pos∧∃va vc,(∃g,va=some ⟨g,0,none⟩)∧n.reqs.length+1≤vc∧wx.heap[w.heap.size]?=some (.cells #[.int .i64 n.id,.int .i64 n.par,.slice a_k n.kids.length aK,.int .i64 n.next,.slice av RL.length cv,.slice dP n.out.length aO,.slice dS n.seen.length aL,.int .i64 n.old,.slice va (n.reqs.length+1) vc] 30 (0,0))∧wx.heap[w.heap.size+2]?=some (.cells iV 30 (0,0))∧wx.heap[W1.heap.size]?=some (.cells #[.int .i64 no,.string k,.int .i64 nn,.int .i64 0] 43 (0,0))∧LO 43 aJ 4 (w.heap.size+3) wx va vc IQ∧LO 84 eG 4 (w.heap.size+3) wx av cv RL∧Below w.heap.size w wx)
 case first=>
  open agI in exact apL
 case rest=>
  clear c0 c1 c2 c3 c4 c5 c6 c7 c8 q0 q1 q2 q3 hnl Jp zL vP Pt jd HA5 Ht;obtain⟨rfl,va,vc,⟨gv,rfl⟩,hvc,hN6,hR6,hQ6,hL6,hP6,hB6⟩:=hcut;open apg in exact abq):P:=h
theorem SS(h:P:=by
 go_simp;refine aF 6 rfl (by kernel_rfl) (by rfl) ?_;go_simp;refine aF 7 rfl (by kernel_rfl) (by rfl) ?_;go_simp;refine wpAny_done (by kernel_rfl) ?_;go_simp;exact Ka152):P:=h
theorem ami.Ka152(h:P:=by
 clear d0 d1 d2 d3 d4 d5 d6 d7 d8 f0 f1 f2 f3 f4 f5 f6 f7 f8 hrl;go_wp2_with fail;refine aR (fun W' hW'=>?_)
 have e4:W'.heap[w.heap.size+1]?=some (.cells #[.int .i64 n.id,.int .i64 n.par,.slice a_k n.kids.length aK,.int .i64 (n.next+1),.slice av RL.length cv,.slice a6 (n.out.length+1) c6,.slice dS n.seen.length aL,.int .i64 n.old,.slice fA n.reqs.length aT] 30 (0,0)):=by
  rw [hW'];exact GR.setW_blk [.int .i64 n.id,.int .i64 n.par,.slice a_k n.kids.length aK,.int .i64 (n.next+1),.slice av RL.length cv,.slice a6 (n.out.length+1) c6,.slice dS n.seen.length aL,.int .i64 n.old,.slice fA n.reqs.length aT] (o:=0) (xs:=[.int .i64 0,.int .i64 0,.slice none 0 0,.int .i64 0,.slice none 0 0,.slice none 0 0,.slice none 0 0,.int .i64 0,.slice none 0 0]) uL
 have fu:aC [w.heap.size+1] z2 W':=by
  rw [hW'];exact aM [.int .i64 n.id,.int .i64 n.par,.slice a_k n.kids.length aK,.int .i64 (n.next+1),.slice av RL.length cv,.slice a6 (n.out.length+1) c6,.slice dS n.seen.length aL,.int .i64 n.old,.slice fA n.reqs.length aT] z2 0
 have Xe:=hide (zI W' z.heap.size ((aC.of_below HZ2).trans fu) (fu.obj HM2 (fun hm=>by have:z.heap.size=w.heap.size+1:=(by simpa using hm);omega)) (by omega));obtain⟨x0,x1,x2,x3,x4,x5,x6,x7,x8⟩:=nine e4;clear hW' e4 fu;exact bodyPost_ret (v:= .tuple #[.agg #[.int .i64 n.id,.int .i64 n.par,.slice a_k n.kids.length aK,.int .i64 (n.next+1),.slice av RL.length cv,.slice a6 (n.out.length+1) c6,.slice dS n.seen.length aL,.int .i64 n.old,.slice fA n.reqs.length aT],.slice (some ⟨z.heap.size,0,none⟩) 1 1,.int .i64 0]) (by simp[results,Tryz.results64,go_sem,x0,x1,x2,x3,x4,x5,x6,x7,x8]) rfl ⟨⟨a_k,av,a6,dS,fA,aK,cv,c6,aL,aT⟩,some ⟨z.heap.size,0,none⟩,1,by rw [ah HNV],Xe.1,Xe.2.1,Xe.2.2.1,Xe.2.2.2⟩):P:=h
theorem amj.Ka152(h:P:=by
 clear d0 d1 d2 d3 d4 d5 d6 d7 d8 f0 f1 f2 f3 f4 f5 f6 f7 f8;go_wp2_with fail;refine aR (fun W' hW'=>?_)
 obtain⟨SW,hSW,hsz,hk0,e3⟩:∃SW:World,W'=SW.alloc (.cells #[.int .i64 qK,.int .i64 qF,.int .i64 qT,.int .i64 qI,.int .i64 qL,.string qk,.int .i64 qN] 32)∧SW.heap.size=z.heap.size∧aC [w.heap.size+1] z SW∧SW.heap[w.heap.size+1]?=some (.cells #[.int .i64 n.id,.int .i64 n.par,.slice a_k n.kids.length aK,.int .i64 (n.next+1),.slice av RL.length cv,.slice a6 (n.out.length+1) c6,.slice dS n.seen.length aL,.int .i64 n.old,.slice fA n.reqs.length aT] 30 (0,0)):=
  ⟨GR.setW z (w.heap.size+1) 0 [.int .i64 n.id,.int .i64 n.par,.slice a_k n.kids.length aK,.int .i64 (n.next+1),.slice av RL.length cv,.slice a6 (n.out.length+1) c6,.slice dS n.seen.length aL,.int .i64 n.old,.slice fA n.reqs.length aT],hW',by simp[GR.setW],aM [.int .i64 n.id,.int .i64 n.par,.slice a_k n.kids.length aK,.int .i64 (n.next+1),.slice av RL.length cv,.slice a6 (n.out.length+1) c6,.slice dS n.seen.length aL,.int .i64 n.old,.slice fA n.reqs.length aT] z 0,GR.setW_blk [.int .i64 n.id,.int .i64 n.par,.slice a_k n.kids.length aK,.int .i64 (n.next+1),.slice av RL.length cv,.slice a6 (n.out.length+1) c6,.slice dS n.seen.length aL,.int .i64 n.old,.slice fA n.reqs.length aT] (o:=0) (xs:=[.int .i64 0,.int .i64 0,.slice none 0 0,.int .i64 0,.slice none 0 0,.slice none 0 0,.slice none 0 0,.int .i64 0,.slice none 0 0]) uL⟩
 have e4:W'.heap[w.heap.size+1]?=some (.cells #[.int .i64 n.id,.int .i64 n.par,.slice a_k n.kids.length aK,.int .i64 (n.next+1),.slice av RL.length cv,.slice a6 (n.out.length+1) c6,.slice dS n.seen.length aL,.int .i64 n.old,.slice fA n.reqs.length aT] 30 (0,0)):=by rw [hSW];exact au e3 (ay SW _)
 have fu:aC [w.heap.size+1] z W':=by rw [hSW];exact hk0.trans (aC.of_below (ay SW _))
 have hm:W'.heap[z.heap.size]?=some (.cells #[.int .i64 qK,.int .i64 qF,.int .i64 qT,.int .i64 qI,.int .i64 qL,.string qk,.int .i64 qN] 32 (0,0)):=by rw [hSW,←hsz];exact heap_alloc_new SW _
 have Xe:=hide (zI W' z.heap.size ((aC.of_below HZ).trans fu) hm (by have:=aA uL;omega));obtain⟨x0,x1,x2,x3,x4,x5,x6,x7,x8⟩:=nine e4;clear hW' e4 fu hm hSW hsz hk0 e3;exact bodyPost_ret (v:= .tuple #[.agg #[.int .i64 n.id,.int .i64 n.par,.slice a_k n.kids.length aK,.int .i64 (n.next+1),.slice av RL.length cv,.slice a6 (n.out.length+1) c6,.slice dS n.seen.length aL,.int .i64 n.old,.slice fA n.reqs.length aT],.slice (some ⟨z.heap.size,0,none⟩) 1 1,.int .i64 0]) (by simp[results,Tryz.results64,go_sem,x0,x1,x2,x3,x4,x5,x6,x7,x8]) rfl ⟨⟨a_k,av,a6,dS,fA,aK,cv,c6,aL,aT⟩,some ⟨z.heap.size,0,none⟩,1,by rw [ah HNV],Xe.1,Xe.2.1,Xe.2.2.1,Xe.2.2.2⟩):P:=h
theorem amk.Ka152(h:P:=by
 clear c0 c1 c2 c3 c4 c5 c6 c7 c8 c9 d0 d1 d2 d3 d4 d5 d6 d7 d8 f0 f1 f2 f3 f4 f5 f6 f7 f8 c9f;go_wp2_with fail;refine aR (fun W' hW'=>?_)
 have e4:W'.heap[w.heap.size+2]?=some (.cells #[.int .i64 n3.id,.int .i64 n3.par,.slice A2.k n3.kids.length A2.ck,.int .i64 n3.next,.slice A2.p n3.pu.length A2.cp,.slice A2.o n3.out.length A2.co,.slice A2.s n3.seen.length A2.cs,.int .i64 n3.old,.slice A2.r n3.reqs.length A2.cr] 30 (0,0)):=by
  exact adv
 have hkc:KC cc3 0 x W':=by
  exact adA
 have Pm:=hide ((vR.no.kc0 hkc).base HB.size);have HMF:=hide (iQ (hkc.own vR.m vR.cm (by omega)) HB.size);have zH:=hide vR.cm
 have lH:Hid (Below w.heap.size w W'):=by
  exact adw
 obtain⟨d0,d1,d2,d3,d4,d5,d6,d7,d8⟩:=nine e4;clear hW' e4 hkc;exact bodyPost_ret (v:= .tuple #[.agg #[.int .i64 n3.id,.int .i64 n3.par,.slice A2.k n3.kids.length A2.ck,.int .i64 n3.next,.slice A2.p n3.pu.length A2.cp,.slice A2.o n3.out.length A2.co,.slice A2.s n3.seen.length A2.cs,.int .i64 n3.old,.slice A2.r n3.reqs.length A2.cr],(.slice a3 L3.length cp3),.int .i64 Uo]) (by simp[results,Tryz.results7,go_sem,d0,d1,d2,d3,d4,d5,d6,d7,d8]) rfl ⟨A2,G2,cc3,(.slice a3 L3.length cp3),rfl,Pm,HMF,zH,lH⟩):P:=h
theorem aas(h:P:=by
 have HS:Hid ((s.data.toList.take (k+1)).all Mth.keyByte=((s.data.toList.take k).all Mth.keyByte&&Mth.keyByte s[k])):=by rw [Mth.take_snoc s k hlt];exact Mth.all_snoc _ _
 have hc:s[k].toNat < 256:=s[k].toNat_lt;exact Ka153):P:=h
theorem aml.Ka153(h:P:=by
 rcases Mth.byte_cases s[k] with h|h
 ·have HK:=hide (Mth.keyByte_yes _ h);rcases h with⟨h1,h2⟩|⟨h1,h2⟩
  all_goals
   go_wp2_with (go_at_call 23;first|(refine(pz _ _ _ _ ?_ ?_).mono ?_;omega;omega;rintro e w' ⟨rfl,rfl⟩)|(refine(su _ _ _ _ ?_).mono ?_;omega;rintro e w' ⟨rfl,rfl⟩))
   go_round
   case rel=>exact⟨k+1,by omega,by go_num,by rw [ah HS,ah HA,ah HK];rfl⟩
   case measure=>simp[intOf];omega
 ·have HK:=hide (Mth.keyByte_no _ h);have HF:Hid (Mth.keyOk s.data.toList=false):=Mth.keyOk_bad _ (k+1) (by rw [ah HS,ah HA,ah HK];rfl);rcases h with h1|⟨h1,h2⟩|h1
  all_goals
   go_wp2_with (go_at_call 23;first|(refine(pz _ _ _ _ ?_ ?_).mono ?_;omega;omega;rintro e w' ⟨rfl,rfl⟩)|(refine(su _ _ _ _ ?_).mono ?_;omega;rintro e w' ⟨rfl,rfl⟩))
   go_ret
   exact⟨aD HF.symm,rfl⟩):P:=h
theorem amm.Ka153(h:P:=by
 rcases Mth.byte_cases s[k] with h|h
 ·have HK:=hide (Mth.keyByte_yes _ h);rcases h with⟨h1,h2⟩|⟨h1,h2⟩
  all_goals
   go_wp2_with (first|(go_at_call 99;first|(refine(EJ _ _ ?_ ?_).mono ?_;omega;omega;rintro e w' ⟨rfl,rfl⟩)|(refine(Kg _ _ ?_).mono ?_;omega;rintro e w' ⟨rfl,rfl⟩))|(go_at_call 100;first|(refine(Es _ _ ?_ ?_).mono ?_;omega;omega;rintro e w' ⟨rfl,rfl⟩)|(refine(Jg _ _ ?_).mono ?_;omega;rintro e w' ⟨rfl,rfl⟩)))
   go_round
   case rel=>exact⟨k+1,by omega,by go_num,by rw [ah HS,ah HA,ah HK];rfl⟩
   case measure=>simp[intOf];omega
 ·have HK:=hide (Mth.keyByte_no _ h);have HF:Hid (Mth.keyOk s.data.toList=false):=Mth.keyOk_bad _ (k+1) (by rw [ah HS,ah HA,ah HK];rfl);rcases h with h1|⟨h1,h2⟩|h1
  all_goals
   go_wp2_with (first|(go_at_call 99;first|(refine(EJ _ _ ?_ ?_).mono ?_;omega;omega;rintro e w' ⟨rfl,rfl⟩)|(refine(Kg _ _ ?_).mono ?_;omega;rintro e w' ⟨rfl,rfl⟩))|(go_at_call 100;first|(refine(Es _ _ ?_ ?_).mono ?_;omega;omega;rintro e w' ⟨rfl,rfl⟩)|(refine(Jg _ _ ?_).mono ?_;omega;rintro e w' ⟨rfl,rfl⟩)))
   go_ret
   exact⟨aD HF.symm,rfl⟩):P:=h
theorem aat(h:P:=by
 have R7:=hide (au ac3 CS);have avK:=aA ac3;have EW:=hide (show∀b,(Value.slice (some ⟨x2.heap.size,0,none⟩) 0 0).ownBlock=some b→b≠x1.heap.size from fun b hb=>by simp[Value.ownBlock] at hb;omega);have EX:=hide (rR.trans (CS.mono rR.size));clear CS;exact Ka154):P:=h
theorem amn.Ka154(h:P:=by
 generalize Qj:x2.alloc (.cells #[] 3)=y2 at *;open amH in exact aaA):P:=h
theorem amo.Ka154(h:P:=by
 generalize Qj:x2.alloc (.cells #[] 43)=y2 at *;open amL in exact aaC):P:=h
theorem aau(h:P:=by
 have WG:Hid (NQ W6 B (bn n (n.seen.set i ⟨mF,bY s0 mL,aQ s0 mL⟩)) (⟨a_k,(some ⟨gp,0,none⟩),dP,(some ⟨G.s,0,none⟩),fA,aK,bq,aO,aL,aT⟩:bQ) ⟨G.k,G.p,G.o,G.s,G.r,jQ G.i i gi⟩ (rH gi (aQ s0 mL) (newC w.heap.size 9 c))):=by rw [Rk];exact Lu
 exact Ka155):P:=h
theorem amq.Ka155(h:P:=by
 open asD in exact Ya2):P:=h
theorem amr.Ka155(h:P:=by
 open asC in exact Ya2):P:=h
theorem aav(h:P:=by
 obtain⟨mK,mF,mT,mI,mL,mk,mN⟩:=m;obtain⟨R,hR⟩:∃R,cZ ⟨5,no,k,n,⟨mK,mF,mT,mI,mL,mk,mN⟩⟩=R:=⟨_,rfl⟩;rw [hR];have HR:=hide hR;clear hR;have HP:=hide (show R=(decide (k.toList=[])&&decide (n=0)&&decide (no=0)&&kN ⟨mK,mF,mT,mI,mL,mk,mN⟩) by rw [←ah HR];simp[cZ]);clear HR;exact Ka156):P:=h
theorem ams.Ka156(h:P:=by
 go_enter Tryz.func44,Tryz.ntmps44
 go_upto_region 23 with fail;open amU in exact OA):P:=h
theorem amu.Ka156(h:P:=by
 go_enter Tryz.func57,Tryz.ntmps57
 go_wp2_with fail
 all_goals
  go_ret
  refine⟨aD ?_,ay w _⟩
  rw [ah HP]
  simp[kN, *]):P:=h
theorem aaw(h:P:=by
 rw [Qd] at FQ CV;refine Lib.wp_append_run x5 (.tmp 101) (.tmp 105) 28 28 rfl _ _ (by simp[Act.eval]) (by simp[Act.eval]) v5 y5 FQ ?_;refine⟨(Below.refl _ _).grown zO Js (fun b hb=>(IG.lt b hb).1),?_⟩;go_simp;have Ph:=hide (H7.grown zO Js (fun b hb=>(IG.lt b hb).1));exact Ka157):P:=h
theorem amv.Ka157(h:P:=by
 have Py:Hid (y5.ownsRow wc.heap.size 43 4 v5 (pos+1+(n.reqs.length - pos)) (GR.flat aJ (n.reqs.take pos++[(⟨no,k,nn,0⟩:Rq)]++n.reqs.drop pos))):=hide (by rw [GR.flat_append];exact CV);have afi:=hide (show y5.heap[rb]?=some (.cells #[.int .i64 no,.string k,.int .i64 nn,.int .i64 0] 43 (0,0)) from by rw [zO.block _ (aA (ah Io)) (fun hm=>ah Xd _ hm.symm rfl)];exact Io);open aor in exact Tq):P:=h
theorem amw.Ka157(h:P:=by
 have Py:Hid (y5.ownsRow wc.heap.size 43 4 v5 (pos+1+(n.reqs.length - pos)) (GR.flat aJ (n.reqs.take pos++[(⟨no,k,nn,1⟩:Rq)]++n.reqs.drop pos))):=hide (by rw [GR.flat_append];exact CV);have afi:=hide (show y5.heap[rb]?=some (.cells #[.int .i64 no,.string k,.int .i64 nn,.int .i64 1] 43 (0,0)) from by rw [zO.block _ (aA (ah Io)) (fun hm=>ah Xd _ hm.symm rfl)];exact Io);open aoq in exact Tq):P:=h
theorem aax(h:P:=by
 subst e1 e2;clear hPB HX HY;go_wp2_with fail;refine aR (fun W' hW' => ?_);exact Ka158):P:=h
theorem amx.Ka158(h:P:=by
 have hR := BN (b0 := .int .i64 id) (b1 := .int .i64 par) (b2 := (.slice ka kids.length kc)) (b3 := .int .i64 1) (b4 := .slice none 0 0) (b5 := .slice none 0 0) (b6 := .slice va F.length vc) (b7 := .int .i64 0) (b8 := .slice none 0 0) (ah N8);have hK := uY (w := w5) (g := w.heap.size) (b0 := .int .i64 id) (b1 := .int .i64 par) (b2 := (.slice ka kids.length kc)) (b3 := .int .i64 1) (b4 := .slice none 0 0) (b5 := .slice none 0 0) (b6 := .slice va F.length vc) (b7 := .int .i64 0) (b8 := .slice none 0 0);rw [← hW'] at hR hK;obtain ⟨x0, x1, x2, x3, x4, x5, x6, x7, x8⟩ := nine hR;have hBW := (ah jd).trans (hK.below (B := w.heap.size) (fun x hx => by have := tN hx; omega) (ah jd).size);obtain ⟨A9, e9, hA9, hRM⟩ := RM.fresh (w := W') (id := id) (par := par) (dB (ah xQ) hK (fun x hx => by have := tN hx; omega)) (fun x hx => by have := ah HKL x hx; omega) (dB (ah HN5).own hK (fun x hx => by have := tN hx; omega)) (B2 := wc.heap.size) (by omega);have e9' := e9;unfold Rl at e9';refine bodyPost_ret (v := .tuple #[fU (bE id par kids F) A9, .bool true]) (by rw [← e9]; simp [results, Tryz.results26, go_sem, x0, x1, x2, x3, x4, x5, x6, x7, x8]) rfl ⟨_, rfl, ?_, hBW, hA9⟩;obtain ⟨gk, gs, I, c, h1, h2⟩ := hRM;exact ⟨gk, gs, I, c, h1, fun x hx => h2 x (by omega)⟩):P:=h
theorem amy.Ka158(h:P:=by
 have hR := BN (b0 := .int .i64 0) (b1 := .int .i64 0) (b2 := .slice none 0 0) (b3 := .int .i64 0) (b4 := .slice none 0 0) (b5 := .slice none 0 0) (b6 := .slice none 0 0) (b7 := .int .i64 0) (b8 := .slice none 0 0) (ah N8);have hK := uY (w := w5) (g := w.heap.size) (b0 := .int .i64 0) (b1 := .int .i64 0) (b2 := .slice none 0 0) (b3 := .int .i64 0) (b4 := .slice none 0 0) (b5 := .slice none 0 0) (b6 := .slice none 0 0) (b7 := .int .i64 0) (b8 := .slice none 0 0);rw [← hW'] at hR hK;obtain ⟨x0, x1, x2, x3, x4, x5, x6, x7, x8⟩ := nine hR;refine bodyPost_ret (v := .tuple #[fU gG ⟨none, none, none, none, none, 0, 0, 0, 0, 0⟩, .bool false]) (by simp [results, Tryz.results26, go_sem, x0, x1, x2, x3, x4, x5, x6, x7, x8, gG]) rfl ⟨_, rfl, RM.zero, (ah jd).trans (hK.below (fun x hx => by have := tN hx; omega) (ah jd).size), rfl, rfl⟩):P:=h
theorem SV(h:P:=by
 go_simp;have xY:=hide (HG0.trans (hx1.mono HG0.size));have UY:wc.heap.size≤x1.heap.size:=xY.size;clear hx1;refine⟨(ay x1 _).mono UY,?_⟩;exact Ka159):P:=h
theorem amz.Ka159(h:P:=by
 have wD:=ay x1 (.cells #[] 43);have XG:=hide (show(x1.alloc (.cells #[] 43)).ownsRow wc.heap.size 43 4 (.slice (some ⟨x1.heap.size,0,none⟩) 0 0) 0 (GR.flat aJ []) from World.ownsRow_lit (base:=wc.heap.size) (e:=43) (size:=4) x1 #[] 0 UY (by unfold maxLen;omega) (by simp));have vM:=hide (xY.trans (wD.mono xY.size));clear wD;generalize Ju:x1.alloc (.cells #[] 43)=y1 at *;clear Ju;exact Ka81):P:=h
theorem amA.Ka159(h:P:=by
 have wD:=ay x1 (.cells #[.int .i64 no,.string k,.int .i64 nn,.int .i64 1] 43);have Xx:=hide (heap_alloc_new x1 (.cells #[.int .i64 no,.string k,.int .i64 nn,.int .i64 1] 43));have vM:=hide (xY.trans (wD.mono xY.size));clear wD;generalize Ju:x1.alloc (.cells #[.int .i64 no,.string k,.int .i64 nn,.int .i64 1] 43)=y1 at *;open afJ in exact apD):P:=h
theorem amC.Ka159(h:P:=by
 have wD:=ay x1 (.cells #[.int .i64 no,.string k,.int .i64 nn,.int .i64 0] 43);have Xx:=hide (heap_alloc_new x1 (.cells #[.int .i64 no,.string k,.int .i64 nn,.int .i64 0] 43));have vM:=hide (xY.trans (wD.mono xY.size));clear wD;generalize Ju:x1.alloc (.cells #[.int .i64 no,.string k,.int .i64 nn,.int .i64 0] 43)=y1 at *;open afI in exact apD):P:=h
theorem aay(h:P:=by
 have Xb:Hid (Below w.heap.size w W9):=by rw [Mr];exact Cw.setCell (p:=⟨w.heap.size,8,none⟩) (Nat.le_refl _) _
 have HL9:Hid (LO 43 aJ 4 (w.heap.size+3) W9 (some ⟨g8,0,none⟩) Ba IT):=by rw [Mr];exact((HL8.lower hz7).keeps (aC.set _) (fun x hx=>by simp at hx;omega))
 exact Ka160):P:=h
theorem amD.Ka160(h:P:=by
 have HP9:Hid (LO 84 eG 4 (w.heap.size+3) W9 av cv RL):=by rw [Mr];exact Q9.keeps (aC.set _) (fun x hx=>by simp at hx;omega)
 clear Mr k8 kf8 oC vQ Xw Cw HL8 nH lN R6 zF ac5 Pv c0 c1 c2 c3 c4 c5 c6 c7 c8 cf hnl Q9 Zt;have P6:IT.length=n.reqs.length:=hIT;clear hIT;obtain⟨c0,c1,c2,c3,c4,c5,c6,c7,c8⟩:=nine uJ;open afO in exact Fh):P:=h
theorem amE.Ka160(h:P:=by
 skip
 clear Mr k8 kf8 oC vQ Xw Cw HL8 nH lN R6 zF ac5 Pv c0 c1 c2 c3 c4 c5 c6 c7 c8 cf hnl;have P6:IT.length=n.reqs.length:=hIT;clear hIT;obtain⟨c0,c1,c2,c3,c4,c5,c6,c7,c8⟩:=nine uJ;open afQ in exact Fh):P:=h
theorem aaz(h:P:=by
 obtain⟨d0,d1,d2,d3,d4,d5,d6,d7,d8⟩:=nine lN;have f0:=aj lN 0;have f1:=aj lN 1;have f2:=aj lN 2;have f3:=aj lN 3;have f4:=aj lN 4;have f5:=aj lN 5;have f6:=aj lN 6;have f7:=aj lN 7;have f8:=aj lN 8;exact Ka161):P:=h
theorem amF.Ka161(h:P:=by
 have hrl:=aA lN;go_wp2_with fail;refine aR (fun W' hW'=>?_)
 have e4:W'.heap[w.heap.size+2]?=some (.cells #[.int .i64 n.id,.int .i64 n.par,.slice A1.k n.kids.length A1.ck,.int .i64 n.next,.slice pa RL.length pc,.slice A1.o n.out.length A1.co,.slice A1.s n.seen.length A1.cs,.int .i64 n.old,.slice A1.r n.reqs.length A1.cr] 30 (0,0)):=by
  rw [hW'];exact GR.setW_blk [.int .i64 n.id,.int .i64 n.par,.slice A1.k n.kids.length A1.ck,.int .i64 n.next,.slice pa RL.length pc,.slice A1.o n.out.length A1.co,.slice A1.s n.seen.length A1.cs,.int .i64 n.old,.slice A1.r n.reqs.length A1.cr] (o:=0) (xs:=[.int .i64 0,.int .i64 0,.slice none 0 0,.int .i64 0,.slice none 0 0,.slice none 0 0,.slice none 0 0,.int .i64 0,.slice none 0 0]) lN
 have fu:aC [w.heap.size+2] Y W':=by
  rw [hW'];exact aM [.int .i64 n.id,.int .i64 n.par,.slice A1.k n.kids.length A1.ck,.int .i64 n.next,.slice pa RL.length pc,.slice A1.o n.out.length A1.co,.slice A1.s n.seen.length A1.cs,.int .i64 n.old,.slice A1.r n.reqs.length A1.cr] Y 0
 have HAT:=hide (fun W'' (ho:zD w W' W'')=>(show RM W'' ⟨A1.k,pa,A1.o,A1.s,A1.r,A1.ck,pc,A1.co,A1.cs,A1.cr⟩ (setPu n RL) from(by
  have h:=((asn.kc (k:=9) (KC.keeps fu (fun x hx=>by have:x=w.heap.size+2:=(by simpa using hx);rw [this];exact oH)) (by omega)).kc (k:=9) (ho.kc (fun x hx=>Rv x (by omega))) (by omega))
  obtain⟨F,hk2,hF⟩:=ho
  have hpo:=(dB (dB asv fu (fun x hx=>by have:x=w.heap.size+2:=(by simpa using hx);omega)) hk2 (fun x hx=>by have:=hF x hx;omega))
  have Yn:∀g',pa.map (fun y=>y.block)=some g'→6 < newC X.heap.size 9 c g':=fun g' hg'=>by
   have h1:=qO hpo (kZ hpo hg')
   rw [aW (by omega)]
   omega
  exact NQ.put h HCQ (setPu n RL) ⟨A1.k,pa,A1.o,A1.s,A1.r,A1.ck,pc,A1.co,A1.cs,A1.cr⟩ rfl rfl rfl rfl (GR.own_ati aV hpo) (fun g' hg' _=> .inr (Yn g' hg')) h.o (fun y hy=> .inl (HCQ.co y hy)) h.r (fun y hy=> .inl (HCQ.cr y hy))
   (fun g' hg' _ h6=>⟨fun e=>by have:=HCQ.co g' e;omega,fun e=>by have:=HCQ.cr g' e;omega⟩) (fun y hy h6 e=>by have:=HCQ.co y hy;omega))))
 have lH:Hid (Below w.heap.size w W'):=zF.trans (fu.below (fun x hx=>by have:x=w.heap.size+2:=(by simpa using hx);omega) zF.size);obtain⟨x0,x1,x2,x3,x4,x5,x6,x7,x8⟩:=nine e4;clear hW' e4 fu;exact bodyPost_ret (v:= .tuple #[.agg #[.int .i64 n.id,.int .i64 n.par,.slice A1.k n.kids.length A1.ck,.int .i64 n.next,.slice pa RL.length pc,.slice A1.o n.out.length A1.co,.slice A1.s n.seen.length A1.cs,.int .i64 n.old,.slice A1.r n.reqs.length A1.cr],.slice (some ⟨W0.heap.size,0,none⟩) 0 0,.int .i64 0]) (by simp[results,Tryz.results30,go_sem,x0,x1,x2,x3,x4,x5,x6,x7,x8]) rfl ⟨⟨A1.k,pa,A1.o,A1.s,A1.r,A1.ck,pc,A1.co,A1.cs,A1.cr⟩,some ⟨W0.heap.size,0,none⟩,0,rfl,HAT,fun W'' _ i hi=>by simp at hi,lH⟩):P:=h
theorem amG.Ka161(h:P:=by
 have hnl:=aA nH;have hrl:=aA lN;by_cases hm:mI < bY s0 mL
 ·have hd:decide (mI < bY s0 mL)=true:=decide_eq_true hm;go_wp2_with fail;exact aqs
 ·have hd:decide (mI < bY s0 mL)=false:=decide_eq_false hm;have hb:hasB (aQ s0 mL) mI=true:=by unfold lT at hhas;rw [hd] at hhas;simpa using hhas
  rw [hb] at Rz;go_wp2_with (go_at_call 54;refine(Rz _ Xf.at).mono ?_;rintro e wh ⟨rfl,rfl⟩)
  exact aqs):P:=h
theorem aaA(h:P:=by
 clear Qj;refine gW 4 rfl (by kernel_rfl) (by rfl) (by decide) (fun x3 hx3=>?_);have vL:=hide (EX.trans (hx3.mono EX.size));have yF:qY.heap.size≤x3.heap.size:=vL.size;have yh:=hide (GR.own_below CP hx3);have uK:=hide (au R7 hx3);clear hx3;exact Ka162):P:=h
theorem amH.Ka162(h:P:=by
 obtain⟨v3,y3,FN,FM,uR,MC⟩:=eH aN (by omega) x3 qY.heap.size 24 24 3 i0 (.int .i64 0) 8 Tryz.underlying24 hi0 hz0 hz1' hz2 rfl (.slice (some ⟨x2.heap.size,0,none⟩) 0 0) 0 (GR.flat aP ([])) yh (some ⟨gi,0,none⟩) ((aQ s0 mL).take pos) Jc (GR.At.below CJ vL) (nZ _) (by unfold maxLen;omega) (by omega) yF;open akl in exact ZI):P:=h
theorem amI.Ka162(h:P:=by
 obtain⟨v3,y3,FN,FM,uR,MC⟩:=eH aN (by omega) x3 qY.heap.size 24 24 3 i0 (.int .i64 0) 8 Tryz.underlying24 hi0 hz0 hz1' hz2 rfl (.slice (some ⟨x1.heap.size,0,none⟩) 0 0) 0 (GR.flat aP ([])) yh (some ⟨gi,0,none⟩) ((aQ s0 mL).take pos) Jc (GR.At.below CJ vL) (nZ _) (by unfold maxLen;omega) (by omega) yF;open akk in exact ZI):P:=h
theorem aaB(h:P:=by
 have h2I:¬(40:Int)≤(n.out.length:Int):=by omega
 have q2:decide ((40:Int)≤(n.out.length:Int))=false:=by simpa using h2I
 have q3:decide ((1000000000:Int)≤n.next)=false:=by simpa using h3
 obtain⟨gp,UG⟩:=hP;subst UG;obtain⟨i0,hi,hz0,hz1,hz2⟩:=info_parts Ar;exact Ka163):P:=h
theorem amJ.Ka163(h:P:=by
 have HPT:=hide (fun W (ha:aH W (some ⟨gp,0,none⟩) n.pu)=>Kz gp 0 bq n.pu key pf W (Nat.le_trans hz.p (by omega)) qZ hz.pk hkey ha);unfold gX at HPT;rw [hu] at HPT;obtain⟨PM,yE⟩:∃PM,mP ⟨n.id,n.par,n.kids,n.next+1,RL,n.out++[⟨n.next,dst,key,pf⟩],n.seen,n.old,n.reqs⟩ ⟨n.next,dst,key,pf⟩=PM:=⟨_,rfl⟩;have Ra:=hide yE;rw [yE];clear hz qZ hu yE;unfold eT;have H9:=hide h9;clear h9;open atp in exact apx):P:=h
theorem amK.Ka163(h:P:=by
 have HPT:=hide (fun W (ha:aH W (some ⟨gp,0,none⟩) n.pu)=>Kz gp 0 bq n.pu key most W (Nat.le_trans hz.p (by omega)) qZ hz.pk hkey ha);unfold gX at HPT;rw [hu] at HPT;obtain⟨PM,yE⟩:∃PM,mP ⟨n.id,n.par,n.kids,n.next+1,RL,n.out++[⟨n.next,dst,key,most⟩],n.seen,n.old,n.reqs⟩ ⟨n.next,dst,key,most⟩=PM:=⟨_,rfl⟩;have Ra:=hide yE;rw [yE];clear hz qZ hu yE;unfold eT;have H9:=hide h9;clear h9;open atq in exact apx):P:=h
theorem aaC(h:P:=by
 clear Qj;refine gW 5 rfl (by kernel_rfl) (by rfl) (by decide) (fun x3 hx3=>?_);have vL:=hide (EX.trans (hx3.mono EX.size));have yF:wc.heap.size≤x3.heap.size:=vL.size;have yh:=hide (GR.own_below CP hx3);have uK:=hide (au R7 hx3);clear hx3;exact Ka164):P:=h
theorem amL.Ka164(h:P:=by
 obtain⟨v3,y3,FN,FM,uR,MC⟩:=eH aY (by omega) x3 wc.heap.size 28 28 43 i0 (.agg #[.int .i64 0,.string ByteArray.empty,.int .i64 0,.int .i64 0]) 40 Tryz.underlying28 hi hz0 hz1 hz2 rfl (.slice (some ⟨x2.heap.size,0,none⟩) 0 0) 0 (GR.flat aJ ([])) yh (some ⟨gr,0,none⟩) (n.reqs.take pos) aT (GR.At.below CJ vL) (gQ _) (by unfold maxLen;omega) (by omega) yF;open akC in exact ZO):P:=h
theorem amM.Ka164(h:P:=by
 obtain⟨v3,y3,FN,FM,uR,MC⟩:=eH aY (by omega) x3 wc.heap.size 28 28 43 i0 (.agg #[.int .i64 0,.string ByteArray.empty,.int .i64 0,.int .i64 0]) 40 Tryz.underlying28 hi hz0 hz1 hz2 rfl (.slice (some ⟨x1.heap.size,0,none⟩) 0 0) 0 (GR.flat aJ ([])) yh (some ⟨gr,0,none⟩) (n.reqs.take pos) aT (GR.At.below CJ vL) (gQ _) (by unfold maxLen;omega) (by omega) yF;open akB in exact ZO):P:=h
theorem aaD(h:P:=by
 have iX:=hide ((hap _ (aA qb) (by rw [ah oH];omega)).trans qb);have Ro:=hide hat;have uj:=hide (I9 kR hb5 hap Rv);have hrx:=aA qb;clear hat hb5 hap c0 c1 c2 c3 c4 c5 c6 c7 c8 p0 p1 p2 p3 p4 p5 p6 p7 p8 p9 mZ hnl hol jr fP HOX qb xZ HPR;exact Ka165):P:=h
theorem amN.Ka165(h:P:=by
 open alG in exact aag):P:=h
theorem amO.Ka165(h:P:=by
 have EZ:=hide (heap_alloc_new W5 (.cells #[.int .i64 N1.id,.int .i64 N1.par,.slice A2.k N1.kids.length A2.ck,.int .i64 N1.next,.slice A2.p N1.pu.length A2.cp,.slice A2.o N1.out.length A2.co,.slice A2.s N1.seen.length A2.cs,.int .i64 N1.old,.slice A2.r N1.reqs.length A2.cr] 30));have oI:=hide (au iX (ay W5 (.cells #[.int .i64 N1.id,.int .i64 N1.par,.slice A2.k N1.kids.length A2.ck,.int .i64 N1.next,.slice A2.p N1.pu.length A2.cp,.slice A2.o N1.out.length A2.co,.slice A2.s N1.seen.length A2.cs,.int .i64 N1.old,.slice A2.r N1.reqs.length A2.cr] 30)));have rP:=hide (uj.trans ((ay W5 (.cells #[.int .i64 N1.id,.int .i64 N1.par,.slice A2.k N1.kids.length A2.ck,.int .i64 N1.next,.slice A2.p N1.pu.length A2.cp,.slice A2.o N1.out.length A2.co,.slice A2.s N1.seen.length A2.cs,.int .i64 N1.old,.slice A2.r N1.reqs.length A2.cr] 30)).mono uj.size));obtain⟨c0,c1,c2,c3,c4,c5,c6,c7,c8⟩:=nine EZ;have hnl:=aA EZ;open ag6 in exact PD):P:=h
theorem aaE(h:P:=by
 obtain⟨d0,d1,d2,d3,d4,d5,d6,d7,d8⟩:=nine HR2;have f0:=aj HR2 0;have f1:=aj HR2 1;have f2:=aj HR2 2;have f3:=aj HR2 3;have f4:=aj HR2 4;have f5:=aj HR2 5;have f6:=aj HR2 6;have f7:=aj HR2 7;have f8:=aj HR2 8;exact Ka166):P:=h
theorem amP.Ka166(h:P:=by
 have hrl:=aA HR2;have awv:=aA vR.blk;refine lZ 1 3 rfl rfl (by kernel_rfl) (by rfl) (by rfl) ?pA ?pB
 case' pB=>
  go_simp
  refine aF 1 rfl (by kernel_rfl) (by rfl) ?_
  go_simp
  refine aF 5 rfl (by kernel_rfl) (by rfl) ?_
  go_simp
  refine aF 6 rfl (by kernel_rfl) (by rfl) ?_
  go_simp
  refine aF 7 rfl (by kernel_rfl) (by rfl) ?_
  go_simp
  refine wpAny_done (by kernel_rfl) ?_
  go_simp
  clear c0 c1 c2 c3 c4 c5 c6 c7 c8 c9 d0 d1 d2 d3 d4 d5 d6 d7 d8 f0 f1 f2 f3 f4 f5 f6 f7 f8
  go_wp2_with fail
  refine aR (fun W' hW'=>?_)
  have e4:W'.heap[w.heap.size+2]?=some (.cells #[.int .i64 n3.id,.int .i64 n3.par,.slice A2.k n3.kids.length A2.ck,.int .i64 n3.next,.slice A2.p n3.pu.length A2.cp,.slice A2.o n3.out.length A2.co,.slice A2.s n3.seen.length A2.cs,.int .i64 n3.old,.slice A2.r n3.reqs.length A2.cr] 30 (0,0)):=by
   exact adv
  have hkc:KC cc3 0 x W':=by
   exact adA
  have Pm:=hide ((vR.no.kc0 hkc).base HB.size)
  have HMF:=hide (iQ (hkc.own vR.m vR.cm (by omega)) HB.size)
  have zH:=hide vR.cm
  have lH:Hid (Below w.heap.size w W'):=by
   exact adw
  obtain⟨d0,d1,d2,d3,d4,d5,d6,d7,d8⟩:=nine e4
  clear hW' e4 hkc
  exact bodyPost_ret (v:= .tuple #[.agg #[.int .i64 n3.id,.int .i64 n3.par,.slice A2.k n3.kids.length A2.ck,.int .i64 n3.next,.slice A2.p n3.pu.length A2.cp,.slice A2.o n3.out.length A2.co,.slice A2.s n3.seen.length A2.cs,.int .i64 n3.old,.slice A2.r n3.reqs.length A2.cr],(.slice a3 L3.length cp3),.int .i64 Uo]) (by simp[results,Tryz.results7,go_sem,d0,d1,d2,d3,d4,d5,d6,d7,d8]) rfl ⟨A2,G2,cc3,(.slice a3 L3.length cp3),rfl,Pm,HMF,zH,lH⟩
 case' pA=>
  go_simp
  refine lZ 3 5 rfl rfl (by kernel_rfl) (by rfl) (by rfl) ?pA1 ?pA2
 case' pA1=>
  go_simp
  refine aF 5 rfl (by kernel_rfl) (by rfl) ?_
  go_simp
  refine aF 6 rfl (by kernel_rfl) (by rfl) ?_
  go_simp
  refine aF 7 rfl (by kernel_rfl) (by rfl) ?_
  go_simp
  refine wpAny_done (by kernel_rfl) ?_
  go_simp
  clear c0 c1 c2 c3 c4 c5 c6 c7 c8 c9 d0 d1 d2 d3 d4 d5 d6 d7 d8 f0 f1 f2 f3 f4 f5 f6 f7 f8
  go_wp2_with fail
  refine aR (fun W' hW'=>?_)
  have e4:W'.heap[w.heap.size+2]?=some (.cells #[.int .i64 n3.id,.int .i64 n3.par,.slice A2.k n3.kids.length A2.ck,.int .i64 n3.next,.slice A2.p n3.pu.length A2.cp,.slice A2.o n3.out.length A2.co,.slice A2.s n3.seen.length A2.cs,.int .i64 n3.old,.slice A2.r n3.reqs.length A2.cr] 30 (0,0)):=by
   exact adv
  have hkc:KC cc3 0 x W':=by
   exact adA
  have Pm:=hide ((vR.no.kc0 hkc).base HB.size)
  have HMF:=hide (iQ (hkc.own vR.m vR.cm (by omega)) HB.size)
  have zH:=hide vR.cm
  have lH:Hid (Below w.heap.size w W'):=by
   exact adw
  obtain⟨d0,d1,d2,d3,d4,d5,d6,d7,d8⟩:=nine e4
  clear hW' e4 hkc
  exact bodyPost_ret (v:= .tuple #[.agg #[.int .i64 n3.id,.int .i64 n3.par,.slice A2.k n3.kids.length A2.ck,.int .i64 n3.next,.slice A2.p n3.pu.length A2.cp,.slice A2.o n3.out.length A2.co,.slice A2.s n3.seen.length A2.cs,.int .i64 n3.old,.slice A2.r n3.reqs.length A2.cr],(.slice a3 L3.length cp3),.int .i64 Uo]) (by simp[results,Tryz.results7,go_sem,d0,d1,d2,d3,d4,d5,d6,d7,d8]) rfl ⟨A2,G2,cc3,(.slice a3 L3.length cp3),rfl,Pm,HMF,zH,lH⟩
 have c9f:=Ur (b0:= .int .i64 n3.id) (b1:= .int .i64 n3.par) (b2:= .slice A2.k n3.kids.length A2.ck) (b3:= .int .i64 n3.next) (b4:= .slice A2.p n3.pu.length A2.cp) (b5:= .slice A2.o n3.out.length A2.co) (b6:= .slice A2.s n3.seen.length A2.cs) (b7:= .int .i64 n3.old) (b8:= .slice A2.r n3.reqs.length A2.cr) hwr c9;go_simp;refine aF 3 rfl (by kernel_rfl) (by rfl) ?_;open amk in exact SS):P:=h
theorem amQ.Ka166(h:P:=by
 have hwl:=aA HW2.blk;have hrl:=aA HR2;go_wp2_with fail;refine aR (fun W' hW'=>?_)
 have e4:W'.heap[w.heap.size+2]?=some (.cells #[.int .i64 n.id,.int .i64 n.par,.slice A1.k n.kids.length A1.ck,.int .i64 n.next,.slice A1.p n.pu.length A1.cp,.slice A1.o n.out.length A1.co,.slice A1.s n.seen.length A1.cs,.int .i64 n.old,.slice A1.r n.reqs.length A1.cr] 30 (0,0)):=by
  rw [hW'];exact GR.setW_blk [.int .i64 n.id,.int .i64 n.par,.slice A1.k n.kids.length A1.ck,.int .i64 n.next,.slice A1.p n.pu.length A1.cp,.slice A1.o n.out.length A1.co,.slice A1.s n.seen.length A1.cs,.int .i64 n.old,.slice A1.r n.reqs.length A1.cr] (o:=0) (xs:=[.int .i64 0,.int .i64 0,.slice none 0 0,.int .i64 0,.slice none 0 0,.slice none 0 0,.slice none 0 0,.int .i64 0,.slice none 0 0]) HR2
 have hkc:KC Jb 0 W2 W':=by
  rw [hW'];exact KC.setW (o:=0) [.int .i64 n.id,.int .i64 n.par,.slice A1.k n.kids.length A1.ck,.int .i64 n.next,.slice A1.p n.pu.length A1.cp,.slice A1.o n.out.length A1.co,.slice A1.s n.seen.length A1.cs,.int .i64 n.old,.slice A1.r n.reqs.length A1.cr] (HW2.no.lo _ (by omega))
 have Pm:=hide ((HW2.no.kc0 hkc).base HB.size);have HMF:=hide (iQ (hkc.own HW2.m HW2.cm (by omega)) HB.size);have zH:=hide HW2.cm
 have lH:Hid (Below w.heap.size w W'):=by
  rw [hW'];exact GR.setW_below (by omega) [.int .i64 n.id,.int .i64 n.par,.slice A1.k n.kids.length A1.ck,.int .i64 n.next,.slice A1.p n.pu.length A1.cp,.slice A1.o n.out.length A1.co,.slice A1.s n.seen.length A1.cs,.int .i64 n.old,.slice A1.r n.reqs.length A1.cr] (o:=0) (HB.trans (HW2.keep.mono HB.size))
 obtain⟨d0,d1,d2,d3,d4,d5,d6,d7,d8⟩:=nine e4;clear hW' e4 hkc;exact bodyPost_ret (v:= .tuple #[.agg #[.int .i64 n.id,.int .i64 n.par,.slice A1.k n.kids.length A1.ck,.int .i64 n.next,.slice A1.p n.pu.length A1.cp,.slice A1.o n.out.length A1.co,.slice A1.s n.seen.length A1.cs,.int .i64 n.old,.slice A1.r n.reqs.length A1.cr],(.slice none 0 0),.int .i64 3]) (by simp[results,Tryz.results7,go_sem,d0,d1,d2,d3,d4,d5,d6,d7,d8]) rfl ⟨A1,G1,Jb,(.slice none 0 0),rfl,Pm,HMF,zH,lH⟩):P:=h
theorem aaF(h:P:=by
 refine Lib.wp_append_run x4 (.tmp 98) (.tmp 100) 28 28 rfl _ _ (by simp[Act.eval]) (by simp[Act.eval]) v4 y4 Qg ?_;refine⟨(Below.refl _ _).grown Bq Jr (fun b hb=>(IE.lt b hb).1),?_⟩;go_simp;have Ry:=hide (Rx.grown Bq Jr (fun b hb=>(IE.lt b hb).1));exact Ka167):P:=h
theorem amR.Ka167(h:P:=by
 have LK:Hid (y4.ownsRow wc.heap.size 43 4 v4 (pos+1) (GR.flat aJ (n.reqs.take pos++[(⟨no,k,nn,1⟩:Rq)]))):=hide (by rw [GR.flat_append,GR.flat_one];exact Mx);have Xy:=hide (show y4.heap[rb]?=some (.cells #[.int .i64 no,.string k,.int .i64 nn,.int .i64 1] 43 (0,0)) from by rw [Bq.block _ (aA (ah AP)) (fun hm=>ah Pf _ hm.symm rfl)];exact AP);open an8 in exact Tn):P:=h
theorem amS.Ka167(h:P:=by
 have LK:Hid (y4.ownsRow wc.heap.size 43 4 v4 (pos+1) (GR.flat aJ (n.reqs.take pos++[(⟨no,k,nn,0⟩:Rq)]))):=hide (by rw [GR.flat_append,GR.flat_one];exact Mx);have Xy:=hide (show y4.heap[rb]?=some (.cells #[.int .i64 no,.string k,.int .i64 nn,.int .i64 0] 43 (0,0)) from by rw [Bq.block _ (aA (ah AP)) (fun hm=>ah Pf _ hm.symm rfl)];exact AP);open an7 in exact Tn):P:=h
theorem OA(h:P:=by
 refine wp_at (fun W hW=>?_);have iJ:Hid (Below w.heap.size w W):=by rw [hW];first|exact iT w _ _|exact(iT w _ _).drew
 exact Ka168):P:=h
theorem amT.Ka168(h:P:=by
 have hX:W.heap[w.heap.size+1]?=some (.cells #[.int .i64 2,.int .i64 no,.string ⟨#[]⟩,.int .i64 0,.int .i64 0,.int .i64 0,.int .i64 0,.int .i64 0,.int .i64 0,.string ⟨#[]⟩,.int .i64 0] 34 (0,0)):=by rw [hW];exact(jR w _ _).2
 have hY:W.heap[w.heap.size]?=some (.cells #[.int .i64 2,.int .i64 no,.string k,.int .i64 n,.int .i64 mK,.int .i64 mF,.int .i64 mT,.int .i64 mI,.int .i64 mL,.string mk,.int .i64 mN] 34 (0,0)):=by rw [hW];exact(jR w _ _).1
 open aof in exact Tp):P:=h
theorem amU.Ka168(h:P:=by
 have hX:W.heap[w.heap.size+1]?=some (.cells #[.int .i64 5,.int .i64 0,.string ⟨#[]⟩,.int .i64 0,.int .i64 0,.int .i64 0,.int .i64 0,.int .i64 0,.int .i64 0,.string ⟨#[]⟩,.int .i64 0] 34 (0,0)):=by rw [hW];exact(jR w _ _).2
 have hY:W.heap[w.heap.size]?=some (.cells #[.int .i64 5,.int .i64 no,.string k,.int .i64 n,.int .i64 mK,.int .i64 mF,.int .i64 mT,.int .i64 mI,.int .i64 mL,.string mk,.int .i64 mN] 34 (0,0)):=by rw [hW];exact(jR w _ _).1
 open amc in exact aap):P:=h
theorem amV.Ka168(h:P:=by
 have hX:W.heap[w.heap.size+1]?=some (.cells #[.int .i64 1,.int .i64 no,.string k,.int .i64 n,.int .i64 0,.int .i64 0,.int .i64 0,.int .i64 0,.int .i64 0,.string ⟨#[]⟩,.int .i64 0] 34 (0,0)):=by rw [hW];exact(jR w _ _).2
 have hY:W.heap[w.heap.size]?=some (.cells #[.int .i64 1,.int .i64 no,.string k,.int .i64 n,.int .i64 mK,.int .i64 mF,.int .i64 mT,.int .i64 mI,.int .i64 mL,.string mk,.int .i64 mN] 34 (0,0)):=by rw [hW];exact(jR w _ _).1
 open aoe in exact Tp):P:=h
theorem amW.Ka168(h:P:=by
 exact Ka43):P:=h
theorem aaG(h:P:=by
 have hblk:V.heap[wr.heap.size]?=some (.cells #[.string pk,.int .i64 pm,.int .i64 pf,.int .i64 ps] 84 (0,0)):=by rw [hV];exact heap_alloc_new wr _
 exact Ka169):P:=h
theorem amX.Ka169(h:P:=by
 have WW:=HP.below hbV;have Pq:=hide WW;have ET:=hide hblk;have HVS:=hide (show V.heap.size=wr.heap.size+1 by rw [hV];simp);have D7:=hide (fG.trans (hbV.mono fG.size));obtain⟨⟨p0,p1,p2,p3⟩,_⟩:=eZ hblk;obtain⟨⟨n0,n1⟩,f0,f1⟩:=lF WW.blk
 have HRW:=hide (show V.ownsRow w.heap.size 9 1 (.slice aa k cc) k (((l.take k).map (·.k)).map Value.string) by
  have:=WW.row
  rw [List.length_map,List.length_take,Nat.min_eq_left hk] at this
  exact this)
 have HGR:=hide (show∀w2:World,((V.alloc (.cells #[.string pk] 9)).drew).grownBy w2 (Value.slice aa k cc).ownBlock→
  w2.heap[w1.heap.size+1]?=some (.cells #[.slice aa k cc,.map (some w1.heap.size)] 191 (0,0))∧w2.heap[w1.heap.size]?=V.heap[w1.heap.size]?∧w2.heap[wr.heap.size]?=V.heap[wr.heap.size]?∧Below w.heap.size V w2 by
  intro w2 hg
  have hb:∀q,q < V.heap.size→(Value.slice aa k cc).ownBlock≠some q→w2.heap[q]?=V.heap[q]?:=fun q hq hne=>by
   rw [hg.block q (by show q < (V.alloc _).heap.size;simp;omega) (Ne.symm hne)]
   exact Below.heap_alloc V _ _ hq
  obtain⟨es,clock,hmap⟩:=WW.map.blk
  refine⟨?_,hb _ WW.map.lt (uZ HRW hmap),hb _ (Fo.lt_of_blk hblk) (own_ne HRW hblk (by decide)),?_⟩
  ·rw [hb _ (Fo.lt_of_blk WW.blk) (own_ne (ah HRW) WW.blk (by decide))];exact WW.blk
  ·refine⟨hg.os,hg.tape,hg.output,Nat.le_trans (by show V.heap.size≤(V.alloc _).heap.size;simp) hg.size,fun q hq=>hb q (by have:=D7.size;omega) (fun e=>?_)⟩;have:=HRW.lt _ e
   omega)
 have n2:(V.alloc (.cells #[.string pk] 9)).cell? ⟨w1.heap.size+1,0,none⟩=some (.slice aa k cc):=by rw [World.cell?_alloc_lt _ _ _ (Fo.lt_of_blk WW.blk)];exact n0
 clear hblk hbV WW hV c0 c1 c2 c3 n1 f1;go_region_law (refine step_append_lies _ rfl (.tmp 24) (.tmp 27) 72 rfl w.heap.size 9 i0 (.string ⟨#[]⟩) 1 16 Tryz.underlying72 hi hz0 hz1 hz2 rfl (by decide) (.slice aa k cc) k (((l.take k).map (·.k)).map Value.string) (by simp[Act.eval]) (HRW.alloc _).drew ⟨V.heap.size,0,none⟩ 1 1 [.string pk] (by simp[Act.eval]) rfl (World.news_of_block (w:=(V.alloc (.cells #[.string pk] 9)).drew) (heap_alloc_new V _)) (fun u hu=>by rw [List.mem_singleton.1 hu];rfl) (by omega) (by unfold maxLen;omega) (by omega) (by have:=D7.size;simp;omega) (V.heap.size+1) (by simp) ?_;intro g' cap' w2 hown hgrow hat hlt2;have hK2:=ah HGR w2 hgrow;have HOW:=hide hown;clear hown hgrow hat hlt2;have HM2:=hide hK2.1;have XH:=hide hK2;obtain⟨⟨y0,y1⟩,z0,z1⟩:=lF hK2.1;clear hK2 y1 z1)
 all_goals
  go_upto_region 8 with fail
  refine Fo.wp_at (fun V3 hV3=>?_)
  obtain⟨hx1,hx2,hx3,hx4⟩:=ah XH
  have awe:w1.heap.size+1 < wr.heap.size:=Fo.lt_of_blk HP.blk
  have hblk3:V3.heap[w1.heap.size+1]?=some (.cells #[.slice (some ⟨g',0,none⟩) (k+1) cap',.map (some w1.heap.size)] 191 (0,0)):=by rw [hV3];exact Fo.blk_set hx1 0 _
  have arR:V3.heap[wr.heap.size]?=some (.cells #[.string pk,.int .i64 pm,.int .i64 pf,.int .i64 ps] 84 (0,0)):=by
   rw [hV3,Fo.one_other rfl (by omega),hx3];exact ET
  have UJ:gP V3 w1.heap.size k (aG (l.take k)):=Pq.map.kept (by rw [hV3,Fo.one_other rfl (by omega),hx2])
  have hrow3:V3.ownsRow w.heap.size 9 1 (.slice (some ⟨g',0,none⟩) (k+1) cap') (k+1) (((l.take k).map (·.k)).map Value.string++[.string pk]):=by
   rw [hV3];exact HOW.kept (w':=w2.setCell ⟨w1.heap.size+1,0,none⟩ _) (row:=some (w1.heap.size+1)) ⟨rfl,rfl,rfl,by rw [Fo.setCell_size];exact Nat.le_refl _,fun q _ hne=>Fo.one_other rfl (fun e=>hne (by rw [e]))⟩ (.inr (own_ne HOW hx1 (by decide)))
  have hkeys:(l.take (k+1)).map (·.k)=(l.take k).map (·.k)++[pk]:=by rw [ah Ob];simp
  have asu:=hide (show PM V3 w.heap.size (w1.heap.size+1) w1.heap.size k (.slice (some ⟨g',0,none⟩) (k+1) cap') ((l.take (k+1)).map (·.k)) (aG (l.take k)) by
   refine⟨hblk3,?_,UJ,HP.lop,HP.lom⟩
   rw [hkeys,List.map_append,List.length_append,List.length_map,List.length_take,Nat.min_eq_left hk]
   exact hrow3)
  have HB3:=hide (show Below w.heap.size w V3 by rw [hV3];exact(D7.trans hx4).setCell (p:=⟨w1.heap.size+1,0,none⟩) HP.lop _)
  have acY:=hide (OL (w1.heap.size+1) w1.heap.size k _ (aG (l.take k)) ⟨pk,pm,pf,ps⟩ V3 hkk (by unfold maxLen;omega) hblk3 UJ)
  obtain⟨⟨r0,r1,r2,r3⟩,_⟩:=eZ arR
  clear hx1 hx2 hx3 hx4 hblk3 arR UJ hrow3 hkeys hV3 y0 z0 n0 n2 p0 p1 p2 p3 f0
  go_wp2_with fail
  refine acY.mono ?_
  rintro e w5 ⟨rfl,hm5,hk5⟩
  have Ht:=hide (asu.turned hk5 hm5)
  have jd:=hide (HB3.trans (zu hk5 HP.lom HB3.size))
  clear hm5 hk5 r0 r1 r2 r3
  go_wp2_with fail
  go_roundw
  case rel=>
   have h:=ah Ht;rw [ah HUP] at h;exact⟨k+1,_,_,by omega,by go_num,h,jd⟩
  case measure=>simp[intOf];omega):P:=h
theorem amY.Ka169(h:P:=by
 have D7:=hide (show Below w.heap.size w V by rw [hV];exact fG.alloc fG.size _);have hgV:=Fo.lt_of_blk hblk;obtain⟨⟨p0,p1,p2,p3⟩,_⟩:=eZ hblk;exact Ka23):P:=h
theorem aaH(h:P:=by
 have mixed:Tryz.prog.follows .mixedOrders=true:=by kernel_rfl
 have hw1:IntKind.i64.wrap ((i:Int)+1)=(i:Int)+1:=IntWalk.i64_in _ ⟨by omega,by omega⟩;have hb1:(0:Int)≤(i:Int)+1:=by omega
 have hin:i≤l.length:=by omega
 have htn:((i:Int)+1).toNat=i+1:=by omega
 exact Ka170):P:=h
theorem amZ.Ka170(h:P:=by
 have hb2:¬(cap=i+1):=by omega
 have hb3:(i:Int)≤(l.length:Int)+1:=by omega
 have hb4:¬(cap=i):=by omega
 have hc63:cap≤9223372036854775807:=by unfold maxLen at hcm;omega
 clear hcs hcl hdl hv hblk htake hcm hr1 UF adP hvr;go_enter Tryz.func106,Tryz.ntmps106
 go_wp2_with (simp only[hov])
 go_region_law_o (refine step_copy_runI rfl _ _ 28 28 rfl _ _ (by simp[Act.eval,Act.put]) (by simp[Act.eval,Act.put]) (hcp1 _ _ _ _ _ (by omega) (by omega)) ?_)
 go_wp2_with (at_builtin;refine wpList_copy_runI _ rfl _ _ 28 28 rfl _ _ rfl rfl (hcp2 _ _ _ (by omega)) ?_)
 go_ret;exact⟨rfl,hfin.1,hfin.2⟩):P:=h
theorem am0.Ka170(h:P:=by
 have hb3:(i:Int)≤(l.length:Int):=by omega
 have hGi:¬(G=i):=by omega
 have hGim:¬(G=i+1):=by omega
 have hci:¬(cap=i):=by omega
 have hG63:G≤9223372036854775807:=by unfold maxLen at hGm;omega
 have hz3:(cap:Int) < (l.length:Int)+1:=by omega
 have hA2:=hA ((w.alloc (.cells R 43)).drew) rfl;have hB2:=hB ((((w.alloc (.cells R 43)).drew).setRow w.heap.size (xq R.toList i q).toArray).drew) rfl;clear hblk hv htake hcell hdl htl hRs hRl hRt hBb hi0 hz0 hz1 hz2 hA hB;go_enter Tryz.func106,Tryz.ntmps106
 go_upto_region 10 with(at_builtin;refine Lib.wpList_append_run _ rfl _ _ _ _ rfl _ _ rfl rfl _ _ (hrz _) ?_)
 go_wp2_with (first
  |(at_builtin;refine wpList_copy_runI _ rfl _ _ 28 28 rfl _ _ rfl rfl (hA2 _ _ _ (by omega)) ?_))
 go_region_law_o (refine step_copy_runI rfl _ _ 28 28 rfl _ _ (by simp[Act.eval,Act.put]) (by simp[Act.eval,Act.put]) (hB2 _ _ _ _ _ (by omega) (by omega)) ?_)
 go_wp2
 go_ret;obtain⟨f1,f2⟩:=ah zI ((((w.alloc (.cells R 43)).drew).setRow w.heap.size (xq R.toList i q).toArray).drew) rfl rfl rfl rfl;exact⟨G,_,rfl,hGn,hGm,f1,Sg,Ob,f2⟩):P:=h
theorem aaI(h:P:=by
 refine gW 8 rfl (by kernel_rfl) (by rfl) (by decide) (fun x4 hx4=>?_);have Rx:=hide (Pg.trans (hx4.mono Pg.size));have Jr:wc.heap.size≤x4.heap.size:=Rx.size;have IE:=hide (GR.own_below Px hx4);have AP:=hide (au CF hx4);clear hx4;exact Ka171):P:=h
theorem am1.Ka171(h:P:=by
 obtain⟨v4,y4,Qg,Mx,Bq,Va⟩:=dG x4 wc.heap.size 28 28 43 i0 (.agg #[.int .i64 0,.string ByteArray.empty,.int .i64 0,.int .i64 0]) 4 40 Tryz.underlying28 hi hz0 hz1 hz2 rfl (by decide) (.slice avR (pos) cvR) (pos) (GR.flat aJ (n.reqs.take pos)) IE ⟨rb,0,none⟩ 1 1 (aJ ⟨no,k,nn,1⟩) rfl (World.news_of_block AP) (nA _) (by unfold maxLen;omega) (by omega) Jr;open amR in exact aaF):P:=h
theorem am2.Ka171(h:P:=by
 obtain⟨v4,y4,Qg,Mx,Bq,Va⟩:=dG x4 wc.heap.size 28 28 43 i0 (.agg #[.int .i64 0,.string ByteArray.empty,.int .i64 0,.int .i64 0]) 4 40 Tryz.underlying28 hi hz0 hz1 hz2 rfl (by decide) (.slice avR (pos) cvR) (pos) (GR.flat aJ (n.reqs.take pos)) IE ⟨rb,0,none⟩ 1 1 (aJ ⟨no,k,nn,0⟩) rfl (World.news_of_block AP) (nA _) (by unfold maxLen;omega) (by omega) Jr;open amS in exact aaF):P:=h
theorem OC(h:P:=by
 obtain⟨c0,c1,c2,c3,c4,c5,c6,c7,c8,c9⟩:=iI HW1.blk;obtain⟨⟨p0,p1,p2,p3,p4,p5,p6,p7,p8,p9,mZ⟩,_⟩:=bX rG;exact Ka172):P:=h
theorem am3.Ka172(h:P:=by
 have hwl:=aA HW.blk;have hne:wb≠w.heap.size:=by omega
 exact Ka8):P:=h
theorem am4.Ka172(h:P:=by
 go_enter Tryz.func50,Tryz.ntmps50
 go_upto_region 1 with fail;have y1:=cell_regrown c1;open apf in exact Tw):P:=h
theorem am5.Ka172(h:P:=by
 go_enter Tryz.func49,Tryz.ntmps49
 go_upto_region 3 with fail;have y0:=cell_regrown c0;have y1:=cell_regrown c1;open ape in exact Tw):P:=h
theorem am6.Ka172(h:P:=by
 have hwl:=aA HW.blk;have hne:wb≠w.heap.size:=by omega
 go_enter Tryz.func46,Tryz.ntmps46
 go_upto_region 1 with fail;have y1:=cell_regrown c1;have y4:=cell_regrown c4;open apd in exact Tw):P:=h
theorem aaJ(h:P:=by
 have ho:=h.own;rw [←h.len] at ho;obtain⟨a',c',g,e,hW,hg,hgo⟩:=GR.W.of_own (enc:=dD) bC ho;cases e
 rw [h.len] at hgo;have hfe:∀x,x∈fp g l→x∈fp g T2:=fun x hx=>by have:=fD hx;rw [this.1];exact dz (by rw [h.len];exact this.2)
 exact Ka173):P:=h
theorem am7.Ka173(h:P:=by
 refine⟨g,⟨T2,hW,h.len,fun i hi=>?_⟩,fun x hx=>⟨(hg x (hfe x hx)).1,hgo x (hfe x hx)⟩,fun x hx=>?_,?_⟩
 ·obtain⟨b,c,e1,e2,_⟩:=h.dn i hi hi;exact⟨b,c,e1,e2⟩
 ·obtain⟨i,hi,rfl,hpos⟩:=qJ hx;obtain⟨_,_,_,_,e3⟩:=h.dn i hi hi;exact e3 _ (dz hpos)
 ·rw [j6];exact fun i j hi hj hij h1 h2=>h.nd i j hi hj hij hj h1 h2):P:=h
theorem am8.Ka173(h:P:=by
 refine⟨g,⟨⟨T2,hW,h.len,fun i hi=>?_⟩,fun hp=>?_⟩,fun x hx=>(hg x (hfe x hx)).1,fun x hx=>?_,?_⟩
 ·obtain⟨b,c,e1,e2,_⟩:=h.dn i hi hi;exact⟨b,c,e1,e2⟩
 ·have hx:=hgo g (dz (by rw [h.len];exact hp));rcases h.own.2 with⟨_,hn⟩|⟨g',cap,cur,hv,_,hgg,_⟩
  ·omega
  ·rw [hv] at hx;have e3:g'=g:=by simpa [Value.ownBlock] using hx
   rw [e3] at hgg;exact⟨cur,hgg⟩
 ·obtain⟨i,hi,rfl,hpos⟩:=qJ hx;obtain⟨_,_,_,_,e3⟩:=h.dn i hi hi;have q:=e3 _ (dz hpos);exact⟨q.1,q.2.1,fun hm=>q.2.2 (hgo _ (hfe _ hm))⟩
 ·rw [j6];exact fun i j hi hj hij h1 h2=>h.nd i j hi hj hij hj h1 h2):P:=h
theorem SY(h:P:=by
 go_enter Tryz.func160,Tryz.ntmps160
 go_wp2_with fail;refine HBS.mono ?_;rintro e w1 ⟨rfl,q,rfl⟩;rw [hf];exact Ka174):P:=h
theorem am9.Ka174(h:P:=by
 go_wp2_with fail;go_ret;exact⟨⟨rfl,rfl,rfl,Nat.le_refl _,fun _ _=>rfl⟩,fun _ _ _ _=>rfl,.inl ⟨by first|trivial|rfl,rfl,HH.drewN⟩⟩):P:=h
theorem ana.Ka174(h:P:=by
 clear HBS
 have RA:=hide (aec B (.slice a l.length cap) (l.map (·.k)) (place l key) key w.heap.size ((w.drewN q).alloc (.cells #[.string key] 9)) (by rw [List.length_map];exact lq l key) (by rw [List.length_map];exact hl) (by simp;omega)
  (World.ownsRow.alloc (w:=w.drewN q) HH.row _) (heap_alloc_new (w.drewN q) _) (fun e=>by have:=HR.lt _ e;omega))
 go_wp2_with fail;refine RA.mono ?_;rintro e w2 ⟨v',rfl,hown,hgr⟩;rw [List.length_map,Vm,←zo l key] at hown;obtain⟨g',cap',rfl,_,_⟩:=hown.form (by rw [zo];omega)
 have hlt:∀k,k < w.heap.size→(Value.slice a l.length cap).ownBlock≠some k→w2.heap[k]?=w.heap[k]?:=fun k hk hne=>by
  rw [hgr.block k (by simp;omega) (Ne.symm hne)]
  exact Below.heap_alloc (w.drewN q) _ _ hk
 have hm2:w2.heap[mp]?=some (.cells #[.slice a l.length cap,.map (some mb)] 191 (0,0)):=by rw [hlt mp hmp (own_ne (ah HR) (ah HH).blk (by decide))];exact HH.blk
 have hb2:w2.heap[mb]?=w.heap[mb]?:=by
  obtain⟨es,clock,hbk⟩:=HH.map.blk;exact hlt mb hmb (uZ HR hbk)
 have hbw:Below B w w2:=by
  refine⟨hgr.os,hgr.tape,hgr.output,Nat.le_trans (by simp) hgr.size,fun k hk=>hlt k (by omega) (fun e=>?_)⟩;have:=HR.lt _ e;omega
 have HO:=hide hown;have HM2:=hide hm2;have HB2:=hide hb2;have iJ:=hide hbw;have HLT:=hide hlt;obtain⟨⟨n0,n1⟩,g0,g1⟩:=lF hm2;clear hown hgr hlt hm2 hb2 hbw RA n1 g1;go_wp2_with fail;go_ret;refine⟨iJ.setCell (p:=⟨mp,0,none⟩) HH.lop _,fun k hk hne1 hne2=>Fo.one_other (HLT k hk hne2) hne1,.inr (.inr ⟨by first|trivial|rfl,by omega,rfl,.slice (some ⟨g',0,none⟩) (JG l key).length cap',?_,?_,?_,HH.lop,HH.lom⟩)⟩
 ·exact Fo.blk_set HM2 0 _
 ·refine HO.kept (w':=w2.setCell ⟨mp,0,none⟩ _) (row:=some mp) ⟨rfl,rfl,rfl,by rw [Fo.setCell_size];exact Nat.le_refl _,fun k _ hne=>Fo.one_other rfl (fun e=>hne (by rw [e]))⟩ (.inr (own_ne HO HM2 (by decide)))
 ·refine HH.map.kept ?_;rw [Fo.one_other (ah HB2) (Ne.symm (ah HH).mpmb)]):P:=h
theorem anb.Ka174(h:P:=by
 go_wp2_with fail;go_ret;exact⟨⟨rfl,rfl,rfl,Nat.le_refl _,fun _ _=>rfl⟩,fun _ _ _ _=>rfl,.inr (.inl ⟨by first|trivial|rfl,H20,rfl⟩)⟩):P:=h
theorem Te(h:P:=by
 rw [←hW] at e1 e2 e3 e4;have HN:=hide e1;have HO:=hide e2;have HR:=hide e3;have HB0:=hide e4;have Ee:=hide (l7.kc (k:=9) (KC.of_below e4) (by omega));exact Ka175):P:=h
theorem ane.Ka175(h:P:=by
 clear hW e1 e2 e3 e4 l7;obtain⟨⟨p0,p1,p2,p3,p4,p5,p6,p7,p8,p9,mZ⟩,_⟩:=bX HO;have hol:=aA HO;obtain⟨c0,c1,c2,c3,c4,c5,c6,c7,c8⟩:=nine HN;obtain⟨d0,d1,d2,d3,d4,d5,d6,d7,d8⟩:=nine HR;have f0:=aj HR 0;have f1:=aj HR 1;have f2:=aj HR 2;have f3:=aj HR 3;have f4:=aj HR 4;have f5:=aj HR 5;have f6:=aj HR 6;have f7:=aj HR 7;have f8:=aj HR 8;have hnl:=aA HN;have hrl:=aA HR;go_wp2_with fail;refine aR (fun W' hW'=>?_)
 have e4:W'.heap[w.heap.size+2]?=some (.cells #[.int .i64 n.id,.int .i64 n.par,.slice A.k n.kids.length A.ck,.int .i64 n.next,.slice A.p n.pu.length A.cp,.slice A.o n.out.length A.co,.slice A.s n.seen.length A.cs,.int .i64 n.old,.slice A.r n.reqs.length A.cr] 30 (0,0)):=by
  rw [hW'];exact GR.setW_blk [.int .i64 n.id,.int .i64 n.par,.slice A.k n.kids.length A.ck,.int .i64 n.next,.slice A.p n.pu.length A.cp,.slice A.o n.out.length A.co,.slice A.s n.seen.length A.cs,.int .i64 n.old,.slice A.r n.reqs.length A.cr] (o:=0) (xs:=[.int .i64 0,.int .i64 0,.slice none 0 0,.int .i64 0,.slice none 0 0,.slice none 0 0,.slice none 0 0,.int .i64 0,.slice none 0 0]) HR
 have fu:aC [w.heap.size+2] W0 W':=by
  exact aqT
 have HAT:=hide (fun W'' (ho:Out c w W' W'')=>(Ee.kc (k:=9) ((KC.keeps fu (fun x hx=>by have:x=w.heap.size+2:=(by simpa using hx);rw [this];exact aW (by omega))).trans (KC.out H9 ho)) (by omega)).rm);have lH:Hid (Below B w W'):=(HB0.mono hB).trans (fu.below (fun x hx=>by have:x=w.heap.size+2:=(by simpa using hx);omega) (Nat.le_trans hB (HB0.mono hB).size));have qg:=hide (Apart.keeps (c:=c) (Apart.of_below (HB0)) (HB0.mono hB).size fu (fun x hx=>by have:x=w.heap.size+2:=(by simpa using hx);omega));obtain⟨x0,x1,x2,x3,x4,x5,x6,x7,x8⟩:=nine e4;clear hW' e4 fu;exact bodyPost_ret (v:= .tuple #[.agg #[.int .i64 n.id,.int .i64 n.par,.slice A.k n.kids.length A.ck,.int .i64 n.next,.slice A.p n.pu.length A.cp,.slice A.o n.out.length A.co,.slice A.s n.seen.length A.cs,.int .i64 n.old,.slice A.r n.reqs.length A.cr],.int .i64 2]) (by simp[results,Tryz.results60,go_sem,x0,x1,x2,x3,x4,x5,x6,x7,x8]) rfl ⟨A,rfl,HAT,lH,qg⟩):P:=h
theorem anf.Ka175(h:P:=by
 clear hW e1 e2 e3 e4;open ak9 in exact ZX):P:=h
theorem ang.Ka175(h:P:=by
 clear hW e1 e2 e3 e4 l7;open ala in exact ZX):P:=h
theorem Tf(h:P:=by
 have rR:=hide (vM.trans (hx2.mono vM.size));have rY:wc.heap.size≤x2.heap.size:=rR.size;have CK:=hide (GR.own_below XG hx2);clear hx2;exact Ka176):P:=h
theorem anh.Ka176(h:P:=by
 refine⟨(ay x2 _).mono rY,?_⟩;have CS:=ay x2 (.cells #[.int .i64 no,.string k,.int .i64 nn,.int .i64 0] 43);have R7:=hide (heap_alloc_new x2 (.cells #[.int .i64 no,.string k,.int .i64 nn,.int .i64 0] 43));open ajc in exact adj):P:=h
theorem ani.Ka176(h:P:=by
 refine⟨(ay x2 _).mono rY,?_⟩;have CS:=ay x2 (.cells #[.int .i64 no,.string k,.int .i64 nn,.int .i64 1] 43);have R7:=hide (heap_alloc_new x2 (.cells #[.int .i64 no,.string k,.int .i64 nn,.int .i64 1] 43));open ajd in exact adj):P:=h
theorem anj.Ka176(h:P:=by
 obtain⟨v2,y2,Qf,Qe,Qc,ar0⟩:=eH aY (by omega) x2 wc.heap.size 28 28 43 i0 (.agg #[.int .i64 0,.string ByteArray.empty,.int .i64 0,.int .i64 0]) 40 Tryz.underlying28 hi hz0 hz1 hz2 rfl (.slice (some ⟨x1.heap.size,0,none⟩) 0 0) 0 (GR.flat aJ ([])) CK (some ⟨gr,0,none⟩) (n.reqs.take pos) aT (GR.At.below CJ rR) (gQ _) (by unfold maxLen;omega) (by omega) rY;rw [hlt1] at Qf Qe;refine Lib.wp_append_run x2 (.tmp 93) (.tmp 97) 28 28 rfl _ _ (by simp[Act.eval]) (by simp[Act.eval]) v2 y2 Qf ?_;refine⟨(Below.refl _ _).grown Qc rY (fun b hb=>(CK.lt b hb).1),?_⟩;go_simp;have EX:=hide (rR.grown Qc rY (fun b hb=>(CK.lt b hb).1));have CP:Hid (y2.ownsRow wc.heap.size 43 4 v2 (pos) (GR.flat aJ (n.reqs.take pos))):=hide (by simpa [GR.flat_nil] using Qe);obtain⟨avR,cvR,UU,_⟩:=GR.own_at (enc:=aJ) (sz:=4) (l:=n.reqs.take pos) aY (by rw [hlt1];exact CP);open aou in exact aa6):P:=h
theorem aaK(h:P:=by
 have y0:=(hcell 0 (by omega)).1;rw [Nat.mul_one,Nat.add_zero] at y0;simp only[List.getElem?_cons_zero] at y0;clear hcell;exact Ka177):P:=h
theorem ank.Ka177(h:P:=by
 have HUP:=hide (fun(h:¬(aQ s0 mL)[x] < mI)=>Wn (l:=aQ s0 mL) (x:=mI) hx RI (fun _=>h))
 have RV:=hide (fun(h:(aQ s0 mL)[x] < mI)=>show∀y (hy:y < (aQ s0 mL).length),y < x+1→(aQ s0 mL)[y] < mI from fun y hy h2=>by
  by_cases e:y=x
  ·subst e;exact h
  ·exact RI y hy (by omega))
 generalize (aQ s0 mL)[x]=rn at *;by_cases hcmp:rn < mI
 ·go_wp2_with fail;go_quiet (fail);go_wp2_with fail;go_roundw
  case rel=>exact⟨x+1,_,by omega,by go_num,RV hcmp,rfl⟩
  case measure=>simp[intOf];omega
 ·have UE:decide (rn < mI)=false:=decide_eq_false hcmp;have HJ:=hide (HUP hcmp);exact arh):P:=h
theorem anl.Ka177(h:P:=by
 subst eb;have hlen:=Qm s0 mL k;by_cases hge:bY s0 mL≤s0.ids[k]
 ·have HY:=hide (Qn s0 mL k hlt hge);generalize s0.ids[k]=x at *;have hd:decide (bY s0 mL≤x)=true:=decide_eq_true hge;go_wp2_with fail;go_quiet (fail);go_wp2_with (at_builtin;refine wpList_append_own _ rfl _ _ 24 rfl W3.heap.size 3 i0 (.int .i64 0) 1 8 Tryz.underlying24 hi0 hz0 hz1' hz2 rfl (by decide) _ _ _ rfl (zW hown) ⟨wr.heap.size,0,none⟩ 1 1 [.int .i64 x] rfl rfl ?c1 ?c2 ?c3 ?c4 ?c5 ?_)
  case c1=>exact cell_one_new _ _ _
  case c2=>intro u hu;simp at hu;subst hu;rfl
  case c3=>unfold maxLen;omega
  case c4=>omega
  case c5=>have:=fG.size;simp;omega
  intro v' w2 hown' hgrow _;have asg:=hide (GR.below_append (wr:=wr.drewN nq) (fG.trans ⟨rfl,rfl,rfl,Nat.le_refl _,fun _ _=>rfl⟩) fG.size hown hgrow)
  obtain⟨g',cp',rfl⟩:∃g' cp',v'= .slice (some ⟨g',0,none⟩) ((mU s0 mL k).length+1) cp':=by
   rcases hown'.2 with⟨_,hn⟩|⟨g',cap',cur,hv,_⟩
   ·omega
   ·exact⟨g',cap',hv⟩
  have Zr:=hide hown';clear hown' hgrow;go_wp2_with fail;go_roundw
  case rel=>exact⟨k+1,g',cp',by omega,by go_num,by rw [ah HY,List.length_append];rfl,by rw [ah HY,List.length_append,GR.flat_append,GR.flat_one];exact Zr,fun e=>by rw [ah HY] at e;simp at e,asg⟩
  case measure=>simp[intOf];omega
 ·have HY:=hide (Ve s0 mL k hlt hge);generalize s0.ids[k]=x at *;have hd:decide (bY s0 mL≤x)=false:=decide_eq_false hge;go_wp2_with fail;go_quiet (fail);go_wp2_with fail;go_roundw
  case rel=>exact⟨k+1,g,cp,by omega,by go_num,by rw [ah HY],by rw [ah HY];exact hown,by rw [ah HY];exact acQ,fG.trans ⟨rfl,rfl,rfl,Nat.le_refl _,fun _ _=>rfl⟩⟩
  case measure=>simp[intOf];omega):P:=h
theorem aaL(h:P:=by
 obtain⟨R,hR⟩:∃R,cZ ⟨6,no,k,n,m⟩=R:=⟨_,rfl⟩;rw [hR];have HP:=hide (show R=(decide (k.toList=[])&&decide (n=0)&&decide (no=0)&&dw m) by rw [←hR];simp[cZ]);clear hR;generalize dw m=OK at *;obtain⟨mK,mF,mT,mI,mL,mk,mN⟩:=m;exact Ka178):P:=h
theorem anm.Ka178(h:P:=by
 have HX:=hide (heap_alloc_new (w.alloc (.cells #[.int .i64 6,.int .i64 no,.string k,.int .i64 n,.int .i64 mK,.int .i64 mF,.int .i64 mT,.int .i64 mI,.int .i64 mL,.string mk,.int .i64 mN] 34)) (.cells #[.int .i64 6,.int .i64 0,.string ⟨#[]⟩,.int .i64 0,.int .i64 0,.int .i64 0,.int .i64 0,.int .i64 0,.int .i64 0,.string ⟨#[]⟩,.int .i64 0] 34));have HY:=hide (fQ (heap_alloc_new w (.cells #[.int .i64 6,.int .i64 no,.string k,.int .i64 n,.int .i64 mK,.int .i64 mF,.int .i64 mT,.int .i64 mI,.int .i64 mL,.string mk,.int .i64 mN] 34)) (ay _ (.cells #[.int .i64 6,.int .i64 0,.string ⟨#[]⟩,.int .i64 0,.int .i64 0,.int .i64 0,.int .i64 0,.int .i64 0,.int .i64 0,.string ⟨#[]⟩,.int .i64 0] 34)));rw [show(w.alloc (.cells #[.int .i64 6,.int .i64 no,.string k,.int .i64 n,.int .i64 mK,.int .i64 mF,.int .i64 mT,.int .i64 mI,.int .i64 mL,.string mk,.int .i64 mN] 34)).heap.size=w.heap.size+1 by simp] at HX;go_enter Tryz.func44,Tryz.ntmps44
 go_wp2_with fail;refine(HM _).mono ?_;rintro e w1 ⟨rfl,hb1⟩;have Cv:=hide (fQ HX hb1);have HY1:=hide (fQ HY hb1);have HB1:=hide ((iT w _ _).trans (hb1.mono (by simp;omega)));clear hb1 HX HY;obtain⟨x0,x1,x2,x3,x4,x5,x6,x7,x8,x9,x10⟩:=Al Cv;obtain⟨y0,y1,y2,y3,y4,y5,y6,y7,y8,y9,y10⟩:=Al HY1;have f4:=qM Cv 4;have f5:=qM Cv 5;have f6:=qM Cv 6;have f7:=qM Cv 7;have f8:=qM Cv 8;have f9:=qM Cv 9;have f10:=qM Cv 10;cases WV:OK
 ·go_wp2_with fail
  all_goals
   go_ret
   refine⟨aD ?_,?_⟩
   ·rw [ah HP];simp[WV]
   ·exact Ue
 have HKK:=hide WV;clear WV;by_cases hno:no=0
 case' neg=>
  have hno':¬(0:Int)=no:=fun e=>hno e.symm
  go_wp2_with fail
  all_goals
   go_ret
   refine⟨aD ?_,?_⟩
   ·rw [ah HP];simp[hno]
   ·exact Ue
 subst hno;by_cases hk:k.toList=[]
 case' neg=>
  go_wp2_with fail
  all_goals
   go_ret
   refine⟨aD ?_,?_⟩
   ·rw [ah HP];simp[hk]
   ·exact Ue
 by_cases hn:n=0
 case' neg=>
  have hn':¬(0:Int)=n:=fun e=>hn e.symm
  go_wp2_with fail
  all_goals
   go_ret
   refine⟨aD ?_,?_⟩
   ·rw [ah HP];simp[hn,hk]
   ·exact Ue
 subst hn;go_wp2_with fail
 all_goals
  go_ret
  refine⟨aD ?_,?_⟩
  ·rw [ah HP];simp[hk,ah HKK]
  ·exact Ue):P:=h
theorem ano.Ka178(h:P:=by
 go_enter Tryz.func57,Tryz.ntmps57
 go_wp2_with (go_at_call 91;refine(HM _).mono ?_;rintro e w1 ⟨rfl,hb1⟩;have HB1:=hide hb1;clear hb1)
 all_goals
  go_ret
  refine⟨aD ?_,by first|exact ay w _|exact(ay w _).trans (HB1.mono (by simp))⟩
  rw [ah HP]
  simp[*]):P:=h
theorem Tg(h:P:=by
 have Pf:=hide (show∀b,(v3).ownBlock=some b→b≠x1.heap.size from fun b hb=>(MC b hb).elim (fun h=>EW b h) (fun h=>by have:=aA uK;omega));exact Ka179):P:=h
theorem anp.Ka179(h:P:=by
 open apc in exact abp):P:=h
theorem anq.Ka179(h:P:=by
 open akF in exact Oj):P:=h
theorem anr.Ka179(h:P:=by
 open akG in exact Oj):P:=h
theorem Ti(h:P:=by
 have Pf:=hide (show∀b,(v3).ownBlock=some b→b≠x2.heap.size from fun b hb=>(MC b hb).elim (fun h=>EW b h) (fun h=>by have:=aA uK;omega));exact Ka180):P:=h
theorem ant.Ka180(h:P:=by
 open apb in exact abp):P:=h
theorem anu.Ka180(h:P:=by
 open akD in exact Oj):P:=h
theorem anw.Ka180(h:P:=by
 open akE in exact Oj):P:=h
theorem aaM(h:P:=by
 obtain⟨⟨p0,p1,p2,p3,p4,p5,p6,p7,p8,p9,mZ⟩,_⟩:=bX LA;have hpl:=aA LA;go_wp2_with fail;refine(oI z HZ).mono ?_;rintro e w1 ⟨rfl,hb1⟩;have HZ1:=hide (HZ.step hb1);clear hb1 oI p0 p1 p2 p3 p4 p5 p6 p7 p8 p9 mZ HZ LA;exact Ka181):P:=h
theorem anx.Ka181(h:P:=by
 obtain⟨g,hAr,hgw,hgl,⟨q0,q1,q2,q3⟩,qf⟩:=HZ1.reqRow i hil;obtain⟨d0,d1,d2,d3,d4,d5,d6,d7,d8,d9⟩:=iI HZ1.blk;rw [hAr] at d8;have avr:=aA HZ1.blk;have auX:(i:Int) < (n.reqs.length:Int):=by omega
 rw [hs] at q3;go_upto_region 7 with fail;refine wp_at (fun W hW=>?_);obtain rfl:=hW;exact Ka91):P:=h
theorem anz.Ka181(h:P:=by
 go_wp2_with fail;go_ret;exact⟨rfl,A,G,c,HZ1⟩):P:=h
theorem aaN(h:P:=by
 refine bJ 20 (by kernel_rfl) ?_;show dZ _ _ _ _ _ 23 (Array.replicate 23 false) _ _
 refine tk [0,1,2,3,4,5,6,7,8,9,10,11,12,13,14,15,16] ?_;iterate 17 (refine oJ (fun K hK=>?_);go_simp;refine hK _ ?_;clear hK K)
 refine kK ?_;exact Ka182):P:=h
theorem anA.Ka182(h:P:=by
 clear y1 y4 z2 z3;refine dK 17 rfl (by kernel_rfl) (by rfl) (fun x hx=>?_);go_simp;have kR:=hide ((ay w (.cells #[.int .i64 K,.int .i64 no,.string k,.int .i64 nn,.int .i64 mK,.int .i64 mF,.int .i64 mT,.int .i64 mI,.int .i64 mL,.string mk,.int .i64 mN] 34)).trans (hx.mono (by simp)));clear hx;refine(HMI x kR).mono ?_;rintro e y ⟨a,cp,g,hg,rfl,hp,hby⟩;refine⟨hby,?_⟩;have NC:=hide (kR.trans (hby.mono kR.size));have HST:=hide (fun z (hz:Ge y z)=>O4 (cp:=cp) HW (NC.trans (hz.mono NC.size)) (Nat.le_trans kR.size hg) (hp.below hz));clear hby hg hp HMI;refine tk [18,19] ?_;iterate 2 (refine oJ (fun K hK=>?_);go_simp;refine hK _ ?_;clear hK K)
 refine kK ?_;refine aZ (by kernel_rfl) (fun z hz=>?_);refine aF 20 rfl (by kernel_rfl) (by rfl) ?_;go_simp;refine(HST z hz).mono ?_;rintro e z2 ⟨rfl,A',G',c',hZ⟩;have HZ:=hide hZ;clear hZ HST hz;open aom in exact aa3):P:=h
theorem anB.Ka182(h:P:=by
 clear y4 z3 z5 z6 x1;refine dK 17 rfl (by kernel_rfl) (by rfl) (fun x hx=>?_);go_simp;have kR:=hide ((ay w (.cells #[.int .i64 mK,.int .i64 mF,.int .i64 mT,.int .i64 mI,.int .i64 mL,.string mk,.int .i64 mN] 32)).trans (hx.mono (by simp)));have HXP:=hide (au rG hx);clear hx;refine(Ze x kR).mono ?_;rintro e y ⟨a,cp,g,hg,rfl,hp,hby⟩;refine⟨hby,?_⟩;have NC:=hide (kR.trans (hby.mono kR.size));have HYP:=hide (au HXP hby);have HST:=hide (fun z (hz:Ge y z)=>O3 (cp:=cp) HW.wk (NC.trans (hz.mono NC.size)) (Nat.le_trans kR.size hg) (hp.below hz));clear hby hg hp Ze;refine tk [18,19] ?_;iterate 2 (refine oJ (fun K hK=>?_);go_simp;refine hK _ ?_;clear hK K)
 refine kK ?_;refine aZ (by kernel_rfl) (fun z hz=>?_);have tZ:=hide (NC.trans (hz.mono NC.size));have HZP:=hide (au HYP hz);refine aF 20 rfl (by kernel_rfl) (by rfl) ?_;go_simp;refine(HST z hz).mono ?_;rintro e z2 ⟨rfl,A',G',c',hZ,hko,hcc⟩;have HZ:=hide (HW.settled tZ hZ hko hcc);have ze:=hide (hko w.heap.size _ (by omega) HZP);have HKO:Hid (∀j o,j≠wb→w.heap[j]?=some o→z2.heap[j]?=some o):=fun j o h1 h2=>hko j o h1 (au h2 tZ)
 clear hZ hko hcc HST hz tZ HZP HYP NC HXP kR;open aol in exact aa3):P:=h
theorem Tj(h:P:=by
 rcases ho.2 with⟨_,hy⟩|⟨g,cp,cur,hx,hbg,hgg,hnc,hcm,hcs,htk⟩
 ·omega
 simp only[Value.slice.injEq] at hx;obtain⟨rfl,_,rfl⟩:=hx;exact Ka183):P:=h
theorem anC.Ka183(h:P:=by
 by_cases hroom:l.length+1≤cap
 ·refine(F6 g cap i l q vb w cur hl hi2 hroom hcm (hne g rfl) hgg hcs htk hv).mono ?_;rintro e w' ⟨rfl,hb,hgr⟩;have hcl:(l.length+1)*4≤cur.toList.length:=by rw [show cur.toList.length=cur.size from Array.length_toList,hcs];omega
  refine⟨some ⟨g,0,none⟩,cap,by rw [hlen],?_,hgr,fun x hx=> .inl hx⟩;rw [hlen];refine⟨hfl,.inr ⟨g,cap,_,rfl,hbg,hb,hroom,hcm,?_,?_⟩⟩
  ·rw [List.size_toArray,VT _ _ _ _ hi2 hcl,show cur.toList.length=cur.size from Array.length_toList,hcs]
  ·exact QE cur.toList l i q hi2 hcl htk
 ·refine(JJ g cap i l q vb w cur hl hi2 hnc (by omega) hgg htk hv).mono ?_;rintro e w' ⟨G,cur',rfl,hG,hGm,hb,hs,ht,hgr⟩;refine⟨some ⟨w.heap.size,0,none⟩,G,by rw [hlen],?_,⟨hgr.os,hgr.tape,hgr.output,hgr.size,fun k hk _=>hgr.block k hk (by simp)⟩,fun x hx=> .inr ?_⟩
  ·rw [hlen];exact⟨hfl,.inr ⟨w.heap.size,G,cur',rfl,hB,hb,hG,hGm,hs,ht⟩⟩
  ·have:w.heap.size=x:=by simpa [Value.ownBlock] using hx
   omega):P:=h
theorem anD.Ka183(h:P:=by
 refine(PU g cap l w cur h2 hl hnc hcm hgg hcs htk).mono ?_;rintro e w' ⟨rfl,hb,hgr⟩;have hcl:l.length*4≤cur.toList.length:=by rw [show cur.toList.length=cur.size from Array.length_toList,hcs];omega
 refine⟨some ⟨g,0,none⟩,cap,by rw [hlen],?_,hgr,fun x hx=> .inl hx⟩;rw [hlen];refine⟨by rw [gI,hlen],.inr ⟨g,cap,_,rfl,hbg,hb,by omega,hcm,?_,?_⟩⟩
 ·rw [List.size_toArray,VW _ _ h2 hcl,show cur.toList.length=cur.size from Array.length_toList,hcs]
 ·exact QG cur.toList l h2 hcl):P:=h
theorem anE.Ka183(h:P:=by
 have hce:cur=(GR.flat aU l++cur.toList.drop (l.length*4)).toArray:=by
  rw [←htk,List.take_append_drop,Array.toArray_toList]
 have hlr:l.length*4+(cur.toList.drop (l.length*4)).length=cap*4:=by
  rw [List.length_drop,show cur.toList.length=cur.size from Array.length_toList,hcs];omega
 rw [hce] at hgg;have hlen:(l.eraseIdx (nJ l m)).length=l.length - 1:=List.length_eraseIdx_of_lt h;refine(Mi g cap l _ B (nJ l m) m w hl h hno hnc hcm hlr hB hgg hix).mono ?_;rintro e w' ⟨rfl,⟨r2,hS2,hr2⟩,hgr⟩;refine⟨some ⟨g,0,none⟩,cap,by rw [hlen],?_,hgr,fun x hx=>hx⟩;rw [hlen];refine⟨by rw [lS,hlen],.inr ⟨g,cap,_,rfl,hbg,hS2,by omega,hcm,?_,?_⟩⟩
 ·rw [List.size_toArray,List.length_append,lS,hlen];exact hr2
 ·exact List.take_left' (by rw [lS,hlen])):P:=h
theorem aaO(h:P:=by
 unfold eT;have H9:=hide h9;clear h9;have l7:=hide (h.nine hB);have HGS:=hide (h.s);have hc4:c G.s=4:=h.c4 G.s (dz (by omega));clear h;go_enter Tryz.func97,Tryz.ntmps97
 go_upto_region 1 with fail;refine wp_at (fun W0 hW=>?_);exact Ka184):P:=h
theorem anF.Ka184(h:P:=by
 obtain⟨e1,e2,e3,e4⟩:=fJ w (.cells (fO n (⟨a_k,iH,dP,dS,fA,aK,bq,aO,aL,aT⟩:bQ)) 30) (.cells #[.int .i64 mK,.int .i64 mF,.int .i64 mT,.int .i64 mI,.int .i64 mL,.string mk,.int .i64 mN] 32) (.cells iV 30);open aiU in exact ap9):P:=h
theorem anG.Ka184(h:P:=by
 obtain⟨e1,e2,e3,e4⟩:=fJ w (.cells (fO n (⟨a_k,(some ⟨gp,0,none⟩),dP,dS,fA,aK,bq,aO,aL,aT⟩:bQ)) 30) (.cells #[.int .i64 mK,.int .i64 mF,.int .i64 mT,.int .i64 mI,.int .i64 mL,.string mk,.int .i64 mN] 32) (.cells iV 30);open aiV in exact ap9):P:=h
theorem IV(h:P:=by
 have y0:=cell_regrown p0;have y1:=cell_regrown p1;have y2:=cell_regrown p2;have y3:=cell_regrown p3;exact Ka185):P:=h
theorem anH.Ka185(h:P:=by
 have y4:=cell_regrown c4;clear HO p0 p1 p2 p3 c4;open agk in exact LW):P:=h
theorem anI.Ka185(h:P:=by
 have y4:=cell_regrown p4;have y5:=cell_regrown p5;have y6:=cell_regrown p6;exact Ka74):P:=h
theorem anJ.Ka185(h:P:=by
 clear HO p0 p1 p2 p3;open agi in exact LW):P:=h
theorem anK.Ka185(h:P:=by
 clear HO p0 p1 p2 p3;open agj in exact LW):P:=h
theorem anL.Ka185(h:P:=by
 have y4:=cell_regrown c4;clear HO p0 p1 p2 p3 c4;open agl in exact LW):P:=h
theorem aaP(h:P:=by
 rw [←hW] at e1 e2 e3;have HN:=hide e1;have HR:=hide e2;have HB0:=hide e3;have Ee:=hide (l7.kc (k:=9) (KC.of_below e3) (by omega));clear hW e1 e2 e3 l7 hbw0 hlo;obtain⟨c0,c1,c2,c3,c4,c5,c6,c7,c8⟩:=nine HN;have hnl:=aA HN;exact Ka186):P:=h
theorem anM.Ka186(h:P:=by
 have qb:=hide HR;open ahI in exact TB):P:=h
theorem anN.Ka186(h:P:=by
 go_wp2_with fail;refine(Ip W0 Ee.at.r).mono ?_;open aoM in exact abh):P:=h
theorem Tk(h:P:=by
 have oI:=hide (fun w1 (hw:WK w0 w1 wb n A G c v L)=>Hl w0 w1 wb n A G c v L o.no hok h0 h1 hw);rw [hf] at oI;have hlen:=(fF hok).2.1;exact Ka187):P:=h
theorem anO.Ka187(h:P:=by
 clear hR h0 h1 hok hf hgd Yi;generalize bH n.reqs o.no=i at *;open atj in exact Ya8):P:=h
theorem anP.Ka187(h:P:=by
 generalize bH n.reqs o.no=i at *;generalize xw n.reqs[i] o.k o.n=SQ at *;clear hR h0 h1 hok hf hgd;open atg in exact Ya8):P:=h
theorem anQ.Ka187(h:P:=by
 clear hR h0 h1 hok hf hgd Yi;generalize bH n.reqs o.no=i at *;have ZA:=hide (fun w1 (hw:WK w0 w1 wb n A G c v L)=>JC A.p A.cp n.pu n.reqs[i].k n.reqs[i].n E w1 hz.p hz.pk (hz.rk _ (List.getElem_mem hil)) hw.no.p.at (he.below hw.keep));unfold jf at ZA;generalize cK n.pu n.reqs[i].k 0 1 (-1) n.reqs[i].n=r at *;open atd in exact Ya8):P:=h
theorem aaQ(h:P:=by
 have k8:=(nine oC).2.2.2.2.2.2.2.2;have kf8:=aj oC 8;clear hrun Ap zl;go_upto_region 20 with(at_builtin;refine eX rfl (.tmp 118) (.tmp 121) 28 rfl _ _ rfl rfl _ _ (Pv _) ?_)
 refine wp_at (fun W9 Mr=>?_);exact Ka188):P:=h
theorem anR.Ka188(h:P:=by
 have uJ:Hid (W9.heap[w.heap.size]?=some (.cells #[.int .i64 n.id,.int .i64 n.par,.slice a_k n.kids.length aK,.int .i64 n.next,.slice av RL.length cv,.slice dP n.out.length aO,.slice dS n.seen.length aL,.int .i64 IH.no,.slice (some ⟨g8,0,none⟩) n.reqs.length Ba] 30 (0,0))):=by rw [Mr];exact bg oC 8 _
 have jV:Hid (W9.heap[w.heap.size+2]?=some (.cells iV 30 (0,0))):=by rw [Mr];exact fV _ (by omega) vQ
 have E9:Hid (W9.heap[W1.heap.size]?=some (.cells #[.int .i64 no,.string k,.int .i64 nn,.int .i64 0] 43 (0,0))):=by rw [Mr];exact fV _ (by omega) Xw
 open amD in exact aay):P:=h
theorem anS.Ka188(h:P:=by
 have uJ:Hid (W9.heap[w.heap.size]?=some (.cells #[.int .i64 n.id,.int .i64 n.par,.slice a_k n.kids.length aK,.int .i64 n.next,.slice (some ⟨gp,0,none⟩) n.pu.length bq,.slice dP n.out.length aO,.slice dS n.seen.length aL,.int .i64 IH.no,.slice (some ⟨g8,0,none⟩) n.reqs.length Ba] 30 (0,0))):=by rw [Mr];exact bg oC 8 _
 have jV:Hid (W9.heap[w.heap.size+2]?=some (.cells iV 30 (0,0))):=by rw [Mr];exact fV _ (by omega) vQ
 have E9:Hid (W9.heap[W1.heap.size]?=some (.cells #[.int .i64 no,.string k,.int .i64 nn,.int .i64 1] 43 (0,0))):=by rw [Mr];exact fV _ (by omega) Xw
 open amE in exact aay):P:=h
theorem aaR(h:P:=by
 obtain⟨rfl,hge⟩:=hcut;have zL:=hide (au yc hge);have vP:=hide (au Ir hge);have Pt:=hide (au ac1 hge);have jd:=hide (kC.trans (hge.mono kC.size));have HA5:=hide (GR.At.below HA4 hge);exact Ka189):P:=h
theorem anT.Ka189(h:P:=by
 skip
 open amg in exact aar):P:=h
theorem anU.Ka189(h:P:=by
 have Ht:=hide (Pp.below hge);clear Pp;open amh in exact aar):P:=h
theorem aaS(h:P:=by
 refine wp_at (fun W1 hW1=>?_);have HW1:Hid (W1.heap[wr.heap.size]?=some (.cells #[.int .i64 fr,.int .i64 lo,.slice b ids.length c] 57 (0,0))):=by rw [hW1];exact heap_alloc_new _ _
 exact Ka190):P:=h
theorem anV.Ka190(h:P:=by
 open agV in exact XJ):P:=h
theorem anW.Ka190(h:P:=by
 have hbw:Below wr.heap.size wr W1:=by rw [hW1];exact ay wr _
 have aeW:=hide (kR.trans (hbw.mono kR.size));have HI1:=hide (GR.At.below HI hbw);have p1:=(hbw.cell (p:=⟨g2,off2+k,none⟩) adV).trans p0;have rF:=hide (fG.trans (hbw.mono fG.size));clear hW1 hbw q0 q1 q2 p0 HI;obtain⟨d0,d1,d2⟩:=three HW1;have m0:=cell_grown' d0;have m1:=cell_grown' d1;have m2:=cell_grown' d2;have m3:=cell_grown' p1;by_cases h1:fr=y
 case' neg=>
  have hb1:(fr != y)=true:=by simp[h1]
  have HP:=hide (show TT=false by rw [ah HD,decide_eq_false (ah Cv h1)];rfl)
  clear h1 HST Cv XH
  refine wp_region_quiet_below (by kernel_rfl) (by kernel_rfl) ?_
  repeat (first|go_big_quiet_step (fail)|quiet_step (fail))
  refine wpQuiet_nil ?_
  intro _ hw'
  obtain⟨⟨dq,osq⟩,hw''⟩:=hw'
  subst hw''
  go_wp2_with fail
  go_ret
  exact⟨aD HP.symm,rF.trans ((below_regrown _ dq osq).mono rF.size)⟩
 have hb1:(fr != y)=false:=by simp[h1]
 cases h2:rM ⟨fr,lo,ids⟩
 case' false=>
  have HP:=hide (show TT=false by rw [ah HD,ah XH h2];simp)
  have cS:=acI ⟨fr,lo,ids⟩ b c false W1 rX HI1 h2
  clear h1 HST Cv XH
  refine wp_region_quiet_below (by kernel_rfl) (by kernel_rfl) ?_
  repeat (first|go_big_quiet_step ((first|(go_at_call 73;exact cS _ _)))|quiet_step ((first|(go_at_call 73;exact cS _ _))))
  refine wpQuiet_nil ?_
  intro _ hw'
  obtain⟨⟨dq,osq⟩,hw''⟩:=hw'
  subst hw''
  go_wp2_with fail
  go_ret
  exact⟨aD HP.symm,rF.trans ((below_regrown _ dq osq).mono rF.size)⟩
 have HG:=hide (HST h1 h2);have cS:=acI ⟨fr,lo,ids⟩ b c true W1 rX HI1 h2;clear h1 HST Cv XH;refine wp_region_quiet_below (by kernel_rfl) (by kernel_rfl) ?_;repeat (first|go_big_quiet_step ((first|(go_at_call 73;exact cS _ _)))|quiet_step ((first|(go_at_call 73;exact cS _ _))))
 refine wpQuiet_nil ?_;intro _ hw';obtain⟨⟨dq,osq⟩,hw''⟩:=hw';subst hw'';go_wp2_with fail;go_roundw
 case rel=>exact⟨k+1,by omega,by go_num,HG.1,HG.2,aeW.trans ((below_regrown _ dq osq).mono aeW.size)⟩
 case measure=>simp[intOf];omega):P:=h
theorem aaT(h:P:=by
 obtain⟨rfl,e4,fu⟩:=hcut;rename_i wz _ _ _
 have tZ:=hide (uj.trans (fu.below (B:=w.heap.size) (fun x hx=>by simp at hx;omega) uj.size));have HLZ:=hide (HL6.keeps fu (fun x hx=>by simp at hx;omega));exact Ka191):P:=h
theorem anX.Ka191(h:P:=by
 skip
 obtain⟨x0,x1,x2,x3,x4,x5,x6,x7,x8⟩:=nine e4;clear e4 fu;go_wp2_with fail;refine bodyPost_ret (v:= .tuple #[.agg #[.int .i64 n.id,.int .i64 n.par,.slice a_k n.kids.length aK,.int .i64 n.next,.slice (some ⟨gp,0,none⟩) n.pu.length bq,.slice dP n.out.length aO,.slice dS n.seen.length aL,.int .i64 n.old,.slice (some ⟨gv,0,none⟩) (n.reqs.length+1) vc],.int .i64 1]) (by simp[results,Tryz.results60,go_sem,x0,x1,x2,x3,x4,x5,x6,x7,x8]) rfl ?_;rw [ah HK];refine⟨⟨a_k,(some ⟨gp,0,none⟩),dP,dS,(some ⟨gv,0,none⟩),aK,bq,aO,aL,vc⟩,?_,fun W'' ho=>?_,tZ.mono hB,Apart.of_below tZ⟩
 ·simp[fU,fO,bZ,ah P6]
 ·exact aqK):P:=h
theorem anY.Ka191(h:P:=by
 have LA:=hide (R5.keeps fu (fun x hx=>by simp at hx;omega));obtain⟨x0,x1,x2,x3,x4,x5,x6,x7,x8⟩:=nine e4;clear e4 fu;go_wp2_with fail;refine bodyPost_ret (v:= .tuple #[.agg #[.int .i64 n.id,.int .i64 n.par,.slice a_k n.kids.length aK,.int .i64 n.next,.slice av RL.length cv,.slice dP n.out.length aO,.slice dS n.seen.length aL,.int .i64 n.old,.slice (some ⟨gv,0,none⟩) (n.reqs.length+1) vc],.int .i64 0]) (by simp[results,Tryz.results60,go_sem,x0,x1,x2,x3,x4,x5,x6,x7,x8]) rfl ?_;rw [ah HK];refine⟨⟨a_k,av,dP,dS,(some ⟨gv,0,none⟩),aK,cv,aO,aL,vc⟩,?_,fun W'' ho=>?_,tZ.mono hB,Apart.of_below tZ⟩
 ·simp[fU,fO,bZ,setPu,ah P6]
 ·exact aqE):P:=h
theorem aaU(h:P:=by
 obtain⟨rfl,e4,fu⟩:=hcut;rename_i wz _ _ _
 have tZ:=hide (Xb.trans (fu.below (B:=w.heap.size) (fun x hx=>by simp at hx;omega) Xb.size));have HLZ:=hide (HL9.keeps fu (fun x hx=>by simp at hx;omega));exact Ka192):P:=h
theorem anZ.Ka192(h:P:=by
 skip
 obtain⟨x0,x1,x2,x3,x4,x5,x6,x7,x8⟩:=nine e4;clear e4 fu;go_wp2_with fail;refine bodyPost_ret (v:= .tuple #[.agg #[.int .i64 n.id,.int .i64 n.par,.slice a_k n.kids.length aK,.int .i64 n.next,.slice (some ⟨gp,0,none⟩) n.pu.length bq,.slice dP n.out.length aO,.slice dS n.seen.length aL,.int .i64 IH.no,.slice (some ⟨g8,0,none⟩) n.reqs.length Ba],.int .i64 1]) (by simp[results,Tryz.results60,go_sem,x0,x1,x2,x3,x4,x5,x6,x7,x8]) rfl ?_;rw [ah HK];refine⟨⟨a_k,(some ⟨gp,0,none⟩),dP,dS,(some ⟨g8,0,none⟩),aK,bq,aO,aL,Ba⟩,?_,fun W'' ho=>?_,tZ.mono hB,Apart.of_below tZ⟩
 ·simp[fU,fO,bZ,iM,P6]
 ·exact aqK):P:=h
theorem an0.Ka192(h:P:=by
 have LA:=hide (HP9.keeps fu (fun x hx=>by simp at hx;omega));obtain⟨x0,x1,x2,x3,x4,x5,x6,x7,x8⟩:=nine e4;clear e4 fu;go_wp2_with fail;refine bodyPost_ret (v:= .tuple #[.agg #[.int .i64 n.id,.int .i64 n.par,.slice a_k n.kids.length aK,.int .i64 n.next,.slice av RL.length cv,.slice dP n.out.length aO,.slice dS n.seen.length aL,.int .i64 IH.no,.slice (some ⟨g8,0,none⟩) n.reqs.length Ba],.int .i64 0]) (by simp[results,Tryz.results60,go_sem,x0,x1,x2,x3,x4,x5,x6,x7,x8]) rfl ?_;rw [ah HK];refine⟨⟨a_k,av,dP,dS,(some ⟨g8,0,none⟩),aK,cv,aO,aL,Ba⟩,?_,fun W'' ho=>?_,tZ.mono hB,Apart.of_below tZ⟩
 ·simp[fU,fO,bZ,iM,setPu,P6]
 ·exact aqE):P:=h
theorem aaV(h:P:=by
 obtain⟨k,y,hk,rfl,rfl,hy,hall,hblk,hbel⟩:=hrel;have kQ:=hide hall;have HY:=hide hy;have fG:=hide hbel;have ET:=hide hblk;exact Ka193):P:=h
theorem an1.Ka193(h:P:=by
 have hy0:0≤y:=by rw [hy];exact Wy k hall
 clear hall hy hblk hbel;by_cases hlt:k < out.length
 case' neg=>
  have hke:k=out.length:=by omega
  subst hke
  have hnlt:decide ((out.length:Int) < (out.length:Int))=false:=by simp
  have HF:Hid (TT=true):=by
   exact PI
  go_wp2_with fail
  go_ret
  exact⟨aD HF.symm,fG⟩
 obtain⟨g,off,e0,hgw,q0,q1,q2,q3⟩:=SentAt.four (HA.below fG).o k hlt;(try dsimp only at e0 q0 q1 q2 q3)
 subst e0;have HBAD:Hid (gH KB RR (out.take (k+1))=false→TT=false):=fun h=>mg.trans (um _ h)
 have fP:Hid (gH KB RR (out.take (k+1))=(KB out[k]&&decide (y < (out[k]).i))):=by
  exact ab5
 have Ae:=hide (vK k hlt);have zK:=hide (NJ out[k]);clear jr vK um NJ Wy;generalize out[k]=sk at *;generalize KB sk=OB at *;obtain⟨si,st,sx,sn⟩:=sk;dsimp only at q0 q1 q2 q3 fP Ae zK;obtain⟨bb,hbb⟩:∃bb,(!(decide (y < si)&&decide (si < next)&&NN st&&keyOk sx.data.toList&&eU sn))=bb:=⟨_,rfl⟩;have eP:=hide hbb
 have xS:Hid (gH KB RR (out.take (k+1))= !bb):=by
  rw [ah fP,←ah eP,ah zK,Bool.not_not]
  have e1:(decide (1≤si∧si≤next - 1)&&decide (y < si))=(decide (y < si)&&decide (si < next)):=by
   rw [Bool.eq_iff_iff];exact TW
  rw [←e1];generalize decide (1≤si∧si≤next - 1)=z1;generalize decide (y < si)=z2;generalize NN st=z3;generalize keyOk sx.data.toList=z4;generalize eU sn=z5;cases z1<;>cases z2<;>cases z3<;>cases z4<;>cases z5<;>exact hide rfl
 clear hbb fP zK;go_upto_region 7 with fail;refine wp_at (fun W1 hW1=>?_);have HW1:Hid (W1.heap[wr.heap.size]?=some (.cells #[.int .i64 si,.int .i64 st,.string sx,.int .i64 sn] 55 (0,0))):=by rw [hW1];exact heap_alloc_new _ _
 open agY in exact XJ):P:=h
theorem an2.Ka193(h:P:=by
 have hy0:old≤y:=by rw [hy];exact Wy k hall
 clear hall hy hblk hbel;by_cases hlt:k < reqs.length
 case' neg=>
  have hke:k=reqs.length:=by omega
  subst hke
  have hnlt:decide ((reqs.length:Int) < (reqs.length:Int))=false:=by simp
  have HF:Hid (TT=true):=by
   exact PI
  go_wp2_with fail
  go_ret
  exact⟨aD HF.symm,fG⟩
 obtain⟨g,off,e0,hgw,q0,q1,q2,q3⟩:=iD.four (HA.below fG).r k hlt;(try dsimp only at e0 q0 q1 q2 q3)
 subst e0;have HBAD:Hid (gH KB RR (reqs.take (k+1))=false→TT=false):=fun h=>mg.trans (um _ h)
 have fP:Hid (gH KB RR (reqs.take (k+1))=(KB reqs[k]&&decide (y < (reqs[k]).no))):=by
  exact ab5
 have Ae:=hide (vK k hlt);have zK:=hide (NJ reqs[k]);clear jr vK um NJ Wy;generalize reqs[k]=sk at *;generalize KB sk=OB at *;obtain⟨si,sx,sn,st⟩:=sk;dsimp only at q0 q1 q2 q3 fP Ae zK;obtain⟨bb,hbb⟩:∃bb,(!(decide (y < si)&&nS si&&keyOk sx.data.toList&&eU sn&&decide (0≤st)&&decide (st≤2)))=bb:=⟨_,rfl⟩;have eP:=hide hbb
 have xS:Hid (gH KB RR (reqs.take (k+1))= !bb):=by
  rw [ah fP,←ah eP,ah zK,Bool.not_not]
  have e1:(decide (old+1≤si∧si≤1000000000)&&decide (y < si))=(decide (y < si)&&nS si):=by
   rw [Bool.eq_iff_iff];unfold nS;exact TW
  have e2:decide (0≤st∧st≤2)=(decide (0≤st)&&decide (st≤2)):=by
   rw [Bool.eq_iff_iff];simp only[Bool.and_eq_true,decide_eq_true_eq]
  rw [←e1,e2];generalize decide (old+1≤si∧si≤1000000000)=z1;generalize decide (y < si)=z2;generalize decide (0≤st)=z3;generalize decide (st≤2)=z6;generalize keyOk sx.data.toList=z4;generalize eU sn=z5;cases z1<;>cases z2<;>cases z3<;>cases z4<;>cases z5<;>cases z6<;>exact hide rfl
 clear hbb fP zK;go_upto_region 7 with fail;refine wp_at (fun W1 hW1=>?_);have HW1:Hid (W1.heap[wr.heap.size]?=some (.cells #[.int .i64 si,.string sx,.int .i64 sn,.int .i64 st] 43 (0,0))):=by rw [hW1];exact heap_alloc_new _ _
 open agX in exact XJ):P:=h
theorem aaW(h:P:=by
 go_wp2_with fail;refine(Il _ Ig).mono ?_;rintro e w1 ⟨rfl,hb1⟩;have HB1:=hide (au HB0 hb1);have RH:=hide (Ig.trans (hb1.mono Ig.size));exact Ka194):P:=h
theorem an3.Ka194(h:P:=by
 clear hb1 c0 c1 c2 c3 c4 c5 c6 c7 c8 Il;obtain⟨c0,c1,c2,c3,c4,c5,c6,c7,c8⟩:=nine HB1;cases h1:PL
 case' false=>
  have HV:=hide (show bb=true by rw [←ah eP];simp[h1])
  clear eP h1
  go_wp2_with fail
  go_meet
  case rel=>exact⟨by rw [ah HV],HB1,RH⟩
 go_wp2_with fail;refine(WI _ RH).mono ?_;rintro e w2 ⟨rfl,hb1⟩;have HB2:=hide (au HB1 hb1);have HL2:=hide (RH.trans (hb1.mono RH.size));clear hb1 c0 c1 c2 c3 c4 c5 c6 c7 c8 WI;obtain⟨c0,c1,c2,c3,c4,c5,c6,c7,c8⟩:=nine HB2;cases h2:PS
 case' false=>
  have HV:=hide (show bb=true by rw [←ah eP];simp[h2])
  clear eP h2
  go_wp2_with fail
  go_meet
  case rel=>exact⟨by rw [ah HV],HB2,HL2⟩
 go_wp2_with fail;refine(HTO _ HL2).mono ?_;rintro e w3 ⟨rfl,hb1⟩;have HB3:=hide (au HB2 hb1);have NK:=hide (HL2.trans (hb1.mono HL2.size));clear hb1 c0 c1 c2 c3 c4 c5 c6 c7 c8 HTO;obtain⟨c0,c1,c2,c3,c4,c5,c6,c7,c8⟩:=nine HB3;cases h3:TD
 case' false=>
  have HV:=hide (show bb=true by rw [←ah eP];simp[h3])
  clear eP h3
  go_wp2_with fail
  go_meet
  case rel=>exact⟨by rw [ah HV],HB3,NK⟩
 cases h4:eU next
 case' false=>
  have HV:=hide (show bb=true by rw [←ah eP];simp[h4])
  clear eP h1 h2 h3
  go_wp2_with (go_at_call 21;refine(dW _ _ _ h4).mono ?_;rintro e w9 ⟨rfl,rfl⟩)
  go_meet
  case rel=>exact⟨by rw [ah HV],HB3,NK⟩
 by_cases h5:out.length≤40
 case' neg=>
  have hq:decide ((40:Int) < out.length)=true:=decide_eq_true (by omega)
  have HV:=hide (show bb=true by rw [←ah eP];simp[h5])
  clear eP h1 h2 h3
  go_wp2_with (go_at_call 21;refine(dW _ _ _ h4).mono ?_;rintro e w9 ⟨rfl,rfl⟩)
  go_meet
  case rel=>exact⟨by rw [ah HV],HB3,NK⟩
 have hq:decide ((40:Int) < out.length)=false:=decide_eq_false (by omega);cases h6:nS old
 case' false=>
  have Cr:=hide (fun w1=>Vu old false w1 h6)
  have HV:=hide (show bb=true by rw [←ah eP];simp[h6])
  clear eP h1 h2 h3
  go_wp2_with (first|(go_at_call 21;refine(dW _ _ _ h4).mono ?_;rintro e w9 ⟨rfl,rfl⟩)|(go_at_call 22;refine(Cr _).mono ?_;rintro e w9 ⟨rfl,rfl⟩))
  go_meet
  case rel=>exact⟨by rw [ah HV],HB3,NK⟩
 have Cr:=hide (fun w1=>Vu old true w1 h6);by_cases h7:reqs.length≤30
 case' neg=>
  have hq2:decide ((30:Int) < reqs.length)=true:=decide_eq_true (by omega)
  have HV:=hide (show bb=true by rw [←ah eP];simp[h7])
  clear eP h1 h2 h3
  go_wp2_with (first|(go_at_call 21;refine(dW _ _ _ h4).mono ?_;rintro e w9 ⟨rfl,rfl⟩)|(go_at_call 22;refine(Cr _).mono ?_;rintro e w9 ⟨rfl,rfl⟩))
  go_meet
  case rel=>exact⟨by rw [ah HV],HB3,NK⟩
 have hq2:decide ((30:Int) < reqs.length)=false:=decide_eq_false (by omega);have HV:=hide (show bb=false by rw [←ah eP];simp[h1,h2,h3,h4,h5,h6,h7]);clear eP h1 h2 h3;go_wp2_with (first|(go_at_call 21;refine(dW _ _ _ h4).mono ?_;rintro e w9 ⟨rfl,rfl⟩)|(go_at_call 22;refine(Cr _).mono ?_;rintro e w9 ⟨rfl,rfl⟩))
 go_meet
 case rel=>exact⟨by rw [ah HV],HB3,NK⟩):P:=h
theorem an4.Ka194(h:P:=by
 clear hb1 c0 c1 c2 c3 c4 c5 c6 c7 c8;obtain⟨c0,c1,c2,c3,c4,c5,c6,c7,c8⟩:=nine HB1;cases h1:PL
 case' false=>
  have HP:=hide (show TT=false by rw [ah HD];simp[h1])
  clear h1 HD
  go_wp2_with fail
  go_ret
  exact⟨aD HP.symm,RH⟩
 go_wp2_with fail;refine(WI _ RH).mono ?_;rintro e w2 ⟨rfl,hb1⟩;have HB2:=hide (au HB1 hb1);have HL2:=hide (RH.trans (hb1.mono RH.size));clear hb1 c0 c1 c2 c3 c4 c5 c6 c7 c8;obtain⟨c0,c1,c2,c3,c4,c5,c6,c7,c8⟩:=nine HB2;cases h2:PS
 case' false=>
  have HP:=hide (show TT=false by rw [ah HD];simp[h2])
  clear h2 HD
  go_wp2_with fail
  go_ret
  exact⟨aD HP.symm,HL2⟩
 cases h3:eU next
 case' false=>
  have HP:=hide (show TT=false by rw [ah HD];simp[h3])
  have H3:=hide (fun w1=>aS next false w1 h3)
  clear h3 HD
  go_wp2_with (go_at_call 40;refine(H3 _).mono ?_;rintro e w9 ⟨rfl,rfl⟩)
  go_ret
  exact⟨aD HP.symm,HL2⟩
 have H3:=hide (fun w1=>aS next true w1 h3);go_wp2_with (go_at_call 40;refine(H3 _).mono ?_;rintro e w9 ⟨rfl,rfl⟩)
 refine(HOT _ HL2 h1).mono ?_;rintro e w3 ⟨rfl,hb1⟩;have HB3:=hide (au HB2 hb1);have NK:=hide (HL2.trans (hb1.mono HL2.size));clear hb1 c0 c1 c2 c3 c4 c5 c6 c7 c8;obtain⟨c0,c1,c2,c3,c4,c5,c6,c7,c8⟩:=nine HB3;cases h4:OT
 case' false=>
  have HP:=hide (show TT=false by rw [ah HD];simp[h4])
  clear h4 HD
  go_wp2_with fail
  go_ret
  exact⟨aD HP.symm,NK⟩
 go_wp2_with fail;refine(HSE _ NK h1).mono ?_;rintro e w4 ⟨rfl,hb1⟩;have kC:=hide (au HB3 hb1);have HL4:=hide (NK.trans (hb1.mono NK.size));clear hb1 c0 c1 c2 c3 c4 c5 c6 c7 c8;obtain⟨c0,c1,c2,c3,c4,c5,c6,c7,c8⟩:=nine kC;cases h5:TD
 case' false=>
  have HP:=hide (show TT=false by rw [ah HD];simp[h5])
  clear h5 HD
  go_wp2_with fail
  go_ret
  exact⟨aD HP.symm,HL4⟩
 go_wp2_with fail;refine(HRE _ HL4).mono ?_;rintro e w5 ⟨rfl,hb1⟩;have jd:=hide (au kC hb1);have HL5:=hide (HL4.trans (hb1.mono HL4.size));clear hb1 c0 c1 c2 c3 c4 c5 c6 c7 c8;obtain⟨c0,c1,c2,c3,c4,c5,c6,c7,c8⟩:=nine jd;have HP:=hide (show TT=RQ by rw [ah HD];simp[h1,h2,h3,h4,h5]);clear h1 h2 h3 h4 h5 HD;go_wp2_with fail;go_ret;exact⟨aD HP.symm,HL5⟩):P:=h
theorem aaX(h:P:=by
 have HID:Hid ((takeN n o.m).1.id=n.id):=by
  exact aqt
 have En:=hide (fun W A G c n' (hW:WK w0 W wb n' A G c v L)=>O9 w0 W wb n' A G c v L ⟨2,n'.id,o.m.F,o.m.I,0,ByteArray.empty,0⟩ (by simp) (by omega) hW);rw [ah HR];exact Ka195):P:=h
theorem an5.Ka195(h:P:=by
 unfold LZ;rw [←ah HID];open agT in exact apP):P:=h
theorem an6.Ka195(h:P:=by
 open agU in exact apP):P:=h
theorem Tn(h:P:=by
 have Xd:=hide (show∀b,(v4).ownBlock=some b→b≠rb from fun b hb=>(Va b hb).elim (fun h=>Pf b h) (fun h=>by have:=aA AP;omega));exact Ka196):P:=h
theorem an7.Ka196(h:P:=by
 obtain⟨avO,cvO,Ew,_⟩:=GR.own_at (enc:=aJ) (sz:=4) (l:=n.reqs.take pos++[(⟨no,k,nn,0⟩:Rq)]) aY (by rw [hL1];exact LK);open al3 in exact aam):P:=h
theorem an8.Ka196(h:P:=by
 obtain⟨avO,cvO,Ew,_⟩:=GR.own_at (enc:=aJ) (sz:=4) (l:=n.reqs.take pos++[(⟨no,k,nn,1⟩:Rq)]) aY (by rw [hL1];exact LK);open al2 in exact aam):P:=h
theorem an9.Ka196(h:P:=by
 obtain⟨avO,cvO,Ew,_⟩:=GR.own_at (enc:=aP) (sz:=1) (l:=(aQ s0 mL).take pos++[mI]) aN (by rw [hL1];exact LK);rw [hL1] at Ew;subst Ew;clear Qg Mx Bq Va;refine gW 12 rfl (by kernel_rfl) (by rfl) (by decide) (fun x5 hx5=>?_);have H7:=hide (Ry.trans (hx5.mono Ry.size));have Js:qY.heap.size≤x5.heap.size:=H7.size;have IG:=hide (GR.own_below LK hx5);have Io:=hide (au Xy hx5);clear hx5;obtain⟨v5,y5,FQ,CV,zO,Qi⟩:=eH aN (by omega) x5 qY.heap.size 24 24 3 i0 (.int .i64 0) 8 Tryz.underlying24 hi0 hz0 hz1' hz2 rfl (.slice avO (pos+1) cvO) (pos+1) (GR.flat aP ((aQ s0 mL).take pos++[mI])) IG AD ((aQ s0 mL).drop pos) (Jc - pos) (GR.At.below HDR H7) (nZ _) (by unfold maxLen;omega) (by omega) Js;rw [Qd] at FQ CV;refine Lib.wp_append_run x5 (.tmp 135) (.tmp 138) 24 24 rfl _ _ (by simp[Act.eval]) (by simp[Act.eval]) v5 y5 FQ ?_;refine⟨(Below.refl _ _).grown zO Js (fun b hb=>(IG.lt b hb).1),?_⟩;go_simp;have Ph:=hide (H7.grown zO Js (fun b hb=>(IG.lt b hb).1));have Py:Hid (y5.ownsRow qY.heap.size 3 1 v5 (pos+1+((aQ s0 mL).length - pos)) (GR.flat aP ((aQ s0 mL).take pos++[mI]++(aQ s0 mL).drop pos))):=hide (by rw [GR.flat_append];exact CV);have afi:=hide (show y5.heap[rb]?=some (.cells #[.int .i64 mI] 3 (0,0)) from by rw [zO.block _ (aA (ah Io)) (fun hm=>ah Xd _ hm.symm rfl)];exact Io);open aop in exact Tq):P:=h
theorem aaY(h:P:=by
 have hlit:(w.alloc (.cells #[] e)).ownsRow w.heap.size e sz (.slice (some ⟨w.heap.size,0,none⟩) 0 0) 0 []:=World.ownsRow_lit (base:=w.heap.size) (e:=e) (size:=sz) w #[] 0 (Nat.le_refl _) (by unfold maxLen;omega) (by simp);exact Ka197):P:=h
theorem aoa.Ka197(h:P:=by
 exact⟨some ⟨w.heap.size,0,none⟩,0,w.alloc (.cells #[] e),fun ty=>jT (w.alloc (.cells #[] e)) w.heap.size t ty e i sz ht hi _ 0 [] hlit a c,hlit,ay w _,fun _=>rfl⟩):P:=h
theorem aob.Ka197(h:P:=by
 by_cases hl0:l.length=0
 ·have hn:l=[]:=List.eq_nil_of_length_eq_zero hl0;subst hn;refine⟨some ⟨w.heap.size,0,none⟩,0,w.alloc (.cells #[] e),fun ty=>jT (w.alloc (.cells #[] e)) w.heap.size t ty e i sz ht hi _ 0 [] hlit a c,hlit,ay w _,⟨_,rfl⟩,Nat.le_refl _⟩
 ·obtain⟨v',w',hr,ho,hg,_⟩:=eH (P:=P) hs hz (w.alloc (.cells #[] e)) w.heap.size t 0 e i z bytes ht hi hz0 hsize hby hzs _ 0 [] hlit a l c (GR.At.below ha (ay w _)) h1 (by omega) (by rw [Nat.zero_add];exact hbytes) (by simp);rw [Nat.zero_add,List.nil_append] at ho;obtain⟨a',c',rfl,_⟩:=GR.own_at (enc:=enc) (sz:=sz) hs ho;refine⟨a',c',w',fun ty=>hr,ho,(ay w _).grown hg (by simp) (fun k hk=>by cases hk;exact Nat.le_refl _),?_⟩;rcases ho.2 with⟨_,hn⟩|⟨g,cap,cur,hv,_,_,hnc,_⟩
  ·omega
  ·simp only[Value.slice.injEq] at hv;exact⟨⟨g,hv.1⟩,by rw [hv.2.2];exact hnc⟩):P:=h
theorem aaZ(h:P:=by
 have HAT:=hide (fun W'' (ho:zD w W' W'')=>((xZ.kc (k:=9) (KC.keeps fu (fun x hx=>by have:x=w.heap.size+2:=(by simpa using hx);rw [this];exact oH)) (by omega)).kc (k:=9) (ho.kc (fun x hx=>Rv x (by omega))) (by omega)).rm);exact Ka198):P:=h
theorem aoc.Ka198(h:P:=by
 have WB:=hide (fun W'' (ho:zD w W' W'')=>L9 (c:=c) (w:=w) HMZ (ho.out0 Rv) hmb);have lH:Hid (Below w.heap.size w W'):=kR.trans (fu.below (fun x hx=>by have:x=w.heap.size+2:=(by simpa using hx);omega) kR.size);obtain⟨x0,x1,x2,x3,x4,x5,x6,x7,x8⟩:=nine Iq;clear fu;exact Ka61):P:=h
theorem aod.Ka198(h:P:=by
 have lH:Hid (Below w.heap.size w W'):=kR.trans (fu.below (fun x hx=>by have:x=w.heap.size+2:=(by simpa using hx);omega) kR.size);obtain⟨x0,x1,x2,x3,x4,x5,x6,x7,x8⟩:=nine e4;clear hW' e4 fu;exact bodyPost_ret (v:= .tuple #[.agg #[.int .i64 n.id,.int .i64 n.par,.slice A1.k n.kids.length A1.ck,.int .i64 n.next,.slice A1.p n.pu.length A1.cp,.slice A1.o n.out.length A1.co,.slice A1.s n.seen.length A1.cs,.int .i64 n.old,.slice A1.r n.reqs.length A1.cr],.slice (some ⟨W0.heap.size,0,none⟩) 0 0,.int .i64 1]) (by simp[results,Tryz.results30,go_sem,x0,x1,x2,x3,x4,x5,x6,x7,x8]) rfl ⟨A1,some ⟨W0.heap.size,0,none⟩,0,rfl,HAT,fun W'' _ i hi=>by simp at hi,lH⟩):P:=h
theorem Tp(h:P:=by
 clear hW;obtain⟨x0,x1,x2,x3,x4,x5,x6,x7,x8,x9,x10⟩:=Al hX;obtain⟨y0,y1,y2,y3,y4,y5,y6,y7,y8,y9,y10⟩:=Al hY;clear hX hY;exact Ka199):P:=h
theorem aoe.Ka199(h:P:=by
 exact aqm):P:=h
theorem aof.Ka199(h:P:=by
 exact aqA):P:=h
theorem aog.Ka199(h:P:=by
 by_cases hno:no=0
 case' neg=>
  have hno':¬(0:Int)=no:=fun e=>hno e.symm
  go_wp2_with fail
  go_ret
  exact⟨aD (by rw [ah HP];simp[kN,hno]),iJ⟩
 subst hno;exact Ka149):P:=h
theorem aa0(h:P:=by
 unfold ER;have Ls:=hide (fun W (h:Below w.heap.size w W)=>FV n A W hz (ha.below h));have mg:=hide (fun W (h:Below w.heap.size w W)=>MF n A W (hz.mono (by omega)) (ha.below h));rw [hok] at mg;exact Ka200):P:=h
theorem aoh.Ka200(h:P:=by
 have HE:=hide he;have HDO:=hide (fun W w0 wb A G c v (hW:WK w0 W wb n A G c v []) (he:iw w0 E)=>avy w0 W wb n A G c v [] o E hz hok hk hmk (by simp) hW he);clear hz hok ha hk hmk he;generalize jJ n o=RR at *;open agb in exact apH):P:=h
theorem aoi.Ka200(h:P:=by
 clear hz hok ha;open agc in exact apH):P:=h
theorem aa1(h:P:=by
 clear HR;clear hk hn;go_enter Tryz.func44,Tryz.ntmps44
 go_wp2_with (first|(go_at_call_of 71 k;refine(HK _).mono ?_;rintro e w1 ⟨rfl,rfl⟩)|(go_at_call_of 40 n;refine(HN _).mono ?_;rintro e w1 ⟨rfl,rfl⟩))
 exact Ka201):P:=h
theorem aoj.Ka201(h:P:=by
 go_region
 go_upto_region 23 with fail;open amW in exact OA):P:=h
theorem aok.Ka201(h:P:=by
 go_ret;exact⟨aD (by rw [ah HP];simp),by first|exact iT w _ _|exact Below.setNew (iT w _ _) (by omega)⟩):P:=h
theorem aa3(h:P:=by
 obtain⟨rl,rb⟩:=r;dsimp only at HZ ⊢;refine aF 21 rfl (by kernel_rfl) (by rfl) ?_;go_simp;refine aF 22 rfl (by kernel_rfl) (by rfl) ?_;go_simp;refine wpAny_done (by kernel_rfl) ?_;go_simp;exact Ka202):P:=h
theorem aol.Ka202(h:P:=by
 cases rb
 ·go_wp2_with fail;go_ret;exact⟨rfl,⟨A',G',c',HZ.wk,HZ.bk,HZ.si.mono (Nat.le_succ k),HZ.cs,HZ.cm⟩,fun j o h1 _ h3=>HKO j o h1 h3⟩
 ·obtain⟨⟨p0,p1,p2,p3,p4,p5,p6⟩,_⟩:=ig ze;obtain⟨⟨d0,d1⟩,_⟩:=lF HZ.bk;have hsl2:=aA HZ.bk;have ad6:=aA ze;have hI1:eY z2.drew mb k l:=HZ.si.kept rfl;obtain⟨z3,hrun,Ux,hK3⟩:=hI1.store mI hi0 hi1 (by unfold maxLen;omega);have HR:=hide (HZ.put Ux (Keeps.trans (b:=z2.drew) (Keeps.of_below (Below.refl _ _).drew) hK3))
  have HK4:Hid (∀j o,j≠wb→j≠mb→w.heap[j]?=some o→z3.heap[j]?=some o):=fun j o h1 h2 h3=>by
   have h4:=ah HKO j o h1 h3
   rw [hK3.block j (aA h4) h2]
   exact h4
  clear hI1 Ux hK3 ze;go_wp2_with fail;go_region
  all_goals
   go_wp2_with fail
   go_ret
   exact⟨rfl,⟨A',G',c',HR⟩,HK4⟩):P:=h
theorem aom.Ka202(h:P:=by
 cases rb
 all_goals
  go_wp2_with fail
  go_ret
  exact⟨rfl,A',G',c',HZ⟩):P:=h
theorem aa4(h:P:=by
 have cO:∀d os,Calls Tryz.prog 69 #[wY ⟨pk,pm,pf,ps⟩] (Sort.grow (redrawn V d) os) fun e w''=>e= .returned (.bool false)∧∃p:Regrown,w''=Sort.grow (redrawn V p.d) p.os:=fun d os=>Calls.regrown_of (HO _)
 exact Ka203):P:=h
theorem aon.Ka203(h:P:=by
 open anJ in exact IV):P:=h
theorem aoo.Ka203(h:P:=by
 exact aqF):P:=h
theorem Tq(h:P:=by
 have avM:=hide (show∀b,(v5).ownBlock=some b→b≠rb from fun b hb=>(Qi b hb).elim (fun h=>Xd b h) (fun h=>by have:=aA Io;omega));exact Ka204):P:=h
theorem aop.Ka204(h:P:=by
 obtain⟨avT,WR,zm,_⟩:=GR.own_at (enc:=aP) (sz:=1) (l:=(aQ s0 mL).take pos++[mI]++(aQ s0 mL).drop pos) aN (by rw [hL2];exact Py);rw [hL2] at zm;subst zm;clear FQ CV zO Qi;have ad7:qY.heap.size≤y5.heap.size:=Ph.size;refine tk [13] ?_;open ajI in exact adk):P:=h
theorem aoq.Ka204(h:P:=by
 obtain⟨avT,WR,zm,_⟩:=GR.own_at (enc:=aJ) (sz:=4) (l:=n.reqs.take pos++[(⟨no,k,nn,1⟩:Rq)]++n.reqs.drop pos) aY (by rw [hL2];exact Py);rw [hL2] at zm;subst zm;clear FQ CV zO Qi;have ad7:wc.heap.size≤y5.heap.size:=Ph.size;refine tk [14] ?_;open ajJ in exact adk):P:=h
theorem aor.Ka204(h:P:=by
 obtain⟨avT,WR,zm,_⟩:=GR.own_at (enc:=aJ) (sz:=4) (l:=n.reqs.take pos++[(⟨no,k,nn,0⟩:Rq)]++n.reqs.drop pos) aY (by rw [hL2];exact Py);rw [hL2] at zm;subst zm;clear FQ CV zO Qi;have ad7:wc.heap.size≤y5.heap.size:=Ph.size;refine tk [14] ?_;open ajK in exact adk):P:=h
theorem aa5(h:P:=by
 have cO:∀d os,Calls Tryz.prog 69 #[wY ⟨pk,pm,pf,ps⟩] (Sort.grow (redrawn V d) os) fun e w''=>e= .returned (.bool true)∧∃p:Regrown,w''=Sort.grow (redrawn V p.d) p.os:=fun d os=>Calls.regrown_of (HO _)
 exact Ka205):P:=h
theorem aos.Ka205(h:P:=by
 exact Ka122):P:=h
theorem aot.Ka205(h:P:=by
 open anK in exact IV):P:=h
theorem aa6(h:P:=by
 rw [hlt1] at UU;subst UU;clear Qf Qe Qc ar0;refine gW 7 rfl (by kernel_rfl) (by rfl) (by decide) (fun x3 hx3=>?_);go_simp;have vL:=hide (EX.trans (hx3.mono EX.size));exact Ka206):P:=h
theorem aou.Ka206(h:P:=by
 have yF:wc.heap.size≤x3.heap.size:=vL.size;have yh:=hide (GR.own_below CP hx3);clear hx3;refine⟨(ay x3 _).mono yF,?_⟩;exact Ka29):P:=h
theorem aov.Ka206(h:P:=by
 have yF:qY.heap.size≤x3.heap.size:=vL.size;have yh:=hide (GR.own_below CP hx3);clear hx3;refine⟨(ay x3 _).mono yF,?_⟩;have UD:=ay x3 (.cells #[.int .i64 mI] 3);have CF:=hide (heap_alloc_new x3 (.cells #[.int .i64 mI] 3));open akq in exact SG):P:=h
theorem aa7(h:P:=by
 have e2:b=g1:=by injection e1 with e1;injection e1 with e1 e2
 have e3:off=o1:=by injection e1 with e1;injection e1 with e1 e2
 subst e2 e3;exact Ka207):P:=h
theorem aow.Ka207(h:P:=by
 have HT:=hide (List.take_succ_eq_append_getElem hlt);have Il:=hide (fun h2=>(place_at l pk k (by omega) kQ h2).1);clear s1 s2 s3 e1;cases hbl:Op.bytesLess l[k].k.toList pk.toList with
 |true=>
  clear Il
  generalize l[k]=pu at *
  obtain⟨qk,qm,qf,qs⟩:=pu
  dsimp only at s0 hbl
  go_wp2_with fail
  go_quiet (fail)
  go_wp2
  go_roundw
  case rel=>
   refine⟨k+1,_,by omega,by go_num,?_,rfl⟩;intro x hx;rw [ah HT] at hx;rcases List.mem_append.1 hx with hx|hx
   ·exact kQ x hx
   ·rw [List.mem_singleton] at hx;subst hx;exact hbl
  case measure=>simp[intOf];omega
 |false=>
  have xR:=hide (Il (fun _=>hbl))
  clear Il HT
  generalize l[k]=pu at *
  obtain⟨qk,qm,qf,qs⟩:=pu
  dsimp only at s0 hbl
  go_wp2_with fail
  go_quiet (fail)
  go_wp2_with fail
  go_meet
  case rel=>exact⟨by rw [ah xR],_,oU w1 _ _⟩):P:=h
theorem aox.Ka207(h:P:=by
 have hae:=hAe hlt;subst hae;have HF:=hide hf;have hpos:decide (0 < l.length - place l pk)=true:=decide_eq_true (by omega);have avl:0 < l.length - place l pk:=by omega
 clear s1 s2 s3 e1 hf hAe hAd;generalize l[place l pk]=pu at *;obtain⟨qk,qm,qf,qs⟩:=pu;dsimp only at s0 HF;cases heq:qk.toList == pk.toList
 all_goals
  go_quiet (fail)
  go_wp2_with fail
  go_meet
  case rel=>exact⟨by rw [ah HF,heq],_,oU w1 _ _⟩):P:=h
theorem aa8(h:P:=by
 have hblk:V.heap[w.heap.size]?=some (.cells #[.int .i64 2,.int .i64 F,.int .i64 T,.int .i64 I,.int .i64 L,.string k,.int .i64 N] 32 (0,0)):=by rw [hV,Below.heap_alloc _ _ _ (by simp)];exact heap_alloc_new w _
 exact Ka208):P:=h
theorem aoy.Ka208(h:P:=by
 open ah5 in exact PE):P:=h
theorem aoz.Ka208(h:P:=by
 open atc in exact Ya7):P:=h
theorem aa9(h:P:=by
 have hblk:V.heap[w.heap.size]?=some (.cells #[.int .i64 1,.int .i64 F,.int .i64 T,.int .i64 I,.int .i64 L,.string k,.int .i64 N] 32 (0,0)):=by rw [hV,Below.heap_alloc _ _ _ (by simp)];exact heap_alloc_new w _
 exact Ka209):P:=h
theorem aoA.Ka209(h:P:=by
 open ah7 in exact PE):P:=h
theorem aoB.Ka209(h:P:=by
 open ah6 in exact PE):P:=h
theorem abb(h:P:=by
 have hblk:V.heap[w.heap.size]?=some (.cells #[.int .i64 0,.int .i64 F,.int .i64 T,.int .i64 I,.int .i64 L,.string k,.int .i64 N] 32 (0,0)):=by rw [hV,Below.heap_alloc _ _ _ (by simp)];exact heap_alloc_new w _
 exact Ka210):P:=h
theorem aoC.Ka210(h:P:=by
 open ah8 in exact PE):P:=h
theorem aoD.Ka210(h:P:=by
 open aua in exact ac8):P:=h
theorem abd(h:P:=by
 have hlit:(w.alloc (.cells #[] 84)).ownsRow w.heap.size 84 4 (.slice (some ⟨w.heap.size,0,none⟩) 0 0) 0 []:=World.ownsRow_lit (base:=w.heap.size) (e:=84) (size:=4) w #[] 0 (Nat.le_refl _) (by decide) rfl;exact Ka211):P:=h
theorem aoE.Ka211(h:P:=by
 cases a with
 |none=>
  have hl0:l=[]:=GR.none_nil ha
  subst hl0
  clear ha hlit
  go_enter Tryz.func65,Tryz.ntmps65
  go_wp2_with fail
  go_ret
  exact⟨_,rfl,World.ownsRow_nil _ _ _ _,Below.refl _ _⟩
 |some x=>
  have HN:=hide (aH.news (GR.At.below ha (dA w (.cells #[] 84))))
  clear ha
  go_enter Tryz.func65,Tryz.ntmps65
  go_wp2_with (at_builtin;refine wpList_append_own _ rfl _ _ 25 rfl w.heap.size 84 i0 (.agg #[.string ByteArray.empty,.int .i64 0,.int .i64 0,.int .i64 0]) 4 40 Tryz.underlying25 hi hz0 hz1 hz2 rfl (by decide) _ 0 [] rfl hlit x l.length cap (GR.flat eG l) rfl ?c0 ?c1 ?c2 ?c3 ?c4 ?c5 ?_)
  case c0=>exact GR.flat_length eG 4 aV l
  case c1=>exact HN
  case c2=>exact wm l
  case c3=>unfold maxLen;omega
  case c4=>omega
  case c5=>simp
  intro v' w1 hown' hgrow _
  have HO:=hide (show w1.ownsRow w.heap.size 84 4 v' l.length (GR.flat eG l) by simpa using hown')
  have hb:Below w.heap.size w w1:=(dA w _).grown hgrow (by simp) (fun k hk=>by cases hk;exact Nat.le_refl _)
  clear hown' hgrow hlit
  go_wp2
  go_ret
  exact⟨_,rfl,HO,hb⟩):P:=h
end Go.Proofs.YtfmdndhliinhpaaGreatDoor
