/-
  Parts of proofs that stand more than once, each said once.
-/
import Derived.Test.YtfmdndhliinhpaaGreatDoorRaZ5
namespace Go.Proofs.YtfmdndhliinhpaaGreatDoor
set_option maxRecDepth 100000
variable{P:Prop}
theorem aoF.Ka211(h:P:=by
 cases a with
 |none=>
  obtain⟨h1,h2⟩:=hn rfl
  have hl0:l=[]:=List.eq_nil_of_length_eq_zero h1
  subst hl0 h2
  go_enter Tryz.func92,Tryz.ntmps92
  go_wp2_with (at_builtin;refine wpList_append_own_none rfl _ _ 25 rfl w.heap.size 84 i0 4 Tryz.underlying25 hi _ 0 [] rfl hlit rfl ?_)
  go_ret
  exact⟨_,rfl,(by intro h;cases h),hlit,dA w _⟩
 |some x=>
  have HN:=hide (aH.news (GR.At.below ha (dA w (.cells #[] 84))))
  clear ha
  go_enter Tryz.func92,Tryz.ntmps92
  go_wp2_with (at_builtin;refine wpList_append_own _ rfl _ _ 25 rfl w.heap.size 84 i0 (.agg #[.string ByteArray.empty,.int .i64 0,.int .i64 0,.int .i64 0]) 4 40 Tryz.underlying25 hi hz0 hz1 hz2 rfl (by decide) _ 0 [] rfl hlit x l.length cap (GR.flat eG l) rfl ?c0 ?c1 ?c2 ?c3 ?c4 ?c5 ?_)
  case c0=>exact GR.flat_length eG 4 aV l
  case c1=>exact HN
  case c2=>exact wm l
  case c3=>unfold maxLen;omega
  case c4=>omega
  case c5=>simp
  intro v' w1 hown' hgrow hnil
  have WE:=hide (show v'≠ .slice none 0 0 from hnil)
  have HO:=hide (show w1.ownsRow w.heap.size 84 4 v' l.length (GR.flat eG l) by simpa using hown')
  have hb:Below w.heap.size w w1:=(dA w _).grown hgrow (by simp) (fun k hk=>by cases hk;exact Nat.le_refl _)
  clear hown' hgrow hlit hnil
  go_wp2
  go_ret
  exact⟨_,rfl,WE,HO,hb⟩):P:=h
theorem abe(h:P:=by
 obtain ⟨c0, c1, c2, c3, c4, c5, c6, c7, c8⟩ := nine (ah En).own;refine eO 0 rfl (by kernel_rfl) (by kernel_rfl) (by kernel_rfl) (fun _ _ _ _ h => h) (fun K hK => ?_);exact Ka212):P:=h
theorem aoG.Ka212(h:P:=by
 open agq in exact TA):P:=h
theorem aoH.Ka212(h:P:=by
 go_simp
 first
   | (refine hK _ ?_; clear hK K)
   | (apply Exists.intro
      refine ⟨fun _ => rfl, hK _ ?_⟩
      clear hK K)
 refine eO 2 rfl (by kernel_rfl) (by kernel_rfl) (by kernel_rfl) (fun _ _ _ _ h => h) (fun K hK => ?_);open akP in exact Om):P:=h
theorem abf(h:P:=by
 rw [Mth.take_all s k hlt] at HA;have HF:Hid (Mth.keyOk s.data.toList=decide (1≤s.data.toList.length∧s.data.toList.length≤10)):=Mth.keyOk_all _ HA;rw [iq s] at HF;exact Ka213):P:=h
theorem aoI.Ka213(h:P:=by
 by_cases hin:(1:Int)≤(s.size:Int)∧(s.size:Int)≤10
 ·obtain⟨hi1,hi2⟩:=hin;exact aqQ
 ·exact aqQ):P:=h
theorem aoJ.Ka213(h:P:=by
 go_wp2
 go_ret;exact⟨aD (by rw [ah HF];simp;omega),rfl⟩):P:=h
theorem abg(h:P:=by
 generalize l[k]=pu at *;have mg:=hide (fun w1=>BA pu w1 hkk);clear hkk;obtain⟨pk,pm,pf,ps⟩:=pu;exact Ka214):P:=h
theorem aoK.Ka214(h:P:=by
 dsimp only at c0 c1 c2 c3 hf;go_wp2_with fail;refine(mg _).mono ?_;rintro e w1 ⟨rfl,hb1⟩;have hb2:=fG.trans ((Below.mono (Fo.one_block hb1).2.2 fG.size));have hB:w1.heap[w.heap.size]?=some (.cells #[.string ⟨#[]⟩,.int .i64 0,.int .i64 0,.int .i64 0] 84 (0,0)):=by rw [(Fo.one_block hb1).2.2.block _ Yl];exact ET
 have HB:=hide hB;have HB2:=hide hb2;obtain⟨⟨r0,r1,r2,r3⟩,s0,s1,s2,s3⟩:=eZ hB;clear hB hb1 hb2;go_wp2_with fail;clear r0 r1 r2 r3;refine Fo.bodyPost_at (fun W' hW'=>?_);obtain⟨⟨r0,r1,r2,r3⟩,_⟩:=eZ (show W'.heap[w.heap.size]?=some (.cells #[.string pk,.int .i64 pm,.int .i64 pf,.int .i64 ps] 84 (0,0)) by rw [hW'];exact Fo.four_set HB);have hbb:Below w.heap.size w W':=by rw [hW'];exact Fo.four_below HB2 (Nat.le_refl _)
 refine bodyPost_ret (v:= .agg #[.string pk,.int .i64 pm,.int .i64 pf,.int .i64 ps]) (by simp[results,Tryz.results108,go_sem,r0,r1,r2,r3]) rfl ⟨by rw [ah HX],hbb⟩):P:=h
theorem aoL.Ka214(h:P:=by
 dsimp only at q0 q1 q2 q3;go_wp2_with fail;refine(mg _).mono ?_;rintro e w5 ⟨rfl,hb5⟩;obtain⟨_,_,hb6⟩:=Fo.one_block hb5;have jd:=hide (uf.below HB hb6);have kD:=hide (fG.trans (hb6.mono fG.size));clear hb5 hb6 q0 q1 q2 q3;obtain⟨_,av6,⟨s0,s1,s2,s3⟩,f0,f1,f2,f3⟩:=uf.four jd k hlt;go_wp2_with fail;go_roundw
 case rel=>
  have h:=uf.set jd k ⟨pk,pm,pf,ps⟩ hlt;rw [ah HSE] at h;exact⟨k+1,by omega,by go_num,h,GR.setW_below (o:=k*4) hg (eG ⟨pk,pm,pf,ps⟩) kD⟩
 case measure=>simp[intOf];omega):P:=h
theorem abh(h:P:=by
 rintro e W1 ⟨rfl,hb1⟩;have jG:=hide (au HN hb1);have qb:=hide (au HR hb1);have HB1:=hide (HB0.trans (hb1.mono HB0.size));have Ag:=hide (Ee.kc (k:=9) (KC.of_below hb1) (by omega));exact Ka215):P:=h
theorem aoM.Ka215(h:P:=by
 clear hb1 c0 c1 c2 c3 c4 c5 c6 c7 c8 hnl Ip HN HR Ee HB0;exact Ka47):P:=h
theorem aoN.Ka215(h:P:=by
 clear hb1 c0 c1 c2 c3 c4 c5 c6 c7 c8 hnl Ai HN HR Ee HB0;exact Ka92):P:=h
theorem abj(h:P:=by
 have lH:Hid (Below w.heap.size w W'):=uj.trans (fu.below (fun x hx=>by have:x=w.heap.size+2:=(by simpa using hx);omega) uj.size);obtain⟨x0,x1,x2,x3,x4,x5,x6,x7,x8⟩:=nine e4;clear hW' e4 fu;exact Ka216):P:=h
theorem aoO.Ka216(h:P:=by
 exact bodyPost_ret (v:= .tuple #[.agg #[.int .i64 N1.id,.int .i64 N1.par,.slice A2.k N1.kids.length A2.ck,.int .i64 N1.next,.slice A2.p N1.pu.length A2.cp,.slice A2.o N1.out.length A2.co,.slice A2.s N1.seen.length A2.cs,.int .i64 N1.old,.slice A2.r N1.reqs.length A2.cr],.slice ma L1.length mc,.int .i64 zh]) (by simp[results,Tryz.results30,go_sem,x0,x1,x2,x3,x4,x5,x6,x7,x8]) rfl ⟨A2,ma,mc,rfl,HAT,WB,lH⟩):P:=h
theorem aoP.Ka216(h:P:=by
 exact bodyPost_ret (v:= .tuple #[.agg #[.int .i64 n.id,.int .i64 n.par,.slice A1.k n.kids.length A1.ck,.int .i64 n.next,.slice A1.p n.pu.length A1.cp,.slice A1.o n.out.length A1.co,.slice A1.s n.seen.length A1.cs,.int .i64 n.old,.slice A1.r n.reqs.length A1.cr],.slice (some ⟨W0.heap.size,0,none⟩) 0 0,.int .i64 1]) (by simp[results,Tryz.results30,go_sem,x0,x1,x2,x3,x4,x5,x6,x7,x8]) rfl ⟨A1,some ⟨W0.heap.size,0,none⟩,0,rfl,HAT,fun W'' _ i hi=>by simp at hi,lH⟩):P:=h
theorem Tt(h:P:=by
 generalize l[k]=pu at *;obtain⟨pk,pm,pf,ps⟩:=pu;dsimp only at c0 c1 c2 c3 hf;go_wp2_with fail;exact Ka217):P:=h
theorem aoQ.Ka217(h:P:=by
 refine bodyPost_ret (v:= .agg #[.string pk,.int .i64 pm,.int .i64 pf,.int .i64 ps]) (by simp[results,Tryz.results89,go_sem]) rfl ⟨by rw [ah HX],?_⟩;exact(Below.refl _ _).alloc (Nat.le_refl _) _):P:=h
theorem aoR.Ka217(h:P:=by
 go_roundw
 case rel=>exact⟨k+1,by omega,by go_num,HX,by first|rfl|trivial⟩
 case measure=>simp[intOf];omega):P:=h
theorem aoS.Ka217(h:P:=by
 go_roundw
 case rel=>exact⟨k+1,by omega,by go_num,HX,by first|exact fG.alloc fG.size _|exact fG,by first|(rw [Below.heap_alloc _ _ _ Yl];exact ET)|exact ET⟩
 case measure=>simp[intOf];omega):P:=h
theorem abk(h:P:=by
 rintro e wp ⟨p, rfl, hp0, hp1, hcx, hkx⟩;have HS2 := hide ((ah mW).draw hcx hkx);clear hcx hkx mW;exact Ka218):P:=h
theorem aoT.Ka218(h:P:=by
 go_wp2_with fail;refine (iA c wp.heap.size 3 [0, 0, 2] _ (gZ (ah HS2).cur _) (by have := (ah HS2).cur.lt; omega) (by simp) (by simp) (fun i hi => jh wp [0, 0, 2] _ i hi) (by simp)).mono ?_;rintro e wf ⟨f, rfl, hin, hcx, hkx⟩;have IC := hide (((ah HS2).new _).draw hcx hkx);clear hcx hkx hin HS2;go_wp2_with fail;refine (gT c (1 + p) _ (ah IC).cur (by omega) (by omega)).mono ?_;rintro e wl ⟨l, rfl, hl0, hl1, hcx, hkx⟩;have uM := hide ((ah IC).draw hcx hkx);clear hcx hkx IC;obtain ⟨⟨c0, c1, c2, c3, c4, c5, c6, c7, c8, c9, c10⟩, f0, f1, f2, f3, f4, f5, f6, f7, f8, f9, f10⟩ := bX (ah uM).own;have hzg := fH (ah uM).own;go_wp2_with fail;go_meet
 case rel => exact ⟨rfl, ⟨6, 0, ⟨#[]⟩, 0, ⟨1, f, 1, (1 + p), (1 + l), key, (5 + (1 + y))⟩⟩, (ah uM).far (o' := ⟨6, 0, ⟨#[]⟩, 0, ⟨1, f, 1, (1 + p), (1 + l), key, (5 + (1 + y))⟩⟩) (dV (Below.refl _ _) (Nat.le_refl _)) (iy (ah uM).own), by dsimp only; first | exact hks | decide, by dsimp only; first | exact hks | decide⟩):P:=h
theorem aoU.Ka218(h:P:=by
 open apj in exact abr):P:=h
theorem Tv(h:P:=by
 refine aF 10 rfl (by kernel_rfl) (by rfl) ?_;go_simp;refine wpAny_done (by kernel_rfl) ?_;go_simp;go_wp2_with fail;exact Ka219):P:=h
theorem aoV.Ka219(h:P:=by
 exact bodyPost_end (v:= .tuple #[]) (by simp[results,Tryz.results82,go_sem]) rfl ⟨rfl,_,_,XA⟩):P:=h
theorem aoW.Ka219(h:P:=by
 go_meet
 case rel =>
   refine ⟨rfl, ⟨avw, ar6, aeg, aeh, RL, ar5, aej, ar4, aei⟩, ⟨a_k, a5, dP, dS, fA, aK, cp5, aO, aL, aT⟩, ?_⟩;refine (ah El).far ((Below.refl _ w5).setCell (p := ⟨g, 4, none⟩) (ah El).glt _) (bg (ah El).own 4 _) ?_ ?_
   · exact ((ah uM).rm.pu (aA (ah uM).own) (aA (ah uM).res) (ah jd) (Nat.le_refl _) (ah xQ)).set
   · have hz := (ah uM).sz;exact ⟨hz.k, by show RL.length ≤ 1048576; omega, hz.o, hz.s, hz.r, fun p hp => Nat.le_trans (ah HRK p hp) (by omega), hz.ok, hz.sk, hz.rk⟩):P:=h
theorem aoX.Ka219(h:P:=by
 go_meet
 case rel => exact ⟨rfl, _, _, ah HS7, by simp⟩):P:=h
theorem abl(h:P:=by
 have Ls:=hide (fun W (h:Below w.heap.size w W)=>Gs n A W hz (ha.below h));clear hz ha hok;go_enter Tryz.func30,Tryz.ntmps30
 go_upto_region 2 with fail;refine wp_at (fun W1 hW=>?_);exact Ka220):P:=h
theorem aoY.Ka220(h:P:=by
 open aio in exact apY):P:=h
theorem aoZ.Ka220(h:P:=by
 exact Ka27):P:=h
theorem IW(h:P:=by
 have q0:(mT != n.id)=false:=by simp[h1]
 have q0':(mT == n.id)=true:=by simp[h1]
 clear h1;exact Ka221):P:=h
theorem ao0.Ka221(h:P:=by
 subst h3;have q4:(mF == n.par)=false:=by simpa using h4
 clear h4;open apm in exact abt):P:=h
theorem ao1.Ka221(h:P:=by
 subst h3;have q4:(mF == n.par)=true:=by simp[h4]
 clear h4;unfold eT;have H9:=hide h9;clear h9;have RJ:=hide (fun W=>lX ⟨0,mF,mT,mI,mL,mk,mN⟩ W (by unfold maxLen;dsimp only;omega));open ahO in exact TF):P:=h
theorem ao2.Ka221(h:P:=by
 unfold eT;have H9:=hide h9;clear h9;have RJ:=hide (fun W=>lX ⟨mK,mF,mT,mI,mL,mk,mN⟩ W (by unfold maxLen;dsimp only;omega));open ahP in exact TF):P:=h
theorem ao3.Ka221(h:P:=by
 subst h3;obtain⟨FL,hFL⟩:∃FL:Nat→List jH,∀k,FL k=(n.out.take k).filter (fun s=> !gK ⟨2,mF,mT,mI,mL,mk,mN⟩ s):=⟨_,fun _=>rfl⟩;have HFE:Hid (n.out.filter (fun s=> !gK ⟨2,mF,mT,mI,mL,mk,mN⟩ s)=FL n.out.length):=by unfold Hid;rw [hFL,List.take_length]
 rw [ah HFE];have HF0:Hid (FL 0=[]):=by unfold Hid;rw [hFL];rfl
 have HFS:Hid (∀k (hk:k < n.out.length),FL (k+1)=if n.out[k].i=mI∧n.out[k].t=mF then FL k else FL k++[n.out[k]]):=fun k hk=>by
  rw [hFL,hFL,List.take_succ_eq_append_getElem hk,List.filter_append]
  by_cases e:n.out[k].i=mI∧n.out[k].t=mF
  ·rw [if_pos e];have e2:(!gK ⟨2,mF,mT,mI,mL,mk,mN⟩ n.out[k])=false:=by unfold gK;rw [decide_eq_true e];rfl
   rw [List.filter_cons,e2];simp
  ·rw [if_neg e];have e2:(!gK ⟨2,mF,mT,mI,mL,mk,mN⟩ n.out[k])=true:=by unfold gK;rw [decide_eq_false e];rfl
   rw [List.filter_cons,e2];simp
 have HFN:Hid (∀k,(FL k).length≤n.out.length):=fun k=>by
  rw [hFL]
  exact Nat.le_trans (List.length_filter_le _ _) (by rw [List.length_take];omega)
 clear hFL HFE;obtain⟨i0,hi,hz0,hz1,hz2⟩:=info_parts Ar;have HI:=hide (And.intro hi (And.intro hz0 (And.intro hz1 hz2)));clear hi hz0 hz1 hz2;unfold eT;have H9:=hide h9;clear h9;have RJ:=hide (fun W=>lX ⟨2,mF,mT,mI,mL,mk,mN⟩ W (by unfold maxLen;dsimp only;omega));open ahQ in exact TF):P:=h
theorem ao4.Ka221(h:P:=by
 subst h3;open apl in exact abt):P:=h
theorem abm(h:P:=by
 have H1 := hide hm1;have H2 := hide hm2;clear hm1 hm2;go_enter Tryz.func29, Tryz.ntmps29
 exact Ka222):P:=h
theorem ao5.Ka222(h:P:=by
 go_wp2_with fail;refine (wJ c _ (ah HC)).mono ?_;rintro e w1 ⟨x, rfl, hx0, hx1, hc1, hk1⟩;have za := hide hc1;clear hc1;go_wp2_with fail;refine (wJ c _ (ah za)).mono ?_;rintro e w2 ⟨y, rfl, hy0, hy1, hc2, hk2⟩;have oH := hide hc2;clear hc2;go_wp2_with fail;refine (wJ c _ (ah oH)).mono ?_;rintro e w3 ⟨z, rfl, hz0, hz1, hc3, hk3⟩;have K8 := hide hc3;clear hc3;go_wp2_with fail;refine (wJ c _ (ah K8)).mono ?_;rintro e w4 ⟨t, rfl, ht0, ht1, hc4, hk4⟩;have Y9 := hide hc4;clear hc4;go_wp2
 go_ret;exact ⟨_, rfl, ah H2 _, ah H1 _ (by omega), ah Y9, ((hk1.trans hk2).trans hk3).trans hk4⟩):P:=h
theorem ao6.Ka222(h:P:=by
 go_wp2_with (go_at_call 56; refine (wJ c _ (ah HC)).mono ?_; rintro e w1 ⟨x, rfl, hx0, hx1, hc1, hk1⟩; have za := hide hc1; clear hc1)
 go_ret;exact ⟨_, rfl, ah H2 _, ah H1 _ hx0, ah za, hk1⟩):P:=h
theorem abn(h:P:=by
 have zF:Hid (Below w.heap.size w W7):=by rw [Hy];exact uj.setCell (p:=⟨w.heap.size,7,none⟩) (Nat.le_refl _) _
 have ac5:Hid (iD W7 (some ⟨gv,1*4,none⟩) IT):=by
  exact aur
 exact Ka223):P:=h
theorem ao7.Ka223(h:P:=by
 skip
 clear Hy HTA y0 cf c0 c1 c2 c3 c4 c5 c6 c7 c8 hnl kS iX zN uj HL6;open aie in exact apW):P:=h
theorem ao8.Ka223(h:P:=by
 have Zt:Hid (LO 84 eG 4 (w.heap.size+3) W7 av cv RL):=by rw [Hy];exact R5.keeps (aC.set _) (fun x hx=>by simp at hx;omega)
 clear Hy HTA y0 cf c0 c1 c2 c3 c4 c5 c6 c7 c8 hnl kS iX zN uj HL6 R5;open aif in exact apW):P:=h
theorem abo(h:P:=by
 have kc:=(nine HNz).2.2.2.2.2.2.2.2;have kf:=aj HNz 8;refine aF 15 rfl (by kernel_rfl) (by rfl) ?_;go_simp;refine wpAny_done (by kernel_rfl) ?_;go_simp;go_wp2_with fail;exact Ka224):P:=h
theorem ao9.Ka224(h:P:=by
 go_meet
 case rel=>
  refine⟨rfl,avT,WR,?_,?_,?_,?_,?_,?_,?_,?_⟩
  ·rcases ZC.2 with⟨_,hn⟩|⟨g,cap,cur,hv,_⟩
   ·omega
   ·simp only[Value.slice.injEq] at hv;exact⟨g,hv.1⟩
  ·rcases ZC.2 with⟨_,hn⟩|⟨g,cap,cur,hv,_,_,hnc,_⟩
   ·omega
   ·simp only[Value.slice.injEq] at hv;omega
  ·have h:=bg HNz 8 (.slice avT (pos+1+(n.reqs.length - pos)) WR);rw [show pos+1+(n.reqs.length - pos)=n.reqs.length+1 by omega] at h ⊢;exact h
  ·exact fV _ (by omega) HRz
  ·exact fV _ (by omega) HQz
  ·have h:=LO.own (en:=aJ) (cp:=WR) (l:=n.reqs.take pos++[(⟨no,k,nn,0⟩:Rq)]++n.reqs.drop pos) (by rw [hL2];exact ZC);rw [ah HIQ];rw [List.append_assoc] at h;exact(h.keeps (aC.set _) (fun x hx=>by simp at hx;omega)).lower (by omega)
  ·exact(Ht.below NH).keeps (aC.set _) (fun x hx=>by simp at hx;omega)
  ·exact(jd.trans (NH.mono jd.size)).setCell (p:=⟨w.heap.size,8,none⟩) (Nat.le_refl _) _):P:=h
theorem apa.Ka224(h:P:=by
 go_meet
 case rel=>
  refine⟨rfl,avT,WR,?_,?_,?_,?_,?_,?_,?_⟩
  ·rcases ZC.2 with⟨_,hn⟩|⟨g,cap,cur,hv,_⟩
   ·omega
   ·simp only[Value.slice.injEq] at hv;exact⟨g,hv.1⟩
  ·rcases ZC.2 with⟨_,hn⟩|⟨g,cap,cur,hv,_,_,hnc,_⟩
   ·omega
   ·simp only[Value.slice.injEq] at hv;omega
  ·have h:=bg HNz 8 (.slice avT (pos+1+(n.reqs.length - pos)) WR);rw [show pos+1+(n.reqs.length - pos)=n.reqs.length+1 by omega] at h ⊢;exact h
  ·exact fV _ (by omega) HRz
  ·exact fV _ (by omega) HQz
  ·have h:=LO.own (en:=aJ) (cp:=WR) (l:=n.reqs.take pos++[(⟨no,k,nn,1⟩:Rq)]++n.reqs.drop pos) (by rw [hL2];exact ZC);rw [ah HIQ];rw [List.append_assoc] at h;exact(h.keeps (aC.set _) (fun x hx=>by simp at hx;omega)).lower (by omega)
  ·exact(jd.trans (NH.mono jd.size)).setCell (p:=⟨w.heap.size,8,none⟩) (Nat.le_refl _) _):P:=h
theorem abp(h:P:=by
 obtain⟨avR,cvR,Jq,_⟩:=GR.own_at (enc:=aP) (sz:=1) (l:=(aQ s0 mL).take pos) aN (by rw [hlt1];exact Px);rw [hlt1] at Jq;subst Jq;clear FN FM uR MC;exact Ka225):P:=h
theorem apb.Ka225(h:P:=by
 generalize x2.heap.size=rb at *;exact Za3):P:=h
theorem apc.Ka225(h:P:=by
 generalize x1.heap.size=rb at *;exact Za3):P:=h
theorem Tw(h:P:=by
 have z2:=cell_regrown p2;have z3:=cell_regrown p3;clear c0 c1 c2 c3 c4 c5 c6 c7 c8 c9 p0 p1 p2 p3 p4 p5 p6 p7 p8 p9 mZ;exact Ka226):P:=h
theorem apd.Ka226(h:P:=by
 open anA in exact aaN):P:=h
theorem ape.Ka226(h:P:=by
 refine bJ 16 (by kernel_rfl) ?_;show dZ _ _ _ _ _ 17 (Array.replicate 17 false) _ _
 refine tk [0,1,2,3,4,5,6,7,8,9,10,11,12,13,14,15] ?_;iterate 16 (refine oJ (fun K hK=>?_);go_simp;refine hK _ ?_;clear hK K)
 refine kK ?_;clear y0 y1 z2 z3;refine aZ (by kernel_rfl) (fun x hx=>?_);have Em:=hide (En x c v (HW1.step hx));clear hx;refine aF 16 rfl (by kernel_rfl) (by rfl) ?_;go_simp;refine Em.mono ?_;rintro e y ⟨rfl,c',v',hY⟩;have HY:=hide hY;clear hY Em;refine wpAny_done (by kernel_rfl) ?_;go_simp;go_wp2_with fail;go_ret;exact⟨rfl,c',v',HY⟩):P:=h
theorem apf.Ka226(h:P:=by
 refine bJ 17 (by kernel_rfl) ?_;show dZ _ _ _ _ _ 20 (Array.replicate 20 false) _ _
 refine tk [0,1,2,3,4,5,6,7,8,9,10,11,12,13,14,15,16] ?_;iterate 17 (refine oJ (fun K hK=>?_);go_simp;refine hK _ ?_;clear hK K)
 refine kK ?_;clear y1 z2 z3;refine aZ (by kernel_rfl) (fun x hx=>?_);have Em:=hide (AO x c v (HW1.step hx));clear hx;refine aF 17 rfl (by kernel_rfl) (by rfl) ?_;go_simp;refine Em.mono ?_;rintro e y ⟨rfl,A',G',c',v',hY⟩;have HY:=hide hY;clear hY Em;refine aF 18 rfl (by kernel_rfl) (by rfl) ?_;go_simp;refine aF 19 rfl (by kernel_rfl) (by rfl) ?_;go_simp;refine wpAny_done (by kernel_rfl) ?_;go_simp;cases gb
 all_goals
  go_wp2_with fail
  go_ret
  exact⟨rfl,A',G',c',v',HY⟩):P:=h
theorem abq(h:P:=by
 have Zm:=hide (show IQ.length=n.reqs.length+1 by rw [ah HIQ];simp;omega);have kS:=hide hN6;have iX:=hide hR6;have zN:=hide hQ6;have HL6:=hide hL6;exact Ka227):P:=h
theorem apg.Ka227(h:P:=by
 have R5:=hide hP6;have uj:=hide hB6;clear hN6 hR6 hQ6 hL6 hP6 hB6;rename_i wo _ _ _
 by_cases OJ:30 < n.reqs.length+1
 ·have HK:=hide (show iE (setPu n RL) ⟨no,k,nn,0⟩=bZ (iM (setPu n RL) (IQ.headD default).no) IQ.tail by unfold iE;rw [show((setPu n RL)).reqs=n.reqs from rfl,ah RA,ah Zm,if_pos OJ]);open ahp in exact apR
 ·have HK:=hide (show iE (setPu n RL) ⟨no,k,nn,0⟩=bZ (setPu n RL) IQ by unfold iE;rw [show((setPu n RL)).reqs=n.reqs from rfl,ah RA,ah Zm,if_neg OJ]);open akz in exact ZN):P:=h
theorem aph.Ka227(h:P:=by
 have uj:=hide hB6;clear hN6 hR6 hQ6 hL6 hB6;rename_i wo _ _ _
 by_cases OJ:30 < n.reqs.length+1
 ·have HK:=hide (show iE n ⟨no,k,nn,1⟩=bZ (iM n (IQ.headD default).no) IQ.tail by unfold iE;rw [show(n).reqs=n.reqs from rfl,ah RA,ah Zm,if_pos OJ]);open ahq in exact apR
 ·have HK:=hide (show iE n ⟨no,k,nn,1⟩=bZ n IQ by unfold iE;rw [show(n).reqs=n.reqs from rfl,ah RA,ah Zm,if_neg OJ]);open akA in exact ZN):P:=h
theorem abr(h:P:=by
 obtain ⟨⟨c0, c1, c2, c3, c4, c5, c6, c7, c8, c9, c10⟩, f0, f1, f2, f3, f4, f5, f6, f7, f8, f9, f10⟩ := bX (ah HS2).own;have hzg := fH (ah HS2).own;go_wp2_with fail;exact Ka228):P:=h
theorem apj.Ka228(h:P:=by
 exact Ka109):P:=h
theorem apk.Ka228(h:P:=by
 exact Ka54):P:=h
theorem abt(h:P:=by
 have h9n:∀x,6 < newC w.heap.size 9 c x→newC w.heap.size 9 c x=9:=fun x hx=>by
  by_cases hlt:x < w.heap.size
  ·rw [dR hlt] at hx ⊢;exact h9 x hx
  ·exact aW (by omega)
 exact Ka229):P:=h
theorem apl.Ka229(h:P:=by
 have Ob:=hide (fun W (hBW:B≤W.heap.size) (hN:NQ W B n A G (newC w.heap.size 9 c))=>Wj n A G (newC w.heap.size 9 c) 1 mF mT mI mL mk mN W B hBW h9n hz hmk hP qZ hok h2 hN);clear h9n hz hP qZ hok;unfold eT at Ob;dsimp only at Ob ⊢;generalize (takeN n ⟨1,mF,mT,mI,mL,mk,mN⟩).1=N1 at *;generalize (if (takeN n ⟨1,mF,mT,mI,mL,mk,mN⟩).2=true then[LZ n ⟨1,mF,mT,mI,mL,mk,mN⟩] else[])=L1 at *;generalize (if (takeN n ⟨1,mF,mT,mI,mL,mk,mN⟩).2=true then(0:Int) else 1)=zh at *;unfold eT;have H9:=hide h9;clear h9;have RJ:=hide (fun W=>lX ⟨1,mF,mT,mI,mL,mk,mN⟩ W (by unfold maxLen;dsimp only;omega));open ahR in exact TF):P:=h
theorem apm.Ka229(h:P:=by
 have HGV:=hide (fun W (hBW:B≤W.heap.size) (hN:NQ W B n A G (newC w.heap.size 9 c))=>Kt n A G (newC w.heap.size 9 c) mF mk mN W B hBW h9n hz hmk hP qZ h0 hN);clear h9n hz hP qZ;unfold eT at HGV;generalize eu n mF mk mN=GV at *;obtain⟨N1,L1,b1⟩:=GV;dsimp only at HGV ⊢;generalize (if b1=true then(0:Int) else 1)=zh at *;unfold eT;have H9:=hide h9;clear h9;have RJ:=hide (fun W=>lX ⟨0,mF,mT,mI,mL,mk,mN⟩ W (by unfold maxLen;dsimp only;omega));open ahN in exact TF):P:=h
theorem abu(h:P:=by
 refine Pb (fun Y hY => ?_);have En := hide ((ah HS).draw ((ah HS).cur.keep_below hY) (Keeps.of_below hY));exact Ka230):P:=h
theorem apn.Ka230(h:P:=by
 clear hY HS;obtain ⟨c0, c1, c2, c3, c4, c5, c6, c7, c8⟩ := nine (ah En).own;refine eO 1 rfl (by kernel_rfl) (by kernel_rfl) (by kernel_rfl) (fun _ _ _ _ h => h) (fun K hK => ?_);open asH in exact Ya3):P:=h
theorem apo.Ka230(h:P:=by
 clear hY HS c0 c1 c2 c3 c4 c5 c6 c7 c8;open aoG in exact abe):P:=h
theorem abv(h:P:=by
 have c4:V.cell? ⟨g,off+j*4,none⟩=some (.string q):=by rw [hV,World.cell?_alloc_lt _ _ _ hgw];exact d0
 have hgq:g < V.heap.size:=by rw [hV];simp;omega
 clear hblk hV c0 c1 c2 c3 d0;exact Ka231):P:=h
theorem apq.Ka231(h:P:=by
 open aos in exact aa5):P:=h
theorem apr.Ka231(h:P:=by
 open aoo in exact aa4):P:=h
theorem abw(h:P:=by
 go_wp2_with fail;refine(HCM _).mono ?_;rintro e w1 ⟨rfl,hb1⟩;have HB1:=hide (HB.trans (hb1.mono HB.size));exact Ka232):P:=h
theorem aps.Ka232(h:P:=by
 have HE:Hid (RF=(ln - no == 0)):=by
  show RF=_
  rw [ah HFP,Bool.eq_iff_iff,decide_eq_true_iff,beq_iff_eq];omega
 clear hb1 q0 q1 q2 q3 HFP;go_wp2_with fail;go_ret2
 exact⟨by rw [ah HE];rfl,HB1⟩):P:=h
theorem apt.Ka232(h:P:=by
 clear hb1 q0 q1 q2 q3;by_cases hc:ln - no < 0
 ·go_wp2_with fail;go_roundw
  case rel=>exact⟨m+1,q,by
   rcases Nat.lt_or_ge R (m+1) with h9|h9
   ·have:=ah HHM (by omega);omega
   ·exact h9,h3,h4,by go_num,rfl,HB1⟩
  case measure=>simp[intOf];omega
 ·go_wp2_with fail;go_roundw
  case rel=>exact⟨p,m,h2,by
   rcases Nat.lt_or_ge m R with h9|h9
   ·have:=ah HLM h9;omega
   ·exact h9,by omega,rfl,rfl,HB1⟩
  case measure=>simp[intOf];omega):P:=h
theorem abx(h:P:=by
 go_enter Tryz.func159,Tryz.ntmps159
 go_wp2_with fail;refine(HO _).mono ?_;rintro e w1 ⟨rfl,hb1⟩;obtain⟨hA,hC,hbel⟩:=xJ hb1;have HC:=hide hC;have fG:=hide hbel;exact Ka233):P:=h
theorem apu.Ka233(h:P:=by
 obtain⟨⟨p0,p1,p2,p3⟩,_⟩:=eZ hA;obtain⟨⟨r0,r1,r2,r3⟩,s0,s1,s2,s3⟩:=eZ hC;clear hb1 hA hC hbel;go_wp2_with fail;clear r0 r1 r2 r3;refine Fo.bodyPost_at (fun W' hW'=>?_);obtain⟨⟨r0,r1,r2,r3⟩,_⟩:=eZ (show W'.heap[w.heap.size+1+1]?=some (.cells #[.string pk,.int .i64 (pm+dm*n),.int .i64 (pf+df*n),.int .i64 (ps+ds*n)] 84 (0,0)) by rw [hW'];exact Fo.four_set HC);have hbb:Below w.heap.size w W':=by rw [hW'];exact Fo.four_below fG (by omega)
 exact bodyPost_ret (v:= .tuple #[.agg #[.string pk,.int .i64 (pm+dm*n),.int .i64 (pf+df*n),.int .i64 (ps+ds*n)],.nilIface]) (by simp[results,Tryz.results159,go_sem,r0,r1,r2,r3]) rfl ⟨rfl,hbb⟩):P:=h
theorem apv.Ka233(h:P:=by
 have ve:=(HE.below hbel).var 4 (by omega);have hsz:=(show w.heap.size+1+1 < w1.heap.size from Fo.lt_of_blk hC);have hve:4 < w.heap.size:=World.block_lt_of_cell? _ _ (HE.var 4 (by omega));obtain⟨⟨r0,r1,r2,r3⟩,s0,s1,s2,s3⟩:=eZ hC;clear hb1 hA hC hbel;go_wp2_with fail;go_region
 all_goals
  go_wp2_with fail
  refine Fo.bodyPost_at (fun W' hW'=>?_)
  obtain⟨⟨t0,t1,t2,t3⟩,_⟩:=eZ (show W'.heap[w.heap.size+1+1]?=some (.cells #[.string ⟨#[]⟩,.int .i64 0,.int .i64 0,.int .i64 0] 84 (0,0)) by rw [hW'];exact Fo.four_set (w:=w1.drew) HC)
  have hbb:Below w.heap.size w W':=by rw [hW'];exact Fo.four_below (w:=w1.drew) (fG.trans ⟨rfl,rfl,rfl,Nat.le_refl _,fun _ _=>rfl⟩) (by omega)
  exact bodyPost_ret (v:= .tuple #[.agg #[.string ⟨#[]⟩,.int .i64 0,.int .i64 0,.int .i64 0],qw (E 4)]) (by simp[results,Tryz.results159,go_sem,t0,t1,t2,t3]) rfl ⟨rfl,hbb⟩):P:=h
end Go.Proofs.YtfmdndhliinhpaaGreatDoor
