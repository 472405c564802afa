/-
  Parts of proofs that stand more than once, each said once.
-/
import Derived.Test.YtbolgdleijjgfaaGreatDoorRfZ2
namespace Go.Proofs.YtbolgdleijjgfaaGreatDoor
open Go.Proofs.Tryz
set_option maxRecDepth 100000
variable{P:Prop}
theorem aw5(h:P:=by
 go_wp2_with fail;rw [J7];go_upto_if 20 with fail;go_cut [3] (λl wx=>l= .int .i64 gW/\W1=wx)
 case first=>
  by_cases hq:pf < most
  .rw [aFc hq] at hc;subst hc;have q0:decide (pf < most)=true:=aET hq;go_wp2_with fail;go_meet
   case rel=>exact⟨rfl,rfl⟩
  .rw [aE2 hq] at hc;subst hc;have q0:decide (pf < most)=false:=aES hq;go_wp2_with fail;go_meet
   case rel=>exact⟨rfl,rfl⟩
 case rest=>
 obtain⟨rfl,rfl⟩:=hcut;clear hc;exact Ac9):P:=h
theorem apZ.Ac9(h:P:=by
 go_upto_region 5 with fail;go_wp2_with fail;have Ob:=Hq (yD.kc (k:=9) (KC.of_below (au W1 (.cells #[] 70))) Aaa);have wm:=Hq (HB1.trans ((au W1 (.cells #[] 70)).mono HB1.size));refine eP results132 rfl rfl rfl rfl yc (λW' e4 fC=>?_);have HAT:=Hq (λW'' (ho:Out c w W' W'')=>(Ob.kc (k:=9) ((KC.keeps fC (λx hx=>by have:x=w.heap.size+1:=Aag;rw [this];exact aY Aaa)).trans (KC.out H9 ho)) Aaa).rm);have rG:Hid (Below B w W'):=(wm.mono hB).trans (fC.below (λx hx=>by have:x=w.heap.size+1:=Aag;omega) (aEU hB (wm.mono hB).size));have xZ:=Hq (Apart.keeps (c:=c) (Apart.of_below wm) (wm.mono hB).size fC (λx hx=>by have:x=w.heap.size+1:=Aag;omega));clear e4 fC;exact⟨A,some ⟨W1.heap.size,0,none⟩,0,rfl,HAT,λW'' _ i hi=>Aau,rG,xZ⟩):P:=h
theorem ap0.Ac9(h:P:=by
 go_upto_region 6 with fail;go_wp2_with fail;refine(HPT W1 yD.at.p).mono ?_;rintro e W2 ⟨v,rfl,hne,hrow,hb2⟩;obtain⟨av,cv,rfl,_⟩:=GR.own_at (enc:=fA) (sz:=4) aQ hrow;have kQ:=Hq (aj nD hb2);have nK:=Hq (aj wu hb2);have HB2:=Hq (HB1.trans (hb2.mono HB1.size));have Ii:=Hq (yD.kc (k:=9) (KC.of_below hb2) Aaa);have rF:=Hq hrow;have hbs:w.heap.size+1 < W1.heap.size:=hrl;generalize W1.heap.size=bs at *;clear hb2 hne hrow c0 c1 c2 c3 c4 c5 c6 c7 c8 hnl hrl HPT nD wu HB1 yD;have f4n:=aC kQ 4;have c4n:=(nine kQ).2.2.2.2.1;have hn2:=ay kQ;go_upto_region 7 with fail;refine wp_at (λZ6 hZ=>?_);have ou:Hid (Z6.heap[w.heap.size]?=some (.cells (wC n.id n.par a_k n.kids.length dH n.next av RL.length cv jm n.out.length eu jc n.seen.length dJ n.old jy n.reqs.length dR) 39 (0,0))):=by rw [hZ];exact Dv kQ
 have rH:Hid (Z6.heap[w.heap.size+1]?=some (.cells lC 39 (0,0))):=by rw [hZ];exact jq nK Aaa
 have HN6:Hid (NQ Z6 B n (⟨a_k,(some ⟨gp,0,none⟩),jm,jc,jy,dH,fQ,eu,dJ,dR⟩:bq) G (newC w.heap.size 9 c)):=by rw [hZ];exact Ii.kc (k:=9) (KC.set (aY (aER _))) Aaa
 have HP6:Hid (Z6.ownsRow bs 155 4 (.slice av RL.length cv) RL.length (GR.flat fA RL)):=by rw [hZ];exact dM rF (aA.set _) (λy hy=>by have:y=w.heap.size:=Aar;omega)
 have yB:Hid (Below B w Z6):=by rw [hZ];exact(HB2.mono hB).setCell (p:=⟨w.heap.size,4,none⟩) hB _
 have Xv:Hid (Apart c w Z6):=by rw [hZ];exact(Apart.of_below HB2).keeps HB2.size (aA.set _) (λy hy=>by have:y=w.heap.size:=Aar;omega)
 clear hZ kQ nK Ii rF HB2 f4n c4n hn2;have c3n:=(nine ou).2.2.2.1;have hn6:=ay ou;go_upto_region 8 with fail;refine wp_at (λZ7 hZ=>?_)
 have HS7:Hid (Z7.heap[Z6.heap.size]?=some (.cells (gN n.next dst key gW) 145 (0,0))):=by
  rw [hZ];exact aEP Z6 _
 have wB:aH Z6 Z7:=by
  rw [hZ];exact au Z6 _
 have sJ:=Hq (aj ou wB);have wI:=Hq (aj rH wB);have HN7:=Hq (HN6.kc (k:=9) (KC.of_below wB) Aaa);have HP7:=Hq (GR.own_below HP6 wB);have Ie:=Hq (yB.trans (wB.mono (aEU hB yB.size)));have HK7:=Hq (Xv.step yB.size wB);have hsb:w.heap.size+1 < Z6.heap.size:=ay rH;generalize Z6.heap.size=sb at *;clear hZ wB ou rH HN6 HP6 yB Xv c3n hn6;have c3n:=(nine sJ).2.2.2.1;have f3n:=aC sJ 3;have hn7:=ay sJ;go_upto_region 9 with fail;refine wp_at (λZ8 hZ=>?_);have vX:Hid (Z8.heap[w.heap.size]?=some (.cells (wC n.id n.par a_k n.kids.length dH (n.next+1) av RL.length cv jm n.out.length eu jc n.seen.length dJ n.old jy n.reqs.length dR) 39 (0,0))):=by rw [hZ];exact Dv sJ
 have IJ:Hid (Z8.heap[w.heap.size+1]?=some (.cells lC 39 (0,0))):=by rw [hZ];exact jq wI Aaa
 have XF:Hid (Z8.heap[sb]?=some (.cells (gN n.next dst key gW) 145 (0,0))):=by rw [hZ];exact jq HS7 Aaa
 have HN8:Hid (NQ Z8 B n (⟨a_k,(some ⟨gp,0,none⟩),jm,jc,jy,dH,fQ,eu,dJ,dR⟩:bq) G (newC w.heap.size 9 c)):=by rw [hZ];exact HN7.kc (k:=9) (KC.set (aY (aER _))) Aaa
 have HP8:Hid (Z8.ownsRow bs 155 4 (.slice av RL.length cv) RL.length (GR.flat fA RL)):=by rw [hZ];exact dM HP7 (aA.set _) (λy hy=>by have:y=w.heap.size:=Aar;omega)
 have HB8:Hid (Below B w Z8):=by rw [hZ];exact Ie.setCell (p:=⟨w.heap.size,3,none⟩) hB _
 have HK8:Hid (Apart c w Z8):=by rw [hZ];exact HK7.keeps Ie.size (aA.set _) (λy hy=>by have:y=w.heap.size:=Aar;omega)
 clear hZ HK7 sJ wI HN7 HP7 Ie HS7 c3n f3n hn7
 obtain⟨a6,c6,W9,hrun,ab3,akJ,akU⟩:∃a6 c6 W9,(Builtin.append_ #[35,35] 35 #[.slice jm n.out.length eu,.slice (some ⟨Z8.heap.size,0,none⟩) 1 1]).run prog (Z8.alloc (.cells (gN n.next dst key gW) 145))= .ok (.slice a6 (n.out.length+1) c6) W9/\W9.ownsRow B 145 4 (.slice a6 (n.out.length+1) c6) (n.out.length+1) (GR.flat aM (n.out++[⟨n.next,dst,key,gW⟩]))/\(Z8.alloc (.cells (gN n.next dst key gW) 145)).grownBy W9 (Value.slice jm n.out.length eu).ownBlock/\∀x,(Value.slice a6 (n.out.length+1) c6).ownBlock=some x->(Value.slice jm n.out.length eu).ownBlock=some x\/(Z8.alloc (.cells (gN n.next dst key gW) 145)).heap.size<=x:=by
  obtain⟨hi,hz0,hz1,hz2⟩:=ah HI;obtain⟨v',w',hr,ho,hg,hw⟩:=kX (P:=prog) (Z8.alloc (.cells (gN n.next dst key gW) 145)) B 35 35 145 i0 (.agg (gN 0 0 ByteArray.empty 0)) 4 40 underlying35 hi hz0 hz1 hz2 rfl Aae (.slice jm n.out.length eu) n.out.length (GR.flat aM n.out) (GR.own_below HN8.o (au Z8 _)) ⟨Z8.heap.size,0,none⟩ 1 1 (aM ⟨n.next,dst,key,gW⟩) rfl (aFF (aEP Z8 _)) (yU _) Aaj Aaa (aEU (aEU hB HB8.size) (au Z8 _).size);obtain⟨a6,c6,hv6,_⟩:=GR.own_at (enc:=aM) (sz:=4) (l:=n.out++[⟨n.next,dst,key,gW⟩]) aT (by rw [aEW,jr];exact ho);rw [aEW] at hv6;have hv7:v'= .slice a6 (n.out.length+1) c6:=hv6;subst hv7;exact⟨a6,c6,w',hr,by rw [jr];exact ho,hg,hw⟩
 have qD:=HN8.kc (k:=9) (KC.of_below (au Z8 (.cells (gN n.next dst key gW) 145))) Aaa;have k9:KC (newC w.heap.size 9 c) 3 (Z8.alloc (.cells (gN n.next dst key gW) 145)) W9:=KC.grown akJ qD.co;have hn9:∀x,w.heap.size<=x->newC w.heap.size 9 c x≠3:=λx hx=>by rw [aY hx];omega
 have DY:=Hq (k9.obj (aj vX (au Z8 (.cells (gN n.next dst key gW) 145))) (hn9 _ (aER _)));have zU:=Hq (k9.obj (aj IJ (au Z8 (.cells (gN n.next dst key gW) 145))) (hn9 _ Aaa));have aas:=Hq (k9.obj (aj XF (au Z8 (.cells (gN n.next dst key gW) 145))) (hn9 _ Aaa));have HB9:=Hq (k9.below (B:=B) (HB8.trans ((au Z8 (.cells (gN n.next dst key gW) 145)).mono (aEU hB HB8.size))) qD.lo Aaa (aEU (aEU hB HB8.size) (au Z8 _).size));have hZ8:w.heap.size+1 < Z8.heap.size:=ay IJ
 have iJ:Hid (∀W',(∃F,aA F W9 W'/\∀y∈F,(y=w.heap.size\/y=w.heap.size+1)\/(y < w.heap.size/\6 < c y))->RM W' ⟨a_k,av,a6,jc,jy,dH,cv,c6,dJ,dR⟩ ⟨n.id,n.par,n.kids,n.next+1,RL,n.out++[⟨n.next,dst,key,gW⟩],n.seen,n.old,n.reqs⟩):=λW' hkF=>by
  obtain⟨F,hk,hF⟩:=hkF
  have kF:KC (newC w.heap.size 9 c) 9 W9 W':=KC.keeps hk (λy hy=>by
   rcases hF y hy with h1|h1
   .exact aY Aaa
   .rw [fE h1.1];exact H9 y h1.2)
  have hr:=(kF.own (k9.own qD.r qD.cr Aaa) qD.cr Aaa)
  have hp:=(dM (k9.own (j:=9) (GR.own_below HP8 (au Z8 _)) (λx hx=>aY (by have:=vD HP8 hx;omega)) Aaa) hk (λy hy=>by
   have:=hF y hy
   omega))
  have ho:W'.ownsRow B 145 4 (.slice a6 (n.out++[(⟨n.next,dst,key,gW⟩:jI)]).length c6) (n.out++[(⟨n.next,dst,key,gW⟩:jI)]).length (GR.flat aM (n.out++[(⟨n.next,dst,key,gW⟩:jI)])):=(by
   rw [aEW]
   exact jF ab3 (λx hx=>by
    have hx9:=CG ab3 hx
    refine hk.block x hx9 (λhm=>?_)
    have hm':=hF x hm
    rcases akU x hx with h1|h1
    .have h2:=qD.co x h1;rcases hm' with h3|h3
     .rw [aY Aaa] at h2;cases h2
     .rw [fE h3.1] at h2;omega
    .have:=(au Z8 (.cells (gN n.next dst key gW) 145)).size
     omega))
  have hp9:∀g,av.map (λy=>y.block)=some g->6 < newC w.heap.size 9 c g:=λg hg=>by
   have h1:=vD hp (tL hp hg)
   rw [aY Aaa]
   omega
  have ho9:∀x,(Value.slice a6 (n.out++[(⟨n.next,dst,key,gW⟩:jI)]).length c6).ownBlock=some x->(Value.slice jm n.out.length eu).ownBlock=some x\/(Z8.alloc (.cells (gN n.next dst key gW) 145)).heap.size<=x:=λx hx=>by
   rw [aEW] at hx
   exact akU x hx
  have hz9:(Z8.alloc (.cells (gN n.next dst key gW) 145)).heap.size=Z8.heap.size+1:=Aac
  exact RM.of (n:=⟨n.id,n.par,n.kids,n.next+1,RL,n.out++[⟨n.next,dst,key,gW⟩],n.seen,n.old,n.reqs⟩) (A:=⟨a_k,av,a6,jc,jy,dH,cv,c6,dJ,dR⟩) (c:=newC w.heap.size 9 c) (kF.w (k9.w qD.k qD.ck Aaa) qD.ck Aaa) qD.ck (kF.seenQ (k9.seenQ qD.sq qD.c4 qD.ci Aaa Aaa) qD.c4 qD.ci Aaa Aaa) qD.c4 qD.ci qD.ni
   (GR.own_ati aQ hp) (λg hg _=> .inr (hp9 g hg)) ho (λx hx=>by
    rcases ho9 x hx with h1|h1
    .exact .inl (qD.co x h1)
    .refine .inr ?_;rw [aY Aaa]
     omega) hr (λx hx=> .inl (qD.cr x hx))
   (λg hg _ h6=>⟨λe=>by
    rcases ho9 g e with h1|h1
    .have:=qD.co g h1;omega
    .have h2:=CG HP8 (tL HP8 hg)
     omega,λe=>by have:=qD.cr g e;omega⟩) (λx hx h6 e=>by have:=qD.cr x e;omega)
 have HK9:=Hq ((HK8.step HB8.size (au Z8 (.cells (gN n.next dst key gW) 145))).grown (aEU HB8.size (au Z8 _).size) akJ (λx hx hlt=>by
  have h1:=qD.co x hx
  rw [fE hlt] at h1
  omega))
 have aam:=Hq hrun;clear hrun ab3 akJ akU qD k9 hn9 HP8 HN8 HB8 HK8;have c5n:=(nine vX).2.2.2.2.2.1;obtain⟨s0,s1,s2,s3⟩:=iI XF;have c5w:=(nine DY).2.2.2.2.2.1;have f5w:=aC DY 5;have hn8:=ay vX;have hs8:=ay XF;go_upto_region 10 with(at_builtin;refine gD rfl _ _ 35 rfl _ _ rfl rfl _ _ aam ?_)
 refine wp_at (λZ9 hZ=>?_);have OC:Hid (Z9.heap[w.heap.size]?=some (.cells (wC n.id n.par a_k n.kids.length dH (n.next+1) av RL.length cv a6 (n.out.length+1) c6 jc n.seen.length dJ n.old jy n.reqs.length dR) 39 (0,0))):=by rw [hZ];exact Dv DY
 have ajG:Hid (Z9.heap[w.heap.size+1]?=some (.cells lC 39 (0,0))):=by rw [hZ];exact jq zU Aaa
 have ajJ:Hid (Z9.heap[sb]?=some (.cells (gN n.next dst key gW) 145 (0,0))):=by rw [hZ];exact jq aas Aaa
 have Iz:Hid (∀W' W'',aA [w.heap.size+1] Z9 W'->Out c w W' W''->RM W'' ⟨a_k,av,a6,jc,jy,dH,cv,c6,dJ,dR⟩ ⟨n.id,n.par,n.kids,n.next+1,RL,n.out++[⟨n.next,dst,key,gW⟩],n.seen,n.old,n.reqs⟩):=λW' W'' hk ho=>by
  obtain⟨F,hk2,hF⟩:=ho
  refine iJ W'' ⟨w.heap.size::(w.heap.size+1)::F,aA.trans (b:=Z9) (by rw [hZ];exact(aA.set _).mono (λx hx=>Aas)) (aA.trans (hk.mono (λx hx=>Aas)) (hk2.mono (λx hx=>Aai))),λy hy=>?_⟩
  rcases aFd.1 hy with h1|h1
  .exact .inl (.inl h1)
  .rcases aFd.1 h1 with h2|h2
   .exact .inl (.inr h2)
   .exact .inr (hF y h2)
 have uH:Hid (Below B w Z9):=by rw [hZ];exact HB9.setCell (p:=⟨w.heap.size,5,none⟩) hB _
 have HKZ:Hid (Apart c w Z9):=by rw [hZ];exact HK9.keeps HB9.size (aA.set _) (λy hy=>by have:y=w.heap.size:=Aar;omega)
 clear hZ HK9 iJ aam DY zU aas HB9 c5n s0 s1 s2 s3 c5w f5w hn8 hs8 vX IJ XF hZ8;have HNV:Hid (gU ⟨n.id,n.par,n.kids,n.next+1,RL,n.out++[⟨n.next,dst,key,gW⟩],n.seen,n.old,n.reqs⟩ ⟨a_k,av,a6,jc,jy,dH,cv,c6,dJ,dR⟩= .agg (wC n.id n.par a_k n.kids.length dH (n.next+1) av RL.length cv a6 (n.out.length+1) c6 jc n.seen.length dJ n.old jy n.reqs.length dR)):=by unfold Hid;simp[gU,dD]
 have IG:Hid (∀x,Ge Z9 x->Calls prog 157 #[.agg (wC n.id n.par a_k n.kids.length dH (n.next+1) av RL.length cv a6 (n.out.length+1) c6 jc n.seen.length dJ n.old jy n.reqs.length dR),.agg (gN n.next dst key gW)] x (dU x (oJ PM))):=λx hx=>by
  have h1:=Xl ⟨n.id,n.par,n.kids,n.next+1,RL,n.out++[⟨n.next,dst,key,gW⟩],n.seen,n.old,n.reqs⟩ ⟨a_k,av,a6,jc,jy,dH,cv,c6,dJ,dR⟩ ⟨n.next,dst,key,gW⟩ x Aah (GR.At.below (Iz Z9 Z9 (aA.refl _ _) Out.refl).at.o hx)
  rw [ah HPM,ah HNV] at h1
  exact h1
 obtain⟨qK,qF,qT,qI,qL,qk,qN⟩:=PM;unfold oJ at IG
 have zN:Hid (∀W' mb,aA [w.heap.size+1] Z9 W'->W'.heap[mb]?=some (.cells (bX qK qF qT qI qL qk qN) 70 (0,0))->w.heap.size<=mb->(∀W'',Out c w W' W''->RM W'' ⟨a_k,av,a6,jc,jy,dH,cv,c6,dJ,dR⟩ ⟨n.id,n.par,n.kids,n.next+1,RL,n.out++[⟨n.next,dst,key,gW⟩],n.seen,n.old,n.reqs⟩)/\(∀W'',Out c w W' W''->GR.At jC 7 W'' (some ⟨mb,0,none⟩) [⟨qK,qF,qT,qI,qL,qk,qN⟩])/\Below B w W'/\Apart c w W'):=λW' mb hk hm hmb=>by
  refine⟨λW'' ho=>Iz W' W'' hk ho,λW'' ho i hi=>?_,uH.trans (hk.below (λx hx=>by have:x=w.heap.size+1:=Aag;omega) (aEU hB uH.size)),HKZ.keeps uH.size hk (λx hx=>by have:x=w.heap.size+1:=Aag;omega)⟩
  obtain⟨F,hk2,hF⟩:=ho
  have hm2:=hk2.obj hm (λhx=>by have:=(hF mb hx).1;omega)
  refine⟨mb,0,rfl,ay hm2,λj hj=>?_⟩
  have hi0:i=0:=Abs
  subst hi0
  have h1:=aE1 W'' mb (0+(0*7+j)) _ _ (0,0) hm2
  rw [h1]
  simp[jC]
 clear Iz uH HKZ HPM;obtain⟨c0,c1,c2,c3,c4,c5,c6,c7,c8⟩:=nine OC;obtain⟨s0,s1,s2,s3⟩:=iI ajJ;open ani in exact XL):P:=h
theorem ajZ(h:P:=by
 refine wp_at (λW0 hW0=>?_);have HB0:Hid (W0.heap[w.heap.size]?=some (.cells (dD ⟨id,par,kids,next,pu,out,seen,old,reqs⟩ ⟨ak,ap,ao,as',ar,ck,cp,co,cs,cr⟩) 39 (0,0))):=by rw [hW0];exact jO
 have pY:Hid (aH w W0):=by rw [hW0];exact au w _
 clear hW0 jO;exact Ab3):P:=h
theorem ap1.Ab3(h:P:=by
 obtain⟨c0,c1,c2,c3,c4,c5,c6,c7,c8⟩:=nine HB0;go_wp2_with fail;refine(Oc _ pY).mono ?_;rintro e w1 ⟨rfl,hb1⟩;open ata in exact aaF):P:=h
theorem ap2.Ab3(h:P:=by
 obtain⟨bb,hbb⟩:∃bb,(!(PL&&PS&&TD&&fJ next&&decide (out.length<=40)&&rM old&&decide (reqs.length<=30)))=bb:=⟨_,rfl⟩;have eY:=Hq hbb;clear hbb;obtain⟨c0,c1,c2,c3,c4,c5,c6,c7,c8⟩:=nine HB0;go_cut [44] (λr wx=>r= .bool bb/\wx.heap[w.heap.size]?=some (.cells (dD ⟨id,par,kids,next,pu,out,seen,old,reqs⟩ ⟨ak,ap,ao,as',ar,ck,cp,co,cs,cr⟩) 39 (0,0))/\aH w wx)
 case first=>
  go_wp2_with fail;refine(Oc _ pY).mono ?_;rintro e w1 ⟨rfl,hb1⟩;open awD in exact aaV
 case rest=>
  obtain⟨rfl,hblk,hbel⟩:=hcut;have HB1:=Hq hblk;have vW:=Hq hbel;clear hblk hbel c0 c1 c2 c3 c4 c5 c6 c7 c8 Oc HPU Og HB0 pY;cases hbv:bb
  case' true=>
   have HP:Hid (TT=false):=by
    have h:=ah eY;rw [hbv] at h;rw [ah HD];generalize (PL&&PS&&TD&&fJ next&&decide (out.length<=40)&&rM old&&decide (reqs.length<=30))=X at *;cases X
    .rfl
    .cases h
   clear eY HD;subst hbv;go_wp2_with fail;go_ret;exact⟨aF HP.symm,vW⟩
  have HF:Hid (fJ next=true/\rM old=true/\TT=(ig OT (λs t=>iR s.i t.i) out&&ig RQ (λs t=>iR s.no t.no) reqs)):=by
   have h:=ah eY;rw [hbv] at h;rw [ah HD];cases h4:fJ next<;>cases h6:rM old<;>rw [h4,h6] at h
   all_goals first
    |(simp at h;done)
    |skip
   refine⟨rfl,rfl,?_⟩;generalize (PL&&PS&&TD&&true&&decide (out.length<=40)&&true&&decide (reqs.length<=30))=X at *;cases X
   .cases h
   .rfl
  clear eY HD;subst hbv;obtain⟨hn1,ho1,hTT⟩:=ah HF;have HTT:=Hq hTT;have hn2:1<=next/\next<=1000000000:=aFa hn1;have ho2:0<=old/\old<=1000000000:=aFa ho1;obtain⟨hn3,hn4⟩:=hn2;obtain⟨ho3,ho4⟩:=ho2;clear hn1 ho1 hTT HF;have yC:=Hq (λk h=>qh OT (λs t=>iR s.i t.i) out k h);have Ov:=Hq (tu OT (λs t=>iR s.i t.i) out);have BP:=Hq (wK OT (λs t=>iR s.i t.i) out);have HDB:=Hq (λk h=>qh RQ (λs t=>iR s.no t.no) reqs k h);have HDF:=Hq (tu RQ (λs t=>iR s.no t.no) reqs);have HDN:=Hq (wK RQ (λs t=>iR s.no t.no) reqs);generalize (λs t:jI=>iR s.i t.i)=RO at *;generalize (λs t:Rq=>iR s.no t.no)=RR at *;go_wp2_with fail;go_loopw [3] (λi wr=>∃k:Nat,k<=out.length/\i= .int .i64 k/\ig OT RO (out.take k)=true/\wr.heap[w.heap.size]?=some (.cells (dD ⟨id,par,kids,next,pu,out,seen,old,reqs⟩ ⟨ak,ap,ao,as',ar,ck,cp,co,cs,cr⟩) 39 (0,0))/\aH w wr) (λi _=>out.length - (intOf i).toNat)
  case atStart=>exact⟨0,aE7 _,rfl,rfl,HB1,vW⟩
  case round=>
   open aru in exact aex):P:=h
theorem ap3.Ab3(h:P:=by
 obtain⟨al,hal⟩:∃al:Int,(kids.length:Int)+(if 0<=par then 1 else 0)=al:=⟨_,rfl⟩;rw [hal] at HD;go_cut [3] (λr wx=>r= .int .i64 al/\wx=W0)
 case first=>
  by_cases hp:0<=par
  .rw [aFc hp] at hal;have HAL:=Hq hal;clear hal;go_wp2_with fail;go_meet
   case rel=>exact⟨by rw [<-ah HAL],rfl⟩
  .rw [aE2 hp] at hal;have HAL:=Hq hal;clear hal;go_wp2_with fail;go_meet
   case rel=>exact⟨by rw [<-ah HAL,Int.add_zero],rfl⟩
 case rest=>
  obtain⟨rfl,rfl⟩:=hcut;clear hal;obtain⟨c0,c1,c2,c3,c4,c5,c6,_⟩:=nine HB0;by_cases hlen:(seen.length:Int)=al
  case' neg=>
   have hbn:((seen.length:Int) != al)=true:=by simpa using hlen
   have HP:Hid (TT=false):=by rw [ah HD,aES hlen];rfl
   clear hlen HD yC Ov BP R6 XB HRR;go_wp2_with fail;go_ret;exact⟨aF HP.symm,pY⟩
  have hbn:((seen.length:Int) != al)=false:=by simpa using hlen
  have nH:Hid (TT=ig PP RR seen):=by rw [ah HD,aET hlen];rfl
  clear hlen HD;go_wp2_with fail;go_loopw [4] (λi wr=>∃k:Nat,k<=seen.length/\i= .int .i64 k/\ig PP RR (seen.take k)=true/\wr.heap[w.heap.size]?=some (.cells (dD ⟨id,par,kids,next,pu,out,seen,old,reqs⟩ ⟨ak,ap,ao,as',ar,ck,cp,co,cs,cr⟩) 39 (0,0))/\aH w wr) (λi _=>seen.length - (intOf i).toNat)
  case atStart=>exact⟨0,aE7 _,rfl,rfl,HB0,pY⟩
  case round=>
   open ars in exact aex):P:=h
theorem aw6(h:P:=by
 clear h hc;obtain⟨⟨p0,p1,p2,p3,p4,p5,p6,p7,p8,p9,pz⟩,_⟩:=aK SG;have hpl:=ay SG;go_upto_region 3 with fail;have z1:=aEQ p1;have z2:=aEQ p2;have z3:=aEQ p3;clear p0 p1 p2 p3 p4 p5 p6 p7 p8 p9 pz;refine bC 9 Aab ?_;show fV _ _ _ _ _ 10 (Array.replicate 10 false) _ _
 refine tk [0,1,2,3,5,6] ?_;open avy in exact JX):P:=h
theorem ap4.AdQ(h:P:=by
 refine zD 4 8 rfl rfl Aab Aad Aad (λx hx=>?c1) (λx hx=>?c2)
 case' c1=>
  go_simp
  refine(clone k x Aaa).mono ?_
  rintro e y ⟨rfl,hby⟩
  refine⟨hby,?_⟩
  have HY:=Hq (Ge.trans hx hby)
  clear hx hby
  refine tk [7] ?_
  (refine lW (λK hK=>?_);go_simp;refine hK _ ?_;clear hK K)
  refine jh ?_
  refine dP 8 rfl Aab Aad (λx2 hx2=>?_)
  go_simp
  refine⟨au x2 _,?_⟩
  have hgl:z.heap.size<=x2.heap.size:=(Ge.trans HY hx2).size
  have Ih:=Hq (aEP x2 (.cells (gY 0 ⟨#[]⟩ 0 0) 148))
  have wm:=Hq (Ge.trans (Ge.trans HY hx2) (au x2 (.cells (gY 0 ⟨#[]⟩ 0 0) 148)))
  clear hx2 HY
  generalize x2.alloc (.cells (gY 0 ⟨#[]⟩ 0 0) 148)=y2 at *
  generalize x2.heap.size=g at *
  refine aS Aab (λz2 hz2=>?_)
  have lD:=Hq (aj Ih hz2)
  have eY:=Hq (Ge.trans wm hz2)
  clear hz2 Ih wm
  have Ec:=ay lD
  obtain⟨g0,g1,g2,g3⟩:=iI lD
  have f0:=aC lD 0
  have f1:=aC lD 1
  have f2:=aC lD 2
  have f3:=aC lD 3
  refine aI 9 rfl Aab Aad ?_
  go_simp
  refine wpAny_done Aab ?_
  go_simp
  go_upto_region 4 with fail
  refine wp_at (λW hW=>?_)
  have Vt:Hid (W.heap[g]?=some (.cells (gY no k nn 0) 148 (0,0))):=Abt
  have iQ:Hid (aH z W):=Abu
  clear hW lD eY Ec g0 g1 g2 g3 f0 f1 f2 f3
 case' c2=>
  go_simp
  refine⟨au x _,?_⟩
  have hgl:z.heap.size<=x.heap.size:=hx.size
  have Ih:=Hq (aEP x (.cells (gY 0 ⟨#[]⟩ 0 0) 148))
  have wm:=Hq (Ge.trans hx (au x (.cells (gY 0 ⟨#[]⟩ 0 0) 148)))
  clear hx
  generalize x.alloc (.cells (gY 0 ⟨#[]⟩ 0 0) 148)=y2 at *
  generalize x.heap.size=g at *
  refine dP 4 rfl Aab Aad (λx2 hx2=>?_)
  go_simp
  refine(clone k x2 Aaa).mono ?_
  rintro e y3 ⟨rfl,hby⟩
  refine⟨hby,?_⟩
  have HGC:=Hq (aj Ih (Ge.trans hx2 hby))
  have HBC:=Hq (Ge.trans wm (Ge.trans hx2 hby))
  clear hx2 hby Ih wm
  refine tk [7] ?_
  (refine lW (λK hK=>?_);go_simp;refine hK _ ?_;clear hK K)
  refine jh ?_
  refine aS Aab (λz2 hz2=>?_)
  have lD:=Hq (aj HGC hz2)
  have eY:=Hq (Ge.trans HBC hz2)
  clear hz2 HGC HBC
  have Ec:=ay lD
  obtain⟨g0,g1,g2,g3⟩:=iI lD
  have f0:=aC lD 0
  have f1:=aC lD 1
  have f2:=aC lD 2
  have f3:=aC lD 3
  refine aI 9 rfl Aab Aad ?_
  go_simp
  refine wpAny_done Aab ?_
  go_simp
  go_upto_region 4 with fail
  refine wp_at (λW hW=>?_)
  have Vt:Hid (W.heap[g]?=some (.cells (gY no k nn 0) 148 (0,0))):=Abt
  have iQ:Hid (aH z W):=Abu
  clear hW lD eY Ec g0 g1 g2 g3 f0 f1 f2 f3
 all_goals
  have HWW:=Hq (HZ.step iQ)
  have Ik:=Hq (aj SG iQ)
  clear HZ SG iQ
  obtain⟨⟨p0,p1,p2,p3,p4,p5,p6,p7,p8,p9,pz⟩,_⟩:=aK Ik
  have hpw:=ay Ik
  go_wp2_with fail
  refine(yc W HWW).mono ?_
  rintro e w1 ⟨rfl,hb1⟩
  have HW2:=Hq (HWW.step hb1)
  have HG2:=Hq (aj Vt hb1)
  clear hb1 yc p0 p1 p2 p3 p4 p5 p6 p7 p8 p9 pz HWW Ik Vt
  go_upto_region 5 with fail
  refine wp_at (λV hV=>?_)
  obtain rfl:=hV
  obtain⟨g6,hAr,aDZ,aDU,⟨q0,q1,q2,q3⟩,_⟩:=HW2.reqRow i hil
  obtain⟨d0,d1,d2,d3,d4,d5,d6,d7,d8,d9⟩:=jT HW2.blk
  rw [hAr] at d8
  obtain⟨s0,s1,s2,s3⟩:=iI HG2
  have hw2:=ay HW2.blk
  have hg2:=ay HG2
  have aCq:(i:Int) < (n.reqs.length:Int):=Aaa
  generalize n.reqs[i]=lm at *
  obtain⟨ln,lk,lx,ls⟩:=lm
  dsimp only at q0 q1 q2 q3 ae9 HSQ
  subst ae9
  have heq:=aB0 ln lk k lx nn ls 0
  have hB:=ah HSQ
  generalize (lk.toList == k.toList&&decide (lx=nn)&&decide (ls=0))=B at *
  subst hB
  have y8:=aEQ d8
  have x0:=aEQ q0
  have x1:=aEQ q1
  have x2:=aEQ q2
  have x3:=aEQ q3
  have v0:=aEQ s0
  have v1:=aEQ s1
  have v2:=aEQ s2
  have v3:=aEQ s3
  clear d0 d1 d2 d3 d4 d5 d6 d7 d8 d9 q0 q1 q2 q3 s0 s1 s2 s3
  refine bZ Aab ?_
  show iZ _ _ _ _ 13 (Array.replicate 13 false) _ _
  refine tk [0,1,2,3,4,5,6,7,8,9,10,11,12] ?_
  iterate 13 (refine lW (λK hK=>?_);go_simp;refine hK _ ?_;clear hK K)
  refine jh ?_
  refine dW Aab (λV hV=>?_)
  have HW3:=Hq (HW2.step hV)
  clear hV HW2 HG2 y8 x0 x1 x2 x3 v0 v1 v2 v3 heq
  go_simp
  cases SQ
  all_goals
   go_wp2_with fail
   go_ret
   rw [ah HAD]
   exact⟨rfl,A,G,c,HW3⟩):P:=h
theorem ap5.AdQ(h:P:=by
 refine zD 4 8 rfl rfl Aab Aad Aad (λx hx=>?c1) (λx hx=>?c2)
 case' c1=>
  go_simp
  refine(clone k x Aaa).mono ?_
  rintro e y ⟨rfl,hby⟩
  refine⟨hby,?_⟩
  have HY:=Hq (Ge.trans hx hby)
  clear hx hby
  refine tk [7] ?_
  (refine lW (λK hK=>?_);go_simp;refine hK _ ?_;clear hK K)
  refine jh ?_
  refine dP 8 rfl Aab Aad (λx2 hx2=>?_)
  go_simp
  refine⟨au x2 _,?_⟩
  have hgl:z.heap.size<=x2.heap.size:=(Ge.trans HY hx2).size
  have Ih:=Hq (aEP x2 (.cells (gY 0 ⟨#[]⟩ 0 0) 148))
  have wm:=Hq (Ge.trans (Ge.trans HY hx2) (au x2 (.cells (gY 0 ⟨#[]⟩ 0 0) 148)))
  clear hx2 HY
  generalize x2.alloc (.cells (gY 0 ⟨#[]⟩ 0 0) 148)=y2 at *
  generalize x2.heap.size=g at *
  refine aS Aab (λz2 hz2=>?_)
  have lD:=Hq (aj Ih hz2)
  have eY:=Hq (Ge.trans wm hz2)
  clear hz2 Ih wm
  have Ec:=ay lD
  obtain⟨g0,g1,g2,g3⟩:=iI lD
  have f0:=aC lD 0
  have f1:=aC lD 1
  have f2:=aC lD 2
  have f3:=aC lD 3
  refine aI 9 rfl Aab Aad ?_
  go_simp
  refine wpAny_done Aab ?_
  go_simp
  go_upto_region 4 with fail
  refine wp_at (λW hW=>?_)
  have Vt:Hid (W.heap[g]?=some (.cells (gY no k nn 0) 148 (0,0))):=Abt
  have iQ:Hid (aH z W):=Abu
  clear hW lD eY Ec g0 g1 g2 g3 f0 f1 f2 f3
 case' c2=>
  go_simp
  refine⟨au x _,?_⟩
  have hgl:z.heap.size<=x.heap.size:=hx.size
  have Ih:=Hq (aEP x (.cells (gY 0 ⟨#[]⟩ 0 0) 148))
  have wm:=Hq (Ge.trans hx (au x (.cells (gY 0 ⟨#[]⟩ 0 0) 148)))
  clear hx
  generalize x.alloc (.cells (gY 0 ⟨#[]⟩ 0 0) 148)=y2 at *
  generalize x.heap.size=g at *
  refine dP 4 rfl Aab Aad (λx2 hx2=>?_)
  go_simp
  refine(clone k x2 Aaa).mono ?_
  rintro e y3 ⟨rfl,hby⟩
  refine⟨hby,?_⟩
  have HGC:=Hq (aj Ih (Ge.trans hx2 hby))
  have HBC:=Hq (Ge.trans wm (Ge.trans hx2 hby))
  clear hx2 hby Ih wm
  refine tk [7] ?_
  (refine lW (λK hK=>?_);go_simp;refine hK _ ?_;clear hK K)
  refine jh ?_
  refine aS Aab (λz2 hz2=>?_)
  have lD:=Hq (aj HGC hz2)
  have eY:=Hq (Ge.trans HBC hz2)
  clear hz2 HGC HBC
  have Ec:=ay lD
  obtain⟨g0,g1,g2,g3⟩:=iI lD
  have f0:=aC lD 0
  have f1:=aC lD 1
  have f2:=aC lD 2
  have f3:=aC lD 3
  refine aI 9 rfl Aab Aad ?_
  go_simp
  refine wpAny_done Aab ?_
  go_simp
  go_upto_region 4 with fail
  refine wp_at (λW hW=>?_)
  have Vt:Hid (W.heap[g]?=some (.cells (gY no k nn 0) 148 (0,0))):=Abt
  have iQ:Hid (aH z W):=Abu
  clear hW lD eY Ec g0 g1 g2 g3 f0 f1 f2 f3
 all_goals
  have HWW:=Hq ((HZ.recol (c':=newC z.heap.size 9 c) (λx hx=>fE hx)).step iQ)
  have hcg:newC z.heap.size 9 c g=9:=aY hgl
  have Ik:=Hq (aj SG iQ)
  have hgw:=ay Vt
  have aCo:g≠wb:=by have:=ay HZ.blk;omega
  clear HZ SG iQ
  obtain⟨⟨p0,p1,p2,p3,p4,p5,p6,p7,p8,p9,pz⟩,_⟩:=aK Ik
  have hpw:=ay Ik
  go_wp2_with fail
  refine(yc W _ HWW).mono ?_
  rintro e w1 ⟨rfl,hb1⟩
  have HW2:=Hq (HWW.step hb1)
  have rF:=Hq (aj Ik hb1)
  have HG2:=Hq (aj Vt hb1)
  clear hb1 yc p0 p1 p2 p3 p4 p5 p6 p7 p8 p9 pz HWW Ik Vt hgw
  go_upto_region 5 with fail
  refine wp_at (λV hV=>?_)
  obtain rfl:=hV
  refine bZ Aab ?_
  show iZ _ _ _ _ 13 (Array.replicate 13 false) _ _
  refine tk [0,1,2,3,4,5,6,7,8,9,10,11,12] ?_
  iterate 13 (refine lW (λK hK=>?_);go_simp;refine hK _ ?_;clear hK K)
  refine jh ?_
  refine dW Aab (λV hV=>?_)
  have HW3:=Hq (HW2.step hV)
  have SE:=Hq (aj rF hV)
  have Ir:=Hq (aj HG2 hV)
  clear hV HW2 rF HG2
  obtain⟨c0,c1,c2,c3,c4,c5,c6,c7,c8,c9⟩:=jT HW3.blk
  obtain⟨⟨p0,p1,p2,p3,p4,p5,p6,p7,p8,p9,pz⟩,_⟩:=aK SE
  have hw3:=ay HW3.blk
  have hp3:=ay SE
  go_simp
  go_upto_region 10 with fail
  have y4:=aEQ c4
  have z2:=aEQ p2
  have z3:=aEQ p3
  clear c0 c1 c2 c3 c4 c5 c6 c7 c8 c9 p0 p1 p2 p3 p4 p5 p6 p7 p8 p9 pz
  refine bC 13 Aab ?_
  show fV _ _ _ _ _ 15 (Array.replicate 15 false) _ _
  refine tk [0,1,2,3,4,5,6,7,8,9] ?_
  iterate 10 (refine lW (λK hK=>?_);go_simp;refine hK _ ?_;clear hK K)
  refine jh ?_
  clear y4 z2 z3
  refine dP 10 rfl Aab Aad (λx hx=>?_)
  go_simp
  have HX:=Hq (HW3.step hx)
  refine(Sg x _ HX).mono ?_
  rintro e y ⟨a,cp,g5,hg5,rfl,hp,hby⟩
  refine⟨hby,?_⟩
  have hgx:g < x.heap.size:=aEZ (ay Ir) hx.size
  have HGX:=Hq (aj Ir (Ge.trans hx hby))
  have HST:=Hq (λu (hu:Ge y u)=>Xi (cp:=cp) HX (hby.trans (hu.mono hby.size)) hg5 (hp.below hu))
  clear hby hg5 hp Sg hx Ir SE
  refine tk [11,12] ?_
  iterate 2 (refine lW (λK hK=>?_);go_simp;refine hK _ ?_;clear hK K)
  refine jh ?_
  refine aS Aab (λu hu=>?_)
  refine aI 13 rfl Aab Aad ?_
  go_simp
  refine(HST u hu).mono ?_
  rintro e z9 ⟨rfl,A',G',c',hZ9,WG,Md⟩
  have hc9:c' g=9:=(Md g hgx).trans hcg
  have HZ9:=Hq hZ9
  have HG9:=Hq (WG g _ aCo (aj HGX hu))
  clear hZ9 HST hu WG HGX HX HW3 Md hcg hgx
  obtain⟨rl,rb⟩:=r
  dsimp only at HZ9 HAD HRL ⊢
  refine aI 14 rfl Aab Aad ?_
  go_simp
  refine wpAny_done Aab ?_
  go_simp
  have h9l:=ay HG9
  obtain⟨s0,s1,s2,s3⟩:=iI HG9
  have sf3:=aC HG9 3
  cases rb
  .rw [aE2 Aac] at HZ9;have hrl:=ah HRL rfl;subst hrl;rw [aE2 Aac] at HAD;have amC:=Hq (HZ9.kc (k:=9) (KC.set (i:=3) (v:= .int .i64 1) hc9) Aaa);have alW:=Hq (azN (u:= .int .i64 1) HG9);clear HZ9;go_upto_region 12 with fail;refine wp_at (λY hY=>?_);have aAr:Hid (WK w0 Y wb n A' G' c' v L):=by rw [hY];exact amC
   have alX:Hid (Y.heap[g]?=some (.cells (gY no k nn 1) 148 (0,0))):=by rw [hY];exact alW
   clear hY amC alW HG9 s0 s1 s2 s3 sf3 h9l;have h9l:=ay alX;obtain⟨s0,s1,s2,s3⟩:=iI alX;have HKP:=Hq (adS w0 Y wb n A' G' c' v L ⟨no,k,nn,1⟩ i hil hlen aAr);rw [ah HKN] at HKP;exact ahK
  .rw [aFc rfl] at HZ9;rw [aFc rfl] at HAD;have HKP:=Hq (adS w0 z9 wb (setPu n rl) A' G' c' v L ⟨no,k,nn,0⟩ i hil hlen HZ9);have hki:Dq (setPu n rl) ⟨no,k,nn,0⟩ i=rW (setPu n rl) ⟨no,k,nn,0⟩:=ah HKI rl 0;rw [hki] at HKP;clear hki;exact ahK):P:=h
theorem aw7(h:P:=by
 have HF:=Hq hf;have ajC:=Hq (WH mp mb n0 _ G ⟨pk,qm,qf,qs⟩ w6 hkey hn0 Iq.blk Iq.map);have HP6:=Hq Iq;obtain⟨⟨p0,p1,p2,p3⟩,_⟩:=fZ akS;clear hf Iq akS;go_wp2_with fail;refine ajC.mono ?_;rintro e w7 ⟨rfl,hm7,hk7⟩;have HP7:=Hq (HP6.turned hk7 hm7);have Ie:=Hq (yB.trans (Dr hk7 HP6.lom (aEU hB yB.size)));clear hm7 hk7 p0 p1 p2 p3;go_wp2_with fail;go_ret;exact Aeg):P:=h
theorem ap6.Aeg(h:P:=by
 exact⟨Ie,.inr ⟨.inr h20,rfl,_,HP7⟩⟩):P:=h
theorem ap7.Aeg(h:P:=by
 exact⟨Ie,.inr ⟨.inl HF,rfl,_,HP7⟩⟩):P:=h
theorem Tf(h:P:=by
 obtain⟨k,hk,rfl,hB,hbel⟩:=hrel;have HB:=Hq hB;have aZ:=Hq hbel;clear hB hbel hmk;exact AaT):P:=h
theorem ap8.AaT(h:P:=by
 by_cases hlt:k < l.length
 .obtain⟨g,off,rfl,hgw,q0,q1,q2,q3⟩:=aG.four (GR.At.below HA aZ) k hlt;have TS:=Hq (Dz l ⟨ByteArray.empty,0,0,0⟩ k hlt);generalize l[k]=pu at *;obtain⟨pk,pm,pf,ps⟩:=pu;dsimp only at q0 q1 q2 q3;have hln:(l.take k++List.replicate (l.length - k) (⟨ByteArray.empty,0,0,0⟩:Pu)).length=l.length:=Aah
  go_wp2_with fail;refine(afR ⟨pk,pm,pf,ps⟩ _).mono ?_;rintro e w5 ⟨rfl,hb5⟩;have gX:=Hq (LJ HB hb5);have fO:=Hq (aZ.trans (hb5.mono aZ.size));clear hb5 q0 q1 q2 q3;exact axX
 .exact Ti):P:=h
theorem ap9.AaT(h:P:=by
 by_cases hlt:k < l.length
 .obtain⟨g,off,rfl,hgw,q0⟩:=bH.one (GR.At.below HA aZ) k hlt;have TS:=Hq (ZL l 0 k hlt);generalize l[k]=pu at *;have hln:(l.take k++List.replicate (l.length - k) (0:Int)).length=l.length:=Aah
  have s0:=mJ.one HB k Aaa;have f0:=GR.Blk.free HB k;go_wp2_with fail;first|go_region|skip
  go_roundw
  case rel=>
   have h:=GR.Blk.set HB aX k Aaa pu;rw [ah TS] at h;have h2:=GR.setW_below (o:=k*1) (aER w.heap.size) (bg pu) aZ;rw [Nat.mul_one] at h h2;exact⟨k+1,Aaa,Aaf,h,h2⟩
  case measure=>simp[intOf];omega
 .exact Ti):P:=h
theorem aqa.AaT(h:P:=by
 by_cases hlt:k < l.length
 .obtain⟨g,off,rfl,hgw,q0,q1,q2,q3⟩:=SentAt.four (GR.At.below HA aZ) k hlt;have TS:=Hq (NK l ⟨0,0,ByteArray.empty,0⟩ k hlt);generalize l[k]=pu at *;obtain⟨pi,pt,pk,pn⟩:=pu;dsimp only at q0 q1 q2 q3;have hln:(l.take k++List.replicate (l.length - k) (⟨0,0,ByteArray.empty,0⟩:jI)).length=l.length:=Aah
  go_wp2_with fail;refine(alr ⟨pi,pt,pk,pn⟩ _).mono ?_;rintro e w5 ⟨rfl,hb5⟩;have gX:=Hq (mE.step HB hb5);have fO:=Hq (aZ.trans (hb5.mono aZ.size));clear hb5 q0 q1 q2 q3;obtain⟨s0,s1,s2,s3⟩:=mE.four gX k Aaa;open atz in exact aaH
 .exact Ti):P:=h
theorem aqb.AaT(h:P:=by
 by_cases hlt:k < l.length
 .obtain⟨g,off,rfl,hgw,q0,q1,q2,q3⟩:=gB.four (GR.At.below HA aZ) k hlt;have TS:=Hq (Ry l ⟨0,ByteArray.empty,0,0⟩ k hlt);generalize l[k]=pu at *;obtain⟨pno,pk,pn,ps⟩:=pu;dsimp only at q0 q1 q2 q3;have hln:(l.take k++List.replicate (l.length - k) (⟨0,ByteArray.empty,0,0⟩:Rq)).length=l.length:=Aah
  go_wp2_with fail;refine(azR ⟨pno,pk,pn,ps⟩ _).mono ?_;rintro e w5 ⟨rfl,hb5⟩;have gX:=Hq (qJ.step HB hb5);have fO:=Hq (aZ.trans (hb5.mono aZ.size));clear hb5 q0 q1 q2 q3;obtain⟨s0,s1,s2,s3⟩:=qJ.four gX k Aaa;open aty in exact aaH
 .exact Ti):P:=h
theorem aqc.AaT(h:P:=by
 by_cases hlt:k < l.length
 .obtain⟨g,off,rfl,hgw,q0,q1,q2,q3,q4,q5,q6,q7,q8,q9,q10,q11⟩:=mD (GR.At.below HA aZ) k hlt;have TS:=Hq (Ld l ⟨⟨0,0,ByteArray.empty,0,⟨0,0,0,0,0,ByteArray.empty,0⟩⟩,0⟩ k hlt);generalize l[k]=pu at *;have Og:=Hq (λw1=>adF pu w1);obtain⟨⟨oK,Qx,ok,on,⟨mK,mF,mT,mI,mL,mk,mN⟩⟩,ac⟩:=pu;dsimp only at q0 q1 q2 q3 q4 q5 q6 q7 q8 q9 q10 q11;have hln:(l.take k++List.replicate (l.length - k) (⟨⟨0,0,ByteArray.empty,0,⟨0,0,0,0,0,ByteArray.empty,0⟩⟩,0⟩:An)).length=l.length:=Aah
  open av5 in exact ahn
 .exact Ti):P:=h
theorem aqd.AaT(h:P:=by
 by_cases hlt:k < l.length
 .obtain⟨g,off,rfl,hgw,q0,q1,q2,q3,q4,q5,q6⟩:=rT (GR.At.below HA aZ) k hlt;have TS:=Hq (Ld l ⟨0,0,0,0,0,ByteArray.empty,0⟩ k hlt);generalize l[k]=pu at *;have Og:=Hq (λw1=>aji pu w1);obtain⟨mK,mF,mT,mI,mL,mk,mN⟩:=pu;dsimp only at q0 q1 q2 q3 q4 q5 q6;have hln:(l.take k++List.replicate (l.length - k) (⟨0,0,0,0,0,ByteArray.empty,0⟩:Mg)).length=l.length:=Aah
  open av4 in exact ahn
 .exact Ti):P:=h
theorem aqe.AaT(h:P:=by
 by_cases hlt:k < l.length
 .obtain⟨g,cap',ev,hgl,hgw⟩:=HR.form Aaa;have ea:a=some ⟨g,0,none⟩:=by injection ev
  subst ea;have c0:∀(_:k < l.length),Hid True:=λ_=>trivial
  clear c0 ev;have hcl:_:=aZ.cell (p:=⟨g,k,none⟩) hgw;have hce:=HR.cellAt k Aaa;have hck:w.cell? ⟨g,k,none⟩=some (.string l[k].k):=by rw [hce];simp[hlt]
  rw [hck] at hcl;clear hce hck;have TS:=Hq (Dz l ⟨ByteArray.empty,0,0,0⟩ k hlt);have hkk:=ah Sy l[k] (aE8 hlt);have hgk:=ah HG l[k] (aE8 hlt);have akA:=HH.below aZ;generalize l[k]=pu at *;have Ow:=Hq (Mt mp mb n _ G pu.k wr hkk akA.blk akA.map);rw [hgk] at Ow;have nH:=Hq (λw1=>FW pu w1 hkk);clear hkk hgk akA;obtain⟨pk,pm,pf,ps⟩:=pu;dsimp only at hcl;have hln:(l.take k++List.replicate (l.length - k) (⟨ByteArray.empty,0,0,0⟩:Pu)).length=l.length:=Aah
  go_wp2_with fail;refine Ow.mono ?_;rintro e w4 ⟨rfl,hb4⟩;have nC:=Hq (LJ HB hb4);have EJ:=Hq (aZ.trans (hb4.mono aZ.size));clear hb4 Ow;go_wp2_with fail;refine(nH _).mono ?_;rintro e w5 ⟨rfl,hb5⟩;have gX:=Hq (LJ nC hb5);have fO:=Hq (EJ.trans (hb5.mono EJ.size));clear hb5;exact axX
 .exact Ti):P:=h
theorem aaZ(h:P:=by
 go_wp2_with fail;refine H.mono ?_;rintro e w1 ⟨v,rfl,hv,hown,hb⟩;have HV:=Hq hv;have HO:=Hq hown;have HB:=Hq hb;clear hown hb hv;go_wp2_with fail;exact Aa3):P:=h
theorem aqf.Aa3(h:P:=by
 exact aEY (v:= .tuple #[v,.bool r.2]) (by simp[results,results156,go_sem]) rfl ⟨v,rfl,HV,HO,HB⟩):P:=h
theorem aqg.Aa3(h:P:=by
 exact aEY (v:= .tuple #[v,.bool r.2]) (by simp[results,results155,go_sem]) rfl ⟨v,rfl,HV,HO,HB⟩):P:=h
theorem aqh.Aa3(h:P:=by
 exact aEY (v:= .tuple #[v,.bool r.2]) (by simp[results,results160,go_sem]) rfl ⟨v,rfl,HV,HO,HB⟩):P:=h
theorem aqi.Aa3(h:P:=by
 exact aEY (v:= .tuple #[v,.bool r.2]) (by simp[results,results186,go_sem]) rfl ⟨v,rfl,HV,HO,HB⟩):P:=h
theorem aqj.Aa3(h:P:=by
 exact aEY (v:= .tuple #[v,.bool r.2]) (by simp[results,results127,go_sem]) rfl ⟨v,rfl,HV,HO,HB⟩):P:=h
theorem IK(h:P:=by
 clear hr;go_in
 go_upto_region 11 with fail;refine wp_at (λV hV=>?_);exact AaO):P:=h
theorem aqk.AaO(h:P:=by
 have hblk:V.heap[w.heap.size]?=some (.cells (bX 2 F T I 0 ByteArray.empty 0) 70 (0,0)):=by rw [hV,aE4 _ _ _ Aac];exact aEP w _
 open aAy in exact Yk2):P:=h
theorem aql.AaO(h:P:=by
 have hblk:V.heap[w.heap.size]?=some (.cells (bX 2 F T I 0 ByteArray.empty N) 70 (0,0)):=by rw [hV,aE4 _ _ _ Aac];exact aEP w _
 open aAz in exact Yk2):P:=h
theorem aqm.AaO(h:P:=by
 have hblk:V.heap[w.heap.size]?=some (.cells (bX 2 F T I L k N) 70 (0,0)):=by rw [hV,aE4 _ _ _ Aac];exact aEP w _
 open aAB in exact Yk2):P:=h
theorem aqn.AaO(h:P:=by
 have hblk:V.heap[w.heap.size]?=some (.cells (bX 2 F T I L k N) 70 (0,0)):=by rw [hV,aE4 _ _ _ Aac];exact aEP w _
 open aoA in exact XP):P:=h
theorem aqo.AaO(h:P:=by
 have hblk:V.heap[w.heap.size]?=some (.cells (bX 1 F T I L k N) 70 (0,0)):=by rw [hV,aE4 _ _ _ Aac];exact aEP w _
 open aoB in exact XP):P:=h
theorem aqp.AaO(h:P:=by
 have hblk:V.heap[w.heap.size]?=some (.cells (bX 1 F T I L k N) 70 (0,0)):=by rw [hV,aE4 _ _ _ Aac];exact aEP w _
 open aoC in exact XP):P:=h
theorem aqr.AaO(h:P:=by
 have hblk:V.heap[w.heap.size]?=some (.cells (bX 0 F T 0 0 k N) 70 (0,0)):=by rw [hV,aE4 _ _ _ Aac];exact aEP w _
 open aAN in exact Yk7):P:=h
theorem aqs.AaO(h:P:=by
 have hblk:V.heap[w.heap.size]?=some (.cells (bX 0 F T 0 L k N) 70 (0,0)):=by rw [hV,aE4 _ _ _ Aac];exact aEP w _
 open aAO in exact Yk7):P:=h
theorem aqt.AaO(h:P:=by
 have hblk:V.heap[w.heap.size]?=some (.cells (bX 0 F T I L k N) 70 (0,0)):=by rw [hV,aE4 _ _ _ Aac];exact aEP w _
 open aAP in exact Yk7):P:=h
theorem aqu.AaO(h:P:=by
 have hblk:V.heap[w.heap.size]?=some (.cells (bX 0 F T I L k N) 70 (0,0)):=by rw [hV,aE4 _ _ _ Aac];exact aEP w _
 open aoD in exact XP):P:=h
theorem aw8(h:P:=by
 obtain⟨i,hi,hcmp⟩:=Option.map_eq_some_iff.1 Is.comp;obtain⟨j,hj,hjs⟩:=Option.map_eq_some_iff.1 Is.size;have h8:= @aFH prog 300 _ Extern.ReflectliteType.typeOf func300 Aab Aab Aab Aab;have h32:= @aFH prog 351 _ Is.cmp func351 Aab Aab Aab Aab;have tT:=Is.typeOf;have cT:=Is.comparable;have mR:=Is.methodComparable;exact Ac4):P:=h
theorem aqv.Ac4(h:P:=by
 have nE:=Is.noIs;have uE:=Is.noUnwrap;have vE:=Is.noUnwraps;have heq:=run_eql_iface_ptr_other (P:=prog) w underlying247 underlying374 hi hcmp hj (by rw [hjs];decide) hne ha hb;exact aix):P:=h
theorem aqw.Ac4(h:P:=by
 have heq:=run_eql_iface_ptr_same (P:=prog) w a underlying247 underlying374 hi hcmp hj;exact aix):P:=h
theorem aj0(h:P:=by
 refine DR 0 rfl Aab Aab Aab (λ_ _ _ _ h=>h) (λK hK=>?_);go_simp
 first
  |(refine hK _ ?_;clear hK K)
  |(apply Exists.intro
    refine⟨λ_=>rfl,hK _ ?_⟩
    clear hK K)
 exact Ab9):P:=h
theorem aqx.Ab9(h:P:=by
 refine sG 7 ?_;refine tk [1,2,3,4,5] ?_;open avC in exact JY):P:=h
theorem aqy.Ab9(h:P:=by
 refine sG 9 ?_;refine tk [1,2,3,4,5,6,7] ?_;iterate 7 (refine lW (λK hK=>?_);go_simp;refine hK _ ?_;clear hK K)
 refine jh ?_;clear y8 z0 z1 z2 z3;refine dP 8 rfl Aab Aad (λx hx=>?_);go_simp;refine⟨au x _,?_⟩;have HX:=Hq ((HW1.step hx).step (au x (.cells (gY q.no q.k q.n q.s) 148)));have HN:=Hq (aEP x (.cells (gY q.no q.k q.n q.s) 148));have HRL:=Hq (show∀y,(Value.slice A.r n.reqs.length A.cr).ownBlock=some y->x.heap.size≠y from λy hy=>by have:=((HW1.step hx).no.r.lt y hy).2;omega);clear hx HW HW1 wH;generalize x.alloc (.cells (gY q.no q.k q.n q.s) 148)=x1 at *;refine aS Aab (λu hu=>?_);have HU:=Hq (HX.step hu);have HNU:=Hq (aj HN hu);clear hu HX HN;refine aI 9 rfl Aab Aad ?_;go_simp;refine(ak3 w0.heap.size A.r A.cr i n.reqs q x.heap.size u Aaa hi HU.keep.size HU.no.r HNU HRL).mono ?_;rintro e w6 ⟨a6,c6,rfl,hown6,rP,PU⟩;obtain⟨hb6,IW⟩:=HU.reqPut hown6 rP PU;have VK:=Hq IW;obtain⟨k0,k1,k2,k3,k4,k5,k6,k7,k8,k9⟩:=jT hb6;have kf:=aC hb6 8;have hw6:=ay hb6;clear hown6 rP PU hb6 IW HU HNU HRL;rw [hlen] at VK ⊢;refine aI 10 rfl Aab Aad ?_;go_simp;refine aI 11 rfl Aab Aad ?_;go_simp;refine aI 12 rfl Aab Aad ?_;go_simp;refine aI 13 rfl Aab Aad ?_;go_simp;refine wpAny_done Aab ?_;go_simp;go_upto_region 2 with fail;refine wp_at (λV hV=>?_);have HV:Hid (WK w0 V wb (eT n (qP n.reqs i q)) ⟨A.k,A.p,A.o,A.s,a6,A.ck,A.cp,A.co,A.cs,c6⟩ G (newC u.heap.size 6 c) v L):=by rw [hV];exact VK
 clear hV VK k0 k1 k2 k3 k4 k5 k6 k7 k8 k9 kf hw6;have hl2:(eT n (qP n.reqs i q)).reqs.length=n.reqs.length+1:=hlen;obtain⟨d0,d1,d2,d3,d4,d5,d6,d7,d8,d9⟩:=jT HV.blk;rw [hl2] at d8;have hVl:=ay HV.blk;by_cases ai8:30 < n.reqs.length+1
 case' neg=>
  have hm2:¬((30:Int) < (n.reqs.length:Int)+1):=Aaa
  have HK:=Hq (show Dq n q i=eT n (qP n.reqs i q) by unfold Dq;rw [hlen,aE2 ai8]);go_wp2_with fail;exact aGJ (v:= .tuple #[]) (by simp[results,results218,go_sem]) rfl ⟨rfl,_,_,_,by rw [ah HK];exact HV⟩
 have hm2:(30:Int) < (n.reqs.length:Int)+1:=Aaa
 obtain⟨g,hAr,hgw,hgl,⟨q0,_,_,_⟩,_⟩:=HV.reqRow 0 Aaa;dsimp only at hAr;subst hAr;have hz8:(0:Int) < (n.reqs.length:Int)+1:=Aaa
 have HK:=Hq (show Dq n q i=eT (pV n (eT n (qP n.reqs i q)).reqs[0].no) ((qP n.reqs i q).drop 1) by
  unfold Dq
  rw [hlen,aFc ai8]
  congr 2
  show((qP n.reqs i q).headD default).no=(qP n.reqs i q)[0].no
  rw [List.headD_eq_head?_getD,List.head?_eq_getElem?,aEV Aaa]
  rfl)
 generalize (eT n (qP n.reqs i q)).reqs[0].no=old at *;rw [Nat.zero_mul] at q0;have vf7:=aC HV.blk 7;have vf8:=aC HV.blk 8;have HO:=Hq (HV.oldPut old);go_upto_region 4 with fail;refine wp_at (λV2 hV2=>?_);have HV2:Hid (WK w0 V2 wb (pV (eT n (qP n.reqs i q)) old) ⟨A.k,A.p,A.o,A.s,some ⟨g,0,none⟩,A.ck,A.cp,A.co,A.cs,c6⟩ G (newC u.heap.size 6 c) v L):=by rw [hV2];exact HO
 clear hV2 HO HV d0 d1 d2 d3 d4 d5 d6 d7 d8 d9 q0 vf7 vf8 hVl;have hl3:(pV (eT n (qP n.reqs i q)) old).reqs.length=n.reqs.length+1:=hlen;obtain⟨d0,d1,d2,d3,d4,d5,d6,d7,d8,d9⟩:=jT HV2.blk;rw [hl3] at d8;have hVl:=ay HV2.blk;have HD:=Hq (akq w0.heap.size (some ⟨g,0,none⟩) c6 (qP n.reqs i q) V2 Aaa Aaa HV2.no.r);rw [hlen] at HD;go_wp2_with fail;refine HD.mono ?_;rintro e w7 ⟨a7,c7,rfl,Kh,ayK,azd⟩;obtain⟨wB,Oi⟩:=HV2.reqPut Kh (by rw [hl3];exact ayK) (by rw [hl3];exact azd);have hl7:((qP n.reqs i q).drop 1).length=n.reqs.length:=by rw [aFA,hlen];omega
 rw [hl7] at Oi;have HW7:=Hq Oi;obtain⟨k0,k1,k2,k3,k4,k5,k6,k7,k8,k9⟩:=jT wB;have kf:=aC wB 8;have hw7:=ay wB;clear Kh ayK azd wB Oi HV2 HD d0 d1 d2 d3 d4 d5 d6 d7 d8 d9;go_wp2_with fail;exact aGJ (v:= .tuple #[]) (by simp[results,results218,go_sem]) rfl ⟨rfl,_,_,_,by rw [ah HK];exact HW7⟩):P:=h
theorem aqz.Ab9(h:P:=by
 refine sG 8 ?_;refine tk [1,2,3,4,5] ?_;open avB in exact JY):P:=h
theorem aw9(h:P:=by
 clear hm hM;go_in
 go_wp2_with fail;refine(HN _).mono ?_;rintro e w1 ⟨rfl,hb1⟩;rw [hno];obtain⟨hA,hz,hbel⟩:=Fo.one_block hb1;obtain⟨⟨p0,p1,p2,p3⟩,_⟩:=fZ hA;have hm1:w1.heap[mp]?=some (.cells #[v,.map (some mb)] 356 (0,0)):=by rw [hbel.block _ hmp];exact HM
 obtain⟨⟨m0,m1⟩,_⟩:=mW hm1;have hI1:iL w1.drew mb n G:=HI.kept (by rw [<-hbel.block _ hmb];rfl);exact Adv):P:=h
theorem aqA.Adv(h:P:=by
 obtain⟨w2,hrun,hI2,hK2⟩:=ah HST _ 0 hI1;have HI2:=Hq (hI2.mono (Nat.le_succ n));have oq:=Hq ((Keeps.of_below (g:=mb) hbel).trans (Keeps.trans (b:=w1.drew) (Keeps.of_below (aE3 _ _).drew) hK2));clear hb1 hA hbel hm1 hI1 hI2 hK2 HST HN;go_wp2_with fail;go_region
 all_goals
  go_wp2_with fail
  exact aEY (v:= .tuple #[]) (by simp[results,results303,go_sem]) rfl ⟨rfl,HI2,oq⟩):P:=h
theorem aqB.Adv(h:P:=by
 obtain⟨w2,hrun,hI2,hK2⟩:=ah HST _ hI1;have HI2:=Hq hI2;have oq:=Hq ((Keeps.of_below (g:=mb) hbel).trans (Keeps.trans (b:=w1.drew) (Keeps.of_below (aE3 _ _).drew) hK2));clear hb1 hA hbel hm1 hI1 hI2 hK2 HST HN;go_wp2_with fail;go_region
 all_goals
  go_wp2_with fail
  exact aGJ (v:= .tuple #[]) (by simp[results,results303,go_sem]) rfl ⟨rfl,HI2,oq⟩):P:=h
theorem axa(h:P:=by
 go_simp;refine(aej A2 x5 (HS.step HG).nl.at).mono ?_;rintro e y5 ⟨A3,ma,mc,rfl,hat,hmt,hb5⟩;refine⟨hb5.mono HG.size,?_⟩;have hxs:=HG.size;have HNL:=Hq (show NL x5.heap.size y5 A3 m' from λF W'' hk hF=>(hat W'' ⟨F,hk,hF⟩).at);have HG2:=Hq (Ge.trans HG hb5);exact AdY):P:=h
theorem aqC.AdY(h:P:=by
 have HQ2:=Hq (aj HQ hb5);have hqd:qf < x5.heap.size\/y5.heap.size<=qf:= .inl (ay HQ);open atT in exact agO):P:=h
theorem aqD.AdY(h:P:=by
 open atS in exact agO):P:=h
theorem axb(h:P:=by
 go_wp2_with (at_builtin;refine aFL _ rfl _ _ 34 rfl w.heap.size 155 i0 (.agg (iX ByteArray.empty 0 0 0)) 4 40 underlying34 hi hz0 hz1 hz2 rfl Aae _ 0 [] rfl hlit x l.length cap (GR.flat fA l) rfl ?c0 ?c1 ?c2 ?c3 ?c4 ?c5 ?_)
 case c0=>exact GR.flat_length fA 4 aQ l
 case c1=>exact HN
 case c2=>exact Fw l
 case c3=>unfold maxLen;omega
 case c4=>omega
 case c5=>simp
 exact AdX):P:=h
theorem aqE.AdX(h:P:=by
 intro v' w1 hown' hgrow _;open av1 in exact ahl):P:=h
theorem aqF.AdX(h:P:=by
 intro v' w1 hown' hgrow hnil;have HNN:=Hq (show v'≠ .slice none 0 0 from hnil);open av0 in exact ahl):P:=h
theorem aa0(h:P:=by
 have hke:k=out.length:=Aaa
 subst hke;have hnlt:decide ((out.length:Int) < (out.length:Int))=false:=Aac
 exact Aa6):P:=h
theorem aqG.Aa6(h:P:=by
 have HOF:Hid (TT=ig RQ RR reqs):=by
  have h:=ah jA;rw [aFh] at h;rw [ah HTT,h];rfl
 clear Ov BP yC HOT;go_wp2_with fail;go_loopw [5] (λi wr=>∃k:Nat,k<=reqs.length/\i= .int .i64 k/\ig RQ RR (reqs.take k)=true/\wr.heap[w.heap.size]?=some (.cells (dD ⟨id,par,kids,next,pu,out,seen,old,reqs⟩ ⟨ak,ap,ao,as',ar,ck,cp,co,cs,cr⟩) 39 (0,0))/\aH w wr) (λi _=>reqs.length - (intOf i).toNat)
 case atStart=>exact⟨0,aE7 _,rfl,rfl,Ig,aZ⟩
 case round=>
  open arq in exact aex):P:=h
theorem aqH.Aa6(h:P:=by
 have HRS:Hid (L=(out.take out.length).map PM):=by
  rw [ah Oc,aFh];cases hOK:OK
  .rcases Nat.eq_zero_or_pos out.length with h|h
   .rw [aFk h];rfl
   .exact absurd (hpos h) (by rw [hOK];simp)
  .rfl
 clear hpos;go_wp2_with fail;go_ret;rw [ah HRS];exact BM.of_own Aac HO Aaa HW):P:=h
theorem aqI.Aa6(h:P:=by
 have HF:=Hq (zT HN);go_wp2_with fail;go_ret;exact⟨mU HF.symm,au w _⟩):P:=h
theorem aqJ.Aa6(h:P:=by
 have hyy:=ah zT HN;clear HLY zI zT;subst hyy;go_upto_region 8 with fail;refine wp_at (λW3 hW3=>?_);have hbw:aH wr W3:=by rw [hW3];exact aE3 _ _
 open aoR in exact awT):P:=h
theorem aqK.Aa6(h:P:=by
 exact akh):P:=h
theorem aj1(h:P:=by
 refine leaves_cons (f:=63) (args:=#[.pointer (some ⟨g,9,none⟩)]) Aac (by simp[go_sem]) ?_;refine(unlock_deferred WY ⟨g,9,none⟩ .returning _ (aV HGU 9) (aC HGU 9)).mono ?_;rintro e u' w'' ⟨rfl,rfl,rfl⟩;exact AcJ):P:=h
theorem aqL.AcJ(h:P:=by
 exact⟨_,results_none rfl _ _ _,k,A.b,true,false,rfl,(show hkB W2 g k A 1 true false from HGU).lock 0,oq.trans (aA.set _),.inr ⟨λh=>(by cases (HR.2 h.1)),rfl,rfl⟩⟩):P:=h
theorem aqM.AcJ(h:P:=by
 exact⟨_,results_none rfl _ _ _,k,A.b,false,false,rfl,(show hkB z g k A 1 false false from HGU).lock 0,HKU.trans (aA.set _),.inr ⟨λh=>HS h.2,rfl,rfl⟩⟩):P:=h
theorem aqN.AcJ(h:P:=by
 exact⟨_,results_none rfl _ _ _,Dk k,B,true,true,rfl,(show hkB _ g (Dk k) {A with b:=B} 1 true true from HGU).lock 0,((Xv.trans (aA.set _)).trans (aA.set _)).trans (aA.set _),.inl ⟨⟨(by simpa using ah HR),HS⟩,rfl,G,cc,(((HN6.keepsN hgw (aA.set _)).keepsN hgw (aA.set _)).keepsN hgw (aA.set _)).base hs2⟩⟩):P:=h
theorem axc(h:P:=by
 have hb0:=au w (.cells (yJ k A).toArray 43);have e0:=aEP w (.cells (yJ k A).toArray 43);have hE1:=J5 (s:=1) hz.b;have hP1:=Fu (s:=1) hz.b Aaa;have hE2:=J5 (s:=eO 1 k.base) hz.n;have hP2:=Fu (s:=eO 1 k.base) hz.n hP1;have hw:=hz.w;have ha:=hz.a;have HEK:=Hq (show eKp k=eO (eO 1 k.base) k.node+7*k.wait.length+12*k.asked.length from rfl);exact Adk):P:=h
theorem aqO.Adk(h:P:=by
 have HM1:=Hq (λW (hW:aH w W)=>Kg 1 Aaa Aaa k.base A.b G1 W (hz.b.mono Aaa) (h.b.below hW));have Vw:=Hq (λW (hW:aH w W)=>Kg (eO 1 k.base) hP1 Aaa k.node A.n G2 W (hz.n.mono Aaa) (h.n.below hW));have HM3:=Hq (λW (hW:aH w W)=>abV A.wa gw A.wc k.wait.length (eO (eO 1 k.base) k.node) k.wait W rfl hP2 Aaa Aaa (GR.W.below h.wt hW));have HM4:=Hq (fun(z:Int) (W:World) (hz:z=((eO (eO 1 k.base) k.node+7*k.wait.length:Nat):Int)) (hW:aH w W)=>hz▸ae8 A.aa ga A.ac k.asked.length (eO (eO 1 k.base) k.node+7*k.wait.length) k.asked W rfl Aaa Aaa Aaa (GR.W.below h.sk hW));have Oz:=Hq e0;have HB0:=Hq hb0;have g1:decide (((eO 1 k.base:Nat):Int) < 0)=false:=Aac
 have g2:decide (((eO (eO 1 k.base) k.node:Nat):Int) < 0)=false:=Aac
 clear h hb0 e0 hz hE1 hE2;generalize eKp k=EK at *;generalize eO (eO 1 k.base) k.node=E2 at *;generalize eO 1 k.base=E1 at *;go_in
 go_upto_region 1 with fail;generalize w.alloc (.cells (yJ k A).toArray 43)=W0 at *;obtain⟨hr0,_⟩:=oI Oz;refine aFm ?_;show wpList _ _ _ [_,_,_,_,_] _ _
 open apx in exact SY):P:=h
theorem aqP.Adk(h:P:=by
 have HM1:=Hq (λW (hW:gZ W A.b G1 k.base)=>Kl 1 Aaa Aaa k.base A.b G1 W (hz.b.mono Aaa) h.bn hW);have Vw:=Hq (λW (hW:gZ W A.n G2 k.node)=>Kl (eO 1 k.base) hP1 Aaa k.node A.n G2 W (hz.n.mono Aaa) h.nn hW);have HM3:=Hq (λW (hW:GR.W jC 7 W A.wa gw k.wait)=>acP A.wa gw A.wc (eO (eO 1 k.base) k.node) k.wait W hP2 Aaa Aaa hW);have HM4:=Hq (fun(z:Int) (W:World) (hz:z=((eO (eO 1 k.base) k.node+7*k.wait.length:Nat):Int)) (hW:GR.W eU 12 W A.aa ga k.asked)=>hz▸afs A.aa ga A.ac (eO (eO 1 k.base) k.node+7*k.wait.length) k.asked W Aaa Aaa Aaa hW);have HNE:=Hq (show∀x∈G1.all k.base++(G2.all k.node++(fp gw k.wait++fp ga k.asked)),w.heap.size≠x from λx hx=>by have:=h.r x hx;omega);have HD:=Hq (And.intro h.d h.dl);have HDD:=Hq h.dd;have h0:=h.below hb0;have HB0:=Hq h0.b;have Iw:=Hq h0.n;have HW0:=Hq h0.wt;have HA0:=Hq h0.sk;have Oz:=Hq e0;have pY:=Hq (aA.of_below (F:=G1.all k.base++(G2.all k.node++(fp gw k.wait++fp ga k.asked))) hb0);clear h h0 hb0 e0 hz hhi;generalize eKp k=EK at *;go_in
 go_upto_region 1 with fail;generalize w.alloc (.cells (yJ k A).toArray 43)=W0 at *;obtain⟨hr0,_⟩:=oI Oz;refine aFm ?_;show wpList _ _ _ [_,_,_,_,_] _ _
 open apy in exact SY):P:=h
theorem axd(h:P:=by
 rintro e W3 ⟨A1,ma,mc,rfl,hat,hmt,hb3,hap⟩;have qH:=Hq ((hap _ (ay nK) (by rw [aY Aaa];omega)).trans nK);have aad:=Hq hat;have ad6:=Hq hmt;have HB3:=Hq ((HB2.mono hB).trans hb3);have Sw:Hid (Apart c w W3):=λx hx hc=>(hap x (aEZ hx HB2.size) (by rw [fE hx];exact hc)).trans (HB2.block x hx)
 have h23:=hb3.size;have h02:=HB2.size;have h2r:=ay nK;exact AeD):P:=h
theorem aqQ.AeD(h:P:=by
 clear hat hmt hb3 hap c0 c1 c2 c3 c4 c5 c6 c7 c8 m0 m1 m2 m3 m4 m5 m6 hml hnl OM kQ BQ nK Ii;obtain⟨⟨d0,d1,d2,d3,d4,d5,d6,d7,d8⟩,f0,f1,f2,f3,f4,f5,f6,f7,f8⟩:=iT qH;have hrl:=ay qH;go_wp2_with fail;refine eP (u1:= .slice ma L1.length mc) (u2:= .int .i64 Di) results131 rfl rfl rfl rfl qH (λW' e4 fC=>?_)
 have HAT:=Hq (λW'' (ho:Out c w W' W'')=>(show RM W'' A1 N1 from(by
  obtain⟨F,hk,hF⟩:=ho
  exact aad _ ⟨(w.heap.size+2)::F,aA.trans (b:=W') (fC.mono (λx hx=>Aas)) (hk.mono (λx hx=>Aai)),λy hy=>by
   rcases aFd.1 hy with h1|h1
   .exact Wn
   .exact⟨aEZ (hF y h1).1 h02,by rw [fE (hF y h1).1];exact(hF y h1).2⟩⟩)))
 have EP:=Hq (λW'' (ho:Out c w W' W'')=>(show GR.At jC 7 W'' ma L1 from(by
  obtain⟨F,hk,hF⟩:=ho
  exact ad6 _ ⟨(w.heap.size+2)::F,aA.trans (b:=W') (fC.mono (λx hx=>Aas)) (hk.mono (λx hx=>Aai)),λy hy=>by
   rcases aFd.1 hy with h1|h1
   .exact Wn
   .exact⟨aEZ (hF y h1).1 h02,by rw [fE (hF y h1).1];exact(hF y h1).2⟩⟩)))
 have rG:Hid (Below B w W'):=HB3.trans (fC.below (λx hx=>by have:x=w.heap.size+2:=Aag;omega) (aEU hB HB3.size));have xZ:=Hq (Apart.keeps (c:=c) Sw HB3.size fC (λx hx=>by have:x=w.heap.size+2:=Aag;omega));clear e4 fC;exact⟨A1,ma,mc,rfl,HAT,EP,rG,xZ⟩):P:=h
theorem aqR.AeD(h:P:=by
 clear hat hmt hb3 hap c0 c1 c2 c3 c4 c5 c6 c7 c8 m0 m1 m2 m3 m4 m5 m6 hml hnl HGV kQ BQ nK Ii;obtain⟨A1,hA1⟩:∃A2,A2=A1:=⟨_,rfl⟩;subst hA1;have Ob:=Hq (aEP W3 (.cells (dD N1 A1) 39));have yc:=Hq (aj qH (au W3 (.cells (dD N1 A1) 39)));have wm:=Hq (HB3.trans ((au W3 (.cells (dD N1 A1) 39)).mono (aEU hB HB3.size)));have HKA:=Hq (Sw.step HB3.size (au W3 (.cells (dD N1 A1) 39)));obtain⟨c0,c1,c2,c3,c4,c5,c6,c7,c8⟩:=nine Ob;obtain⟨⟨d0,d1,d2,d3,d4,d5,d6,d7,d8⟩,f0,f1,f2,f3,f4,f5,f6,f7,f8⟩:=iT yc;have hnl:=ay Ob;have hrl:=ay yc;go_wp2_with fail;refine eP results131 rfl rfl rfl rfl yc (λW' e4 fC=>?_)
 have HAT:=Hq (λW'' (ho:Out c w W' W'')=>(show RM W'' A1 N1 from(by
  obtain⟨F,hk,hF⟩:=ho
  exact aad _ ⟨(w.heap.size+2)::F,aA.trans (b:=W') ((aA.of_below (au W3 (.cells (dD N1 A1) 39))).trans (fC.mono (λx hx=>Aas))) (hk.mono (λx hx=>Aai)),λy hy=>by
   rcases aFd.1 hy with h1|h1
   .exact Wn
   .exact⟨aEZ (hF y h1).1 h02,by rw [fE (hF y h1).1];exact(hF y h1).2⟩⟩)))
 have EP:=Hq (λW'' (ho:Out c w W' W'')=>(show GR.At jC 7 W'' ma L1 from(by
  obtain⟨F,hk,hF⟩:=ho
  exact ad6 _ ⟨(w.heap.size+2)::F,aA.trans (b:=W') ((aA.of_below (au W3 (.cells (dD N1 A1) 39))).trans (fC.mono (λx hx=>Aas))) (hk.mono (λx hx=>Aai)),λy hy=>by
   rcases aFd.1 hy with h1|h1
   .exact Wn
   .exact⟨aEZ (hF y h1).1 h02,by rw [fE (hF y h1).1];exact(hF y h1).2⟩⟩)))
 open atp in exact agI):P:=h
theorem axe(h:P:=by
 obtain⟨e1,e2,e3,e4⟩:=gG w (.cells (dD n A) 39) (.cells (bV K no k nn mK mF mT mI mL mk mN) 73) (.cells lC 39);have hsz:(((w.alloc (.cells (dD n A) 39)).alloc (.cells (bV K no k nn mK mF mT mI mL mk mN) 73)).alloc (.cells lC 39)).heap.size=w.heap.size+3:=Aac
 generalize hW0:((w.alloc (.cells (dD n A) 39)).alloc (.cells (bV K no k nn mK mF mT mI mL mk mN) 73)).alloc (.cells lC 39)=W0 at *;exact Aew):P:=h
theorem aqS.Aew(h:P:=by
 open aBS in exact ajO):P:=h
theorem aqT.Aew(h:P:=by
 open aBT in exact ajO):P:=h
theorem axf(h:P:=by
 obtain⟨e1,e2,e3,e4⟩:=gG w (.cells (dD n A) 39) (.cells (bV 4 no k nn mK mF mT mI mL mk mN) 73) (.cells lC 39);have hsz:(((w.alloc (.cells (dD n A) 39)).alloc (.cells (bV 4 no k nn mK mF mT mI mL mk mN) 73)).alloc (.cells lC 39)).heap.size=w.heap.size+3:=Aac
 generalize hW0:((w.alloc (.cells (dD n A) 39)).alloc (.cells (bV 4 no k nn mK mF mT mI mL mk mN) 73)).alloc (.cells lC 39)=W0 at *;exact Aeu):P:=h
theorem aqU.Aeu(h:P:=by
 exact axn):P:=h
theorem aqV.Aeu(h:P:=by
 exact Zk9):P:=h
theorem axg(h:P:=by
 obtain⟨e1,e2,e3,e4⟩:=gG w (.cells (dD n A) 39) (.cells (bV 3 no k nn mK mF mT mI mL mk mN) 73) (.cells lC 39);have hsz:(((w.alloc (.cells (dD n A) 39)).alloc (.cells (bV 3 no k nn mK mF mT mI mL mk mN) 73)).alloc (.cells lC 39)).heap.size=w.heap.size+3:=Aac
 generalize hW0:((w.alloc (.cells (dD n A) 39)).alloc (.cells (bV 3 no k nn mK mF mT mI mL mk mN) 73)).alloc (.cells lC 39)=W0 at *;exact Ac0):P:=h
theorem aqW.Ac0(h:P:=by
 open Sk2 in exact Yk0):P:=h
theorem aqX.Ac0(h:P:=by
 exact axn):P:=h
theorem axh(h:P:=by
 obtain⟨e1,e2,e3,e4⟩:=gG w (.cells (dD n A) 39) (.cells (bV 0 no k nn mK mF mT mI mL mk mN) 73) (.cells lC 39);have hsz:(((w.alloc (.cells (dD n A) 39)).alloc (.cells (bV 0 no k nn mK mF mT mI mL mk mN) 73)).alloc (.cells lC 39)).heap.size=w.heap.size+3:=Aac
 generalize hW0:((w.alloc (.cells (dD n A) 39)).alloc (.cells (bV 0 no k nn mK mF mT mI mL mk mN) 73)).alloc (.cells lC 39)=W0 at *;exact AeF):P:=h
theorem aqY.AeF(h:P:=by
 open Sk6 in exact Yk0):P:=h
theorem aqZ.AeF(h:P:=by
 open Sk0 in exact Yk0):P:=h
theorem XT(h:P:=by
 obtain⟨k,z,hk,rfl,rfl,hz0,hz1,hall,hbel⟩:=hrel;have jA:=Hq hall;have aZ:=Hq hbel;clear hall hbel;exact Aa0):P:=h
theorem ara.Aa0(h:P:=by
 by_cases hlt:k < l.length
 .obtain⟨g,off,rfl,hgw,q0,q1,q2,q3⟩:=aG.four (GR.At.below HA aZ) k hlt;open apf in exact XR
 .exact aeA):P:=h
theorem arb.Aa0(h:P:=by
 by_cases hlt:k < l.length
 .obtain⟨g,off,rfl,hgw,q0,q1,q2,q3⟩:=SentAt.four (GR.At.below HA aZ) k hlt;open apg in exact XR
 .exact aeA):P:=h
theorem ard.Aa0(h:P:=by
 by_cases hlt:k < l.length
 .obtain⟨g,off,rfl,hgw,q0,q1,q2,q3⟩:=gB.four (GR.At.below HA aZ) k hlt;open aph in exact XR
 .exact aeA):P:=h
theorem arf.Aa0(h:P:=by
 by_cases hlt:k < l.length
 .obtain⟨g,off,b,c,e0,hgw,q0,q1,q2,_⟩:=iA.below HA aZ k hlt;subst e0;open apj in exact XR
 .exact aeA):P:=h
theorem arh.Aa0(h:P:=by
 by_cases hlt:k < l.length
 .obtain⟨g,off,rfl,hgw,q0,q1,q2,q3,q4,q5,q6,q7,q8,q9,q10,q11⟩:=mD (GR.At.below HA aZ) k hlt;open apk in exact XR
 .exact ahv):P:=h
theorem ari.Aa0(h:P:=by
 by_cases hlt:k < l.length
 .obtain⟨g,off,rfl,hgw,q0,q1,q2,q3,q4,q5,q6⟩:=rT (GR.At.below HA aZ) k hlt;open apl in exact XR
 .exact ahv):P:=h
theorem axi(h:P:=by
 refine fP 3 rfl Aab Aad (λx hx=>?_);go_simp;refine⟨au x _,?_⟩;have jO:=Hq (Ge.trans (Ge.trans xD hx) (au x (.cells #[.int .u8 K] 5)));have hcx:(x.alloc (.cells #[.int .u8 K] 5)).cell? ⟨x.heap.size,0,none⟩=some (.int .u8 K):=Aac
 have hcv:=λd os=>HCV (Sort.grow (redrawn (x.alloc (.cells #[.int .u8 K] 5)) d) os) x.heap.size (aEQ hcx d os)
 exact Aeo):P:=h
theorem arj.Aeo(h:P:=by
 obtain⟨a1,a2,a3,a4⟩:=ah HA;clear hx xD HCV HA hcx;generalize hy:x.alloc (.cells #[.int .u8 K] 5)=y at *;refine tk [4,8,12,16,21,22] ?_;open avx in exact JX):P:=h
theorem ark.Aeo(h:P:=by
 obtain⟨a1,a2,a3,a4,a5,a6⟩:=ah HA;clear hx xD HCV HA hcx;generalize hy:x.alloc (.cells #[.int .u8 K] 5)=y at *;refine tk [4,8,12,16,20,24,28,29] ?_;iterate 8 (refine lW (λK hK=>?_);go_simp;refine hK _ ?_;clear hK K)
 refine jh ?_;refine dW Aab (λz hz=>?_);have uH:=Hq (Ge.trans jO hz);clear hz jO hcv a1 a2 a3 a4 a5 a6;go_simp;go_wp2_with fail;go_ret;exact⟨rfl,uH⟩):P:=h
theorem axj(h:P:=by
 open aws in exact ahr):P:=h
theorem arl.Aeb(h:P:=by
 exact axN):P:=h
theorem arn.Aeb(h:P:=by
 open auz in exact OU):P:=h
theorem axk(h:P:=by
 generalize D9 s=RES at *;generalize kE s=OK at *;generalize vF s (gL s 0)=N1 at *;generalize vF s (gL s 1)=N2 at *;generalize vF s (gL s 2)=N3 at *;generalize vF s (gL s 3)=N4 at *;generalize vF s (jg s (gL s 4))=N5 at *;generalize kN s (gL s 4)=TX at *;generalize kJ s (jg s (gL s 4))=E6 at *;generalize jg s (gL s 4)=E5 at *;generalize gL s 4=E4 at *;exact AeH):P:=h
theorem aro.AeH(h:P:=by
 go_in
 go_wp2_with fail;refine(HN _).mono ?_;rintro e w1 ⟨g,cap,rfl,hg1,hc1,hb1⟩;have hR1:=aJ (aEP w _) hb1;have hB1:=(au w _).trans (hb1.mono Aac);have hC1:=Hq hc1;clear hb1 hc1;go_wp2_with fail;refine(HT _).mono ?_;rintro e w2 ⟨rfl,hb2⟩;have hR2:=aJ hR1 hb2;have hB2:=hB1.trans (hb2.mono hB1.size);have hg2:=aEZ hg1 hb2.size;have hC2:=Hq (show w2.cell? ⟨g,0,none⟩=some (.int .i64 N1)/\w2.cell? ⟨g,1,none⟩=some (.int .i64 N2)/\w2.cell? ⟨g,2,none⟩=some (.int .i64 N3)/\w2.cell? ⟨g,3,none⟩=some (.int .i64 N4) by simp only[(fG hb2).1 g _ hg1];exact hC1);clear hb2 hR1 hB1 hg1 hC1;go_wp2_with fail;refine(HG _).mono ?_;rintro e w3 ⟨rfl,hb3⟩;have hR3:=aJ hR2 hb3;have hB3:=hB2.trans (hb3.mono hB2.size);have hg3:=aEZ hg2 hb3.size;have hC3:w3.cell? ⟨g,0,none⟩=some (.int .i64 N1)/\w3.cell? ⟨g,1,none⟩=some (.int .i64 N2)/\w3.cell? ⟨g,2,none⟩=some (.int .i64 N3)/\w3.cell? ⟨g,3,none⟩=some (.int .i64 N4):=by simp only[(fG hb3).1 g _ hg2];exact hC2
 obtain⟨c0,c1,c2,c3⟩:=hC3;clear hb3 hR2 hB2 hg2 hC2;have HR3:=Hq hR3;have HB3:=Hq hB3;clear hR3 hB3;open asU in exact VT):P:=h
theorem arp.AeH(h:P:=by
 generalize gL s 3=E3 at *;generalize gL s 2=E2 at *;generalize gL s 1=E1 at *;rw [ez] at xY;clear ez hs;have HH:=Hq hH;clear hH;go_in
 go_upto_region 4 with fail;refine wp_at (λV0 hV=>?_)
 have hM0:V0.heap[w.heap.size+1]?=some (.cells (bX (s[0].toNat:Int) 0 0 0 0 ⟨#[]⟩ 0) 70 (0,0)):=by
  rw [hV];have h:=aEP (w.alloc (.cells (bX 0 0 0 0 0 ⟨#[]⟩ 0) 70)) (.cells (bX (s[0].toNat:Int) 0 0 0 0 ⟨#[]⟩ 0) 70);rwa [show(w.alloc (.cells (bX 0 0 0 0 0 ⟨#[]⟩ 0) 70)).heap.size=w.heap.size+1 by simp] at h
 have hR0:V0.heap[w.heap.size]?=some (.cells (bX 0 0 0 0 0 ⟨#[]⟩ 0) 70 (0,0)):=by rw [hV,aE4 _ _ _ Aac];exact aEP w _
 have hB0:aH w V0:=by rw [hV];exact((aE3 _ _).alloc (aER _) _).alloc Aac _
 clear hV hw64 hb0;have HM0:=Hq hM0;have VB:=Hq hR0;have HB0:=Hq hB0;clear hM0 hR0 hB0;go_wp2_with fail;refine(xY _ (HH.below HB0)).mono ?_;rintro e x1 ⟨rfl,hb1⟩;have gM1:=aJ HM0 hb1;have gR1:=aJ VB hb1;have gB1:=HB0.trans (hb1.mono HB0.size);obtain⟨⟨c0,c1,c2,c3,c4,c5,c6⟩,f0,f1,f2,f3,f4,f5,f6⟩:=eF gM1;have hz1:=dx gM1;have GM1:=Hq gM1;have GR1:=Hq gR1;have GB1:=Hq gB1;clear hb1 HM0 VB HB0 gM1 gR1 gB1 xY;go_upto_region 5 with fail;refine wp_at (λV1 hV=>?_);have hM1:V1.heap[w.heap.size+1]?=some (.cells (bX (s[0].toNat:Int) N1 0 0 0 ⟨#[]⟩ 0) 70 (0,0)):=by rw [hV];exact blk_set GM1 1 (.int .i64 N1)
 have hR1:V1.heap[w.heap.size]?=some (.cells (bX 0 0 0 0 0 ⟨#[]⟩ 0) 70 (0,0)):=by rw [hV];exact one_other GR1 Aaa
 have hB1:aH w V1:=by rw [hV];exact GB1.setCell (p:=⟨w.heap.size+1,1,none⟩) (Nat.le_succ _) (.int .i64 N1)
 clear hV GM1 GR1 GB1 c0 c1 c2 c3 c4 c5 c6 f0 f1 f2 f3 f4 f5 f6 hz1;have HM1:=Hq hM1;have HR1:=Hq hR1;have HB1:=Hq hB1;clear hM1 hR1 hB1;go_wp2_with fail;refine(HG2 _ (HH.below HB1)).mono ?_;rintro e x2 ⟨rfl,hb2⟩;have gM2:=aJ HM1 hb2;have gR2:=aJ HR1 hb2;have gB2:=HB1.trans (hb2.mono HB1.size);obtain⟨⟨c0,c1,c2,c3,c4,c5,c6⟩,f0,f1,f2,f3,f4,f5,f6⟩:=eF gM2;have hz2:=dx gM2;have GM2:=Hq gM2;have GR2:=Hq gR2;have GB2:=Hq gB2;clear hb2 HM1 HR1 HB1 gM2 gR2 gB2 HG2;go_upto_region 6 with fail;refine wp_at (λV2 hV=>?_);have hM2:V2.heap[w.heap.size+1]?=some (.cells (bX (s[0].toNat:Int) N1 N2 0 0 ⟨#[]⟩ 0) 70 (0,0)):=by rw [hV];exact blk_set GM2 2 (.int .i64 N2)
 have hR2:V2.heap[w.heap.size]?=some (.cells (bX 0 0 0 0 0 ⟨#[]⟩ 0) 70 (0,0)):=by rw [hV];exact one_other GR2 Aaa
 have hB2:aH w V2:=by rw [hV];exact GB2.setCell (p:=⟨w.heap.size+1,2,none⟩) (Nat.le_succ _) (.int .i64 N2)
 clear hV GM2 GR2 GB2 c0 c1 c2 c3 c4 c5 c6 f0 f1 f2 f3 f4 f5 f6 hz2;have Vw:=Hq hM2;have HR2:=Hq hR2;have HB2:=Hq hB2;clear hM2 hR2 hB2;go_wp2_with fail;refine(Ir _ (HH.below HB2)).mono ?_;rintro e x3 ⟨rfl,hb3⟩;have gM3:=aJ Vw hb3;have gR3:=aJ HR2 hb3;have gB3:=HB2.trans (hb3.mono HB2.size);obtain⟨⟨c0,c1,c2,c3,c4,c5,c6⟩,f0,f1,f2,f3,f4,f5,f6⟩:=eF gM3;have hz3:=dx gM3;have GM3:=Hq gM3;have GR3:=Hq gR3;have GB3:=Hq gB3;clear hb3 Vw HR2 HB2 gM3 gR3 gB3 Ir;go_upto_region 7 with fail;refine wp_at (λV3 hV=>?_);have hM3:V3.heap[w.heap.size+1]?=some (.cells (bX (s[0].toNat:Int) N1 N2 N3 0 ⟨#[]⟩ 0) 70 (0,0)):=by rw [hV];exact blk_set GM3 3 (.int .i64 N3)
 have hR3:V3.heap[w.heap.size]?=some (.cells (bX 0 0 0 0 0 ⟨#[]⟩ 0) 70 (0,0)):=by rw [hV];exact one_other GR3 Aaa
 have hB3:aH w V3:=by rw [hV];exact GB3.setCell (p:=⟨w.heap.size+1,3,none⟩) (Nat.le_succ _) (.int .i64 N3)
 clear hV GM3 GR3 GB3 c0 c1 c2 c3 c4 c5 c6 f0 f1 f2 f3 f4 f5 f6 hz3;have HM3:=Hq hM3;have HR3:=Hq hR3;have HB3:=Hq hB3;clear hM3 hR3 hB3;go_wp2_with fail;refine(HG4 _ (HH.below HB3)).mono ?_;rintro e x4 ⟨rfl,hb4⟩;have gM4:=aJ HM3 hb4;have gR4:=aJ HR3 hb4;have gB4:=HB3.trans (hb4.mono HB3.size);obtain⟨⟨c0,c1,c2,c3,c4,c5,c6⟩,f0,f1,f2,f3,f4,f5,f6⟩:=eF gM4;have BK:=dx gM4;have GM4:=Hq gM4;have GR4:=Hq gR4;have GB4:=Hq gB4;clear hb4 HM3 HR3 HB3 gM4 gR4 gB4 HG4;go_upto_region 8 with fail;refine wp_at (λV4 hV=>?_);have hM4:V4.heap[w.heap.size+1]?=some (.cells (bX (s[0].toNat:Int) N1 N2 N3 N4 ⟨#[]⟩ 0) 70 (0,0)):=by rw [hV];exact blk_set GM4 4 (.int .i64 N4)
 have hR4:V4.heap[w.heap.size]?=some (.cells (bX 0 0 0 0 0 ⟨#[]⟩ 0) 70 (0,0)):=by rw [hV];exact one_other GR4 Aaa
 have hB4:aH w V4:=by rw [hV];exact GB4.setCell (p:=⟨w.heap.size+1,4,none⟩) (Nat.le_succ _) (.int .i64 N4)
 clear hV GM4 GR4 GB4 c0 c1 c2 c3 c4 c5 c6 f0 f1 f2 f3 f4 f5 f6 BK;have HM4:=Hq hM4;have HR4:=Hq hR4;have nC:=Hq hB4;clear hM4 hR4 hB4;go_wp2_with fail;refine(rR _ (HH.below nC)).mono ?_;rintro e x5 ⟨rfl,hb5⟩;have gM5:=aJ HM4 hb5;have gR5:=aJ HR4 hb5;have gB5:=nC.trans (hb5.mono nC.size);obtain⟨⟨c0,c1,c2,c3,c4,c5,c6⟩,f0,f1,f2,f3,f4,f5,f6⟩:=eF gM5;have hz5:=dx gM5;have GM5:=Hq gM5;have GR5:=Hq gR5;have GB5:=Hq gB5;clear hb5 HM4 HR4 nC gM5 gR5 gB5 rR;go_upto_region 9 with fail;refine wp_at (λV5 hV=>?_);have hM5:V5.heap[w.heap.size+1]?=some (.cells (bX (s[0].toNat:Int) N1 N2 N3 N4 TX 0) 70 (0,0)):=by rw [hV];exact blk_set GM5 5 (.string TX)
 have WB:V5.heap[w.heap.size]?=some (.cells (bX 0 0 0 0 0 ⟨#[]⟩ 0) 70 (0,0)):=by rw [hV];exact one_other GR5 Aaa
 have hB5:aH w V5:=by rw [hV];exact GB5.setCell (p:=⟨w.heap.size+1,5,none⟩) (Nat.le_succ _) (.string TX)
 clear hV GM5 GR5 GB5 c0 c1 c2 c3 c4 c5 c6 f0 f1 f2 f3 f4 f5 f6 hz5;have HM5:=Hq hM5;have XE:=Hq WB;have gX:=Hq hB5;clear hM5 WB hB5;go_wp2_with fail;refine(HG6 _ (HH.below gX)).mono ?_;rintro e x6 ⟨rfl,hb6⟩;have gM6:=aJ HM5 hb6;have gR6:=aJ XE hb6;have gB6:=gX.trans (hb6.mono gX.size);obtain⟨⟨c0,c1,c2,c3,c4,c5,c6⟩,f0,f1,f2,f3,f4,f5,f6⟩:=eF gM6;have hz6:=dx gM6;have GM6:=Hq gM6;have GR6:=Hq gR6;have GB6:=Hq gB6;clear hb6 HM5 XE gX gM6 gR6 gB6 HG6;go_upto_region 10 with fail;refine wp_at (λV6 hV=>?_);have hM6:V6.heap[w.heap.size+1]?=some (.cells (bX (s[0].toNat:Int) N1 N2 N3 N4 TX N5) 70 (0,0)):=by rw [hV];exact blk_set GM6 6 (.int .i64 N5)
 have hR6:V6.heap[w.heap.size]?=some (.cells (bX 0 0 0 0 0 ⟨#[]⟩ 0) 70 (0,0)):=by rw [hV];exact one_other GR6 Aaa
 have hB6:aH w V6:=by rw [hV];exact GB6.setCell (p:=⟨w.heap.size+1,6,none⟩) (Nat.le_succ _) (.int .i64 N5)
 clear hV GM6 GR6 GB6 c0 c1 c2 c3 c4 c5 c6 f0 f1 f2 f3 f4 f5 f6 hz6;have hzM:=dx hM6;have hzR:=dx hR6;by_cases hE:E6=(s.size:Int)
 case' neg=>
  have hO:OK=false:=by rw [ah HO,aES hE];rfl
  have yj:=Hq (HZ hO)
  have hq:(E6 != (s.size:Int))=true:=by simpa using hE
  obtain⟨⟨d0,d1,d2,d3,d4,d5,d6⟩,f0,f1,f2,f3,f4,f5,f6⟩:=eF hR6
  have HR:=Hq hR6
  have HB:=Hq hB6
  have HE:=Hq hE
  clear hO HO HZ HM HP hM6 hR6 hB6 hE
  open ati in exact agG
 have hq:(E6 != (s.size:Int))=false:=by simpa using hE
 obtain⟨q0,q1,q2,q3,q4,q5,q6⟩:=uK hM6;have HR:=Hq hR6;have HB:=Hq hB6;have HMB:=Hq hM6;have HE:=Hq hE;clear hR6 hB6 hM6 hE;open ar2 in exact agn):P:=h
theorem aex(h:P:=by
 obtain⟨k,hk,rfl,hall,hblk,hbel⟩:=hrel;have jA:=Hq hall;have aZ:=Hq hbel;have Ig:=Hq hblk;exact AbP):P:=h
theorem arq.AbP(h:P:=by
 clear c0 c1 c2 c3 c4 c5 c6 c7 c8;obtain⟨c0,c1,c2,c3,c4,c5,c6,c7,c8⟩:=nine hblk;clear hall hbel hblk;by_cases hlt:k < reqs.length
 case' neg=>
  have hke:k=reqs.length:=Aaa
  subst hke;have aDA:decide ((reqs.length:Int) < (reqs.length:Int))=false:=Aac
  have HF:Hid (TT=true):=by
   have h:=ah jA;rw [aFh] at h;exact HOF.trans h
  go_wp2_with fail;go_ret;exact⟨aF HF.symm,aZ⟩
 have HBAD:Hid (ig RQ RR (reqs.take (k+1))=false->TT=false):=λh=>HOF.trans (HDB _ h)
 obtain⟨g,off,e0,hgw,q0,q1,q2,q3⟩:=gB.four (HA.below aZ).r k hlt;(try dsimp only at e0 q0 q1 q2 q3)
 have hks:=HZ.rk _ (aE8 hlt);(try dsimp only at hks)
 have XC:Hid (∃pv:Bool,ig RQ RR (reqs.take (k+1))=(RQ reqs[k]&&pv)/\((k=0/\pv=true)\/∃(j:Nat) (y:Int),k=j+1/\pv=decide (y < (reqs[k]).no)/\wr.cell? ⟨g,off+j*4,none⟩=some (.int .i64 y))):=by
  cases k with
  |zero=>
   refine⟨true,?_,.inl ⟨rfl,rfl⟩⟩;rw [Bool.and_true];exact HDF hlt
  |succ j=>
   obtain⟨g',off',e2,_,p0,_⟩:=gB.four (HA.below aZ).r j (show j < reqs.length by omega);(try dsimp only at e2 p0)
   rw [e0] at e2;injection e2 with e2
   injection e2 with e2 e3
   subst e2 e3;refine⟨_,?_,.inr ⟨j,_,rfl,rfl,p0⟩⟩;have h:=ah HDN j hlt;rw [ah jA] at h;exact h
 subst e0;have nH:=Hq (OD reqs[k]);generalize reqs[k]=sk at *;generalize RQ sk=OB at *;obtain⟨si,sx,sn,st⟩:=sk;dsimp only at q0 q1 q2 q3 hks XC nH;obtain⟨pv,hpv,hpk⟩:=ah XC;have iJ:=Hq hpv;have Sb:=Hq hpk;obtain⟨bb,hbb⟩:∃bb,(!(decide (old+1<=si/\si<=1000000000)&&keyOk sx.data.toList&&fJ sn&&decide (0<=st/\st<=2)&&pv))=bb:=⟨_,rfl⟩;have eY:=Hq hbb;clear hpv hpk XC hbb HDF HDN HDB;go_upto_region 13 with fail;refine wp_at (λW1 hW1=>?_);have HW1:Hid (W1.heap[wr.heap.size]?=some (.cells (gY si sx sn st) 148 (0,0))):=Abz
 open anm in exact aeu):P:=h
theorem ars.AbP(h:P:=by
 obtain⟨c0,c1,c2,c3,c4,c5,c6,_⟩:=nine hblk;clear hall hbel hblk;by_cases hlt:k < seen.length
 case' neg=>
  have hke:k=seen.length:=Aaa
  subst hke;have hnlt:decide ((seen.length:Int) < (seen.length:Int))=false:=Aac
  exact akh
 have HBAD:Hid (ig PP RR (seen.take (k+1))=false->TT=false):=λh=>nH.trans (yC _ h)
 obtain⟨g,off,b,c,e0,hgw,q0,q1,q2,hI⟩:=iA.below HS aZ k hlt;have yt:(seen[k]).ids.length<=1048600:=ah sH _ (aE8 hlt);have HI:=Hq hI;have DW:=Hq yt;clear hI yt
 have XC:Hid (∃pv:Bool,ig PP RR (seen.take (k+1))=((NN (seen[k]).f&&wD seen[k])&&pv)/\((k=0/\pv=true)\/∃(j:Nat) (y:Int),k=j+1/\pv=decide (y < (seen[k]).f)/\wr.cell? ⟨g,off+j*3,none⟩=some (.int .i64 y))):=by
  cases k with
  |zero=>
   refine⟨true,?_,.inl ⟨rfl,rfl⟩⟩;have h:=ah Ov hlt;rw [Bool.and_true];exact h
  |succ j=>
   obtain⟨g',off',_,_,e2,_,p0,_⟩:=iA.below HS aZ j Aaa;exact ahB
 subst e0;generalize hsk:seen[k]=sk at *;clear hsk;obtain⟨fr,lo,ids⟩:=sk;dsimp only at q0 q1 q2 HI DW XC;obtain⟨pv,hpv,hpk⟩:=ah XC;have iJ:=Hq hpv;have Sb:=Hq hpk;obtain⟨bb,hbb⟩:∃bb,(!(NN fr&&pv&&fJ lo&&decide (ids.length<=40)))=bb:=⟨_,rfl⟩;have eY:=Hq hbb;clear hpv hpk XC hbb Ov BP yC;go_upto_region 10 with fail;open avp in exact ahc):P:=h
theorem aru.AbP(h:P:=by
 obtain⟨c0,c1,c2,c3,c4,c5,c6,c7,c8⟩:=nine hblk;clear hall hbel hblk;by_cases hlt:k < out.length
 case' pos=>
  have HBAD:Hid (ig OT RO (out.take (k+1))=false->TT=false):=λh=>by rw [ah HTT,ah yC _ h];rfl
  obtain⟨g,off,e0,hgw,q0,q1,q2,q3⟩:=SentAt.four (HA.below aZ).o k hlt
  (try dsimp only at e0 q0 q1 q2 q3)
  have hks:=HZ.ok _ (aE8 hlt)
  (try dsimp only at hks)
  have XC:Hid (∃pv:Bool,ig OT RO (out.take (k+1))=(OT out[k]&&pv)/\((k=0/\pv=true)\/∃(j:Nat) (y:Int),k=j+1/\pv=decide (y < (out[k]).i)/\wr.cell? ⟨g,off+j*4,none⟩=some (.int .i64 y))):=by
   cases k with
   |zero=>
    refine⟨true,?_,.inl ⟨rfl,rfl⟩⟩;rw [Bool.and_true];exact Ov hlt
   |succ j=>
    obtain⟨g',off',e2,_,p0,_⟩:=SentAt.four (HA.below aZ).o j (show j < out.length by omega);(try dsimp only at e2 p0)
    exact ahB
  subst e0
  have nH:=Hq (HOT out[k])
  generalize out[k]=sk at *
  generalize OT sk=OB at *
  obtain⟨si,st,sx,sn⟩:=sk
  dsimp only at q0 q1 q2 q3 hks XC nH
  obtain⟨pv,hpv,hpk⟩:=ah XC
  have iJ:=Hq hpv
  have Sb:=Hq hpk
  obtain⟨bb,hbb⟩:∃bb,(!(decide (1<=si/\si<=next - 1)&&NN st&&keyOk sx.data.toList&&fJ sn&&pv))=bb:=⟨_,rfl⟩
  have eY:=Hq hbb
  clear hpv hpk XC hbb Ov BP yC
  go_upto_region 7 with fail
  refine wp_at (λW1 hW1=>?_)
  have HW1:Hid (W1.heap[wr.heap.size]?=some (.cells (gN si st sx sn) 145 (0,0))):=Abz
  have hbw:aH wr W1:=by rw [hW1];exact au wr _
  have BN:=Hq (aj Ig hbw)
  have pE:=Hq (aZ.trans (hbw.mono aZ.size))
  have hgw1:=hbw.size
  have DZ:Hid ((k=0/\pv=true)\/∃(j:Nat) (y:Int),k=j+1/\pv=decide (y < si)/\W1.cell? ⟨g,off+j*4,none⟩=some (.int .i64 y)):=by
   exact aib
  clear hW1 hbw q0 q1 q2 q3 c0 c1 c2 c3 c4 c5 c6 c7 c8 Sb Ig
  obtain⟨d0,d1,d2,d3⟩:=iI HW1
  obtain⟨c0,c1,c2,c3,c4,c5,c6,c7,c8⟩:=nine BN
  have k0:=cell_grown' c0
  have k1:=cell_grown' c1
  have k2:=cell_grown' c2
  have k3:=cell_grown' c3
  have k4:=cell_grown' c4
  have k5:=cell_grown' c5
  have k6:=cell_grown' c6
  have k7:=cell_grown' c7
  have k8:=cell_grown' c8
  have m0:=cell_grown' d0
  have m1:=cell_grown' d1
  have m2:=cell_grown' d2
  have m3:=cell_grown' d3
  have en:IntKind.i64.wrap (next - 1)=next - 1:=IntWalk.i64_in _ ⟨Aaa,Aaa⟩
  go_cut [98] (λr wx=>r= .bool bb/\aH W1 wx)
  case first=>
   rcases DZ with⟨rfl,rfl⟩|⟨j,y,rfl,rfl,q1⟩
   .have hgt:decide ((0:Int) < ((0:Nat):Int))=false:=rfl;open aAJ in exact Yk5
   .have hgt:decide ((0:Int) < ((j+1:Nat):Int))=true:=aET Aaa;have m9:=cell_grown' q1;open aAI in exact Yk5
  case rest=>
   obtain⟨rfl,hbx⟩:=hcut;open as8 in exact VU
 open aqG in exact aa0):P:=h
theorem arv.AbP(h:P:=by
 obtain⟨c0,c1,c2,_⟩:=nine hblk;clear hall hbel hblk;by_cases hlt:k < kids.length
 case' neg=>
  have hke:k=kids.length:=Aaa
  subst hke;have hnlt:decide ((kids.length:Int) < (kids.length:Int))=false:=Aac
  have HF:Hid (eD ⟨id,par,kids,next,pu,out,seen,old,reqs⟩=true):=by
   exact Wo
  go_wp2_with fail;go_ret;exact⟨aF HF.symm,aZ⟩
 have HBAD:Hid (ig (kU id par) iR (kids.take (k+1))=false->eD ⟨id,par,kids,next,pu,out,seen,old,reqs⟩=false):=λh=>nH.trans (yC _ h)
 cases k with
 |zero=>
  obtain⟨g,off,rfl,hgw,q0⟩:=bH.one (GR.At.below HA aZ) 0 hlt;rw [aGB] at q0;have hgt:decide ((0:Int) < ((0:Nat):Int))=false:=rfl;have iJ:Hid (ig (kU id par) iR (kids.take 1)=kU id par kids[0]):=ah Ov hlt;clear Ov BP yC;generalize kids[0]=x at *;open aud in exact agQ
 |succ j=>
  obtain⟨g,off,e1,hgw,q0⟩:=bH.one (GR.At.below HA aZ) (j+1) hlt;obtain⟨g',off',e2,aDX,q1⟩:=bH.one (GR.At.below HA aZ) j Aaa;open avs in exact ahd):P:=h
theorem axl(h:P:=by
 have hc:s[k].toNat < 256:=s[k].toNat_lt;have aEj:=hv2 hj;have HU:=Hq (hu2 hj);clear hv2 hu2 hv5 hu;obtain⟨hp0,hp1⟩:=afz s[k].toNat v;exact Ad0):P:=h
theorem arw.Ad0(h:P:=by
 by_cases hb:128<=s[k].toNat
 .have HR:=Hq (Mth.get_more s k _ m _ _ hlt hj hb HG);clear HG;go_wp2
  go_round
  case rel=>exact⟨_,_,_,k+1,HU,KF m _ v hm,Aaf,Aaf,Aaf,by have:=ah HK;omega,HR⟩
  case measure=>simp[intOf];omega
 .by_cases hbig:(4000000000:Int) < (m:Int)+(s[k].toNat:Int) % 128*(v:Int)
  .have HR:=Hq (Mth.get_bad s k _ m _ _ hlt hj hb (.inl (QC m _ v hb hbig)) HG);clear HG;exact aeC
  .by_cases hz:(s[k].toNat:Int)<=0
   .by_cases hj0:0 < j
    .have HR:=Hq (Mth.get_bad s k _ m _ _ hlt hj hb (.inr ⟨Aaa,hj0⟩) HG);have hik:i < k:=by have:=ah HK;omega
     clear HG;exact aeC
    .have HR:=Hq (Mth.get_hit s k _ m _ _ hlt hj hb (zo m _ v hb hbig) (.inr Aaa) HG);have hik:k<=i:=by have:=ah HK;omega
     clear HG;go_wp2
     go_ret3
     exact⟨QU HR (QD m _ v hz) (by have:=ah HK;omega),rfl⟩
   .have HR:=Hq (Mth.get_hit s k _ m _ _ hlt hj hb (zo m _ v hb hbig) (.inl Aaa) HG);have hz':0 < (s[k].toNat:Int):=Aaa
    clear HG;go_wp2
    go_ret3
    exact⟨QU HR (QE m _ v hb) (by have:=ah HK;omega),rfl⟩):P:=h
theorem arx.Ad0(h:P:=by
 by_cases hb:128<=s[k].toNat
 .have HR:=Hq (Mth.get_more s k _ m _ _ hlt hj hb HG);have HN:=Hq (Zj s i j k m v HK hlt HU0 hb Et);clear HG;go_wp2
  go_round
  case rel=>exact⟨_,_,_,k+1,HU,KF m _ v hm,Aaf,Aaf,Aaf,by have:=ah HK;omega,HN,HR⟩
  case measure=>simp[intOf];omega
 .go_wp2_with fail;generalize hx:((m:Int)+(s[k].toNat:Int) % 128*(v:Int))=x;have hx0:0<=x:=Aaa
  have hx1:x<=34359738368:=Aaa
  have HX:=Hq hx;clear hx hp0 hp1;have hA:(0:Int)<=(k:Int)+1:=Aaa
  have hB:(k:Int)+1<=(s.size:Int):=Aaa
  have hC:(i:Int)<=(k:Int)+1:=Aaa
  have hW:IntKind.i64.wrap ((k:Int)+1)=(k:Int)+1:=IntWalk.i64_in _ ⟨Aaa,Aaa⟩;by_cases hbig:4000000000 < x
  .have HR:=Hq (Mth.get_bad s k _ m _ _ hlt hj hb (.inl (QC m _ v hb (by rw [ah HX];exact hbig))) HG);have hne:(([]:List UInt8) == (s.extract i (k+1)).toList)=false:=Kr (by rw [Aq s i j k (ah HK) hlt];simp);go_region_with (go_at_call 147;refine(vU _ _ (.inr hbig)).mono ?_;rintro e w' ⟨rfl,rfl⟩)
   all_goals
    go_wp2
    go_ret2
    exact⟨get_none HR,(aE3 _ _).drew⟩
  .have hsm:x<=4000000000:=Aaa
   have HV:Hid (x.toNat=m+s[k].toNat*v):=by have h1:=QE m s[k].toNat v hb;rw [ah HX] at h1;rw [h1];rfl
   by_cases hbad:s[k].toNat=0/\0 < j
   .have HR:=Hq (Mth.get_bad s k _ m _ _ hlt hj hb (.inr hbad) HG);have hne:(Mth.put x.toNat == (s.extract i (k+1)).toList)=false:=Kr (by rw [ah HV];exact akp s i j k m v HK hlt HU0 hj Et hbad.1 hbad.2);clear hbad;go_region_with (go_at_call 147;refine(xu _ _ hx0 hsm).mono ?_;rintro e w' ⟨rfl,hbel⟩)
    all_goals
     go_wp2
     go_ret2
     exact⟨get_none HR,by first|exact hbel|exact((aE3 _ _).drew).trans hbel⟩
   .have HR:=Hq (Mth.get_hit s k _ m _ _ hlt hj hb (zo m _ v hb (by rw [ah HX];omega)) Aaa HG);have heq:(Mth.put x.toNat == (s.extract i (k+1)).toList)=true:=Yb (by rw [ah HV];exact aeS s i j k m v HK hlt HU0 hj hb Et (by omega));clear hbad;go_region_with (go_at_call 147;refine(xu _ _ hx0 hsm).mono ?_;rintro e w' ⟨rfl,hbel⟩)
    all_goals
     go_wp2
     go_ret2
     exact⟨get_some HR (by have:=ah HV;omega) (by have:=ah HK;omega),by first|exact hbel|exact((aE3 _ _).drew).trans hbel⟩):P:=h
theorem axm(h:P:=by
 have HAT:Hid (∀W'',Out c w W' W''->RM W'' (⟨a_k,(some ⟨gp,0,none⟩),jm,(some ⟨G.s,0,none⟩),jy,dH,fQ,eu,dJ,dR⟩:bq) (dX n (n.seen.set i ⟨mF,gu s0 mL,cu s0 mL⟩))):=λW'' ho=>by
  obtain⟨F,hk,hF⟩:=ho
  have hold:=(HNF.kc (k:=9) (KC.keeps hk (λx hx=>HCO x (hF x hx).1 (hF x hx).2)) Aaa)
  have ho:Out c w W' W'':=⟨F,hk,hF⟩
  exact hold.rm
 exact AcW):P:=h
theorem arz.AcW(h:P:=by
 have Ll:Hid (∀W'',Out c w W' W''->GR.At jC 7 W'' (some ⟨W8.heap.size,0,none⟩) []):=λW'' ho j hj=>(by simp at hj)
 have rG:Hid (Below B w W'):=adZ.trans (fC.below (λx hx=>by have:x=w.heap.size+2:=Aag;omega) (by have h1:=ay zU;omega));have xZ:=Hq (Apart.keeps (c:=c) ad4 (by have h1:=ay zU;omega) fC (λx hx=>by have:x=w.heap.size+2:=Aag;omega));clear e4 fC;exact⟨(⟨a_k,(some ⟨gp,0,none⟩),jm,(some ⟨G.s,0,none⟩),jy,dH,fQ,eu,dJ,dR⟩:bq),(some ⟨W8.heap.size,0,none⟩),⟨0,by simp[gU,dD,dX]⟩,HAT,Ll,rG,xZ⟩):P:=h
theorem arA.AcW(h:P:=by
 have Ll:Hid (∀W'',Out c w W' W''->GR.At jC 7 W'' (some ⟨ab,0,none⟩) [⟨2,n.id,mF,mI,0,ByteArray.empty,0⟩]):=λW'' ho j hj=>Tq (fC.obj aae (λhm=>Ack)) ho Aaa j hj
 have rG:Hid (Below B w W'):=ajm.trans (fC.below (λx hx=>by have:x=w.heap.size+2:=Aag;omega) (by have h1:=ay wI;omega));have xZ:=Hq (Apart.keeps (c:=c) ajv (by have h1:=ay wI;omega) fC (λx hx=>by have:x=w.heap.size+2:=Aag;omega));clear e4 fC;exact⟨(⟨a_k,(some ⟨gp,0,none⟩),jm,(some ⟨G.s,0,none⟩),jy,dH,fQ,eu,dJ,dR⟩:bq),(some ⟨ab,0,none⟩),⟨1,by simp[gU,dD,dX]⟩,HAT,Ll,rG,xZ⟩):P:=h
theorem aj2(h:P:=by
 have hwl:=ay h.blk;obtain⟨K,no,k,nn,⟨mK,mF,mT,mI,mL,mk,mN⟩⟩:=o;dsimp only at *;subst hK;have HW0:=Hq h;clear h;go_in
 go_upto_region 2 with fail;refine wp_at (λW hW=>?_);exact AbV):P:=h
theorem arB.AbV(h:P:=by
 obtain⟨_,e2,e3⟩:=gH w (.cells (bV K no k nn 2 mF mT mI mL mk mN) 73) (.cells (bX 2 mF mT mI mL mk mN) 70);open apW in exact ajY):P:=h
theorem arC.AbV(h:P:=by
 obtain⟨_,e2,e3⟩:=gH w (.cells (bV K no k nn 1 mF mT mI mL mk mN) 73) (.cells (bX 1 mF mT mI mL mk mN) 70);open apX in exact ajY):P:=h
theorem arD.AbV(h:P:=by
 obtain⟨_,e2,e3⟩:=gH w (.cells (bV K no k nn 0 mF mT mI mL mk mN) 73) (.cells (bX 0 mF mT mI mL mk mN) 70);open apY in exact ajY):P:=h
theorem agl(h:P:=by
 obtain⟨⟨p0,p1,p2,p3,p4,p5,p6,p7,p8,p9,pz⟩,_⟩:=aK HO;obtain⟨c0,c1,c2,c3,c4,c5,c6,c7,c8⟩:=nine HN;have hol:=ay HO;have hnl:=ay HN;go_wp2_with fail;refine(OD W0 Iw.at.r).mono ?_;rintro e W1 ⟨rfl,hb1⟩;have nD:=Hq (aj HN hb1);have XA:=Hq (aj HO hb1);have BU:=Hq (aj HR hb1);have HB1:=Hq (HB0.trans (hb1.mono HB0.size));exact Ac5):P:=h
theorem arE.Ac5(h:P:=by
 clear hb1 c0 c1 c2 c3 c4 c5 c6 c7 c8 p0 p1 p2 p3 p4 p5 p6 p7 p8 p9 pz hnl hol OD HN HO HR Iw HB0;obtain⟨⟨p0,p1,p2,p3,p4,p5,p6,p7,p8,p9,pz⟩,_⟩:=aK XA;obtain⟨c0,c1,c2,c3,c4,c5,c6,c7,c8⟩:=nine nD;have hol:=ay XA;have hnl:=ay nD;have hrl:=ay BU;go_upto_region 9 with fail;refine wp_at (λW2 hW2=>?_);have hbw2:=au W1 (.cells (gY no k nn 1) 148);have hq2:=aEP W1 (.cells (gY no k nn 1) 148);rw [<-hW2] at hbw2 hq2;have kQ:=Hq (aj nD hbw2);have IC:=Hq (aj XA hbw2);have nK:=Hq (aj BU hbw2);have ajE:=Hq hq2;have HB2:=Hq (HB1.trans (hbw2.mono HB1.size));have hqb:w.heap.size+2 < W1.heap.size:=hrl;clear hW2 hbw2 hq2 c0 c1 c2 c3 c4 c5 c6 c7 c8 p0 p1 p2 p3 p4 p5 p6 p7 p8 p9 pz nD XA BU HB1 hnl hol hrl;obtain⟨⟨p0,p1,p2,p3,p4,p5,p6,p7,p8,p9,pz⟩,_⟩:=aK IC;obtain⟨c0,c1,c2,c3,c4,c5,c6,c7,c8⟩:=nine kQ;have hol:=ay IC;have hnl:=ay kQ;have hql:=ay ajE;go_wp2_with fail;refine(Sg W2 (nA.kc (k:=9) (KC.of_below HB2) Aaa).at.p).mono ?_;rintro e W3 ⟨v3,rfl,akM,hrow3,hb3⟩;obtain⟨av,cv,rfl,_⟩:=GR.own_at (enc:=fA) (sz:=4) aQ hrow3;have HRW:=Hq (LO.own (en:=fA) hrow3);have sZ:=Hq (aj kQ hb3);have Lp:=Hq (aj IC hb3);have qH:=Hq (aj nK hb3);have XD:=Hq (aj ajE hb3);have HB3:=Hq (HB2.trans (hb3.mono HB2.size));clear hb3 akM hrow3 Sg kQ IC nK ajE HB2 c0 c1 c2 c3 c4 c5 c6 c7 c8 p0 p1 p2 p3 p4 p5 p6 p7 p8 p9 pz hnl hol;obtain⟨c0,c1,c2,c3,c4,c5,c6,c7,c8⟩:=nine sZ;obtain⟨q0,q1,q2,q3⟩:=iI XD;have cf:=aC sZ 4;have qf:=aC XD 3;have hnl:=ay sZ;have aEb:=ay XD;go_upto_if 71 with fail;have hne1:w.heap.size≠W1.heap.size:=Aaa
 go_cut [5] (λz wx=>z= .int .i64 0/\∃pa pc,wx.heap[w.heap.size]?=some (.cells (wC n.id n.par a_k n.kids.length dH n.next pa PL.length pc jm n.out.length eu jc n.seen.length dJ n.old (some ⟨gr,0,none⟩) n.reqs.length dR) 39 (0,0))/\wx.heap[W1.heap.size]?=some (.cells (gY no k nn st) 148 (0,0))/\wx.heap[w.heap.size+1]?=some (.cells (bV K no k nn mK mF mT mI mL mk mN) 73 (0,0))/\wx.heap[w.heap.size+2]?=some (.cells lC 39 (0,0))/\aH w wx/\PD gp n.pu (w.heap.size+3) wx pa pc PL)
 case first=>
  cases ok
  case' false=>
   simp at hPL hst
   subst hPL hst
   go_wp2_with fail
   go_meet
   case rel=>exact⟨rfl,_,_,sZ,XD,Lp,qH,HB3,.inr ⟨rfl,rfl⟩⟩
  simp at hPL hst;subst hPL hst;go_wp2_with fail;go_meet
  case rel=>
   have hk:aA [w.heap.size,W1.heap.size] W3 ((W3.setCell ⟨w.heap.size,4,none⟩ (.slice av RL.length cv)).setCell ⟨W1.heap.size,3,none⟩ (.int .i64 0)):=((aA.set _).mono Aac).trans ((aA.set _).mono Aac);exact⟨rfl,_,_,mO _ hne1 (aP sZ 4 _),aP (mO _ hne1.symm XD) 3 _,hk.obj Lp Aah,hk.obj qH Aah,(HB3.setCell (p:=⟨w.heap.size,4,none⟩) (aER _) _).setCell (p:=⟨W1.heap.size,3,none⟩) Aah _,.inl ((HRW.keeps hk (λx hx=>Aak)).lower Aaa)⟩
 case rest=>
 obtain⟨rfl,pa,pc,hN4,hQ4,hO4,hR4,hB4,hP4⟩:=hcut;clear c0 c1 c2 c3 c4 c5 c6 c7 c8 q0 q1 q2 q3 cf qf sZ Lp qH XD HB3 HRW hPL hst;obtain⟨W4,hW4⟩:∃x:World,x=wc:=⟨_,rfl⟩;subst hW4;have DX:=Hq hN4;have ame:=Hq hQ4;have ajA:=Hq hO4;have SH:=Hq hR4;have nC:=Hq hB4;have R8:=Hq hP4;clear hN4 hQ4 hO4 hR4 hB4 hP4;have HA4:=Hq (nA.kc (k:=9) (KC.of_below nC) Aaa).at.r;obtain⟨c0,c1,c2,c3,c4,c5,c6,c7,c8⟩:=nine DX;obtain⟨⟨p0,p1,p2,p3,p4,p5,p6,p7,p8,p9,pz⟩,_⟩:=aK ajA;have hnl:=ay DX;have hol:=ay ajA;have hile:=xS n.reqs no;go_upto_block 0 with fail;go_cut [10] from 11 (λi wx=>i= .int .i64 (dZ n.reqs no:Nat)/\Ge W4 wx)
 case first=>
  go_wp2_with fail;go_loopw [10] (λi wr=>∃j q:Nat,j<=n.reqs.length/\i= .int .i64 j/\(∀x (hx:x < n.reqs.length),x < j->n.reqs[x].no < no)/\wr=W4.drewN q) (λi _=>n.reqs.length - (intOf i).toNat)
  case atStart=>exact⟨0,0,aE7 _,rfl,λx hx h=>Aaa,rfl⟩
  case round=>
   obtain⟨j,q,hj,rfl,hlo,rfl⟩:=hrel;have HLO:=Hq hlo;clear hlo;by_cases hlt:j < n.reqs.length
   .obtain⟨g',off',e0,hg',y0,_,_,_⟩:=gB.four HA4 j hlt;cases e0
    rw [aFE] at y0
    have HUP:=Hq (fun(h:no<=n.reqs[j].no)=>Nj (l:=n.reqs) (no:=no) Ik (i:=j) hj HLO (λx hx hjx=>by
     rcases Nat.lt_or_eq_of_le hjx with h1|h1
     .have:=aFV.1 Ik j x hlt hx h1;omega
     .subst h1;exact h))
    have aah:=Hq (fun(h:n.reqs[j].no < no)=>show∀x (hx:x < n.reqs.length),x < j+1->n.reqs[x].no < no from λx hx h2=>by
     by_cases e:x=j
     .subst e;exact h
     .exact HLO x hx Aaa)
    generalize n.reqs[j].no=rn at *;by_cases hcmp:rn < no
    .go_wp2_with fail;go_quiet (fail);go_wp2_with fail;go_roundw
     case rel=>exact⟨j+1,_,Aaa,Aaf,aah hcmp,rfl⟩
     case measure=>simp[intOf];omega
    .have abR:decide (rn < no)=false:=aES hcmp;have HJ:=Hq (HUP Aaa);exact ahY
   .have hje:j=n.reqs.length:=Aaa
    subst hje;have HJ:=Hq (Nj (l:=n.reqs) (no:=no) Ik (i:=n.reqs.length) (aER _) HLO (λx hx hjx=>Aaa));have abR:decide ((n.reqs.length:Int) < (n.reqs.length:Int))=false:=Aac
    exact ahY
 case rest=>
  obtain⟨rfl,hge⟩:=hcut;have IB:=Hq (aj DX hge);have EY:=Hq (aj SH hge);have aeg:=Hq (aj ame hge);have gX:=Hq (nC.trans (hge.mono nC.size));have HA5:=Hq (GR.At.below HA4 hge);have JQ:=Hq (R8.below hge);clear R8;clear hge c0 c1 c2 c3 c4 c5 c6 c7 c8 p0 p1 p2 p3 p4 p5 p6 p7 p8 p9 pz hnl hol DX ajA SH ame nC HA4;obtain⟨c0,c1,c2,c3,c4,c5,c6,c7,c8⟩:=nine IB;obtain⟨q0,q1,q2,q3⟩:=iI aeg;have hnl:=ay IB;have Yx:=ay aeg;have HIQ:=Hq (show wR n.reqs ⟨no,k,nn,st⟩=n.reqs.take (dZ n.reqs no)++⟨no,k,nn,st⟩::n.reqs.drop (dZ n.reqs no) from rfl);generalize dZ n.reqs no=pos at *;obtain⟨IQ,aky⟩:∃IQ,wR n.reqs ⟨no,k,nn,st⟩=IQ:=⟨_,rfl⟩;rw [aky] at HIQ;have HIN:=Hq aky;clear aky;go_upto_region 16 with fail;go_cut [10] from 11 (λi wx=>i= .int .i64 pos/\∃va vc,(∃g,va=some ⟨g,0,none⟩)/\n.reqs.length+1<=vc/\wx.heap[w.heap.size]?=some (.cells (wC n.id n.par a_k n.kids.length dH n.next pa PL.length pc jm n.out.length eu jc n.seen.length dJ n.old va (n.reqs.length+1) vc) 39 (0,0))/\wx.heap[w.heap.size+2]?=some (.cells lC 39 (0,0))/\wx.heap[W1.heap.size]?=some (.cells (gY no k nn st) 148 (0,0))/\LO 148 aL 4 (w.heap.size+3) wx va vc IQ/\PD gp n.pu (w.heap.size+3) wx pa pc PL/\aH w wx)
  case first=>
   have hwb:wc.heap.size<=wc.heap.size:=aER _;have y8:=cZ hnl c8;have z0:=cZ Yx q0;have z1:=cZ Yx q1;have z2:=cZ Yx q2;have z3:=cZ Yx q3;clear c0 c1 c2 c3 c4 c5 c6 c7 c8 q0 q1 q2 q3;have hpc:pos<=dR:=Aaa
   have Lu:=Hq (show gB wc (some ⟨gr,0,none⟩) (n.reqs.take pos) from GR.At.take HA5 pos)
   obtain⟨AD,hAD,hDR⟩:∃AD,(if dR=pos then some (⟨gr,0,none⟩:Addr) else some ⟨gr,pos*4,none⟩)=AD/\gB wc AD (n.reqs.drop pos):=by
    by_cases hcz:dR=pos
    .refine⟨_,rfl,?_⟩;rw [show n.reqs.drop pos=[] by apply aGc;omega];exact GR.at_nil _ _
    .refine⟨_,rfl,?_⟩;rw [aE2 hcz];exact GR.At.drop HA5 pos
   have HDR:=Hq hDR;clear hDR;refine mZ 15 wc.heap.size Aab ?_;show jH _ _ _ _ _ _ 16 (Array.replicate 16 false) _ _
   refine tk [1,2,3,4,6,9,10,11,12] ?_;iterate 9 (refine EI 20 (QS _) (λK hK=>?_);go_simp;first|refine hK _ ?_|(apply Exists.intro;refine⟨λ_=>?_,hK _ ?_⟩;rfl);clear hK K)
   refine jh ?_;clear y8 z0 z1 z2 z3;have hlt1:(n.reqs.take pos).length=pos:=Abk
   have akL:(n.reqs.drop pos).length=n.reqs.length - pos:=by rw [aFA]
   obtain⟨i0,hi,hz0,hz1,hz2⟩:=aFt AO;have HE:=Hq (show n.reqs.take pos++[(⟨no,k,nn,st⟩:Rq)]++n.reqs.drop pos=IQ by rw [ah HIQ,aFx];rfl);have zT:=Hq (show IQ.length=n.reqs.length+1 by rw [<-ah HE];simp;omega);refine H7 (enc:=aL) (sz:=4) (e:=(⟨no,k,nn,st⟩:Rq)) (i:=i0) (ve:= .agg (gY no k nn st)) 0 5 7 8 13 93 98 100 101 106 99 97 105 aW Aaa (λx u hu=>by simp at hu;rcases hu with rfl|rfl|rfl|rfl<;>rfl) underlying37 hi hz0 hz1 hz2 rfl Lu HDR hlt1 akL Aaa Aae Aae rfl rfl rfl Aab ⟨rfl,rfl,rfl,rfl⟩ ⟨rfl,rfl,rfl,rfl⟩ ⟨rfl,rfl,rfl,rfl⟩ ⟨rfl,rfl,rfl,rfl⟩ ⟨rfl,rfl,rfl,rfl⟩ Aab (H:=λv0 v4 v7 v8 v12 y5 hG hV=>?_);have rR:=Hq hG;rw [ah HE,ah zT] at hV
   obtain⟨g,cvT,rfl,hcv⟩:∃g cv,v12= .slice (some ⟨g,0,none⟩) (n.reqs.length+1) cv/\n.reqs.length+1<=cv:=by
    rcases hV.2 with⟨_,hn⟩|⟨g,cap,_,hv,_,_,hnc,_⟩
    .omega
    .exact⟨g,cap,hv,hnc⟩
   have HV5:=Hq hV;clear hG hV;have aCU:wc.heap.size<=y5.heap.size:=rR.size;refine tk [14] ?_;open asb in exact agq
  case rest=>
   clear c0 c1 c2 c3 c4 c5 c6 c7 c8 q0 q1 q2 q3 hnl Yx IB EY aeg gX HA5 JQ;obtain⟨rfl,va,vc,⟨gv,rfl⟩,hvc,hN6,hR6,hQ6,hL6,hP6,hB6⟩:=hcut;have HLQ:=Hq (show IQ.length=n.reqs.length+1 by rw [ah HIQ];simp;omega);have ou:=Hq hN6;have rH:=Hq hR6;have aeh:=Hq hQ6;have HL6:=Hq hL6;have HP6:=Hq hP6;have yB:=Hq hB6;clear hN6 hR6 hQ6 hL6 hP6 hB6;rename_i wo _ _ _
   by_cases h30:30 < n.reqs.length+1
   .have HK:=Hq (show rW (setPu n PL) ⟨no,k,nn,st⟩=eT (pV (setPu n PL) (IQ.headD default).no) IQ.tail by unfold rW;rw [show((setPu n PL)).reqs=n.reqs from rfl,ah HIN,ah HLQ,aFc h30])
    obtain⟨IH,IT,hIQ⟩:∃IH IT,IQ=IH::IT:=by
     cases hq:IQ with
     |nil=>have:=ah HLQ;rw [hq] at this;simp at this
     |cons a b=>exact⟨a,b,rfl⟩
    subst hIQ;have hIT:IT.length=n.reqs.length:=by have:=ah HLQ;simp at this;omega
    have y0:wc.cell? ⟨gv,0,none⟩=some (.int .i64 IH.no):=by
     obtain⟨g',off',e0,_,h0,_⟩:=gB.four (HL6.lies aW).1 0 Aac;cases e0
     simpa using h0
    have HTA:=Hq (show gB wc (some ⟨gv,1*4,none⟩) IT from GR.At.drop (HL6.lies aW).1 1);have aCT:=(HL6.lies aW).2 gv 0 rfl;obtain⟨c0,c1,c2,c3,c4,c5,c6,c7,c8⟩:=nine ou;have cf:=aC ou 7;have hnl:=ay ou;have aCg:decide ((30:Int) < ((n.reqs.length+1:Nat):Int))=true:=aET Aaa;go_upto_region 19 with fail;refine wp_at (λW7 Oi=>?_);have aEk:¬vc=1:=Aaa
    have aEl:1<=vc:=Aaa
    have sJ:Hid (W7.heap[w.heap.size]?=some (.cells (wC n.id n.par a_k n.kids.length dH n.next pa PL.length pc jm n.out.length eu jc n.seen.length dJ IH.no (some ⟨gv,0,none⟩) (n.reqs.length+1) vc) 39 (0,0))):=by rw [Oi];exact aP ou 7 _
    have wI:Hid (W7.heap[w.heap.size+2]?=some (.cells lC 39 (0,0))):=by rw [Oi];exact mO _ Aaa rH
    have ajF:Hid (W7.heap[W1.heap.size]?=some (.cells (gY no k nn st) 148 (0,0))):=by rw [Oi];exact mO _ Aaa aeh
    have Ie:Hid (aH w W7):=by rw [Oi];exact yB.setCell (p:=⟨w.heap.size,7,none⟩) (aER _) _
    have amo:Hid (gB W7 (some ⟨gv,1*4,none⟩) IT):=by
     rw [Oi];exact((show zW aL 4 (w.heap.size+3) wc (some ⟨gv,1*4,none⟩) IT from⟨HTA,λg off e=>by cases e;exact aCT⟩).keeps (aA.set _) (λx hx=>Aak)).1
    have HP7:Hid (PD gp n.pu (w.heap.size+3) W7 pa pc PL):=by rw [Oi];exact HP6.keeps (aA.set _) (λx hx=>by simp at hx;omega)
    clear Oi HTA y0 cf c0 c1 c2 c3 c4 c5 c6 c7 c8 hnl ou rH aeh yB HL6 HP6;obtain⟨c0,c1,c2,c3,c4,c5,c6,c7,c8⟩:=nine sJ;have cf:=aC sJ 8;have hnl:=ay sJ;obtain⟨i0,hi,hz0,hz1,hz2⟩:=aFt AO;obtain⟨a8,c8',W8,hrun,PO,IX,⟨g8,rfl⟩,hc8⟩:=run_copy_row (P:=prog) aW Aaa W7 37 148 i0 (.agg (gY 0 ByteArray.empty 0 0)) 40 underlying37 hi hz0 hz1 hz2 rfl (some ⟨gv,1*4,none⟩) IT (vc - 1) amo (nN _) Aaj Aaa;rw [hIT,Nat.one_mul] at hrun;have aam:=Hq hrun;have vX:=Hq (aj sJ IX);have IJ:=Hq (aj wI IX);have amf:=Hq (aj ajF IX);have HB8:=Hq (Ie.trans (IX.mono Ie.size));have HL8:=Hq (LO.own (en:=aL) PO);have hz7:w.heap.size+3<=W7.heap.size:=by have:=ay ajF;omega
    have HP8:=Hq (HP7.below IX);have k8:=(nine vX).2.2.2.2.2.2.2.2;have kf8:=aC vX 8;clear hrun IX PO;go_upto_region 20 with(at_builtin;refine gD rfl (.tmp 118) (.tmp 121) 37 rfl _ _ rfl rfl _ _ (aam _) ?_)
    refine wp_at (λW9 hW9=>?_);have DY:Hid (W9.heap[w.heap.size]?=some (.cells (wC n.id n.par a_k n.kids.length dH n.next pa PL.length pc jm n.out.length eu jc n.seen.length dJ IH.no (some ⟨g8,0,none⟩) n.reqs.length c8') 39 (0,0))):=by rw [hW9];exact aP vX 8 _
    have zU:Hid (W9.heap[w.heap.size+2]?=some (.cells lC 39 (0,0))):=by rw [hW9];exact mO _ Aaa IJ
    have amg:Hid (W9.heap[W1.heap.size]?=some (.cells (gY no k nn st) 148 (0,0))):=by rw [hW9];exact mO _ Aaa amf
    have HB9:Hid (aH w W9):=by rw [hW9];exact HB8.setCell (p:=⟨w.heap.size,8,none⟩) (aER _) _
    have HL9:Hid (LO 148 aL 4 (w.heap.size+3) W9 (some ⟨g8,0,none⟩) c8' IT):=by rw [hW9];exact((HL8.lower hz7).keeps (aA.set _) (λx hx=>Aak))
    have HP9:Hid (PD gp n.pu (w.heap.size+3) W9 pa pc PL):=by rw [hW9];exact HP8.keeps (aA.set _) (λx hx=>by simp at hx;omega)
    clear hW9 k8 kf8 vX IJ amf HB8 HL8 sJ wI ajF Ie amo aam c0 c1 c2 c3 c4 c5 c6 c7 c8 cf hnl HP8 HP7;have akz:IT.length=n.reqs.length:=hIT;clear hIT;obtain⟨c0,c1,c2,c3,c4,c5,c6,c7,c8⟩:=nine DY;have hnl:=ay DY;have hnr:=ay zU;have hnq:=ay amg;open auO in exact agY
   .have HK:=Hq (show rW (setPu n PL) ⟨no,k,nn,st⟩=eT (setPu n PL) IQ by unfold rW;rw [show((setPu n PL)).reqs=n.reqs from rfl,ah HIN,ah HLQ,aE2 h30]);obtain⟨c0,c1,c2,c3,c4,c5,c6,c7,c8⟩:=nine ou;have hnl:=ay ou;have aCg:decide ((30:Int) < ((n.reqs.length+1:Nat):Int))=false:=aES Aaa;have hIT:IQ.length=n.reqs.length+1:=ah HLQ;clear HLQ;have akz:=Hq hIT;clear hIT;go_upto_region 20 with fail;clear c0 c1 c2 c3 c4 c5 c6 c7 c8 hnl;obtain⟨c0,c1,c2,c3,c4,c5,c6,c7,c8⟩:=nine ou;have hnl:=ay ou;have hnr:=ay rH;have hnq:=ay aeh;open auN in exact agY):P:=h
theorem arF.Ac5(h:P:=by
 have yD:=Hq (Iw.kc (k:=9) (KC.of_below hb1) Aaa);clear hb1 c0 c1 c2 c3 c4 c5 c6 c7 c8 p0 p1 p2 p3 p4 p5 p6 p7 p8 p9 pz hnl hol OD HN HO HR Iw HB0;obtain⟨g,off,e0,hg,q0,q1,q2,q3⟩:=gB.four yD.at.r i hi;rw [ah amh] at q0 q1 q2 q3;clear amh;obtain⟨rno,rk,rn,rs⟩:=rq;exact Kk6):P:=h
theorem agm(h:P:=by
 have y0:=(hcell 0 Aaa).1;rw [Nat.mul_one,aGB] at y0;simp only[List.getElem?_cons_zero] at y0;clear hcell;exact Aev):P:=h
theorem arG.Aev(h:P:=by
 subst eb;have hlen:=Yz s0 mL k;by_cases hge:gu s0 mL<=s0.ids[k]
 .have HY:=Hq (YA s0 mL k hlt hge);generalize s0.ids[k]=x at *;have hd:decide (gu s0 mL<=x)=true:=aET hge;go_wp2_with fail;go_quiet (fail);go_wp2_with (at_builtin;refine aFL _ rfl _ _ 22 rfl W3.heap.size 3 i0 (.int .i64 0) 1 8 underlying22 hi0 hz0 hz1' hz2 rfl Aae _ _ _ rfl (Ej hown) ⟨wr.heap.size,0,none⟩ 1 1 [.int .i64 x] rfl rfl ?c1 ?c2 ?c3 ?c4 ?c5 ?_)
  case c1=>exact cell_one_new _ _ _
  case c2=>intro u hu;simp at hu;subst hu;rfl
  case c3=>unfold maxLen;omega
  case c4=>omega
  case c5=>have:=aZ.size;simp;omega
  intro v' w2 hown' hgrow _;have azX:=Hq (GR.below_append (wr:=wr.drewN nq) (aZ.trans ⟨rfl,rfl,rfl,aER _,λ_ _=>rfl⟩) aZ.size hown hgrow)
  obtain⟨g',cp',rfl⟩:∃g' cp',v'= .slice (some ⟨g',0,none⟩) ((qc s0 mL k).length+1) cp':=by
   rcases hown'.2 with⟨_,hn⟩|⟨g',cap',cur,hv,_⟩
   .omega
   .exact⟨g',cap',hv⟩
  have yP:=Hq hown';clear hown' hgrow;go_wp2_with fail;go_roundw
  case rel=>exact⟨k+1,g',cp',Aaa,Aaf,by rw [ah HY,aEW];rfl,by rw [ah HY,aEW,GR.flat_append,GR.flat_one];exact yP,λe=>by rw [ah HY] at e;simp at e,azX⟩
  case measure=>simp[intOf];omega
 .have HY:=Hq (acd s0 mL k hlt hge);generalize s0.ids[k]=x at *;have hd:decide (gu s0 mL<=x)=false:=aES hge;go_wp2_with fail;go_quiet (fail);go_wp2_with fail;go_roundw
  case rel=>exact⟨k+1,g,cp,Aaa,Aaf,by rw [ah HY],by rw [ah HY];exact hown,by rw [ah HY];exact ajr,aZ.trans ⟨rfl,rfl,rfl,aER _,λ_ _=>rfl⟩⟩
  case measure=>simp[intOf];omega):P:=h
theorem arH.Aev(h:P:=by
 have HUP:=Hq (fun(h:¬(cu s0 mL)[x] < mI)=>adJ (l:=cu s0 mL) (x:=mI) hx HLO (λ_=>h))
 have aah:=Hq (fun(h:(cu s0 mL)[x] < mI)=>show∀y (hy:y < (cu s0 mL).length),y < x+1->(cu s0 mL)[y] < mI from λy hy h2=>by
  by_cases e:y=x
  .subst e;exact h
  .exact HLO y hy Aaa)
 generalize (cu s0 mL)[x]=rn at *;by_cases hcmp:rn < mI
 .go_wp2_with fail;go_quiet (fail);go_wp2_with fail;go_roundw
  case rel=>exact⟨x+1,_,Aaa,Aaf,aah hcmp,rfl⟩
  case measure=>simp[intOf];omega
 .have abR:decide (rn < mI)=false:=aES hcmp;have HJ:=Hq (HUP hcmp);exact ahF):P:=h
theorem zZ(h:P:=by
 iterate 2 (refine lW (λK hK=>?_);go_simp;refine hK _ ?_;clear hK K)
 refine jh ?_;exact AaP):P:=h
theorem arI.AaP(h:P:=by
 refine aS Aab (λu hu=>?_);refine aI 23 rfl Aab Aad ?_;go_simp;refine(HST u hu).mono ?_;rintro e z2 ⟨rfl,A',G',c',hZ2,hA2⟩;have HZ2:=Hq hZ2;have HA2:=Hq (hA2.trans hAr);clear hZ2 HST hu hA2 d0 d1 d2 d3 d4 d5 d6 d7 d8 d9 q0 q1 q2 q3 qf;obtain⟨rl,rb⟩:=r;dsimp only at HZ2 ⊢;refine aI 24 rfl Aab Aad ?_;go_simp;refine wpAny_done Aab ?_;go_simp;cases rb
 .rw [aE2 Aac] at HZ2;obtain⟨g6,hA6,_,hg6,⟨s0,s1,s2,s3⟩,sf⟩:=HZ2.reqRow i hil;rw [ah HA2] at hA6;cases hA6
  rw [hs] at s3;go_wp2_with fail;go_ret;exact⟨rfl,A',G',c',HZ2⟩
 .rw [aFc rfl] at HZ2;obtain⟨g6,hA6,_,hg6,⟨s0,s1,s2,s3⟩,sf⟩:=HZ2.reqRow i hil;rw [ah HA2] at hA6;cases hA6
  have zN:=Hq (HZ2.reqSet i hil g HA2);clear HZ2 HZ1 HX HW;go_wp2_with fail;go_ret;exact⟨rfl,A',G',c',zN⟩):P:=h
theorem arJ.AaP(h:P:=by
 refine aS Aab (λz hz=>?_);refine aI 20 rfl Aab Aad ?_;go_simp;refine(HST z hz).mono ?_;rintro e z2 ⟨rfl,A',G',c',hZ⟩;have HZ:=Hq hZ;clear hZ HST hz;open avg in exact ag7):P:=h
theorem arK.AaP(h:P:=by
 refine aS Aab (λz hz=>?_);have uH:=Hq (JL.trans (hz.mono JL.size));have HZP:=Hq (aj HYP hz);refine aI 20 rfl Aab Aad ?_;go_simp;refine(HST z hz).mono ?_;rintro e z2 ⟨rfl,A',G',c',hZ,hko,hcc⟩;have HZ:=Hq (HW.settled uH hZ hko hcc);have rF:=Hq (hko w.heap.size _ Aaa HZP);have HKO:Hid (∀j o,j≠wb->w.heap[j]?=some o->z2.heap[j]?=some o):=λj o h1 h2=>hko j o h1 (aj h2 uH)
 clear hZ hko hcc HST hz uH HZP HYP JL HXP jO;open avf in exact ag7):P:=h
theorem arL.AaP(h:P:=by
 clear y0 y1 y2 y3 y4 y5 y6 y7 y8;refine dP 2 rfl Aab Aad (λx hx=>?_);go_simp;refine(jP x A1 (BR.at.below hx)).mono ?_;rintro e y ⟨ma,mc,rfl,g,hmw,hml,hby⟩;refine⟨hby,?_⟩;have HY:=Hq (Ge.trans hx hby);have hxs:=hx.size;clear hx hby jP iJ HOX p0 p1 p2 p3 p4 p5 p6 p7 p8 p9 pz hnl hol;refine aS Aab (λz hz=>?_);have HZ:=Hq (Ge.trans HY hz);have HRZ:=Hq (aj wu HZ);have uH:=Hq (jO.trans (HZ.mono jO.size));have Iz:=Hq (BR.kc (k:=9) (KC.of_below HZ) Aaa);have Md:∀x'∈fp g L1,(λq=>if q<=w.heap.size+2 then 9 else 0) x'=0:=λx' hx'=>aE2 (by have:=(hml x' hx').1;have:=ay wu;omega)
 have HMW:=Hq ((KC.of_below (c:=λq=>if q<=w.heap.size+2 then 9 else 0) (k:=9) hz).w hmw Md Aaa);have alV:=Hq Md;clear hz Md hmw hml HY HZ BR jO wu;obtain⟨⟨d0,d1,d2,d3,d4,d5,d6,d7,d8⟩,f0,f1,f2,f3,f4,f5,f6,f7,f8⟩:=iT HRZ;have hrl:=ay HRZ;refine aI 3 rfl Aab Aad ?_;go_simp;refine aI 4 rfl Aab Aad ?_;go_simp;refine aI 5 rfl Aab Aad ?_;go_simp;refine wpAny_done Aab ?_;go_simp;clear d0 d1 d2 d3 d4 d5 d6 d7 d8 f0 f1 f2 f3 f4 f5 f6 f7 f8 hrl;go_wp2_with fail;refine eP (u1:= .slice ma L1.length mc) (u2:= .int .i64 0) results99 rfl rfl rfl rfl HRZ (λW' e4 fC=>?_);have EP:=Hq ((KC.keeps (c:=λq=>if q<=w.heap.size+2 then 9 else 0) (k:=9) fC (λx hx=>aFc (by have:x=w.heap.size+2:=(by simpa using hx);omega))).w HMW alV Aaa);have HAT:=Hq (λW'' (ho:yA w W' W'')=>((Iz.kc (k:=9) (KC.keeps fC (λx hx=>by have:x=w.heap.size+2:=Aag;rw [this];exact Df)) Aaa).kc (k:=9) (ho.kc (λx hx=>HC9 x Aaa)) Aaa).rm);have rG:Hid (aH w W'):=uH.trans (fC.below (λx hx=>by have:x=w.heap.size+2:=Aag;omega) uH.size);clear e4 fC;exact⟨A1,ma,⟨mc,rfl⟩,HAT,λW'' ho=>((ho.kc (c:=λq=>if q<=w.heap.size+2 then 9 else 0) (k:=9) (λx hx=>aFc Aaa)).w EP alV Aaa).at,rG⟩):P:=h
theorem arM.AaP(h:P:=by
 refine dW Aab (λz hz=>?_);have wJ:=Hq (HS.below hz hg);clear hz x0 x1 y0 y1 y2 y3 y4 y5 y6 y7 y8 y9 y10 HS nH;go_simp;cases hbo:bo
 .have hno:OK=false:=by rw [aGO];intro hy;have:=(HG.1 hy).2.2;rw [hbo] at this;cases this
  subst hbo;go_wp2_with fail;refine(HF _ wJ.rd).mono ?_;rintro e w9 ⟨rfl,rfl⟩;go_wp2_with fail;exact⟨rfl,.inr ⟨hno,_,rfl⟩,wJ.keep⟩
 .have hyes:OK=true:=HG.2 ⟨HES,HYE.2,hbo⟩;subst hbo;have aAq:=Hq hyes;clear hyes;have hzo:=dx wJ.op;have hlo:=wJ.lo;obtain⟨⟨c0,c1,c2,c3,c4,c5,c6,c7,c8,c9,c10⟩,_⟩:=aK wJ.op;obtain⟨⟨d0,d1,d2,d3,d4,d5,d6,d7,d8,d9,d10⟩,f0,f1,f2,f3,f4,f5,f6,f7,f8,f9,f10⟩:=aK wJ.res;go_wp2_with fail;refine iD (λW' hW'=>?_);obtain⟨⟨r0,r1,r2,r3,r4,r5,r6,r7,r8,r9,r10⟩,_⟩:=aK (show W'.heap[w.heap.size]?=some (.cells (bV (s[0].toNat:Int) N1 TX N2 mK mF mT mI mL mk mN) 73 (0,0)) by rw [hW'];exact lS wJ.res)
  have qC:dQ g w W':=by
   rw [hW'];exact(((((((((((wJ.keep.setNew (aER _)).setNew (aER _)).setNew (aER _)).setNew (aER _)).setNew (aER _)).setNew (aER _)).setNew (aER _)).setNew (aER _)).setNew (aER _)).setNew (aER _)).setNew (aER _))
  exact aEY (v:= .agg (bV (s[0].toNat:Int) N1 TX N2 mK mF mT mI mL mk mN)) (by simp[results,results212,go_sem,r0,r1,r2,r3,r4,r5,r6,r7,r8,r9,r10]) rfl ⟨.inl ⟨aAq,rfl⟩,qC⟩):P:=h
theorem arN.AaP(h:P:=by
 refine gJ 27 rfl Aab Aab Aab (λ_ _ _ _ h=>h) (λK hK=>?_);go_simp
 first
  |(refine hK _ ?_;clear hK K)
  |(apply Exists.intro
    refine⟨λ_=>?_,hK _ ?_⟩
    (exact N6 _)
    clear hK K)
 clear y0 y1 y2 y3 y4 y5 y6 N1 N2 N3 N4 N5 N6;open ark in exact axi):P:=h
theorem arO.AaP(h:P:=by
 refine gJ 19 rfl Aab Aab Aab (λ_ _ _ _ h=>h) (λK hK=>?_);go_simp;exact AaK):P:=h
theorem arP.AaP(h:P:=by
 refine dW Aab (λz hz=>?_);have uH:=Hq (iQ.trans (hz.mono iQ.size));exact AaA):P:=h
theorem arQ.AaP(h:P:=by
 refine dW Aab (λz hz=>?_);have HZ:=Hq ((au w (.cells (bX mK mF mT mI mL mk mN) 70)).trans (hz.mono Aac));clear hz y0 y1 y2 y3 y4 y5 y6 y7 y8 z1 z2 SK;go_simp;go_wp2_with fail;go_ret;exact⟨rfl,HZ⟩):P:=h
theorem VP(h:P:=by
 clear HNk HYk;go_wp2_with fail;refine(HCk wr HB).mono ?_;rintro e w1 ⟨rfl,hb1⟩;have HB1:=Hq (HB.trans (hb1.mono HB.size));rw [hq];exact AbB):P:=h
theorem arR.AbB(h:P:=by
 clear hb1 q0 q1 q2;exact aiA):P:=h
theorem arS.AbB(h:P:=by
 clear hb1 q0 q1 q2;exact abg):P:=h
theorem arT.AbB(h:P:=by
 clear hb1 q0 q1 q2 q3;exact aiA):P:=h
theorem arU.AbB(h:P:=by
 clear hb1 q0 q1 q2 q3;go_wp2_with fail;go_ret;exact⟨Aac,HB1⟩):P:=h
theorem E8(h:P:=by
 obtain⟨k,m,hk,rfl,rfl,hm,hbel⟩:=hrel;have HM:=Hq hm;have aZ:=Hq hbel;clear hbel;exact AaR):P:=h
theorem arV.AaR(h:P:=by
 by_cases hlt:k < l.length
 .have hm0:0 < m:=Aaa
  have hm1:(m:Int)<=92233720368547758:=Aaa
  obtain⟨e0,hgl,s0,_⟩:=GR.W.one (GR.W.below HA aZ) k (by rw [fD mkInt 1 s l l.length (aER _)];exact hlt);rw [CB mkInt 1 s l l.length k hlt (aER _),<-hm] at s0;dsimp only[mkInt] at s0;subst e0;clear hm;go_wp2_with fail;first|go_quiet (fail)|skip
  go_wp2_with fail;go_roundw
  case rel=>exact⟨k+1,m+1,Aaa,Aaf,Aaf,by have:=ah HM;omega,aZ.trans ⟨rfl,rfl,rfl,aER _,λ_ _=>rfl⟩⟩
  case measure=>simp[intOf];omega
 .exact XV):P:=h
theorem arW.AaR(h:P:=by
 by_cases hlt:k < l.length
 .have hm0:0 < m:=Aaa
  have hm1:(m:Int)<=92233720368547758:=Aaa
  obtain⟨e0,hgl,⟨s0,s1,s2,s3⟩,_⟩:=GR.W.fourReq (GR.W.below HA aZ) k (by rw [fD jV 4 s l l.length (aER _)];exact hlt);rw [CB jV 4 s l l.length k hlt (aER _),<-hm] at s0 s1 s2 s3;dsimp only[jV] at s0 s1 s2 s3;subst e0;have EP:=Hq (λz w1 (hz:z=((m+1:Nat):Int))=>kV (m+1) z w1 hz Aaa Aaa);exact aj6
 .exact XV):P:=h
theorem arX.AaR(h:P:=by
 by_cases hlt:k < l.length
 .have hm0:0 < m:=Aaa
  have hm1:(m:Int)<=92233720368547758:=Aaa
  obtain⟨e0,hgl,⟨s0,s1,s2,s3⟩,_⟩:=GR.W.fourSent (GR.W.below HA aZ) k (by rw [fD iF 4 s l l.length (aER _)];exact hlt);rw [CB iF 4 s l l.length k hlt (aER _),<-hm] at s0 s1 s2 s3;dsimp only[iF] at s0 s1 s2 s3;open ava in exact VZ
 .exact XV):P:=h
theorem arY.AaR(h:P:=by
 by_cases hlt:k < l.length
 .have hm0:0 < m:=Aaa
  have hm1:(m:Int)<=92233720368547758:=Aaa
  obtain⟨e0,hgl,⟨s0,s1,s2,s3⟩,_⟩:=GR.W.fourPurse (GR.W.below HA aZ) k (by rw [fD gF 4 s l l.length (aER _)];exact hlt);rw [CB gF 4 s l l.length k hlt (aER _),<-hm] at s0 s1 s2 s3;dsimp only[gF] at s0 s1 s2 s3;subst e0;have EP:=Hq (λz w1 (hz:z=((m+0:Nat):Int))=>kV (m+0) z w1 hz Aaa Aaa);exact aj6
 .exact XV):P:=h
theorem arZ.AaR(h:P:=by
 by_cases hlt:k < l.length
 .open asw in exact agv
 .open amK in exact uI):P:=h
theorem ar0.AaR(h:P:=by
 by_cases hlt:k < l.length
 .have hm0:0 < m:=Aaa
  have hm1:(m:Int)<=92233720368547758:=Aaa
  obtain⟨e0,hgl,⟨s0,s1,s2,s3,s4,s5,s6,s7,s8,s9,s10,s11⟩,_⟩:=GR.W.twelveA (GR.W.below HA aZ) k (by rw [fD jo 12 s l l.length (aER _)];exact hlt);rw [CB jo 12 s l l.length k hlt (aER _),<-hm] at s0 s1 s2 s3 s4 s5 s6 s7 s8 s9 s10 s11;dsimp only[jo] at s0 s1 s2 s3 s4 s5 s6 s7 s8 s9 s10 s11;open au9 in exact VZ
 .exact XV):P:=h
theorem ar1.AaR(h:P:=by
 by_cases hlt:k < l.length
 .have hm0:0 < m:=Aaa
  have hm1:(m:Int)<=92233720368547758:=Aaa
  obtain⟨e0,hgl,⟨s0,s1,s2,s3,s4,s5,s6⟩,_⟩:=GR.W.sevenM (GR.W.below HA aZ) k (by rw [fD mkMsg 7 s l l.length (aER _)];exact hlt);rw [CB mkMsg 7 s l l.length k hlt (aER _),<-hm] at s0 s1 s2 s3 s4 s5 s6;dsimp only[mkMsg] at s0 s1 s2 s3 s4 s5 s6;subst e0;have EP:=Hq (λz w1 (hz:z=((m+5:Nat):Int))=>kV (m+5) z w1 hz Aaa Aaa);clear hm;open aow in exact aev
 .exact XV):P:=h
theorem agn(h:P:=by
 go_wp2_with fail;refine(HP _).mono ?_;rintro e w5 ⟨rfl,hb5⟩;have WB:=aJ HR hb5;have hM5:=aJ HMB hb5;have hB5:=HB.trans (hb5.mono HB.size);have aEp:=dx hM5;have aEr:=dx WB;obtain⟨⟨d0,d1,d2,d3,d4,d5,d6⟩,f0,f1,f2,f3,f4,f5,f6⟩:=eF WB;have XE:=Hq WB;have gX:=Hq hB5;clear hb5 HR HMB HB q0 q1 q2 q3 q4 q5 q6 HP hzM hzR;exact Ac6):P:=h
theorem ar2.Ac6(h:P:=by
 cases hp:bY ⟨s[0].toNat,N1,N2,N3,N4,TX,N5⟩
 case' false=>
  have hO:OK=false:=by rw [ah HO,hp];simp
  have yj:=Hq (HZ hO)
  clear hO HO HZ HM hM5 WB hB5 hp
  open asX in exact agB
 have hO:OK=true:=by rw [ah HO,aET (ah HE),hp];rfl
 have yj:=Hq (HM hO);obtain⟨q0,q1,q2,q3,q4,q5,q6⟩:=uK hM5;clear hO HO HZ HM hM5 WB hB5 hp;open asO in exact agA):P:=h
theorem ar3.Ac6(h:P:=by
 by_cases hp:jR ⟨s[0].toNat,N1,N2,N3,N4,TX,N5⟩=s
 case' neg=>
  have hO:OK=false:=by rw [ah HO,aES hp];simp
  have yj:=Hq (HZ hO)
  have hq:((jR ⟨s[0].toNat,N1,N2,N3,N4,TX,N5⟩).toList == s.toList)=false:=by
   exact ain
  clear hO HO HZ HM hM5 WB hB5
  generalize jR ⟨s[0].toNat,N1,N2,N3,N4,TX,N5⟩=pm at *
  have HP:=Hq hp
  clear hp
  open asW in exact agB
 have hO:OK=true:=by rw [ah HO,aET hE,aET hp];rfl
 have yj:=Hq (HM hO);have hq:((jR ⟨s[0].toNat,N1,N2,N3,N4,TX,N5⟩).toList == s.toList)=true:=by rw [hp];simp
 obtain⟨q0,q1,q2,q3,q4,q5,q6⟩:=uK hM5;clear hO HO HZ HM hM5 WB hB5;have HP:=Hq hp;clear hp;generalize jR ⟨s[0].toNat,N1,N2,N3,N4,TX,N5⟩=pm at *;open asN in exact agA):P:=h
theorem OQ(h:P:=by
 have hd:((l.length:Int) != (m.length:Int))=true:=Aah
 have HP:=Hq (show¬l=m from λh=>hn (congrArg List.length h));exact Aa8):P:=h
theorem ar4.Aa8(h:P:=by
 clear hn ha hb;go_in
 exact OX):P:=h
theorem ar5.Aa8(h:P:=by
 clear hn ha hb;go_in
 exact OX):P:=h
theorem ar6.Aa8(h:P:=by
 clear hn ha hb;go_in
 exact OX):P:=h
theorem ar7.Aa8(h:P:=by
 clear hn ha hb;go_in
 exact OX):P:=h
theorem ar8.Aa8(h:P:=by
 clear hn ha hb hi;go_in
 exact OX):P:=h
theorem agp(h:P:=by
 obtain⟨g,off,rfl,hgw,c0,c1,c2,c3⟩:=aG.four (GR.At.below HA aZ) 0 hlt;simp only[Nat.zero_mul,aGB] at c0 c1 c2 c3;have hgt:decide ((0:Int) < ((0:Nat):Int))=false:=rfl;have oz:=Hq hat;have iJ:=Hq (qO (oL l) 0);clear hat;generalize l[0]=pu at *;exact AdC):P:=h
theorem ar9.AdC(h:P:=by
 cases hpo:iG pu
 .have HO:=Hq (λw1=>qE pu false w1 hpo);have HBAD:=Hq (oN hlt (show oL l 0=false by rw [ah oz,hpo];rfl));clear oz iJ hpo;obtain⟨pk,pm,pf,ps⟩:=pu;dsimp only at c0 c1 c2 c3;open amF in exact aaW
 .have HO:=Hq (λw1=>qE pu true w1 hpo);have EM:=Hq (show oL l 0=true by rw [ah oz,hpo];rfl);clear oz hpo;obtain⟨pk,pm,pf,ps⟩:=pu;dsimp only at c0 c1 c2 c3;open amE in exact aaW):P:=h
theorem asa.AdC(h:P:=by
 obtain⟨pk,pm,pf,ps⟩:=pu;dsimp only at c0 c1 c2 c3 hks;cases hkb:keyOk pk.data.toList
 .have HB:=Hq hkb;have HBAD:=Hq (oN hlt (show oL l 0=false by rw [ah oz];simp[iG,ah HB]));clear oz iJ;have hkb':=ah HB;exact Zk0
 have hkb':=hkb;by_cases h1:0<=pm/\pm<=1000000000
 case' neg=>
  have hA:rM pm=false:=aES h1;have g1:decide (yQ pm 0 1000000000)=false:=aES h1;exact aeF
 have g1:decide (yQ pm 0 1000000000)=true:=aET h1;have hA1:rM pm=true:=aET h1;by_cases h2:0<=pf/\pf<=1000000000
 case' neg=>
  have hA:rM pf=false:=aES h2;have g2:decide (yQ pf 0 1000000000)=false:=aES h2;exact aeF
 have g2:decide (yQ pf 0 1000000000)=true:=aET h2;have hA2:rM pf=true:=aET h2;by_cases h3:0<=ps/\ps<=1000000000
 case' neg=>
  have hA:rM ps=false:=aES h3;have g3:decide (yQ ps 0 1000000000)=false:=aES h3;exact aeF
 open av2 in exact ahm):P:=h
theorem agq(h:P:=by
 (refine EI 20 (QS _) (λK hK=>?_);go_simp;first|refine hK _ ?_|(apply Exists.intro;refine⟨λ_=>?_,hK _ ?_⟩;rfl);clear hK K)
 refine jh ?_;refine qy Aab (λz hz=>?_);have HGz:=Hq (rR.trans (hz.mono rR.size));have HVz:=Hq (GR.own_below HV5 hz);exact AeG):P:=h
theorem asb.AeG(h:P:=by
 have hsz:wc.heap.size<=z.heap.size:=HGz.size;clear hz;have HNz:Hid (z.heap[w.heap.size]?=some (.cells (wC n.id n.par a_k n.kids.length dH n.next pa PL.length pc jm n.out.length eu jc n.seen.length dJ n.old (some ⟨gr,0,none⟩) n.reqs.length dR) 39 (0,0))):=by unfold Hid;rw [(ah HGz).block _ hnl];exact IB
 have HRz:Hid (z.heap[w.heap.size+2]?=some (.cells lC 39 (0,0))):=by unfold Hid;rw [(ah HGz).block _ (ay (ah EY))];exact EY
 have HQz:Hid (z.heap[W1.heap.size]?=some (.cells (gY no k nn st) 148 (0,0))):=by unfold Hid;rw [(ah HGz).block _ Yx];exact aeg
 have kc:=(nine HNz).2.2.2.2.2.2.2.2;have kf:=aC HNz 8;refine aI 15 rfl Aab Aad ?_;go_simp;refine wpAny_done Aab ?_;go_simp;go_wp2_with fail;go_meet
 case rel=>
  refine⟨rfl,some ⟨g,0,none⟩,cvT,⟨g,rfl⟩,hcv,aP HNz 8 _,mO _ Aaa HRz,mO _ Aaa HQz,?_,(JQ.below HGz).keeps (aA.set _) (λx hx=>Aak),(gX.trans (HGz.mono gX.size)).setCell (p:=⟨w.heap.size,8,none⟩) (aER _) _⟩;exact((LO.own (en:=aL) (cp:=cvT) (l:=IQ) (by rw [ah zT];exact HVz)).keeps (aA.set _) (λx hx=>Aak)).lower Aaa):P:=h
theorem ase.AeG(h:P:=by
 clear hz;have HSz:=Hq (show z.heap[sb]?=some (.cells #[.int .i64 mF,.int .i64 (gu s0 mL),.slice (some ⟨gi,0,none⟩) (cu s0 mL).length Ye] 130 (0,0)) by rw [(ah HGz).block _ ayZ];exact aap);obtain⟨_,_,kc⟩:=Da HSz;have kf:=aC HSz 2;refine aI 14 rfl Aab Aad ?_;go_simp;refine wpAny_done Aab ?_;go_simp;go_wp2_with fail;go_meet
 case rel=>
  exact⟨g,cv,hbg,ac7 HVz (aA.set _) (λx hx hm=>by simp[Value.ownBlock] at hx;simp at hm;omega),aP HSz 2 _,(aA.of_below HGz).trans (aA.set _)⟩):P:=h
theorem agr(h:P:=by
 clear hr hc2 hc3;go_in
 go_wp2_with (first|(go_at_call_of 121 F;refine(H1 _).mono ?_;rintro e w1 ⟨rfl,rfl⟩)|(go_at_call_of 121 T;refine(H2 _).mono ?_;rintro e w1 ⟨rfl,rfl⟩)|(go_at_call_of 93 k;refine(Df _).mono ?_;rintro e w1 ⟨rfl,rfl⟩)|(go_at_call_of 90 N;refine(HC3 _).mono ?_;rintro e w1 ⟨rfl,rfl⟩))
 exact AdE):P:=h
theorem asf.AdE(h:P:=by
 go_ret;exact⟨aF (by first|exact HP.symm|exact he.trans HP.symm),au w _⟩):P:=h
theorem asg.AdE(h:P:=by
 exact yh):P:=h
theorem ags(h:P:=by
 obtain⟨c0,c1,c2,c3,c4,c5,c6,c7,c8⟩:=nine BN;have k0:=cell_grown' c0;have k1:=cell_grown' c1;have k2:=cell_grown' c2;have k3:=cell_grown' c3;have k4:=cell_grown' c4;have k5:=cell_grown' c5;have k6:=cell_grown' c6;have k7:=cell_grown' c7;have k8:=cell_grown' c8;have m0:=cell_grown' d0;have m1:=cell_grown' d1;have m2:=cell_grown' d2;exact Adn):P:=h
theorem ash.Adn(h:P:=by
 have m3:=cell_grown' d3;have en:IntKind.i64.wrap (old+1)=old+1:=IntWalk.i64_in _ ⟨Aaa,Aaa⟩;go_cut [151] (λr wx=>r= .bool bb/\aH W1 wx)
 case first=>
  rcases DZ with⟨rfl,rfl⟩|⟨j,y,rfl,rfl,q1⟩
  .have hgt:decide ((0:Int) < ((0:Nat):Int))=false:=rfl;open aAH in exact Yk4
  .have hgt:decide ((0:Int) < ((j+1:Nat):Int))=true:=aET Aaa;have m9:=cell_grown' q1;open aAG in exact Yk4
 case rest=>
  obtain⟨rfl,hbx⟩:=hcut;open as7 in exact VU):P:=h
theorem asi.Adn(h:P:=by
 go_cut [64] (λr wx=>r= .bool bb/\aH W1 wx)
 case first=>
  rcases DZ with⟨rfl,rfl⟩|⟨j,y,rfl,rfl,q1⟩
  .have hgt:decide ((0:Int) < ((0:Nat):Int))=false:=rfl;open aoZ in exact awV
  .have hgt:decide ((0:Int) < ((j+1:Nat):Int))=true:=aET Aaa;have m3:=cell_grown' q1;open aoY in exact awV
 case rest=>
  obtain⟨rfl,hbx⟩:=hcut;have HW2:=Hq (aj HW1 hbx);open as6 in exact VU):P:=h
theorem agt(h:P:=by
 refine vM Aab (λX5 hX5=>?_);have e4:=aj e4 hX5;have fC:=fC.trans (aA.of_below hX5);clear hX5;refine aI 4 rfl Aab Aad ?_;go_simp;refine wpAny_done Aab ?_;go_simp;exact Adq):P:=h
theorem asj.Adq(h:P:=by
 have uH:=Hq (yB.trans (fC.below (B:=w.heap.size) (λx hx=>Aak) yB.size));have HLZ:=Hq (HL6.keeps fC (λx hx=>Aak));have SG:=Hq (HP6.keeps fC (λx hx=>Aak));obtain⟨x0,x1,x2,x3,x4,x5,x6,x7,x8⟩:=nine e4;clear e4 fC;go_wp2_with fail;refine aEY (v:= .tuple #[.agg (wC n.id n.par a_k n.kids.length dH n.next pa PL.length pc jm n.out.length eu jc n.seen.length dJ n.old (some ⟨gv,0,none⟩) (n.reqs.length+1) vc),.int .i64 st]) Adb rfl ?_;rw [ah HK];refine⟨⟨a_k,pa,jm,jc,(some ⟨gv,0,none⟩),dH,pc,eu,dJ,vc⟩,?_,λW'' ho=>?_,uH.mono hB,Apart.of_below uH⟩
 .simp[gU,dD,eT,setPu,ah akz]
 .exact axG):P:=h
theorem asl.Adq(h:P:=by
 have uH:=Hq (HB9.trans (fC.below (B:=w.heap.size) (λx hx=>Aak) HB9.size));have HLZ:=Hq (HL9.keeps fC (λx hx=>Aak));have SG:=Hq (HP9.keeps fC (λx hx=>Aak));obtain⟨x0,x1,x2,x3,x4,x5,x6,x7,x8⟩:=nine e4;clear e4 fC;go_wp2_with fail;refine aEY (v:= .tuple #[.agg (wC n.id n.par a_k n.kids.length dH n.next pa PL.length pc jm n.out.length eu jc n.seen.length dJ IH.no (some ⟨g8,0,none⟩) n.reqs.length c8'),.int .i64 st]) Adb rfl ?_;rw [ah HK];refine⟨⟨a_k,pa,jm,jc,(some ⟨g8,0,none⟩),dH,pc,eu,dJ,c8'⟩,?_,λW'' ho=>?_,uH.mono hB,Apart.of_below uH⟩
 .simp[gU,dD,eT,pV,setPu,akz]
 .exact axG):P:=h
theorem agu(h:P:=by
 clear HR;clear ho hk hn;go_in
 go_wp2_with (first|(go_at_call_of 170 no;refine(HO _).mono ?_;rintro e w1 ⟨rfl,rfl⟩)|(go_at_call_of 190 k;refine(HK _).mono ?_;rintro e w1 ⟨rfl,rfl⟩)|(go_at_call_of 170 n;refine(HN _).mono ?_;rintro e w1 ⟨rfl,rfl⟩))
 exact Aeh):P:=h
theorem asn.Aeh(h:P:=by
 go_region
 go_upto_region 23 with fail;open at6 in exact VY):P:=h
theorem aso.Aeh(h:P:=by
 go_ret;exact⟨aF (by rw [ah HP];simp),by first|exact jL w _ _|exact Below.setNew (jL w _ _) Aaa⟩):P:=h
theorem VQ(h:P:=by
 have hlo:=h.o.lt;have nA:=Hq (h.nine hB);clear h;go_in
 go_upto_region 1 with fail;refine wp_at (λW0 hW=>?_);exact AbE):P:=h
theorem asq.AbE(h:P:=by
 obtain⟨e1,e2,e3⟩:=gH w (.cells (dD n A) 39) (.cells lC 39);open am6 in exact ajQ):P:=h
theorem asr.AbE(h:P:=by
 obtain⟨e1,e2,e3⟩:=gH w (.cells (dD n A) 39) (.cells lC 39);open auE in exact agV):P:=h
theorem asu.AbE(h:P:=by
 obtain⟨e1,e2,e3⟩:=gH w (.cells (dD n (⟨a_k,(some ⟨gp,0,none⟩),jm,jc,jy,dH,fQ,eu,dJ,dR⟩:bq)) 39) (.cells lC 39);open am7 in exact ajQ):P:=h
theorem asv.AbE(h:P:=by
 obtain⟨e1,e2,e3⟩:=gH w (.cells (dD n (⟨a_k,rU,jm,jc,jy,dH,fQ,eu,dJ,dR⟩:bq)) 39) (.cells lC 39);open am8 in exact ajQ):P:=h
theorem agv(h:P:=by
 have hbd:=Al s 1048600 (l.take k) (λx hx=>HL2 x (List.mem_of_mem_take hx));rw [<-hm,aFj,aFZ Aaa] at hbd;obtain⟨hb1,hb2⟩:=hbd;have hm0:0 < m:=Aaa
 have hm1:(m:Int)<=92233720368547758:=Aaa
 exact AdO):P:=h
theorem asw.AdO(h:P:=by
 have hS:eB wr a g I (lF s l):=eB.keeps (F:=[]) HA (aA.of_below (aZ.mono (aER _))) (λ_ _=>Aac) (λ_ _=>Aac);obtain⟨b,cc,e0,hg0,⟨s0,s1,s2⟩,_,hI⟩:=eB.three hS k (by rw [jE];exact hlt);rw [Qr s l k hlt,<-hm] at s0 s1 s2 hI;have yt:=ah HL2 l[k] (aE8 hlt);have Es:Hid (jl s (l.take (k+1))=m+2+(l[k]).ids.length):=Adc
 subst e0;clear hm hS;generalize l[k]=sk at *;obtain⟨fr,lo,ids⟩:=sk;unfold mSn at s0 s1 s2 hI;rw [fD mkInt 1 (m+2) ids ids.length (aER _)] at s2;dsimp only at s0 s1 s2 hI yt Es;have HH:=Hq (λz (hz:z=((m+2:Nat):Int))=>PE b (I k) cc ids.length (m+2) z ids wr hz rfl Aaa Aaa yt hI);clear hI;go_wp2_with (go_at_call 76;refine(HH _ Aaa).mono ?_;rintro e w1 ⟨rfl,hb5⟩;have pE:=Hq (aZ.trans (hb5.mono aZ.size));clear hb5)
 go_roundw
 case rel=>exact⟨k+1,m+2+ids.length,Aaa,Aaf,Aaf,Es.symm,pE⟩
 case measure=>simp[intOf];omega):P:=h
theorem asx.AdO(h:P:=by
 have hk':k < (ED s l k).length:=by rw [uX s l k hk];exact hlt
 obtain⟨b,cc,e0,hg0,⟨s0,s1,s2⟩,⟨f0,f1⟩,hI⟩:=eB.three HR k hk';have hpos:0 < l.length:=Aaa
 have akH:g∈fp g l:=dK hpos
 have HNE:Hid (∀x∈nI I (ED s l k),x≠g):=by
  rw [xG (uX s l k hk) (λi h1 h2=>WU s l k hk i h1 h2)];exact λx hx e=>HND.2.2 g akH x hx e.symm
 have HNI:Hid ((nI I (ED s l k)).Nodup):=by
  rw [xG (uX s l k hk) (λi h1 h2=>WU s l k hk i h1 h2)];exact HND.2.1
 have yt:=ah HL2 l[k] (aE8 hlt);have hat:=acI s l k hlt;rw [hat] at s0 s1 s2 hI;have HPT:=Hq (eB.put HR k hk' (m:Int) ((m:Int)+1) HNE);rw [hat] at HPT;have HSE:=Hq (WV s l k hlt);have HIK:=Hq (jD (I:=I) hlt);subst e0;have HI:=Hq hI;have Es:Hid (jl s (l.take (k+1))=m+2+(l[k]).ids.length):=Adc
 have HMS:Hid (mSn (jl s (l.take k)) l[k]=⟨(m:Int),(m:Int)+1,jW mkInt 1 (m+2) (l[k]).ids (l[k]).ids.length⟩):=by rw [<-hm];rfl
 clear hm hI hat;have hmz:(ED s l k)[k]=l[k]:=acI s l k hlt;have HMZ:=Hq hmz;clear hmz;generalize l[k]=sk at *;obtain⟨fr,lo,ids⟩:=sk;dsimp only at s0 s1 s2 HI yt HPT HIK Es HMS;go_wp2_with fail;have qC:aA [g] wr ((wr.setCell ⟨g,k*3,none⟩ (.int .i64 (m:Int))).setCell ⟨g,k*3+1,none⟩ (.int .i64 ((m:Int)+1))):=(aA.set _).trans (aA.set _)
 have hI2:=HI.keeps qC (λx hx=>by
  have h1:=ah HIK x hx
  have h2:=HND.2.2 g akH x h1
  simp
  exact λe=>h2 e.symm)
 have hc2:((wr.setCell ⟨g,k*3,none⟩ (.int .i64 (m:Int))).setCell ⟨g,k*3+1,none⟩ (.int .i64 ((m:Int)+1))).cell? ⟨g,k*3+2,none⟩=some (.slice b ids.length cc):=(aF0 _ _ _ _ Aac).trans ((aF0 _ _ _ _ Aac).trans s2);have Df:=Hq hc2;have HKK:=Hq qC;refine(Qt b (I k) cc (m+2) _ ids _ Aaa Aaa Aaa yt hI2).mono ?_;rintro e w2 ⟨rfl,hW2,hK2⟩
 have zN:Hid (eB w2 (some ⟨g,0,none⟩) g I (ED s l (k+1))/\aA (fp g l++nI I l) w w2):=by
  have hk2:k < ((ED s l k).set k ⟨(m:Int),(m:Int)+1,ids⟩).length:=by simpa using hk'
  have hcg:nI I ((ED s l k).set k ⟨(m:Int),(m:Int)+1,ids⟩)=nI I (ED s l k):=xG Aac (λi h1 h2=>by
   by_cases hik:i=k
   .subst hik;rw [aFo,ah HMZ]
   .rw [aFq Aaa])
  have hx:=eB.ids HPT k hk2 b cc (jW mkInt 1 (m+2) ids ids.length) (by rw [aFo];exact Df) (by rw [aFo];exact fD mkInt 1 (m+2) ids ids.length (aER _)) hW2 (by rw [aFo];exact hK2) (by rw [hcg];exact HNE) (by rw [hcg];exact HNI);rw [aFo,List.set_set] at hx;dsimp only at hx;rw [<-ah HMS,ah HSE] at hx;refine⟨hx,(HK.trans (HKK.mono (λx hx=>?_))).trans (hK2.mono (λx hx=>aFz _ (HIK x hx)))⟩;have:x=g:=Aag
  rw [this];exact aFp _ akH
 clear hW2 hK2 hc2 qC hI2;go_wp2_with fail;go_roundw
 case rel=>exact⟨k+1,m+2+ids.length,Aaa,Aaf,Aaf,Es.symm,zN.1,zN.2⟩
 case measure=>simp[intOf];omega):P:=h
theorem agw(h:P:=by
 have hp0:w1.cell? ⟨w.heap.size,0,none⟩=some (.string pk):=by rw [aE1 w1 _ _ _ _ (0,0) (ah wH)];rfl
 exact Aek):P:=h
end Go.Proofs.YtbolgdleijjgfaaGreatDoor
