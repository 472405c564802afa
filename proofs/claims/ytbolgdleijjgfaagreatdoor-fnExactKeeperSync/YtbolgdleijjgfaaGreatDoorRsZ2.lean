/-
  Parts of proofs that stand more than once, each said once.
-/
import Derived.Test.YtbolgdleijjgfaaGreatDoorRsZ1
namespace Go.Proofs.YtbolgdleijjgfaaGreatDoor
open Go.Proofs.Tryz
set_option maxRecDepth 100000
variable{P:Prop}
theorem anR.AcA(h:P:=by
 dsimp only at hf;clear he;rcases hf with hf|⟨hf,hs⟩
 all_goals
  go_in
  go_upto_region 5 with fail
  refine Fo.wp_at (λV hV=>?_)
  obtain⟨_,hC,hbel⟩:=Bu (w:=w) (w1:=V) (by rw [hV];exact aEY _ _)
  have HC:=Hq hC
  have aY:=Hq hbel
  have vv:=(HE.below hbel).var 4 Aaa
  have hsz:=(show w.heap.size+1+1 < V.heap.size from Fo.lt_of_blk hC)
  obtain⟨⟨r0,r1,r2,r3⟩,s0,s1,s2,s3⟩:=fP hC
  clear hC hbel hV
  go_region
  all_goals
   go_wp2_with fail
   refine Fo.bodyPost_at (λW' hW'=>?_)
   obtain⟨⟨t0,t1,t2,t3⟩,_⟩:=fP (show W'.heap[w.heap.size+1+1]?=some (.cells (iR ⟨#[]⟩ 0 0 0) 155 (0,0)) by rw [hW'];exact Fo.four_set (w:=V.drew) HC)
   have hbb:aH w W':=by rw [hW'];exact Fo.four_below (w:=V.drew) (aY.trans ⟨rfl,rfl,rfl,aEM _,λ_ _=>rfl⟩) Aaa
   exact aET (v:= .tuple #[.agg (iR ⟨#[]⟩ 0 0 0),uJ (E 4)]) (by simp[results,results305,go_sem,t0,t1,t2,t3]) rfl ⟨rfl,hbb⟩):P:=h
theorem anS.AcA(h:P:=by
 dsimp only at hf hs;clear hok he;open awq in exact ahy):P:=h
theorem anT.AcA(h:P:=by
 dsimp only at hf hs;clear hok;open awp in exact ahy):P:=h
theorem awG(h:P:=by
 have hTi:∀j,j < 3->∃u,wc.cell? ⟨G.s,i*3+j,none⟩=some u/\wc.frozen? ⟨G.s,i*3+j,none⟩=false:=λj hj=>⟨_,(hcT j hj).1.trans (aEQ (by rw [bg];exact hj)),(hcT j hj).2⟩
 obtain⟨v0,y0,x0⟩:=hTi 0 Aaa;obtain⟨v1,y1,x1⟩:=hTi 1 Aaa;obtain⟨v2,y2,x2⟩:=hTi 2 Aaa;rw [aGw] at y0 x0;exact Aex):P:=h
theorem anU.Aex(h:P:=by
 clear hTi hcT hrT hT hlT T Al hb4 ajA sG Xv qx HB3 ami amJ aes;have aDt:G.s < wc.heap.size:=Aaa
 obtain⟨c0,c1,c2,c3,c4,c5,c6,c7,c8⟩:=nine DJ;obtain⟨s40,s41,s42⟩:=CV aar;have sf:=aC aar 2;have hnl:=ay DJ;have hne1:sb≠G.s:=Aaa
 have hne2:G.s≠sb:=Aaa
 go_upto_region 15 with fail;refine wp_at (λW6 Wy=>?_);have HNW:Hid (NQ W6 B (dU n (n.seen.set i ⟨mF,fQ s0 mL,bX s0 mL⟩)) (⟨a_k,(some ⟨gp,0,none⟩),je,(some ⟨G.s,0,none⟩),jq,dz,fJ,dX,dA,dK⟩:bq) ⟨G.k,G.p,G.o,G.s,G.r,vF G.i i gi⟩ (wE gi (bX s0 mL) (newC w.heap.size 9 c))):=by rw [Wy];exact Xx
 have Sj:aA [sb,G.s] wc W6:=by
  rw [Wy];exact((aA.set _).mono Aac).trans ((gB [.int .i64 mF,.int .i64 (fQ s0 mL),.slice (some ⟨gi,0,none⟩) (bX s0 mL).length Yb] _ (i*3)).mono Aac)
 have HIW:Hid (GR.W bf 1 W6 (some ⟨gi,0,none⟩) gi (bX s0 mL)):=by
  rw [Wy];exact Wx.W.keeps (gB [.int .i64 mF,.int .i64 (fQ s0 mL),.slice (some ⟨gi,0,none⟩) (bX s0 mL).length Yb] _ (i*3)) (λx hx hm=>by have h1:=(cu hx).1;simp at hm;omega)
 have aeu:Hid (W6.heap[sb]?=some (.cells #[.int .i64 mF,.int .i64 (fQ s0 mL),.slice (some ⟨gi,0,none⟩) (bX s0 mL).length Yb] 130 (0,0))):=by rw [Wy];exact l7 _ hne1 (l7 _ hne1 (l7 _ hne1 (aN aar 2 _)))
 have nT:=Hq (Sj.obj DJ (λhx=>Aak));have aed:=Hq (Sj.obj ame (λhx=>Aak));have ru:=Hq (Sj.obj SA (λhx=>Aak))
 have hBs:B<=G.s:=by
  rcases aFX G.s B with h1|h1
  .have h2:=mP.lo G.s h1;rw [fC Aaa,hc4] at h2;omega
  .exact h1
 have alZ:=Hq ((mQ.mono hB).trans (Sj.below (B:=B) (λx hx=>Aak) (aEP hB mQ.size)))
 have amb:=Hq (Apart.keeps (c:=c) (Apart.of_below mQ) mQ.size Sj (λx hx=>by
  have h1:x=sb\/x=G.s:=Aag
  rcases h1 with rfl|rfl
  .left;omega
  .right;omega))
 have aDN:gi < W6.heap.size:=aEU aCi Sj.size;have aEd:w.heap.size+3<=W6.heap.size:=by have:=ay aeu;omega
 have HCO:Hid (∀x,x < w.heap.size->6 < c x->wE gi (bX s0 mL) (newC w.heap.size 9 c) x=9):=λx hx h=>by rw [wF (λhm=>by have:=(cu hm).1;omega),fC hx];exact H9 x h
 have Ey:Hid (∀x,w.heap.size<=x->x≠gi->wE gi (bX s0 mL) (newC w.heap.size 9 c) x=9):=λx hx h=>by rw [wF (λhm=>h (cu hm).1)];exact aX hx
 clear Wy Sj Wx Xx y0 y1 y2 x0 x1 x2 s40 s41 s42 sf c0 c1 c2 c3 c4 c5 c6 c7 c8 hnl DJ ame SA aar mQ;obtain⟨c0,c1,c2,c3,c4,c5,c6,c7,c8⟩:=nine nT;obtain⟨m0,m1,m2,m3,m4,m5,m6⟩:=jM aed;have hnl:=ay nT;have hml:=ay aed;go_upto_region 16 with fail;refine wp_at (λW7 Pv=>?_);have vV:=au W6 (.cells (bQ 2 n.id mF mI 0 ⟨#[]⟩ 0) 70);have ha7:=aEK W6 (.cells (bQ 2 n.id mF mI 0 ⟨#[]⟩ 0) 70);rw [<-Pv] at vV ha7;have aae:=Hq ha7;have rU:=Hq (aj nT vV);have aee:=Hq (aj aed vV);have wB:=Hq (aj ru vV);have aev:=Hq (aj aeu vV);have ajw:=Hq (HIW.below vV);have aeh:=Hq (HNW.kc (k:=9) (KC.of_below vV) Aaa);have ajp:=Hq (alZ.trans (vV.mono (aEP hB Aaa)));have ajy:=Hq (amb.step Aaa vV);obtain⟨ab,hab⟩:∃ab,W6.heap.size=ab:=⟨_,rfl⟩;have aDD:w.heap.size+3<=ab:=Aaa
 have habs:sb < ab:=by have:=ay aeu;omega
 have aDE:gi < ab:=Aaa
 rw [hab] at aae;rw [hab] at *;have hz7:=ay aae;clear Pv vV ha7 c0 c1 c2 c3 c4 c5 c6 c7 c8 m0 m1 m2 m3 m4 m5 m6 hnl hml nT aed ru aeu HIW HNW alZ amb;obtain⟨m0,m1,m2,m3,m4,m5,m6⟩:=jM aee;obtain⟨s70,s71,s72⟩:=CV aev;have hml:=ay aee;have aCM:=ay aev;have ad9:=Hq (λW (ha:bC W (some ⟨gi,0,none⟩) (bX s0 mL))=>Xj (some ⟨gi,0,none⟩) Yb (bX s0 mL) mI W Aaa ha);cases hhas:sQ s0 mL mI
 .clear r1;have hm1:¬mI < fQ s0 mL:=λh=>by unfold sQ at hhas;rw [aEO h] at hhas;simp at hhas
  have hd:decide (mI < fQ s0 mL)=false:=aEN hm1;have hb:hasB (bX s0 mL) mI=false:=Adf
  rw [hb] at ad9;obtain⟨c0,c1,c2,c3,c4,c5,c6,c7,c8⟩:=nine rU;have hnl:=ay rU;open aBP in exact awE
 .obtain rfl:=r1 hhas;clear r1 r2 r3;obtain⟨c0,c1,c2,c3,c4,c5,c6,c7,c8⟩:=nine rU;obtain⟨⟨d0,d1,d2,d3,d4,d5,d6,d7,d8⟩,f0,f1,f2,f3,f4,f5,f6,f7,f8⟩:=iM wB;have hnl:=ay rU;have hrl:=ay wB;by_cases hm:mI < fQ s0 mL
  .have hd:decide (mI < fQ s0 mL)=true:=aEO hm;go_wp2_with fail;exact axy
  .have hd:decide (mI < fQ s0 mL)=false:=aEN hm;have hb:hasB (bX s0 mL) mI=true:=Adf
   rw [hb] at ad9;open aBO in exact awE):P:=h
theorem anV.Aex(h:P:=by
 clear hTi hcT hrT hT hlT T ayP Mc hown2 agm aai agq aap af7 Vo agl af9 agh aek;have aDu:G.s < wc.heap.size:=Aaa
 obtain⟨c0,c1,c2,c3,c4,c5,c6,c7,c8⟩:=nine Vr;obtain⟨s40,s41,s42⟩:=CV aaq;have hnl:=ay Vr;have ayU:=ay aaq;have ayv:Hid ((lq (bX s0 mL) mI).length=(bX s0 mL).length+1):=abT;clear abT;go_upto_region 27 with fail;refine wp_at (λW12 akK=>?_)
 have amj:Hid (NQ W12 B (dU (dU n (n.seen.set i ⟨mF,fQ s0 mL,bX s0 mL⟩)) ((n.seen.set i ⟨mF,fQ s0 mL,bX s0 mL⟩).set i ⟨mF,fQ s0 mL,lq (bX s0 mL) mI⟩)) (⟨a_k,(some ⟨gp,0,none⟩),je,(some ⟨G.s,0,none⟩),jq,dz,fJ,dX,dA,dK⟩:bq) ⟨G.k,G.p,G.o,G.s,G.r,vF (vF G.i i gi) i g2⟩ (wE g2 (lq (bX s0 mL) mI) (wE gi (bX s0 mL) (newC w.heap.size 9 c)))):=by
  rw [akK,<-ah ayv];exact HNP
 have TW:aA [G.s] wc W12:=by
  rw [akK];exact gB [.int .i64 mF,.int .i64 (fQ s0 mL),.slice (some ⟨g2,0,none⟩) ((bX s0 mL).length+1) cq2] wc (i*3)
 have agn:=Hq (TW.obj Vr (λhx=>Aak));have OA:=Hq (TW.obj agr (λhx=>Aak));have alV:=Hq (TW.obj af8 (λhx=>Aak));have alY:=Hq (aga.trans (TW.below (B:=B) (λx hx=>Aak) Aaa));have ama:=Hq (Apart.keeps (c:=c) agi Aaa TW (λx hx=>by have:x=G.s:=Aag;rw [this];right;omega));have aAd:=Hq (amm.keeps TW (λx hx=>Aak));have azU:Hid (∀x,x < w.heap.size->6 < c x->wE g2 (lq (bX s0 mL) mI) (wE gi (bX s0 mL) (newC w.heap.size 9 c)) x=9):=λx hx h=>by rw [wF (λhm=>by have:=(cu hm).1;omega)];exact HCO x hx h
 have al3:Hid (∀x,w.heap.size<=x->x≠gi->x≠g2->wE g2 (lq (bX s0 mL) mI) (wE gi (bX s0 mL) (newC w.heap.size 9 c)) x=9):=λx hx h h'=>by rw [wF (λhm=>h' (cu hm).1)];exact Ey x hx h
 clear akK TW HNP y0 y1 y2 x0 x1 x2 s40 s41 s42 c0 c1 c2 c3 c4 c5 c6 c7 c8 hnl ayU Vr agr af8 aga agi amm aaq aaj HW2;obtain⟨c0,c1,c2,c3,c4,c5,c6,c7,c8⟩:=nine agn;obtain⟨⟨d0,d1,d2,d3,d4,d5,d6,d7,d8⟩,f0,f1,f2,f3,f4,f5,f6,f7,f8⟩:=iM OA;have hnl:=ay agn;have hrl:=ay OA;go_wp2_with fail;refine eH (u1:= .slice (some ⟨ab,0,none⟩) 1 1) (u2:= .int .i64 0) results158 rfl rfl rfl rfl OA (λW' e4 fq=>?_);have ab9:w.heap.size+2≠gi:=Aaa
 have HNF:=Hq (amj.kc (k:=9) (KC.keeps fq (λx hx=>by have:x=w.heap.size+2:=Aag;rw [this];exact al3 _ Aaa ab9 Aaa)) Aaa)
 have HAT:Hid (∀W'',Out c w W' W''->RM W'' (⟨a_k,av,je,(some ⟨G.s,0,none⟩),jq,dz,cv,dX,dA,dK⟩:bq) (dU (setPu n RL) (n.seen.set i ⟨mF,fQ s0 mL,lq (bX s0 mL) mI⟩))):=λW'' ho=>by
  obtain⟨F,hk,hF⟩:=ho
  have hold:=(HNF.kc (k:=9) (KC.keeps hk (λx hx=>azU x (hF x hx).1 (hF x hx).2)) Aaa)
  have ho:Out c w W' W'':=⟨F,hk,hF⟩
  have hc9:∀g,av.map (λy=>y.block)=some g->0 < RL.length->wE g2 (lq (bX s0 mL) mI) (wE gi (bX s0 mL) (newC w.heap.size 9 c)) g=9:=λg hg hp=>by
   have h1:=ah N9 g hg hp
   exact al3 g Aaa Aaa Aaa
  refine NQ.put hold hold (dU (setPu n RL) (n.seen.set i ⟨mF,fQ s0 mL,lq (bX s0 mL) mI⟩)) (⟨a_k,av,je,(some ⟨G.s,0,none⟩),jq,dz,cv,dX,dA,dK⟩:bq) rfl (by simp only[dU,List.set_set]) rfl rfl ((aAd.keeps fq (λx hx=>Aak)).out Aaa ho) (λg hg hp=> .inr (by have h3:=hc9 g hg hp;omega)) hold.o (λy hy=> .inl (hold.co y hy)) hold.r (λy hy=> .inl (hold.cr y hy)) (λg hg hp _=>⟨λe=>?_,λe=>?_⟩) (λx hx h6=>by have:=hold.co x hx;omega)
  .have h1:=hold.co g e;have h2:=hc9 g hg hp;omega
  .have h1:=hold.cr g e;have h2:=hc9 g hg hp;omega
 have Lf:Hid (∀W'',Out c w W' W''->GR.At jh 7 W'' (some ⟨ab,0,none⟩) [⟨2,n.id,mF,mI,0,ByteArray.empty,0⟩]):=λW'' ho j hj=>Ti (fq.obj alV (λhm=>Acm)) ho Aaa j hj
 have qZ:Hid (Below B w W'):=alY.trans (fq.below (λx hx=>by have:x=w.heap.size+2:=Aag;omega) (by have h1:=ay OA;omega));have xS:=Hq (Apart.keeps (c:=c) ama (by have h1:=ay OA;omega) fq (λx hx=>by have:x=w.heap.size+2:=Aag;omega));clear e4 fq;exact⟨(⟨a_k,av,je,(some ⟨G.s,0,none⟩),jq,dz,cv,dX,dA,dK⟩:bq),(some ⟨ab,0,none⟩),⟨1,by simp[gM,dH,dU,setPu]⟩,HAT,Lf,qZ,xS⟩):P:=h
theorem vR(h:P:=by
 obtain⟨id,par,kids,next,pu,out,seen,old,reqs⟩:=n;obtain⟨ak,ap,ao,as',ar,ck,cp,co,cs,cr⟩:=A;exact AaL):P:=h
theorem anW.AaL(h:P:=by
 dsimp only at hl HA HD Lj yt Oo Ey ⊢;cases h1:uV id
 case' false=>
  have HP:=Hq (HD (by rw [h1];rfl));clear HD Lj yt Oo Ey;go_in
  go_wp2_with (first|(go_at_call 121;refine(nQ _ false _ h1).mono ?_;rintro e w1 ⟨rfl,rfl⟩))
  exact xW
 cases h2:decide (-1<=par/\par<=29)
 case' false=>
  have HP:=Hq (HD (by rw [h2];simp));clear HD Lj yt Oo Ey;go_in
  go_wp2_with (first|(go_at_call 121;refine(nQ _ true _ h1).mono ?_;rintro e w1 ⟨rfl,rfl⟩)|(go_at_call 47;refine(yT _ _ _ false _ h2).mono ?_;rintro e w1 ⟨rfl,rfl⟩))
  exact xW
 by_cases h3:par=id
 case' pos=>
  have hb3:(par == id)=true:=by simp[h3]
  have HP:=Hq (HD (by simp[h3]));clear h3 HD Lj yt Oo Ey;exact ahI
 have hb3:(par == id)=false:=by simp[h3]
 by_cases h4:kids.length<=30
 case' neg=>
  have hb4:decide ((30:Int) < kids.length)=true:=aEO Aaa;have HP:=Hq (HD (by simp[h4]));clear HD Lj yt Oo Ey;exact ahI
 have hb4:decide ((30:Int) < kids.length)=false:=aEN Aaa;have mW:=Hq (Lj h1 (aE5 h2) h3 h4);clear HD Lj;open avm in exact ahd):P:=h
theorem anX.AaL(h:P:=by
 dsimp only at hl hl2 HA HS qX HD yt Oo Ey R7 jI ⊢;go_in
 go_upto_if 12 with fail;open ap4 in exact aj6):P:=h
theorem anY.AaL(h:P:=by
 dsimp only at hl HD HA yt jJ zy Vp jI ⊢;clear ha;go_in
 go_upto_region 1 with fail;refine wp_at (λW0 hW0=>?_);have hblk:W0.heap[w.heap.size]?=some (.cells (dH ⟨id,par,kids,next,pu,out,seen,old,reqs⟩ ⟨ak,ap,ao,as',ar,ck,cp,co,cs,cr⟩) 39 (0,0)):=by rw [hW0];exact jI
 have pJ:Hid (aH w W0):=by rw [hW0];exact au w _
 obtain⟨c0,c1,c2,c3,c4,c5,c6,c7,c8⟩:=nine hblk;clear hW0 jI hblk;obtain⟨bb,hbb⟩:∃bb,(!(uV id&&(decide (par= -1)||(uV par&&decide (par≠id)))))=bb:=⟨_,rfl⟩;have eT:=Hq hbb;clear hbb;go_cut [27] (λr wx=>r= .bool bb/\wx=W0)
 case first=>
  cases h1:uV id
  case' false=>
   have HV:=Hq (show bb=true by rw [<-ah eT];simp[h1])
   have H1:=Hq (λw1=>isNode id false w1 h1)
   clear eT h1
   go_wp2_with (go_at_call 187;refine(H1 _).mono ?_;rintro e w1 ⟨rfl,rfl⟩)
   go_meet
   case rel=>exact⟨Aam,rfl⟩
  have H1:=Hq (λw1=>isNode id true w1 h1);by_cases h2:par= -1
  case' pos=>
   have HV:=Hq (show bb=false by rw [<-ah eT];simp[h1,h2])
   have hb2:(par != -1)=false:=by simp[h2]
   clear eT h1 h2
   go_wp2_with (go_at_call 187;refine(H1 _).mono ?_;rintro e w1 ⟨rfl,rfl⟩)
   go_meet
   case rel=>exact⟨Aam,rfl⟩
  have hb2:(par != -1)=true:=by simp[h2]
  cases h3:uV par
  case' false=>
   have HV:=Hq (show bb=true by rw [<-ah eT];simp[h2,h3])
   have H3:=Hq (λw1=>isNode par false w1 h3)
   clear eT h1 h2 h3
   go_wp2_with (first|(go_at_call_of 187 id;refine(H1 _).mono ?_;rintro e w1 ⟨rfl,rfl⟩)|(go_at_call_of 187 par;refine(H3 _).mono ?_;rintro e w1 ⟨rfl,rfl⟩))
   go_meet
   case rel=>exact⟨Aam,rfl⟩
  have H3:=Hq (λw1=>isNode par true w1 h3);by_cases h4:par=id
  case' pos=>
   have HV:=Hq (show bb=true by rw [<-ah eT,aEN h2,aEN (show¬(par≠id) from λh=>h h4)];simp)
   have hb4:(par == id)=true:=by simp[h4]
   subst h4
   clear eT h1 h2 h3
   go_wp2_with (go_at_call 187;refine(H1 _).mono ?_;rintro e w1 ⟨rfl,rfl⟩)
   go_meet
   case rel=>exact⟨Aam,rfl⟩
  have HV:=Hq (show bb=false by rw [<-ah eT];simp[h1,h3,h4]);have hb4:(par == id)=false:=by simp[h4]
  clear eT h1 h2 h3;go_wp2_with (first|(go_at_call_of 187 id;refine(H1 _).mono ?_;rintro e w1 ⟨rfl,rfl⟩)|(go_at_call_of 187 par;refine(H3 _).mono ?_;rintro e w1 ⟨rfl,rfl⟩))
  go_meet
  case rel=>exact⟨Aam,rfl⟩
 case rest=>
  obtain⟨rfl,rfl⟩:=hcut;cases hbv:bb
  case' true=>
   have HP:Hid (TT=false):=by
    have h:=ah eT;rw [hbv] at h;rw [ah HD];generalize (uV id&&(decide (par= -1)||(uV par&&decide (par≠id))))=X at *;cases X
    .rfl
    .cases h
   clear eT HD;subst hbv;go_wp2_with fail;go_ret;exact⟨aF HP.symm,pJ⟩
  have mW:Hid (TT=gV KB iL kids):=by
   have h:=ah eT;rw [hbv] at h;rw [ah HD];generalize (uV id&&(decide (par= -1)||(uV par&&decide (par≠id))))=X at *;cases X
   .cases h
   .rfl
  clear eT HD;subst hbv;go_wp2_with fail;go_loop [3,31] (λlv i=>∃(k:Nat) (y:Int),k<=kids.length/\i= .int .i64 k/\lv= .int .i64 y/\y=yE (λx=>x) (-1) (kids.take k)/\gV KB iL (kids.take k)=true) (λ_ i=>kids.length - (intOf i).toNat)
  case atStart=>exact⟨0,-1,aE1 _,rfl,rfl,rfl,rfl⟩
  case round=>
   obtain⟨k,y,hk,rfl,rfl,hy,hall⟩:=hrel;have jr:=Hq hall;have HY:=Hq hy;clear hall hy;by_cases hlt:k < kids.length
   case' neg=>
    have hke:k=kids.length:=Aaa
    subst hke;have hnlt:decide ((kids.length:Int) < (kids.length:Int))=false:=Aac
    have HF:Hid (TT=true):=by
     exact Wj
    go_wp2_with fail;go_ret;exact⟨aF HF.symm,pJ⟩
   obtain⟨g,off,rfl,hgw,q0⟩:=bC.one (GR.At.below HA pJ) k hlt;have HBAD:Hid (gV KB iL (kids.take (k+1))=false->TT=false):=λh=>mW.trans (yt _ h)
   have iE:Hid (gV KB iL (kids.take (k+1))=(KB kids[k]&&decide (y < kids[k]))):=by
    exact aia
   have zL:=Hq (zy k hlt);have DC:=Hq (Vp kids[k]);clear jJ zy yt Vp;generalize kids[k]=x at *;cases h1:uV x
   case' false=>
    have H1:=Hq (λw1=>isNode x false w1 h1);have HV:=Hq (HBAD (by rw [ah iE,ah DC];simp[h1]));clear HBAD iE DC h1;exact aeT
   have H1:=Hq (λw1=>isNode x true w1 h1);by_cases h2:y < x
   case' neg=>
    have hb2:decide (x<=y)=true:=aEO Aaa;have HV:=Hq (HBAD (by rw [ah iE,ah DC];simp[h2]));clear HBAD iE DC h1;exact aeT
   have hb2:decide (x<=y)=false:=aEN Aaa;by_cases h3:x=id
   case' pos=>
    have hb3:(x == id)=true:=by simp[h3]
    have HV:=Hq (HBAD (by rw [ah iE,ah DC];simp[h3]));clear HBAD iE DC h1 h3;exact aeT
   have hb3:(x == id)=false:=by simp[h3]
   by_cases h4:x=par
   case' pos=>
    have hb4:(x == par)=true:=by simp[h4]
    have HV:=Hq (HBAD (by rw [ah iE,ah DC];simp[h4]));clear HBAD iE DC h1 h4;exact aeT
   have hb4:(x == par)=false:=by simp[h4]
   have HV:=Hq (show gV KB iL (kids.take (k+1))=true by rw [ah iE,ah DC];simp[h1,h2,h3,h4]);clear HBAD iE DC h1;go_wp2_with (go_at_call 187;refine(H1 _).mono ?_;rintro e w1 ⟨rfl,rfl⟩)
   exact aiH):P:=h
theorem anZ.AaL(h:P:=by
 obtain⟨bk,bp,bo,bs',br,dk,dp,dO,ds,dr⟩:=A';dsimp only at HK HP HO HS HR HA0 HB0 pJ ⊢;go_in
 obtain⟨c0,c1,c2,c3,c4,c5,c6,c7,c8⟩:=nine HA0;obtain⟨d0,d1,d2,d3,d4,d5,d6,d7,d8⟩:=nine HB0;go_wp2_with fail;refine(HK _ pJ).mono ?_;rintro e w1 ⟨rfl,hb1⟩;have HA1:=Hq (aj HA0 hb1);open awt in exact aa0):P:=h
theorem an0.AaL(h:P:=by
 dsimp only at OI HTP Oc HTS HTR ⊢;go_in
 go_upto_region 4 with fail;refine wp_at (λW0 hW0=>?_);obtain⟨hP,hR,hO,hB⟩:=zV w (.cells (dH ⟨id,par,kids,next,pu,out,seen,old,reqs⟩ ⟨ak,ap,ao,as',ar,ck,cp,co,cs,cr⟩) 28) (.cells (vW 0 0 none 0 0 0 none 0 0 none 0 0 none 0 0 0 none 0 0) 39) (.cells (vW id par none 0 0 0 none 0 0 none 0 0 none 0 0 0 none 0 0) 39);rw [<-hW0] at hP hR hO hB;have TQ:=Hq (TN.mk hP hR hO (rows:=[]) (λx hx=>by cases hx) hB);clear hP hR hO hB hW0;obtain⟨c0,c1,c2,c3,c4,c5,c6,c7,c8⟩:=nine TQ.par;go_wp2_with fail;refine(OI _ TQ.bel).mono ?_;rintro e w1 ⟨rfl,hblk,hb⟩;have hg:w.heap.size+1+1 < W0.heap.size:=ay (ah TQ).out;have UU:=Hq ((TQ.step hb).add [(W0.heap.size,_)] (λx hx=>by rw [aE3] at hx;subst hx;exact⟨hg,hblk⟩));have o0:=ay hblk;clear hblk hb hg TQ;clear c0 c1 c2 c3 c4 c5 c6 c7 c8;obtain⟨c0,c1,c2,c3,c4,c5,c6,c7,c8⟩:=nine UU.par;obtain⟨d0,d1,d2,d3,d4,d5,d6,d7,d8⟩:=nine (ah UU).out;obtain⟨f0,f1,f2,f3,f4,f5,f6,f7,f8⟩:=oJ ((ah UU).out);go_upto_region 6 with fail;refine wp_at (λW1 hW=>?_);have TQ:=(UU.put 2 (.slice (some ⟨W0.heap.size,0,none⟩) kids.length kids.length)).put 3 (.int .i64 next);rw [<-hW] at TQ;replace TQ:=Hq TQ
 have hzz:W1.heap.size=w1.heap.size:=Aby
 rw [<-hzz] at o0;clear c0 c1 c2 c3 c4 c5 c6 c7 c8 d0 d1 d2 d3 d4 d5 d6 d7 d8 f0 f1 f2 f3 f4 f5 f6 f7 f8;clear hW hzz UU;obtain⟨c0,c1,c2,c3,c4,c5,c6,c7,c8⟩:=nine TQ.par;go_wp2_with fail;refine(HTP _ TQ.bel).mono ?_;rintro e w2 ⟨rfl,hblk,hb⟩;have hg:w.heap.size+1+1 < W1.heap.size:=ay (ah TQ).out;have UU:=Hq ((TQ.step hb).add [(W1.heap.size,_)] (λx hx=>by rw [aE3] at hx;subst hx;exact⟨hg,hblk⟩));have o1:=ay hblk;clear hblk hb hg TQ;clear c0 c1 c2 c3 c4 c5 c6 c7 c8;obtain⟨c0,c1,c2,c3,c4,c5,c6,c7,c8⟩:=nine UU.par;obtain⟨d0,d1,d2,d3,d4,d5,d6,d7,d8⟩:=nine (ah UU).out;obtain⟨f0,f1,f2,f3,f4,f5,f6,f7,f8⟩:=oJ ((ah UU).out);go_upto_region 7 with fail;refine wp_at (λW2 hW=>?_);have TQ:=UU.put 4 (.slice (some ⟨W1.heap.size,0,none⟩) pu.length pu.length);rw [<-hW] at TQ;replace TQ:=Hq TQ
 have hzz:W2.heap.size=w2.heap.size:=Aby
 rw [<-hzz] at o1;clear c0 c1 c2 c3 c4 c5 c6 c7 c8 d0 d1 d2 d3 d4 d5 d6 d7 d8 f0 f1 f2 f3 f4 f5 f6 f7 f8;clear hW hzz UU;obtain⟨c0,c1,c2,c3,c4,c5,c6,c7,c8⟩:=nine TQ.par;go_wp2_with fail;refine(Oc _ TQ.bel).mono ?_;rintro e w3 ⟨rfl,hblk,hb⟩;have hg:w.heap.size+1+1 < W2.heap.size:=ay (ah TQ).out;have UU:=Hq ((TQ.step hb).add [(W2.heap.size,_)] (λx hx=>by rw [aE3] at hx;subst hx;exact⟨hg,hblk⟩));have o2:=ay hblk;clear hblk hb hg TQ;clear c0 c1 c2 c3 c4 c5 c6 c7 c8;obtain⟨c0,c1,c2,c3,c4,c5,c6,c7,c8⟩:=nine UU.par;obtain⟨d0,d1,d2,d3,d4,d5,d6,d7,d8⟩:=nine (ah UU).out;obtain⟨f0,f1,f2,f3,f4,f5,f6,f7,f8⟩:=oJ ((ah UU).out);go_upto_region 8 with fail;refine wp_at (λW3 hW=>?_);have TQ:=UU.put 5 (.slice (some ⟨W2.heap.size,0,none⟩) out.length out.length);rw [<-hW] at TQ;replace TQ:=Hq TQ
 have hzz:W3.heap.size=w3.heap.size:=Aby
 rw [<-hzz] at o2;clear c0 c1 c2 c3 c4 c5 c6 c7 c8 d0 d1 d2 d3 d4 d5 d6 d7 d8 f0 f1 f2 f3 f4 f5 f6 f7 f8;clear hW hzz UU;obtain⟨c0,c1,c2,c3,c4,c5,c6,c7,c8⟩:=nine TQ.par;go_wp2_with fail;refine(HTS _ TQ.bel).mono ?_;rintro e w4 ⟨rfl,⟨TT,II,hblk,hTl,hII,hIm⟩,hb⟩;have hg:w.heap.size+1+1 < W3.heap.size:=ay (ah TQ).out;have Lj:=Hq hTl;have HII:=Hq (λi hi=>(hII i hi).2.2.1);have HIM:=Hq hIm
 have UU:=Hq ((TQ.step hb).add ((W3.heap.size,.cells (GR.flat eP TT).toArray 130 (0,0))::(List.range seen.length).map λi=>(II i,.cells (GR.flat bf (seen.getD i default).ids).toArray 3 (0,0))) (λx hx=>by
  rcases aE8.1 hx with rfl|hx
  .exact⟨hg,hblk⟩
  .obtain⟨i,hi,rfl⟩:=aGk.1 hx;have h:=hII i (aFP.1 hi)
   exact⟨Nat.lt_trans hg h.1,h.2.2.2⟩))
 have o3:W3.heap.size < w4.heap.size/\∀i,i < seen.length->W3.heap.size < II i/\II i < w4.heap.size:=⟨ay hblk,λi hi=>⟨(hII i hi).1,(hII i hi).2.1⟩⟩;clear hblk hb hg hTl hII hIm TQ;clear c0 c1 c2 c3 c4 c5 c6 c7 c8;obtain⟨c0,c1,c2,c3,c4,c5,c6,c7,c8⟩:=nine UU.par;obtain⟨d0,d1,d2,d3,d4,d5,d6,d7,d8⟩:=nine (ah UU).out;obtain⟨f0,f1,f2,f3,f4,f5,f6,f7,f8⟩:=oJ ((ah UU).out);go_upto_region 10 with fail;refine wp_at (λW4 hW=>?_);have TQ:=(UU.put 6 (.slice (some ⟨W3.heap.size,0,none⟩) seen.length seen.length)).put 7 (.int .i64 old);rw [<-hW] at TQ;replace TQ:=Hq TQ
 have hzz:W4.heap.size=w4.heap.size:=Aby
 rw [<-hzz] at o3;clear c0 c1 c2 c3 c4 c5 c6 c7 c8 d0 d1 d2 d3 d4 d5 d6 d7 d8 f0 f1 f2 f3 f4 f5 f6 f7 f8;clear hW hzz UU;obtain⟨c0,c1,c2,c3,c4,c5,c6,c7,c8⟩:=nine TQ.par;go_wp2_with fail;refine(HTR _ TQ.bel).mono ?_;rintro e w5 ⟨rfl,hblk,hb⟩;have hg:w.heap.size+1+1 < W4.heap.size:=ay (ah TQ).out;have UU:=Hq ((TQ.step hb).add [(W4.heap.size,_)] (λx hx=>by rw [aE3] at hx;subst hx;exact⟨hg,hblk⟩));have o4:=ay hblk;clear hblk hb hg TQ;clear c0 c1 c2 c3 c4 c5 c6 c7 c8;obtain⟨c0,c1,c2,c3,c4,c5,c6,c7,c8⟩:=nine UU.par;obtain⟨d0,d1,d2,d3,d4,d5,d6,d7,d8⟩:=nine (ah UU).out;obtain⟨f0,f1,f2,f3,f4,f5,f6,f7,f8⟩:=oJ ((ah UU).out);go_upto_region 11 with fail;refine wp_at (λW5 hW=>?_);have TQ:=UU.put 8 (.slice (some ⟨W4.heap.size,0,none⟩) reqs.length reqs.length);rw [<-hW] at TQ;replace TQ:=Hq TQ
 have hzz:W5.heap.size=w5.heap.size:=Aby
 rw [<-hzz] at o4;clear c0 c1 c2 c3 c4 c5 c6 c7 c8 d0 d1 d2 d3 d4 d5 d6 d7 d8 f0 f1 f2 f3 f4 f5 f6 f7 f8;clear hW hzz UU;obtain⟨d0,d1,d2,d3,d4,d5,d6,d7,d8⟩:=nine (show W5.heap[w.heap.size+1+1]?=some (.cells (dH ⟨id,par,kids,next,pu,out,seen,old,reqs⟩ ⟨some ⟨W0.heap.size,0,none⟩,some ⟨W1.heap.size,0,none⟩,some ⟨W2.heap.size,0,none⟩,some ⟨W3.heap.size,0,none⟩,some ⟨W4.heap.size,0,none⟩,kids.length,pu.length,out.length,seen.length,reqs.length⟩) 39 (0,0)) from(ah TQ).out);obtain⟨r0,r1,r2,r3,r4,r5,r6,r7,r8⟩:=nine TQ.res;obtain⟨f0,f1,f2,f3,f4,f5,f6,f7,f8⟩:=oJ (TQ.res);have hlt:=ay TQ.res;go_wp2_with fail;refine iy (λW' hW'=>?_);have hR:=ac4 (b0:= .int .i64 id) (b1:= .int .i64 par) (b2:= .slice (some ⟨W0.heap.size,0,none⟩) kids.length kids.length) (b3:= .int .i64 next) (b4:= .slice (some ⟨W1.heap.size,0,none⟩) pu.length pu.length) (b5:= .slice (some ⟨W2.heap.size,0,none⟩) out.length out.length) (b6:= .slice (some ⟨W3.heap.size,0,none⟩) seen.length seen.length) (b7:= .int .i64 old) (b8:= .slice (some ⟨W4.heap.size,0,none⟩) reqs.length reqs.length) TQ.res;have hK:=Uu (w:=W5) (g:=w.heap.size+1) (b0:= .int .i64 id) (b1:= .int .i64 par) (b2:= .slice (some ⟨W0.heap.size,0,none⟩) kids.length kids.length) (b3:= .int .i64 next) (b4:= .slice (some ⟨W1.heap.size,0,none⟩) pu.length pu.length) (b5:= .slice (some ⟨W2.heap.size,0,none⟩) out.length out.length) (b6:= .slice (some ⟨W3.heap.size,0,none⟩) seen.length seen.length) (b7:= .int .i64 old) (b8:= .slice (some ⟨W4.heap.size,0,none⟩) reqs.length reqs.length);rw [<-hW'] at hR hK;clear d0 d1 d2 d3 d4 d5 d6 d7 d8 r0 r1 r2 r3 r4 r5 r6 r7 r8 f0 f1 f2 f3 f4 f5 f6 f7 f8 hW';obtain⟨x0,x1,x2,x3,x4,x5,x6,x7,x8⟩:=nine hR;have hrow:=TQ.rows;have eT:=TQ.bel.trans (hK.below (B:=w.heap.size) (λx hx=>Aak) TQ.bel.size);have q0:=hrow _ (aFc _ (aFc _ (aFc _ (aFc _ (aFh _ (aE3.2 rfl))))));have q1:=hrow _ (aFc _ (aFc _ (aFc _ (aFh _ (aE3.2 rfl)))));have q2:=hrow _ (aFc _ (aFc _ (aFh _ (aE3.2 rfl))));have q3:=hrow _ (aFc _ (aFh _ (List.mem_cons_self ..)));have q4:=hrow _ (aFh _ (aE3.2 rfl));have q5:=λi (hi:i < seen.length)=>hrow (II i,_) (aFc _ (aFh _ (aGP _ (aGk.2 ⟨i,aFP.2 hi,rfl⟩))))
 dsimp only at q0 q1 q2 q3 q4 q5;obtain⟨o3,o3i⟩:=o3;refine aET (v:=gM ⟨id,par,kids,next,pu,out,seen,old,reqs⟩ ⟨some ⟨W0.heap.size,0,none⟩,some ⟨W1.heap.size,0,none⟩,some ⟨W2.heap.size,0,none⟩,some ⟨W3.heap.size,0,none⟩,some ⟨W4.heap.size,0,none⟩,kids.length,pu.length,out.length,seen.length,reqs.length⟩) (by simp[results,results25,go_sem,x0,x1,x2,x3,x4,x5,x6,x7,x8]) rfl ⟨_,rfl,⟨W0.heap.size,W1.heap.size,W2.heap.size,W3.heap.size,W4.heap.size,II⟩,?_,?_,eT⟩
 .refine gU.keeps (w:=W5) (F:=[w.heap.size+1]) ⟨GR.W.of_blk aW q0.2,GR.W.of_blk aP q1.2,GR.W.of_blk aR q2.2,dZ.of q3.2 Lj (λi hi=>⟨HII i hi,(q5 i hi).2⟩),GR.W.of_blk aV q4.2⟩ hK (λx hx=>?_)
  have hx':w.heap.size+1+1 < x:=by
   rcases aK.mem_all.1 hx with h|h|h|h|h|h
   .rw [(cu h).1];exact q0.1
   .rw [(cu h).1];exact q1.1
   .rw [(cu h).1];exact q2.1
   .rw [(cu h).1];exact q3.1
   .obtain⟨i,hi,rfl,_⟩:=rY h;exact(q5 i hi).1
   .rw [(cu h).1];exact q4.1
  simp;omega
 .have hs5:=hK.size;have o4':=o4
  have hI:∀x∈mX II seen,W3.heap.size < x/\x < W4.heap.size:=λx hx=>by
   obtain⟨i,hi,rfl,_⟩:=rY hx
   exact o3i i hi
  refine⟨?_,λx hx=>?_⟩
  .unfold aK.all;dsimp only;rw [aFW,aFW,aFW,aFW,aFW];refine⟨jD _ _,⟨jD _ _,⟨jD _ _,⟨jD _ _,⟨afc HIM,jD _ _,?_⟩,?_⟩,?_⟩,?_⟩,?_⟩
   all_goals
    intro a ha b hb
    (try simp only[aE6] at hb)
   .have:=hI a ha;rw [(cu hb).1];omega
   .rw [(cu ha).1];rcases hb with hb|hb
    .have:=hI b hb;omega
    .rw [(cu hb).1];omega
   .rw [(cu ha).1];rcases hb with hb|hb|hb
    .rw [(cu hb).1];omega
    .have:=hI b hb;omega
    .rw [(cu hb).1];omega
   .rw [(cu ha).1];rcases hb with hb|hb|hb|hb
    .rw [(cu hb).1];omega
    .rw [(cu hb).1];omega
    .have:=hI b hb;omega
    .rw [(cu hb).1];omega
   .rw [(cu ha).1];rcases hb with hb|hb|hb|hb|hb
    .rw [(cu hb).1];omega
    .rw [(cu hb).1];omega
    .rw [(cu hb).1];omega
    .have:=hI b hb;omega
    .rw [(cu hb).1];omega
  .have hq:=q0.1;rcases aK.mem_all.1 hx with h|h|h|h|h|h
   .rw [(cu h).1];dsimp only;omega
   .rw [(cu h).1];dsimp only;omega
   .rw [(cu h).1];dsimp only;omega
   .rw [(cu h).1];dsimp only;omega
   .have:=hI x h;omega
   .rw [(cu h).1];dsimp only;omega):P:=h
theorem an1.AaL(h:P:=by
 dsimp only at N9 HPU Oc R7 HOT Ow HD jI ⊢;have hlo:=hz.o;have hlr:=hz.r;dsimp only at hlo hlr;clear ha hz;go_in
 go_upto_region 1 with fail;open ap3 in exact aj6):P:=h
theorem an2.AaL(h:P:=by
 dsimp only at hlo HD yt jJ zy HLB Vp jI ⊢;generalize (λs t:Rq=>iL s.no t.no)=RR at *;cases h1:rA old
 case' false=>
  have HP:=Hq (show TT=false by rw [ah HD,h1];rfl);have H1:=Hq (λw1=>kD old false w1 h1);exact ain
 have H1:=Hq (λw1=>kD old true w1 h1);have hold:0<=old/\old<=1000000000:=aE5 h1;obtain⟨ho1,ho2⟩:=hold;by_cases h0:reqs.length<=30
 case' neg=>
  have HP:=Hq (show TT=false by rw [ah HD,aEN h0];simp);have hb0:decide ((30:Int) < reqs.length)=true:=aEO Aaa;exact ain
 have hb0:decide ((30:Int) < reqs.length)=false:=aEN Aaa;have mW:Hid (TT=gV KB RR reqs):=by rw [ah HD,h1,aEO h0];rfl
 clear HD h1;go_in
 go_wp2_with (go_at_call 193;refine(H1 _).mono ?_;rintro e w9 ⟨rfl,rfl⟩)
 go_loopw [3,21] (λlv i wr=>∃(k:Nat) (y:Int),k<=reqs.length/\i= .int .i64 k/\lv= .int .i64 y/\y=yE (λs=>s.no) old (reqs.take k)/\gV KB RR (reqs.take k)=true/\wr.heap[w.heap.size]?=some (.cells (dH ⟨id,par,kids,next,pu,out,seen,old,reqs⟩ ⟨ak,ap,ao,as',ar,ck,cp,co,cs,cr⟩) 39 (0,0))/\aH w wr) (λ_ i _=>reqs.length - (intOf i).toNat)
 case atStart=>exact⟨0,old,aE1 _,rfl,rfl,rfl,rfl,jI,au w _⟩
 case round=>
  open au2 in exact ag9):P:=h
theorem an3.AaL(h:P:=by
 dsimp only at hlo HD yt jJ zy HLB Vp R7 jI ⊢;generalize (λs t:jC=>iL s.i t.i)=RR at *;by_cases h0:out.length<=40
 case' neg=>
  have HP:=Hq (show TT=false by rw [ah HD,aEN h0];rfl);have hb0:decide ((40:Int) < out.length)=true:=aEO Aaa;go_in
  go_wp2_with fail;exact xW
 have hb0:decide ((40:Int) < out.length)=false:=aEN Aaa;have mW:Hid (TT=gV KB RR out):=by rw [ah HD,aEO h0];rfl
 clear HD;go_in
 go_wp2_with fail;go_loopw [3,13] (λlv i wr=>∃(k:Nat) (y:Int),k<=out.length/\i= .int .i64 k/\lv= .int .i64 y/\y=yE (λs=>s.i) 0 (out.take k)/\gV KB RR (out.take k)=true/\wr.heap[w.heap.size]?=some (.cells (dH ⟨id,par,kids,next,pu,out,seen,old,reqs⟩ ⟨ak,ap,ao,as',ar,ck,cp,co,cs,cr⟩) 39 (0,0))/\aH w wr) (λ_ i _=>out.length - (intOf i).toNat)
 case atStart=>exact⟨0,0,aE1 _,rfl,rfl,rfl,rfl,jI,au w _⟩
 case round=>
  open au1 in exact ag9):P:=h
theorem an4.AaL(h:P:=by
 dsimp only at hl HC jI Sw ⊢;clear ha;go_in
 go_wp2_with fail;refine HC.mono ?_;rintro e w1 ⟨v,rfl,hown,hb1⟩;have HB1:=Hq ((au w _).trans (hb1.mono Aac));have Hz:=Hq (GR.own_lower (b':=w.heap.size) hown Aac);obtain⟨c0,c1,_⟩:=nine (aj jI hb1);clear hown hb1 HC;go_upto_if 9 with fail;go_cut [3] (λr wx=>wx.ownsRow w.heap.size 3 1 r NB.length (GR.flat bf NB)/\aH w wx)
 case first=>
  by_cases hp:par= -1
  .have hb:(par != -1)=false:=by simp[hp]
   have HE:=Hq (Sw.1 hp);clear hp;go_wp2_with fail;go_meet
   case rel=>exact⟨by rw [ah HE];exact Hz,HB1⟩
  .have hb:(par != -1)=true:=by simp[hp]
   have HE:=Hq (Sw.2 hp);clear hp;have ho:=ah Hz;go_wp2_with (at_builtin;refine aFG _ rfl _ _ 22 rfl w.heap.size 3 i0 (.int .i64 0) 1 8 underlying22 hi hz0 hz1 hz2 rfl Aae _ _ _ rfl (ho.alloc _) ⟨w1.heap.size,0,none⟩ 1 1 [.int .i64 par] rfl rfl ?c1 ?c2 ?c3 ?c4 ?c5 ?_)
   case c1=>exact cell_one_new _ _ _
   case c2=>intro u hu;simp at hu;subst hu;rfl
   case c3=>unfold maxLen;omega
   case c4=>omega
   case c5=>have:=HB1.size;simp;omega
   intro v' w6 hown' hgrow _;have yj:=Hq (GR.below_append HB1 HB1.size ho hgrow)
   have HO6:Hid (w6.ownsRow w.heap.size 3 1 v' NB.length (GR.flat bf NB)):=by
    rw [ah HE,GR.flat_append,aER];exact hown'
   clear hgrow ho hown';go_wp2_with fail;go_meet
   case rel=>exact⟨HO6,yj⟩
 case rest=>
  obtain⟨ho,hb⟩:=hcut;have HS:=Hq (afS w.heap.size _ NB wc hln hb.size ho);have HB2:=Hq hb;clear ho hb c0 c1;go_wp2_with fail;refine HS.mono ?_;rintro e w3 ⟨rfl,ho3,hb3⟩;have EF:=Hq ho3;have HB3:=Hq (HB2.trans hb3);clear ho3 hb3;go_wp2_with fail;go_ret;exact⟨_,rfl,EF,HB3⟩):P:=h
theorem an5.AaL(h:P:=by
 dsimp only at N9 HPU HOT HSE HRE HD jI ⊢;go_in
 go_upto_region 1 with fail;open ap2 in exact aj6):P:=h
theorem an6.AaL(h:P:=by
 dsimp only at hls HA HD HSK Sw jI ⊢;go_in
 go_wp2_with fail;refine Sw.mono ?_;rintro e w1 ⟨v,rfl,hown,hb1⟩;have HB1:=Hq ((au w _).trans (hb1.mono Aac));have BJ:=Hq (aj jI hb1);have hFL:=ah zy;subst hFL;obtain⟨fa,fc,rfl,hF⟩:=GR.own_at (enc:=bf) (sz:=1) aW hown;have HF:=Hq hF;obtain⟨c0,c1,c2,c3,c4,c5,c6,c7,c8⟩:=nine BJ;clear hown hb1 Sw jI zy hF;by_cases hlen:seen.length=F.length
 case' neg=>
  have hbn:((seen.length:Int) != (F.length:Int))=true:=Aah
  have HP:=Hq (show TT=false by
   rw [ah HD,aEN (show¬seen.map (·.f)=F from λh=>hlen (by rw [<-h,aFL]))]
   rfl)
  clear HD;go_wp2_with fail;go_ret;exact⟨aF HP.symm,HB1⟩
 have hbn:((seen.length:Int) != (F.length:Int))=false:=Aah
 have zL:=Hq hlen;clear hlen;go_wp2_with fail;go_loopw [17] (λi wr=>∃k:Nat,k<=seen.length/\i= .int .i64 k/\(seen.take k).map (·.f)=F.take k/\(seen.take k).all vX=true/\aH w1 wr) (λi _=>seen.length - (intOf i).toNat)
 case atStart=>exact⟨0,aE1 _,rfl,rfl,rfl,aEY _ _⟩
 case round=>
  obtain⟨k,hk,rfl,hm,hall,hbx⟩:=hrel;have HM:=Hq hm;have jr:=Hq hall;have jI:=Hq hbx;have Hu:=Hq (aj BJ hbx);have aY:=Hq (HB1.trans (hbx.mono HB1.size));clear hm hall hbx;by_cases hlt:k < seen.length
  case' neg=>
   have hke:k=seen.length:=Aaa
   subst hke;have hnlt:decide ((seen.length:Int) < (seen.length:Int))=false:=Aac
   have HP:=Hq (show TT=true by
    have h1:=ah HM
    have h2:=ah jr
    rw [aFd] at h1 h2
    rw [ah zL,aFd] at h1
    rw [ah HD,aEO h1,h2]
    rfl)
   go_wp2_with fail;go_ret;exact⟨aF HP.symm,aY⟩
  have aCr:k < F.length:=by rw [<-ah zL];exact hlt
  obtain⟨g,off,b,c,e0,hgw,q0,q1,q2,hI⟩:=gZ.below (bY.s HA) aY k hlt;obtain⟨g2,off2,e2,akS,p0⟩:=bC.one (GR.At.below HF jI) k aCr;(try dsimp only at e0 q0 q1 q2 hI)
  subst e0 e2;have xY:=ah HSK _ (aE2 hlt);have HI:=Hq hI;have HST:=Hq (λh3 h4=>Zt hlt zL.symm HM jr h3 h4);have zC:=Hq (λh3=>Zq (F:=F) hlt zL.symm h3);have JN:=Hq (λh4=>Zr hlt h4);clear hI;generalize seen[k]=sk at *;generalize F[k]=y at *;obtain⟨fr,lo,ids⟩:=sk;dsimp only at q0 q1 q2 HI xY HST zC JN;go_upto_region 7 with fail;open avx in exact ahi):P:=h
theorem an7.AaL(h:P:=by
 obtain⟨si,st,sx,sn⟩:=s;dsimp only at hl HA HLY zy zL HP HR HO HB ⊢;obtain⟨c0,c1,c2,c3,c4,c5,c6,c7,c8⟩:=nine HP;obtain⟨d0,d1,d2,d3⟩:=iD HR;go_in
 go_wp2_with fail;go_loopw [5,13] (λlv i wr=>∃k:Nat,k<=out.length/\i= .int .i64 k/\lv= .int .i64 si/\(out.take k).find? (λo=>decide (o.t=st))=none/\Below (((w.alloc (.cells (dH ⟨id,par,kids,next,pu,out,seen,old,reqs⟩ ⟨ak,ap,ao,as',ar,ck,cp,co,cs,cr⟩) 39)).alloc (.cells (gI si st sx sn) 145)).alloc (.cells zm7 70)).heap.size (((w.alloc (.cells (dH ⟨id,par,kids,next,pu,out,seen,old,reqs⟩ ⟨ak,ap,ao,as',ar,ck,cp,co,cs,cr⟩) 39)).alloc (.cells (gI si st sx sn) 145)).alloc (.cells zm7 70)) wr) (λ_ i _=>out.length - (intOf i).toNat)
 case atStart=>exact⟨0,aE1 _,rfl,rfl,rfl,aEY _ _⟩
 case round=>
  obtain⟨k,hk,rfl,rfl,hno,hbx⟩:=hrel;have HN:=Hq hno;have wu:=Hq (aj HP hbx);have HR1:=Hq (aj HR hbx);have Hz:=Hq (aj HO hbx);have HB1:=Hq (HB.trans (hbx.mono HB.size));have jI:=Hq hbx;clear hno hbx c0 c1 c2 c3 c4 c5 c6 c7 c8 d0 d1 d2 d3;obtain⟨c0,c1,c2,c3,c4,c5,c6,c7,c8⟩:=nine wu;obtain⟨d0,d1,d2,d3⟩:=iD HR1;have hrz:=ay Hz;have aD9:w.heap.size+1 < wr.heap.size:=Aaa
  have aD8:w.heap.size < wr.heap.size:=Aaa
  by_cases hlt:k < out.length
  .obtain⟨g,off,e0,hgw,q0,q1,q2,q3⟩:=SentAt.four (GR.At.below HA HB1) k hlt;(try dsimp only at e0 q0 q1 q2 q3)
   subst e0;by_cases ht:(out[k]).t=st
   .have HY:=Hq (HLY k hlt HN ht);have hb:((out[k]).t == st)=true:=by simp[ht]
    clear ht HLY zy zL;generalize out[k]=sk at *;obtain⟨ui,ut,ux,un⟩:=sk;dsimp only at q0 q1 q2 q3 hb HY;have hyy:=ah HY;subst hyy;go_upto_region 8 with fail;refine wp_at (λW3 hW3=>?_);have hbw:aH wr W3:=by rw [hW3];exact au wr _
    open aoX in exact awM
   .have HS:=Hq (zy k hlt HN ht);have hb:((out[k]).t == st)=false:=by simp[ht]
    clear ht HLY zy zL;generalize out[k]=sk at *;obtain⟨ui,ut,ux,un⟩:=sk;dsimp only at q0 q1 q2 q3 hb;go_wp2_with fail;go_roundw
    case rel=>exact⟨k+1,Aaa,Aaf,rfl,HS,jI.alloc jI.size _⟩
    case measure=>simp[intOf];omega
  .open aqa in exact aa4):P:=h
theorem an8.AaL(h:P:=by
 dsimp only at hl HA HLY zy zL c0 c1 c2 c3 c4 c5 c6 c7 c8 ⊢;go_in
 go_wp2_with fail;go_loop [7] (λi=>∃k:Nat,k<=out.length/\i= .int .i64 k/\(out.take k).find? (λo=>decide (o.t=t))=none) (λi=>out.length - (intOf i).toNat)
 case atStart=>exact⟨0,aE1 _,rfl,rfl⟩
 case round=>
  obtain⟨k,hk,rfl,hno⟩:=hrel;have HN:=Hq hno;clear hno;by_cases hlt:k < out.length
  .obtain⟨g,off,e0,hgw,q0,q1,q2,q3⟩:=SentAt.four HA k hlt;subst e0;by_cases ht:(out[k]).t=t
   .have HY:=Hq (HLY k hlt HN ht);have hb:((out[k]).t == t)=true:=by simp[ht]
    clear ht HLY zy zL;generalize out[k]=sk at *;obtain⟨si,st,sx,sn⟩:=sk;dsimp only at q0 q1 q2 q3 hb HY;go_wp2_with fail;go_ret;exact⟨mD HY.symm,au w _⟩
   .have HS:=Hq (zy k hlt HN ht);have hb:((out[k]).t == t)=false:=by simp[ht]
    clear ht HLY zy zL;generalize out[k]=sk at *;obtain⟨si,st,sx,sn⟩:=sk;dsimp only at q0 q1 q2 q3 hb;go_wp2_with fail;go_round
    case rel=>exact⟨k+1,Aaa,Aaf,HS⟩
    case measure=>simp[intOf];omega
  .open ap9 in exact aa4):P:=h
theorem an9.AaL(h:P:=by
 obtain⟨si,st,sx,sn⟩:=s;dsimp only at hl HLW hP hR hO hB ⊢;have HP:=Hq hP;have HR:=Hq hR;have HO:=Hq hO;have HB:=Hq hB;clear ha hP hR hO hB HPM;go_in
 go_upto_region 1 with fail;refine wp_at (λW hW=>?_);rw [<-hW] at HP HR HO HB;have az5:=Hq (HLW W HB);have hz2:w.heap.size+1+1 < W.heap.size:=ay HO;have hz1:w.heap.size+1 < W.heap.size:=Aaa
 have hz0:w.heap.size < W.heap.size:=Aaa
 have hne0:w.heap.size+1+1≠w.heap.size:=Aaa
 have hne1:w.heap.size+1+1≠w.heap.size+1:=Aaa
 clear hW HLW;obtain⟨c0,c1,c2,c3,c4,c5,c6,c7,c8⟩:=nine HP;obtain⟨d0,d1,d2,d3⟩:=iD HR
 go_region_held (λw'=>(w'.cell? ⟨w.heap.size,0,none⟩=some (.int .i64 id)/\w'.cell? ⟨w.heap.size,1,none⟩=some (.int .i64 par)/\w'.cell? ⟨w.heap.size,2,none⟩=some (.slice ak kids.length ck)/\w'.cell? ⟨w.heap.size,3,none⟩=some (.int .i64 next)/\w'.cell? ⟨w.heap.size,4,none⟩=some (.slice ap pu.length cp)/\w'.cell? ⟨w.heap.size,5,none⟩=some (.slice ao out.length co)/\w'.cell? ⟨w.heap.size,6,none⟩=some (.slice as' seen.length cs)/\w'.cell? ⟨w.heap.size,7,none⟩=some (.int .i64 old)/\w'.cell? ⟨w.heap.size,8,none⟩=some (.slice ar reqs.length cr))/\w'.cell? ⟨w.heap.size+1,0,none⟩=some (.int .i64 si)/\w'.cell? ⟨w.heap.size+1,1,none⟩=some (.int .i64 st)/\w'.cell? ⟨w.heap.size+1,2,none⟩=some (.string sx)/\w'.cell? ⟨w.heap.size+1,3,none⟩=some (.int .i64 sn)) (first|go_keep|(refine⟨⟨?_,?_,?_,?_,?_,?_,?_,?_,?_⟩,?_,?_,?_,?_⟩<;>first|exact aB1 hne0 (by assumption)|exact aB1 hne1 (by assumption)))
  (first
   |(go_at_call 185;refine(az5 W.drew rfl).mono ?_;rintro e w5 ⟨rfl,hb5⟩;have hb6:aH W w5:=⟨hb5.os,hb5.tape,hb5.output,hb5.size,hb5.block⟩;clear hb5;have JJ:=Hq (aj HP hb6);have XC:=Hq (aj HR hb6);have JI:=Hq (aj HO hb6);have gQ:=Hq (HB.trans (hb6.mono HB.size));clear hb6;obtain⟨y0,y1,y2,y3,y4,y5,y6,y7,y8⟩:=nine JJ;obtain⟨z0,z1,z2,z3⟩:=iD XC;obtain⟨r0,r1,r2,r3,r4,r5,r6⟩:=jM JI;have f0:=aC JI 0;have f1:=aC JI 1;have f2:=aC JI 2;have f3:=aC JI 3;have f4:=aC JI 4;have f5:=aC JI 5;have f6:=aC JI 6))
 all_goals
  go_wp2_with fail
  refine iy (λW' hW'=>?_)
  have hR:=zo (b0:= .int .i64 1) (b1:= .int .i64 id) (b2:= .int .i64 st) (b3:= .int .i64 si) (b4:= .int .i64 LO) (b5:= .string sx) (b6:= .int .i64 sn) JI
  have hK:=vG (w:=w5) (g:=w.heap.size+1+1) (b0:= .int .i64 1) (b1:= .int .i64 id) (b2:= .int .i64 st) (b3:= .int .i64 si) (b4:= .int .i64 LO) (b5:= .string sx) (b6:= .int .i64 sn)
  rw [<-hW'] at hR hK
  obtain⟨x0,x1,x2,x3,x4,x5,x6⟩:=jM hR
  refine aET (v:= .agg (bQ 1 id st si LO sx sn)) (by simp[results,results157,go_sem,x0,x1,x2,x3,x4,x5,x6]) rfl ⟨rfl,gQ.trans (hK.below (λx hx=>by have:x=w.heap.size+1+1:=Aag;omega) gQ.size)⟩):P:=h
theorem aoa.AaL(h:P:=by
 dsimp only at hlo HAO Lh mW Iq N9 ⊢;go_in
 go_upto_region 1 with fail;refine wp_at (λW0 hW0=>?_);rw [<-hW0] at Lh;have HB0:Hid (aH w W0):=by rw [hW0];exact au w _
 have afk:w.heap.size < W0.heap.size:=ay Lh;have aD4:w.heap.size≠W0.heap.size:=Aaa
 clear hW0;have amd:Hid ((W0.alloc (.cells #[] 70)).ownsRow W0.heap.size 70 7 (.slice (some ⟨W0.heap.size,0,none⟩) 0 0) 0 []):=aFw (base:=W0.heap.size) (e:=70) (size:=7) W0 #[] 0 (aEM _) Aae rfl;go_wp2_with fail;go_loopw [3,4] (λov i wr=>∃(k:Nat) (va:Option Addr) (vc:Nat),k<=out.length/\i= .int .i64 k/\ov= .slice va k vc/\wr.ownsRow W0.heap.size 70 7 (.slice va k vc) k (GR.flat jh ((out.take k).map PM))/\aH W0 wr/\(0 < k->OK=true)) (λ_ i _=>out.length - (intOf i).toNat)
 case atStart=>exact⟨0,some ⟨W0.heap.size,0,none⟩,0,aE1 _,rfl,rfl,amd,au W0 _,λh=>Aaa⟩
 case round=>
  obtain⟨k,va,vc,hk,rfl,rfl,hown,hbel,hpos⟩:=hrel;have HO:=Hq hown;have aY:=Hq hbel;have HW:=Hq (HB0.trans (hbel.mono HB0.size));have wu:=Hq (aj Lh hbel);clear hown hbel amd;obtain⟨c0,c1,c2,c3,c4,c5,c6,c7,c8⟩:=nine wu;by_cases hlt:k < out.length
  .obtain⟨g,off,e0,hg,q0,q1,q2,q3⟩:=SentAt.four (GR.At.below HAO HB0) k hlt;subst e0;have amk:=Hq (mW wr HW);go_wp2_with fail;refine amk.mono ?_;rintro e w4 ⟨rfl,hb4⟩;have HO4:=Hq (GR.own_below HO hb4);have Ew:=Hq (aY.trans (hb4.mono aY.size));clear hb4 amk c0 c1 c2 c3 c4 c5 c6 c7 c8 wu aY HW HO;have Sb:=Hq (aj Lh Ew);have HW4:=Hq (HB0.trans (Ew.mono HB0.size));cases hOK:OK
   .have hk0:k=0:=by
     rcases Nat.eq_zero_or_pos k with h|h
     .exact h
     .exact absurd (hpos h) (by rw [hOK];simp)
    subst hk0;have HE:Hid (L=[]):=by rw [ah N9,hOK];rfl
    clear hpos hOK N9;go_wp2_with fail;go_ret;rw [ah HE];exact BI.of_own rfl HO4 Aaa HW4
   .clear hpos;have ajG:=Hq (Iq out[k] w4 HW4);have HT:=Hq (show(out.take (k+1)).map PM=(out.take k).map PM++[PM out[k]] by rw [aEV hlt,List.map_append];rfl);generalize out[k]=sk at *;generalize PM sk=mk at *;obtain⟨si,st,sx,sn⟩:=sk;obtain⟨mK,mF,mT,mI,mL,mk,mN⟩:=mk;dsimp only at q0 q1 q2 q3;have HQ0:=Hq q0;have HQ1:=Hq q1;have HQ2:=Hq q2;have HQ3:=Hq q3;have x0:=(Ew.cell (p:=⟨g,off+k*4,none⟩) hg).trans q0;have x1:=(Ew.cell (p:=⟨g,off+k*4+1,none⟩) hg).trans q1;have x2:=(Ew.cell (p:=⟨g,off+k*4+2,none⟩) hg).trans q2;have x3:=(Ew.cell (p:=⟨g,off+k*4+3,none⟩) hg).trans q3;clear q0 q1 q2 q3;obtain⟨c0,c1,c2,c3,c4,c5,c6,c7,c8⟩:=nine Sb;go_wp2_with fail
    go_region_held_law (λw'=>(w'.cell? ⟨w.heap.size,0,none⟩=some (.int .i64 id)/\w'.cell? ⟨w.heap.size,1,none⟩=some (.int .i64 par)/\w'.cell? ⟨w.heap.size,2,none⟩=some (.slice ak kids.length ck)/\w'.cell? ⟨w.heap.size,3,none⟩=some (.int .i64 next)/\w'.cell? ⟨w.heap.size,4,none⟩=some (.slice ap pu.length cp)/\w'.cell? ⟨w.heap.size,5,none⟩=some (.slice (some ⟨g,off,none⟩) out.length co)/\w'.cell? ⟨w.heap.size,6,none⟩=some (.slice as' seen.length cs)/\w'.cell? ⟨w.heap.size,7,none⟩=some (.int .i64 old)/\w'.cell? ⟨w.heap.size,8,none⟩=some (.slice ar reqs.length cr))/\w'.cell? ⟨g,off+k*4,none⟩=some (.int .i64 si)/\w'.cell? ⟨g,off+k*4+1,none⟩=some (.int .i64 st)/\w'.cell? ⟨g,off+k*4+2,none⟩=some (.string sx)/\w'.cell? ⟨g,off+k*4+3,none⟩=some (.int .i64 sn)) (go_keep)
     (first
      |((go_at_call 157);(refine(ajG w4.drew rfl).mono ?_);(rintro e w5 ⟨rfl,hb5⟩);(have hb6:aH w4 w5:=⟨hb5.os,hb5.tape,hb5.output,hb5.size,hb5.block⟩);(clear hb5);(have JI:=Hq (GR.own_below HO4 hb6));(have fI:=Hq (Ew.trans (hb6.mono Ew.size)));(clear hb6);(have JJ:=Hq (aj Lh fI));(obtain⟨y0,y1,y2,y3,y4,y5,y6,y7,y8⟩:=nine JJ);(have u0:=(fI.cell (p:=⟨g,off+k*4,none⟩) hg).trans HQ0);(have u1:=(fI.cell (p:=⟨g,off+k*4+1,none⟩) hg).trans HQ1);(have u2:=(fI.cell (p:=⟨g,off+k*4+2,none⟩) hg).trans HQ2);(have u3:=(fI.cell (p:=⟨g,off+k*4+3,none⟩) hg).trans HQ3))
      |((refine CS _ rfl (.tmp 17) (.tmp 25) 40 rfl W0.heap.size 70 i0 (.agg (bQ 0 0 0 0 0 ByteArray.empty 0)) 7 64 underlying40 hi hz0 hz1 hz2 rfl Aae (.slice va k vc) k (GR.flat jh ((out.take k).map PM)) Aao (JI.alloc _) ⟨w5.heap.size,0,none⟩ 1 1 (jh ⟨mK,mF,mT,mI,mL,mk,mN⟩) Aao rfl (aFA (aEK w5 _)) (Pk _) Aaj Aaa (aEP fI.size Aac) ?_);(intro v6 w6 hown6 rD PI);(have J5:w6.ownsRow W0.heap.size 70 7 v6 (k+1) (GR.flat jh ((out.take (k+1)).map PM)):=by rw [ah HT,jk];exact hown6);(obtain⟨va6,vc6,hv6,_⟩:=GR.own_at (enc:=jh) (sz:=7) (l:=(out.take (k+1)).map PM) jT (by rw [aFL,aFf,aFU Aaa];exact J5));(rw [aFL,aFf,aFU Aaa] at hv6);(subst hv6);(have HO6:=Hq J5);(have Oh:=Hq (show aH W0 w6 from(fI.alloc fI.size _).trans (LY rD (λk e=>(JI.lt k e).1) (aEP fI.size Aac))));(clear hown6 rD PI J5);(have HP6:=Hq (aj Lh Oh));(obtain⟨z0,z1,z2,z3,z4,z5,z6,z7,z8⟩:=nine HP6);(have t0:=(Oh.cell (p:=⟨g,off+k*4,none⟩) hg).trans HQ0);(have t1:=(Oh.cell (p:=⟨g,off+k*4+1,none⟩) hg).trans HQ1);(have t2:=(Oh.cell (p:=⟨g,off+k*4+2,none⟩) hg).trans HQ2);(have t3:=(Oh.cell (p:=⟨g,off+k*4+3,none⟩) hg).trans HQ3))
      |fail)
    all_goals
     go_wp2_with fail
     go_roundw
     case rel=>exact⟨k+1,va6,vc6,Aaa,Aaf,rfl,HO6,Oh,λ_=>hOK⟩
     case measure=>simp[intOf];omega
  .open ap8 in exact aa4):P:=h
theorem aob.AaL(h:P:=by
 dsimp only at HK HP HO HS HR HQ jI hkl ⊢;go_in
 go_wp2_with fail;refine(HK _ _ Aaa Aaa).mono ?_;rintro e w0 ⟨rfl,rfl⟩;have pJ:=Hq (au w (.cells (dH ⟨id,par,kids,next,pu,out,seen,old,reqs⟩ ⟨ak,ap,ao,as',ar,ck,cp,co,cs,cr⟩) 28));have HB0:=Hq jI;obtain⟨z0,hz0⟩:∃zz:Int,(if (kids.length:Int)<=z then z - (kids.length:Int) else -1)=zz:=⟨_,rfl⟩;rw [hz0];by_cases hk:(kids.length:Int)<=z
 case' neg=>
  rw [aEX hk] at hz0;subst hz0;go_wp2_with fail;go_ret;exact⟨-1,rfl,pJ,.inl rfl⟩
 rw [aE7 hk] at hz0;have q0:0<=z0:=Aaa
 have q1:z0<=1048576:=Aaa
 have q2:decide (z0 < 0)=false:=aEN Aaa;clear hz0 jI;obtain⟨c0,c1,c2,c3,c4,c5,c6,c7,c8⟩:=nine HB0;go_wp2_with fail;refine(HP _ _ pJ Aaa Aaa).mono ?_;rintro e w1 ⟨z1,rfl,hb1,hcase⟩;open atb in exact aaG):P:=h
theorem aoc.AaL(h:P:=by
 dsimp only at HS HB0 pJ HKK Xz HOO HSS HRR hzk hzp hzo hzs hzr ⊢;obtain⟨q1,q2,q3,q4,q5⟩:=ah HS;have HQ4:=Hq q4;clear q4 HS;obtain⟨c0,c1,c2,c3,c4,c5,c6,c7,c8⟩:=nine HB0;go_in
 go_wp2_with fail;refine(HKK _ _ pJ Aaa).mono ?_;rintro e w1 ⟨rfl,hb1⟩;open ata in exact aaG):P:=h
theorem aod.AaL(h:P:=by
 dsimp only at HS HMN R6 HP0 HO0 ajK Vu HB0 HL amc jr HD2 HD3 HD4 HD5 HD6 amg ⊢;obtain⟨q1,q2,q3,q4,q5⟩:=ah HS;have HQ4:=Hq q4;clear q4 HS;have hzk:=HZ.k;have hzp:=HZ.p;have hzo:=HZ.o;have hzs:=HZ.s;have hzr:=HZ.r;dsimp only at hzk hzp hzo hzs hzr;obtain⟨c0,c1,c2,c3,c4,c5,c6,c7,c8⟩:=nine HB0;go_in
 go_wp2_with fail;refine(Qr ak G.k ck s0 _ kids _ Aaa Aaa Aaa hzk R6).mono ?_;rintro e w1 ⟨rfl,hw,hk⟩;have zx:=Hq hw;have wu:=Hq (GR.W.keeps HP0 hk (λx hx=>λhx2=>(Ne.symm (HD2 _ hx2 _ (.inl hx))) rfl));have Hz:=Hq (GR.W.keeps HO0 hk (λx hx=>λhx2=>(Ne.symm (HD2 _ hx2 _ (.inr (.inl hx)))) rfl));have amu:=Hq (dZ.keeps ajK hk (λx hx=>λhx2=>(Ne.symm (HD2 _ hx2 _ (.inr (.inr (.inl hx))))) rfl) (λx hx=>λhx2=>(Ne.symm (HD2 _ hx2 _ (.inr (.inr (.inr (.inl hx)))))) rfl));have HR1:=Hq (GR.W.keeps Vu hk (λx hx=>λhx2=>(Ne.symm (HD2 _ hx2 _ (.inr (.inr (.inr (.inr hx)))))) rfl));have HB1:=Hq (hk.obj HB0 (λhx=>by have:=HL.1 _ hx;omega));have azX:=Hq (amc.trans (hk.mono (λx hx=>jr _ (.inl hx))));clear hw hk c0 c1 c2 c3 c4 c5 c6 c7 c8 R6 HP0 HO0 ajK Vu;obtain⟨c0,c1,c2,c3,c4,c5,c6,c7,c8⟩:=nine HB1;go_wp2_with fail;refine(Uq ap G.p cp s1 _ pu _ Aaa b1 Aaa hzp wu).mono ?_;rintro e w2 ⟨rfl,hw,hk⟩;have qY:=Hq hw;have oH:=Hq (GR.W.keeps zx hk (λx hx=>λhx2=>(HD2 _ (jl hx) _ (.inl hx2)) rfl));have yI:=Hq (GR.W.keeps Hz hk (λx hx=>λhx2=>(Ne.symm (HD3 _ hx2 _ (.inl hx))) rfl));have amv:=Hq (dZ.keeps amu hk (λx hx=>λhx2=>(Ne.symm (HD3 _ hx2 _ (.inr (.inl hx)))) rfl) (λx hx=>λhx2=>(Ne.symm (HD3 _ hx2 _ (.inr (.inr (.inl hx))))) rfl));have HR2:=Hq (GR.W.keeps HR1 hk (λx hx=>λhx2=>(Ne.symm (HD3 _ hx2 _ (.inr (.inr (.inr hx))))) rfl));have HB2:=Hq (hk.obj HB1 (λhx=>by have:=HL.2.1 _ hx;omega));have azY:=Hq (azX.trans (hk.mono (λx hx=>jr _ (.inr (.inl hx)))));clear hw hk c0 c1 c2 c3 c4 c5 c6 c7 c8 zx wu Hz amu HR1;obtain⟨c0,c1,c2,c3,c4,c5,c6,c7,c8⟩:=nine HB2;go_wp2_with fail;refine(YK ao G.o co s2 _ out _ Aaa b3 Aaa hzo yI).mono ?_;rintro e w3 ⟨rfl,hw,hk⟩;have EF:=Hq hw;have Sq:=Hq (GR.W.keeps oH hk (λx hx=>λhx2=>(HD2 _ (jl hx) _ (.inr (.inl hx2))) rfl));have Sy:=Hq (GR.W.keeps qY hk (λx hx=>λhx2=>(HD3 _ (jl hx) _ (.inl hx2)) rfl));have amw:=Hq (dZ.keeps amv hk (λx hx=>λhx2=>(Ne.symm (HD4 _ hx2 _ (.inl hx))) rfl) (λx hx=>λhx2=>(Ne.symm (HD4 _ hx2 _ (.inr (.inl hx)))) rfl));have HR3:=Hq (GR.W.keeps HR2 hk (λx hx=>λhx2=>(Ne.symm (HD4 _ hx2 _ (.inr (.inr hx)))) rfl));have HB3:=Hq (hk.obj HB2 (λhx=>by have:=HL.2.2.1 _ hx;omega));have azZ:=Hq (azY.trans (hk.mono (λx hx=>jr _ (.inr (.inr (.inl hx))))));clear hw hk c0 c1 c2 c3 c4 c5 c6 c7 c8 oH qY yI amv HR2;obtain⟨c0,c1,c2,c3,c4,c5,c6,c7,c8⟩:=nine HB3;go_wp2_with fail;refine(YI as' G.s cs s3 _ G.i seen _ Aaa b5 b6 hzs HZ.sk amg amw).mono ?_;rintro e w4 ⟨rfl,hw,hk⟩;have amx:=Hq hw;have HK4:=Hq (GR.W.keeps Sq hk (λx hx=>λhx2=>by rcases aE6.1 hx2 with hx3|hx3;exact(HD2 _ (jl hx) _ (.inr (.inr (.inl hx3)))) rfl;exact(HD2 _ (jl hx) _ (.inr (.inr (.inr (.inl hx3))))) rfl));have Sb:=Hq (GR.W.keeps Sy hk (λx hx=>λhx2=>by rcases aE6.1 hx2 with hx3|hx3;exact(HD3 _ (jl hx) _ (.inr (.inl hx3))) rfl;exact(HD3 _ (jl hx) _ (.inr (.inr (.inl hx3)))) rfl));have HO4:=Hq (GR.W.keeps EF hk (λx hx=>λhx2=>by rcases aE6.1 hx2 with hx3|hx3;exact(HD4 _ (jl hx) _ (.inl hx3)) rfl;exact(HD4 _ (jl hx) _ (.inr (.inl hx3))) rfl));have HR4:=Hq (GR.W.keeps HR3 hk (λx hx=>λhx2=>by rcases aE6.1 hx2 with hx3|hx3;exact(Ne.symm (HD5 _ hx3 _ (.inr hx))) rfl;exact(Ne.symm (HD6 _ hx3 _ hx)) rfl));have mQ:=Hq (hk.obj HB3 (λhx=>by have:=HL.2.2.2.1 _ hx;omega));have az0:=Hq (azZ.trans (hk.mono (λx hx=>by rcases aE6.1 hx with hx|hx;exact jr _ (.inr (.inr (.inr (.inl hx))));exact jr _ (.inr (.inr (.inr (.inr (.inl hx))))))));clear hw hk c0 c1 c2 c3 c4 c5 c6 c7 c8 Sq Sy EF amw HR3;obtain⟨c0,c1,c2,c3,c4,c5,c6,c7,c8⟩:=nine mQ;rw [<-ah HQ4];go_wp2_with fail;refine(acT ar G.r cr s4 _ reqs _ Aaa b7 Aaa hzr HR4).mono ?_;rintro e w5 ⟨rfl,hw,hk⟩;have XC:=Hq hw;have HK5:=Hq (GR.W.keeps HK4 hk (λx hx=>λhx2=>(HD2 _ (jl hx) _ (.inr (.inr (.inr (.inr hx2))))) rfl));have JJ:=Hq (GR.W.keeps Sb hk (λx hx=>λhx2=>(HD3 _ (jl hx) _ (.inr (.inr (.inr hx2)))) rfl));have JI:=Hq (GR.W.keeps HO4 hk (λx hx=>λhx2=>(HD4 _ (jl hx) _ (.inr (.inr hx2))) rfl));have aAi:=Hq (dZ.keeps amx hk (λx hx=>λhx2=>(HD5 _ (ai7 hx) _ (.inr hx2)) rfl) (λx hx=>λhx2=>(HD6 _ (abL hx) _ hx2) rfl));have gQ:=Hq (hk.obj mQ (λhx=>by have:=HL.2.2.2.2 _ hx;omega));have az1:=Hq (az0.trans (hk.mono (λx hx=>jr _ (.inr (.inr (.inr (.inr (.inr hx))))))));clear hw hk c0 c1 c2 c3 c4 c5 c6 c7 c8 HK4 Sb HO4 amx HR4;obtain⟨c0,c1,c2,c3,c4,c5,c6,c7,c8⟩:=nine gQ;go_wp2_with fail;go_ret;refine⟨mD Aaa,?_,az1⟩;rw [ah HMN];exact⟨HK5,JJ,JI,aAi,XC⟩):P:=h
theorem ajZ(h:P:=by
 obtain⟨x0,x1,x2,x3,x4,x5,x6,x7,x8⟩:=nine e;generalize (((((((((W.setCell ⟨g,0,none⟩ v0).setCell ⟨g,1,none⟩ v1).setCell ⟨g,2,none⟩ v2).setCell ⟨g,3,none⟩ v3).setCell ⟨g,4,none⟩ v4).setCell ⟨g,5,none⟩ v5).setCell ⟨g,6,none⟩ v6).setCell ⟨g,7,none⟩ v7).setCell ⟨g,8,none⟩ v8)=W' at *;have hp':act.tmps[p]?.getD undef= .pointer (some ⟨g,0,none⟩):=by simpa [Act.eval] using hp
 exact AcC):P:=h
theorem aoe.AcC(h:P:=by
 have hq':act.tmps[q]?.getD undef=u1:=by simpa [Act.eval] using hq
 have hr':act.tmps[r]?.getD undef=u2:=by simpa [Act.eval] using hr
 exact aET (by simp[results,hf,go_sem,hp',hq',hr',x0,x1,x2,x3,x4,x5,x6,x7,x8]) hd (h W' e k)):P:=h
theorem aof.AcC(h:P:=by
 have hq':act.tmps[q]?.getD undef=u1:=by simpa [Act.eval] using hq
 exact aET (by simp[results,hf,go_sem,hp',hq',x0,x1,x2,x3,x4,x5,x6,x7,x8]) hd (h W' e k)):P:=h
theorem aog.AcC(h:P:=by
 exact aET (by simp[results,hf,go_sem,hp',x0,x1,x2,x3,x4,x5,x6,x7,x8]) hd (h W' e k hs hz)):P:=h
theorem DU(h:P:=by
 unfold jR;have mW:=Hq (λW (h:aH w W)=>qQ n A W (hz.mono Aaa) (ha.below h));rw [hok] at mW;exact AaN):P:=h
theorem aoh.AaN(h:P:=by
 have EG:=Hq (λW=>jE ⟨K,no,k,nn,⟨mK,mF,mT,mI,mL,mk,mN⟩⟩ W Aal Aal);open aBe in exact ES):P:=h
theorem aoi.AaN(h:P:=by
 have NY:=Hq (λW (h:aH w W)=>mG n A W hz (ha.below h));clear hz ha hok;go_in
 go_upto_region 2 with fail;refine wp_at (λW1 hW=>?_);open aqW in exact aw7):P:=h
theorem aoj.AaN(h:P:=by
 have jJ:=Hq (λW A1 G1 c (hB:0<=W.heap.size) (h9:∀x,6 < c x->c x=9) (hp:((∃g,A1.p=some ⟨g,0,none⟩)/\n.pu.length<=A1.cp)/\(∃g,A1.r=some ⟨g,0,none⟩)/\n.reqs.length<=A1.cr) (hN:NQ W 0 n A1 G1 c)=>Ru n A1 G1 c no W 0 hB h9 hz hp.1.1 hp.1.2 (bE hok).2.2.2.2.2 hN);unfold iW at jJ;generalize aT n no=GV at *;obtain⟨N1,Da⟩:=GV;dsimp only at jJ ⊢;have EG:=Hq (λW=>jE ⟨2,no,k,nn,⟨mK,mF,mT,mI,mL,mk,mN⟩⟩ W Aal Aal);open aBf in exact ES):P:=h
theorem aok.AaN(h:P:=by
 have jJ:=Hq (λW A1 G1 c (hB:0<=W.heap.size) (h9:∀x,6 < c x->c x=9) (hp:((∃g,A1.p=some ⟨g,0,none⟩)/\n.pu.length<=A1.cp)/\(∃g,A1.r=some ⟨g,0,none⟩)/\n.reqs.length<=A1.cr) (hN:NQ W 0 n A1 G1 c)=>Zx n A1 G1 c 1 no k nn mK mF mT mI mL mk mN W 0 hB h9 hz hk hp.1.1 hp.1.2 hp.2.1 hp.2.2 (bE hok).2.2.2.2.2 hN);unfold iW at jJ;generalize fK n no k nn=GV at *;obtain⟨N1,Da⟩:=GV;dsimp only at jJ ⊢;have EG:=Hq (λW=>jE ⟨1,no,k,nn,⟨mK,mF,mT,mI,mL,mk,mN⟩⟩ W Aal Aal);open aBg in exact ES):P:=h
theorem aol.AaN(h:P:=by
 have hpz:(decide (n.par < 0))=false:=by
  exact ais
 have jJ:=Hq (λW A1 G1 c (hB:0<=W.heap.size) (h9:∀x,6 < c x->c x=9) (hp:((∃g,A1.p=some ⟨g,0,none⟩)/\n.pu.length<=A1.cp)/\(∃g,A1.r=some ⟨g,0,none⟩)/\n.reqs.length<=A1.cr) (hN:NQ W 0 n A1 G1 c)=>Rk n A1 G1 c n.par k nn W 0 hB h9 hz hk hp.1.1 hp.1.2 (by have h:=(bE hok).2.2.2.1;unfold fH at h;simp at h;omega) hN);unfold gH at jJ;generalize eY n n.par k nn=GV at *;obtain⟨N1,L1,b1⟩:=GV;dsimp only at jJ ⊢;generalize (if b1=true then(0:Int) else 1)=Da at *;have EG:=Hq (λW=>jE ⟨4,no,k,nn,⟨mK,mF,mT,mI,mL,mk,mN⟩⟩ W Aal Aal);open aBh in exact ES):P:=h
theorem aom.AaN(h:P:=by
 have hmo:bV ⟨mK,mF,mT,mI,mL,mk,mN⟩=true:=by
  have h:=hop;unfold bH at h;dsimp only at h;rw [aEX Aaa,aEX Aaa,aEX Aaa,aEX Aaa,aE7 rfl,aES] at h;exact h.2
 have jJ:=Hq (λW A1 G1 c (hB:0<=W.heap.size) (h9:∀x,6 < c x->c x=9) (hp:((∃g,A1.p=some ⟨g,0,none⟩)/\n.pu.length<=A1.cp)/\(∃g,A1.r=some ⟨g,0,none⟩)/\n.reqs.length<=A1.cr) (hN:NQ W 0 n A1 G1 c)=>adw n A1 G1 c mK mF mT mI mL mk mN W 0 hB h9 hz hmk hok hmo hp.1.1 hp.1.2 hN);clear hmo;unfold gH at jJ;generalize Dc n ⟨mK,mF,mT,mI,mL,mk,mN⟩=GV at *;obtain⟨N1,L1,Da⟩:=GV;dsimp only at jJ ⊢;have EG:=Hq (λW=>jE ⟨6,no,k,nn,⟨mK,mF,mT,mI,mL,mk,mN⟩⟩ W Aal Aal);open aBi in exact ES):P:=h
theorem aon.AaN(h:P:=by
 have hpz:(decide (n.par < 0))=true:=by rw [hpar];rfl
 clear hpar;have EG:=Hq (λW=>jE ⟨4,no,k,nn,⟨mK,mF,mT,mI,mL,mk,mN⟩⟩ W Aal Aal);open aBj in exact ES):P:=h
theorem aoo.AaN(h:P:=by
 have hpz:(decide (n.par < 0))=true:=by rw [hpar];rfl
 clear hpar;have EG:=Hq (λW=>jE ⟨3,no,k,nn,⟨mK,mF,mT,mI,mL,mk,mN⟩⟩ W Aal Aal);open aBk in exact ES):P:=h
theorem aop.AaN(h:P:=by
 have hpg:(decide (n.par≥0))=false:=by rw [hpar];rfl
 have ayL:(decide (0<=n.par))=false:=hpg;clear hpar
 have jJ:=Hq (λW (A1:bq) (hp:(∃g,A1.p=some ⟨g,0,none⟩)/\n.pu.length<=A1.cp) (hN:aG W A1.p n.pu)=>(by
  obtain⟨⟨g,hg⟩,hc⟩:=hp
  rw [hg] at hN ⊢
  have:=GK g 0 A1.cp n.pu k nn W (aEP hz.p Aaa) hc hz.pk hk hN
  rw [hu] at this
  exact this:Calls prog 127 #[.slice A1.p n.pu.length A1.cp,.string k,.int .i64 nn] W (iV W (RL,true))))
 clear hu;unfold iV at jJ;have EG:=Hq (λW=>jE ⟨0,no,k,nn,⟨mK,mF,mT,mI,mL,mk,mN⟩⟩ W Aal Aal);open aBl in exact ES):P:=h
theorem aoq.AaN(h:P:=by
 have hpg:(decide (n.par≥0))=false:=by rw [hpar];rfl
 have ayL:(decide (0<=n.par))=false:=hpg;clear hpar
 have jJ:=Hq (λW (A1:bq) (hp:(∃g,A1.p=some ⟨g,0,none⟩)/\n.pu.length<=A1.cp) (hN:aG W A1.p n.pu)=>(by
  obtain⟨⟨g,hg⟩,hc⟩:=hp
  rw [hg] at hN ⊢
  have:=GK g 0 A1.cp n.pu k nn W (aEP hz.p Aaa) hc hz.pk hk hN
  rw [hu] at this
  exact this:Calls prog 127 #[.slice A1.p n.pu.length A1.cp,.string k,.int .i64 nn] W (iV W (RL,false))))
 exact Zk4):P:=h
theorem aor.AaN(h:P:=by
 have hpg:(decide (n.par≥0))=true:=by
  have h:=(bE hok).1;unfold eu at h;simp only[aES,aFa] at h;exact aEO Aaa
 have ayL:(decide (0<=n.par))=true:=hpg
 have jJ:=Hq (λW (A1:bq) (hp:(∃g,A1.p=some ⟨g,0,none⟩)/\n.pu.length<=A1.cp) (hN:aG W A1.p n.pu)=>(by
  obtain⟨⟨g,hg⟩,hc⟩:=hp
  rw [hg] at hN ⊢
  have:=GK g 0 A1.cp n.pu k nn W (aEP hz.p Aaa) hc hz.pk hk hN
  rw [hu] at this
  exact this:Calls prog 127 #[.slice A1.p n.pu.length A1.cp,.string k,.int .i64 nn] W (iV W (RL,ok))))
 exact Zk4):P:=h
theorem aos.AaN(h:P:=by
 have jJ:=Hq (λW A1 (hN:bY W A1 n)=>ady n A1 W (hz.mono Aaa) hN);rw [show ade n=n.out.map (qE n) from aE7 hok] at jJ;unfold BI at jJ;dsimp only at jJ ⊢;generalize n.out.map (qE n)=L1 at *;have EG:=Hq (λW=>jE ⟨5,no,k,nn,⟨mK,mF,mT,mI,mL,mk,mN⟩⟩ W Aal Aal);open aBm in exact ES):P:=h
theorem aeH(h:P:=by
 have e1:(m:Int)+1+1=m+2:=Aaa
 have e2:(m:Int)+2+1=m+3:=Aaa
 have e3:(m:Int)+3+1=m+4:=Aaa
 have e4:(m:Int)+4+1=m+5:=Aaa
 have e5:(m:Int)+5+1=m+6:=Aaa
 have e6:(m:Int)+6+1=m+7:=Aaa
 exact AbF):P:=h
theorem aot.AbF(h:P:=by
 have e7:(m:Int)+7+1=m+8:=Aaa
 have e8:(m:Int)+8+1=m+9:=Aaa
 have e9:(m:Int)+9+1=m+10:=Aaa
 have e10:(m:Int)+10+1=m+11:=Aaa
 have e11:(m:Int)+11+1=m+12:=Aaa
 go_wp2_with fail;go_region_with (go_at_call 35;refine(ED _ _ Aaa).mono ?_;rintro e w1 ⟨rfl,hb1⟩;have oF:=Hq (aY.trans (((aEY _ _).drew.trans hb1).mono aY.size));have hc0:=(fE hb1).1 g (k*12) Aan;have hc1:=(fE hb1).1 g (k*12+1) Aan;have hc2:=(fE hb1).1 g (k*12+2) Aan;have hc3:=(fE hb1).1 g (k*12+3) Aan;have hc4:=(fE hb1).1 g (k*12+4) Aan;have DY:=(fE hb1).1 g (k*12+5) Aan;have hc6:=(fE hb1).1 g (k*12+6) Aan;have hc7:=(fE hb1).1 g (k*12+7) Aan;have hc8:=(fE hb1).1 g (k*12+8) Aan;have hc9:=(fE hb1).1 g (k*12+9) Aan;have aDG:=(fE hb1).1 g (k*12+10) Aan;have aDH:=(fE hb1).1 g (k*12+11) Aan;have DZ:=aEU hgl (show wr.heap.size<=w1.heap.size by have:=hb1.size;simpa using this);clear hb1)
 all_goals
  go_wp2_with fail
  go_region_with (go_at_call 35;refine(HMU _ _ Aaa).mono ?_;rintro e w2 ⟨rfl,hb2⟩;have zD:=Hq (oF.trans (((aEY _ _).drew.trans hb2).mono oF.size));have hd0:=(fE hb2).1 g (k*12) Aau;have hd1:=(fE hb2).1 g (k*12+1) Aau;have hd2:=(fE hb2).1 g (k*12+2) Aau;have hd3:=(fE hb2).1 g (k*12+3) Aau;have hd4:=(fE hb2).1 g (k*12+4) Aau;have hd5:=(fE hb2).1 g (k*12+5) Aau;have hd6:=(fE hb2).1 g (k*12+6) Aau;have hd7:=(fE hb2).1 g (k*12+7) Aau;have hd8:=(fE hb2).1 g (k*12+8) Aau;have hd9:=(fE hb2).1 g (k*12+9) Aau;have aDJ:=(fE hb2).1 g (k*12+10) Aau;have aDK:=(fE hb2).1 g (k*12+11) Aau;clear hb2)
  all_goals
   go_wp2_with fail
   go_roundw
   case rel=>exact⟨k+1,m+12,Aaa,Aaf,Aaf,by have:=ah HM;omega,zD⟩
   case measure=>simp[intOf];omega):P:=h
theorem aou.AbF(h:P:=by
 have e7:(m:Int)+7+1=m+8:=Aaa
 have e8:(m:Int)+8+1=m+9:=Aaa
 have e9:(m:Int)+9+1=m+10:=Aaa
 have e10:(m:Int)+10+1=m+11:=Aaa
 have e11:(m:Int)+11+1=m+12:=Aaa
 go_upto_region 22 with(go_at_call 35;refine(ED _ _ Aaa).mono ?_;rintro e w1 ⟨rfl,hb1⟩;have HB1:=Hq hb1;have hgz:=hb1.size;obtain⟨hcc,hff⟩:=fE hb1;clear hb1)
 refine wp_at (λV hV=>?_);(try simp only[e1,e2,e3,e4,e5,e6,e7,e8,e9,e10,e11] at HB1 hV ⊢)
 have HCV:Hid (GR.C V (some ⟨g,0,none⟩) g ((((((((((GR.flat dQ (jH iX 12 s l k)).set (k*12) (.int .i64 (iX m).o.K)).set (k*12+1) (.int .i64 (iX m).o.no)).set (k*12+2) (.string (iX m).o.k)).set (k*12+3) (.int .i64 (iX m).o.n)).set (k*12+4) (.int .i64 (iX m).o.m.K)).set (k*12+5) (.int .i64 (iX m).o.m.F)).set (k*12+6) (.int .i64 (iX m).o.m.T)).set (k*12+7) (.int .i64 (iX m).o.m.I)).set (k*12+8) (.int .i64 (iX m).o.m.L))):=by
  have h0:=GR.W.toC aQ Aaa HR;have h1:=GR.C.set h0 (k*12) (.int .i64 (iX m).o.K);have h2:=GR.C.set h1 (k*12+1) (.int .i64 (iX m).o.no);have hB2:=GR.C.below h2 HB1;have h3:=GR.C.set hB2 (k*12+2) (.string (iX m).o.k);have h4:=GR.C.set h3 (k*12+3) (.int .i64 (iX m).o.n);have h5:=GR.C.set h4 (k*12+4) (.int .i64 (iX m).o.m.K);have h6:=GR.C.set h5 (k*12+5) (.int .i64 (iX m).o.m.F);have h7:=GR.C.set h6 (k*12+6) (.int .i64 (iX m).o.m.T);have h8:=GR.C.set h7 (k*12+7) (.int .i64 (iX m).o.m.I);have h9:=GR.C.set h8 (k*12+8) (.int .i64 (iX m).o.m.L);rw [hV];exact h9
 have HKV:Hid (aA (fp g l) w V):=by
  rw [hV];exact((((((((((HK.trans (dx (aA.set _) hpos)).trans (dx (aA.set _) hpos)).trans (aA.of_below HB1)).trans (dx (aA.set _) hpos)).trans (dx (aA.set _) hpos)).trans (dx (aA.set _) hpos)).trans (dx (aA.set _) hpos)).trans (dx (aA.set _) hpos)).trans (dx (aA.set _) hpos)).trans (dx (aA.set _) hpos))
 clear hV HB1 hgz hcc hff ED HK HR s0 s1 s2 s3 s4 s5 s6 s7 s8 s9 s10 s11 f0 f1 f2 f3 f4 f5 f6 f7 f8 f9 f10 f11 hg0;obtain⟨_,hgV,s9,f9⟩:=ah HCV (k*12+9) (by simp only[aF1];exact HL9);obtain⟨_,_,s10,f10⟩:=ah HCV (k*12+10) (by simp only[aF1];exact az3);obtain⟨_,_,s11,f11⟩:=ah HCV (k*12+11) (by simp only[aF1];exact az4);go_wp2_with (go_at_call 35;refine(HMU _ _ Aaa).mono ?_;rintro e w2 ⟨rfl,hb2⟩;have HB2:=Hq hb2;have hgz:=hb2.size;obtain⟨hcc,hff⟩:=fE hb2;clear hb2)
 go_roundw
 case rel=>
  (try simp only[e1,e2,e3,e4,e5,e6,e7,e8,e9,e10,e11] at HB2 ⊢)
  have h9:=ah HCV;have hB9:=GR.C.below h9 HB2;have h10:=GR.C.set hB9 (k*12+9) (.string (iX m).o.m.k);have h11:=GR.C.set h10 (k*12+10) (.int .i64 (iX m).o.m.N);have h12:=GR.C.set h11 (k*12+11) (.int .i64 (iX m).c);have hf:=GR.flat_set dQ 12 aQ (jH iX 12 s l k) k (iX m) Abq;have h99:=GR.C.toW (enc:=dQ) (l:=(jH iX 12 s l k).set k (iX m)) aQ Aaa (by rw [<-hf];exact h12);have hmk:iX m=iX (s+12*k):=Abf
  rw [hmk,xI iX 12 s l k hlt,<-hmk] at h99;refine⟨k+1,m+12,Aaa,Aaf,Aaf,by have:=ah HM;omega,h99,?_⟩;exact((((HKV.trans (aA.of_below HB2)).trans (dx (aA.set _) hpos)).trans (dx (aA.set _) hpos)).trans (dx (aA.set _) hpos))
 case measure=>simp[intOf];omega):P:=h
theorem aov.AbF(h:P:=by
 go_wp2_with fail;go_region_with (go_at_call 35;refine(ED _ _ Aaa).mono ?_;rintro e w1 ⟨rfl,hb1⟩;have hc0:=(fE hb1).1 g (k*7) Aan;have hc1:=(fE hb1).1 g (k*7+1) Aan;have hc2:=(fE hb1).1 g (k*7+2) Aan;have hc3:=(fE hb1).1 g (k*7+3) Aan;have hc4:=(fE hb1).1 g (k*7+4) Aan;have DY:=(fE hb1).1 g (k*7+5) Aan;have hc6:=(fE hb1).1 g (k*7+6) Aan;have oF:=Hq (aY.trans (((aEY _ _).drew.trans hb1).mono aY.size));clear hb1)
 all_goals
  go_wp2_with fail
  go_roundw
  case rel=>exact⟨k+1,m+7,Aaa,Aaf,Aaf,by have:=ah HM;omega,oF⟩
  case measure=>simp[intOf];omega):P:=h
theorem aow.AbF(h:P:=by
 (try simp only[e1,e2,e3,e4,e5,e6] at HB1 ⊢)
 have h1:=GR.C.set h0 (k*7) (.int .i64 (mkMsg m).K);have h2:=GR.C.set h1 (k*7+1) (.int .i64 (mkMsg m).F);have h3:=GR.C.set h2 (k*7+2) (.int .i64 (mkMsg m).T);have h4:=GR.C.set h3 (k*7+3) (.int .i64 (mkMsg m).I);have h5:=GR.C.set h4 (k*7+4) (.int .i64 (mkMsg m).L);have hB:=GR.C.below h5 HB1;have h6:=GR.C.set hB (k*7+5) (.string (mkMsg m).k);have h7:=GR.C.set h6 (k*7+6) (.int .i64 (mkMsg m).N);have hf:=GR.flat_set jh 7 jT (jH mkMsg 7 s l k) k (mkMsg m) Abq;have h9:=GR.C.toW (enc:=jh) (l:=(jH mkMsg 7 s l k).set k (mkMsg m)) jT Aaa (by rw [<-hf];exact h7);have hmk:mkMsg m=mkMsg (s+7*k):=Abf
 rw [hmk,xI mkMsg 7 s l k hlt,<-hmk] at h9;refine⟨k+1,m+7,Aaa,Aaf,Aaf,by have:=ah HM;omega,h9,?_⟩;exact((((((((HK.trans (dx (aA.set _) hpos)).trans (dx (aA.set _) hpos)).trans (dx (aA.set _) hpos)).trans (dx (aA.set _) hpos)).trans (dx (aA.set _) hpos)).trans (aA.of_below HB1)).trans (dx (aA.set _) hpos)).trans (dx (aA.set _) hpos))):P:=h
theorem awH(h:P:=by
 open aui in exact aaN):P:=h
theorem aox.Aei(h:P:=by
 refine rg 20 Ge 23 ?_;open au5 in exact aaT):P:=h
theorem aoy.Aei(h:P:=by
 open auU in exact ag5):P:=h
theorem XK(h:P:=by
 have wY:=Hq (show aH w V by rw [hV];exact((aEY _ _).alloc (aEM _) _).alloc Aac _);have hgV:=cK hblk;obtain⟨p0,p1,p2,p3,p4,p5,p6⟩:=uF hblk;clear hV hblk;exact AaW):P:=h
theorem aoz.AaW(h:P:=by
 have cO:∀d os,Calls prog 345 #[.agg #[.int .i64 F,.int .i64 T,.int .i64 I]] (Sort.grow (redrawn V d) os) λe w''=>e= .returned (.bool false)/\∃p:Regrown,w''=Sort.grow (redrawn V p.d) p.os:=λd os=>aFk (HO _)
 open anE in exact OP):P:=h
theorem aoA.AaW(h:P:=by
 have cO:∀d os,Calls prog 344 #[.agg #[.int .i64 F,.int .i64 T,.int .i64 I,.int .i64 L,.string k,.int .i64 N]] (Sort.grow (redrawn V d) os) λe w''=>e= .returned (.bool true)/\∃p:Regrown,w''=Sort.grow (redrawn V p.d) p.os:=λd os=>aFk (HO _)
 have cM:∀d os,Calls prog 272 #[.iface 297 (.agg #[.int .i64 F,.int .i64 T,.int .i64 I,.int .i64 L,.string k,.int .i64 N])] (Sort.grow (redrawn V d) os) λe w''=>e= .returned (nZ ⟨1,F,T,I,L,k,N⟩)/\∃p:Regrown,w''=Sort.grow (redrawn V p.d) p.os:=λd os=>aFk (HM _)
 open anF in exact OP):P:=h
theorem aoB.AaW(h:P:=by
 have cO:∀d os,Calls prog 344 #[.agg #[.int .i64 F,.int .i64 T,.int .i64 I,.int .i64 L,.string k,.int .i64 N]] (Sort.grow (redrawn V d) os) λe w''=>e= .returned (.bool false)/\∃p:Regrown,w''=Sort.grow (redrawn V p.d) p.os:=λd os=>aFk (HO _)
 open anG in exact OP):P:=h
theorem aoC.AaW(h:P:=by
 have cO:∀d os,Calls prog 343 #[.agg #[.int .i64 F,.int .i64 T,.string k,.int .i64 N]] (Sort.grow (redrawn V d) os) λe w''=>e= .returned (.bool false)/\∃p:Regrown,w''=Sort.grow (redrawn V p.d) p.os:=λd os=>aFk (HO _)
 open anH in exact OP):P:=h
theorem aoD.AaW(h:P:=by
 have cO:∀d os,Calls prog 343 #[.agg #[.int .i64 F,.int .i64 T,.string k,.int .i64 N]] (Sort.grow (redrawn V d) os) λe w''=>e= .returned (.bool true)/\∃p:Regrown,w''=Sort.grow (redrawn V p.d) p.os:=λd os=>aFk (HO _)
 have cM:∀d os,Calls prog 272 #[.iface 295 (.agg #[.int .i64 F,.int .i64 T,.string k,.int .i64 N])] (Sort.grow (redrawn V d) os) λe w''=>e= .returned (nZ ⟨0,F,T,0,0,k,N⟩)/\∃p:Regrown,w''=Sort.grow (redrawn V p.d) p.os:=λd os=>aFk (HM _)
 open anK in exact OP):P:=h
theorem aoE.AaW(h:P:=by
 have cO:∀d os,Calls prog 345 #[.agg #[.int .i64 F,.int .i64 T,.int .i64 I]] (Sort.grow (redrawn V d) os) λe w''=>e= .returned (.bool true)/\∃p:Regrown,w''=Sort.grow (redrawn V p.d) p.os:=λd os=>aFk (HO _)
 have cM:∀d os,Calls prog 272 #[.iface 299 (.agg #[.int .i64 F,.int .i64 T,.int .i64 I])] (Sort.grow (redrawn V d) os) λe w''=>e= .returned (nZ ⟨2,F,T,I,0,ByteArray.empty,0⟩)/\∃p:Regrown,w''=Sort.grow (redrawn V p.d) p.os:=λd os=>aFk (HM _)
 open anL in exact OP):P:=h
theorem awI(h:P:=by
 have xS:=Hq fq;clear fq;refine an 12 ?_;go_simp;refine an 13 ?_;go_simp;refine ad ?_;go_simp;go_wp2_with fail;refine iy (λW' hW'=>?_);subst hW';have fq:=ah xS;open auX in exact ag7):P:=h
theorem aoF.AdJ(h:P:=by
 exact aET (v:= .tuple #[(gM n A1),.slice (some ⟨y.heap.size,0,none⟩) 1 1,.int .i64 0]) Acp rfl ⟨A1,some ⟨y.heap.size,0,none⟩,1,rfl,HAT,ED,qZ⟩):P:=h
theorem aoG.AdJ(h:P:=by
 exact aET (v:= .tuple #[(gM n A1),.slice (some ⟨x.heap.size,0,none⟩) 1 1,.int .i64 0]) Acp rfl ⟨A1,some ⟨x.heap.size,0,none⟩,1,rfl,HAT,ED,qZ⟩):P:=h
theorem XL(h:P:=by
 have HW1:=Hq (h.step (au w (.cells (bJ K no k nn mK mF mT mI mL mk mN) 73)));have wu:=Hq (aEK w (.cells (bJ K no k nn mK mF mT mI mL mk mN) 73));exact AaV):P:=h
theorem aoH.AaV(h:P:=by
 clear h he hR hz hk hpar;open atz in exact VQ):P:=h
theorem aoI.AaV(h:P:=by
 clear h hR hpar;obtain⟨c0,c1,c2,c3,c4,c5,c6,c7,c8,c9⟩:=jN HW1.blk;have hwl:=ay HW.blk;have hne:wb≠w.heap.size:=Aaa
 go_in
 go_upto_region 1 with fail;have y1:=aEL c1;clear c0 c1 c2 c3 c4 c5 c6 c7 c8 c9;open auT in exact ag5):P:=h
theorem aoJ.AaV(h:P:=by
 have hq2:(n.par == -1)=false:=Abg
 clear h hR hpar;open aty in exact VQ):P:=h
theorem aoK.AaV(h:P:=by
 have hq2:(n.par == -1)=false:=Abg
 clear h hR hpar;generalize eY n n.par k nn=gv at *;obtain⟨gn,gl,gb⟩:=gv;dsimp only at Iq ⊢;open atx in exact VQ):P:=h
theorem aoL.AaV(h:P:=by
 clear h ho;obtain⟨⟨p0,p1,p2,p3,p4,p5,p6,p7,p8,p9,oD⟩,_⟩:=aJ wu;have hpl:=ay wu;go_in
 go_wp2_with fail;refine(HIO _).mono ?_;rintro e w2 ⟨rfl,hb2⟩;have HW2:=Hq (HW1.step hb2);have qY:=Hq (aj wu hb2);clear hb2 HW1 wu p0 p1 p2 p3 p4 p5 p6 p7 p8 p9 oD HIO;exact AaH):P:=h
theorem aoM.AaV(h:P:=by
 open atw in exact VQ):P:=h
theorem awJ(h:P:=by
 iterate 5 (refine iO (λK hK=>?_);go_simp;refine hK _ ?_;clear hK K)
 (refine iO (λK hK=>?_);go_simp;first|refine hK _ ?_|(apply Exists.intro;refine⟨λ_=>?_,hK _ ?_⟩;(exact N1 _));clear hK K)
 iterate 2 (refine iO (λK hK=>?_);go_simp;refine hK _ ?_;clear hK K)
 (refine iO (λK hK=>?_);go_simp;first|refine hK _ ?_|(apply Exists.intro;refine⟨λ_=>?_,hK _ ?_⟩;(exact N2 _));clear hK K)
 iterate 2 (refine iO (λK hK=>?_);go_simp;refine hK _ ?_;clear hK K)
 (refine iO (λK hK=>?_);go_simp;first|refine hK _ ?_|(apply Exists.intro;refine⟨λ_=>?_,hK _ ?_⟩;(exact N3 _));clear hK K)
 iterate 2 (refine iO (λK hK=>?_);go_simp;refine hK _ ?_;clear hK K)
 exact AcQ):P:=h
theorem aoN.AcQ(h:P:=by
 (refine iO (λK hK=>?_);go_simp;first|refine hK _ ?_|(apply Exists.intro;refine⟨λ_=>?_,hK _ ?_⟩;(exact NM _));clear hK K)
 (refine iO (λK hK=>?_);go_simp;first|refine hK _ ?_|(apply Exists.intro;refine⟨λ_=>?_,hK _ ?_⟩;(exact N4 _));clear hK K)
 refine jf ?_;clear y0 y1 y2 y3 y4 y5 y6 y7 y8 y9 y10 N1 N2 N3 N4 NM;open arp in exact axb):P:=h
theorem aoO.AcQ(h:P:=by
 (refine iO (λK hK=>?_);go_simp;first|refine hK _ ?_|(apply Exists.intro;refine⟨λ_=>?_,hK _ ?_⟩;(exact N4 _));clear hK K)
 iterate 2 (refine iO (λK hK=>?_);go_simp;refine hK _ ?_;clear hK K)
 (refine iO (λK hK=>?_);go_simp;first|refine hK _ ?_|(apply Exists.intro;refine⟨λ_=>?_,hK _ ?_⟩;(exact N5 _));clear hK K)
 iterate 2 (refine iO (λK hK=>?_);go_simp;refine hK _ ?_;clear hK K)
 (refine iO (λK hK=>?_);go_simp;first|refine hK _ ?_|(apply Exists.intro;refine⟨λ_=>?_,hK _ ?_⟩;(exact N6 _));clear hK K)
 refine jf ?_;clear y0 y1 y2 y3 y4 y5 y6 N1 N2 N3 N4 N5 N6;open aro in exact axb):P:=h
theorem awK(h:P:=by
 go_upto_region 1 with fail;have y0:=aEL c0;have y1:=aEL c1;clear c0 c1;refine I9 14 ?_;refine tk [0,1,2,3,4,5,6,7,8,9,10,11,12,13] ?_;iterate 8 (refine iO (λK hK=>?_);go_simp;refine hK _ ?_;clear hK K)
 (refine iO (λK hK=>?_);go_simp;first|refine hK _ ?_|(apply Exists.intro;refine⟨λ_=>?_,hK _ ?_⟩;(exact HC _ (SE _)));clear hK K)
 iterate 5 (refine iO (λK hK=>?_);go_simp;refine hK _ ?_;clear hK K)
 refine jf ?_;refine dS Aab (λz hz=>?_);have HZ:=Hq hz;have HRZ:=Hq (aI H hz);clear hz y0 y1 SE HC H;go_simp;go_wp2_with fail;refine(HG _ HRZ).mono ?_;rintro e w1 ⟨rfl,rfl⟩;go_wp2_with fail;exact Aet):P:=h
theorem aoP.Aet(h:P:=by
 exact⟨rfl,rfl,HZ⟩):P:=h
theorem aoQ.Aet(h:P:=by
 go_ret;exact⟨rfl,jK.set HRZ _,(dJ.of_below HZ).trans (dJ.set _)⟩):P:=h
theorem aj0(h:P:=by
 clear iE HBM;go_wp2_with fail;refine wp_region_quiet_lit Aab Aab ?_;repeat (first|go_big_quiet_step ((first|(go_at_call 47;exact qIn _ _ _ _ h1 _ _)))|quiet_step ((first|(go_at_call 47;exact qIn _ _ _ _ h1 _ _))))
 refine aFs ?_;intro _ hw';obtain⟨nq,hw''⟩:=hw';subst hw'';go_wp2_with fail;exact AbZ):P:=h
theorem aoR.AbZ(h:P:=by
 go_roundw
 case rel=>exact⟨j+1+1,Aaa,Aaf,HV,jI.trans ⟨rfl,rfl,rfl,aEM _,λ_ _=>rfl⟩⟩
 case measure=>simp[intOf];omega):P:=h
theorem aoS.AbZ(h:P:=by
 go_roundw
 case rel=>exact⟨0+1,Aaa,Aaf,HV,jI.trans ⟨rfl,rfl,rfl,aEM _,λ_ _=>rfl⟩⟩
 case measure=>simp[intOf];omega):P:=h
theorem aoT.AbZ(h:P:=by
 go_ret;exact⟨aF HV.symm,HL9.trans ⟨rfl,rfl,rfl,aEM _,λ_ _=>rfl⟩⟩):P:=h
theorem awL(h:P:=by
 go_in
 go_upto_region 1 with fail;refine Fo.wp_at (λV hV=>?_);have hbV:aH w V:=by rw [hV];exact dP w _
 have hblk:V.heap[w.heap.size]?=some (.cells #[.int .i64 dm,.int .i64 df,.int .i64 ds] 261 (0,0)):=by rw [hV];exact aEK w _
 have hlt:=Fo.lt_of_blk hblk;have c0:V.cell? ⟨w.heap.size,0,none⟩=some (.int .i64 dm):=by rw [aEW V _ _ _ _ (0,0) hblk];rfl
 have c1:V.cell? ⟨w.heap.size,1,none⟩=some (.int .i64 df):=by rw [aEW V _ _ _ _ (0,0) hblk];rfl
 have c2:V.cell? ⟨w.heap.size,2,none⟩=some (.int .i64 ds):=by rw [aEW V _ _ _ _ (0,0) hblk];rfl
 have wY:=Hq hbV;clear hblk hV hbV;exact Ad3):P:=h
theorem aoU.Ad3(h:P:=by
 go_cut [9,10] (λp9 oD wx=>∃pb:Nat,p9= .pointer (some ⟨pb,0,none⟩)/\oD= .nilIface/\aH w wx/\wx.heap[pb]?=some (.cells (iR pk qm qf qs) 155 (0,0))/\w.heap.size<=pb)
 case first=>
  have hnV:w.heap.size≠V.heap.size:=Aaa
  have hmV:V.heap.size≠w.heap.size:=Aaa
  go_region_held (λw'=>w'.cell? ⟨w.heap.size,0,none⟩=some (.int .i64 dm)/\w'.cell? ⟨w.heap.size,1,none⟩=some (.int .i64 df)/\w'.cell? ⟨w.heap.size,2,none⟩=some (.int .i64 ds)) (go_keep)
   (first
    |((go_at_call 304);(refine(Oq _ (by exact wY.trans (by exact⟨rfl,rfl,rfl,Aac,λk hk=>by first|rfl|exact aEZ _ _ _ Aaa⟩))).mono ?_);(rintro e w4 ⟨rfl,hb4⟩);(have hs4:=hb4.size);(simp at hs4);(have mQ:=Hq (wY.trans (Below.trans (b:=_) (by exact⟨rfl,rfl,rfl,Aac,λk hk=>by first|rfl|exact aEZ _ _ _ Aaa⟩) (hb4.mono (by first|omega|(simp<;>omega))))));(obtain⟨hc4,hf4⟩:=fE hb4);(have d0:w4.cell? ⟨w.heap.size,0,none⟩=some (.int .i64 dm):=by rw [hc4 _ _ (by first|omega|(simp<;>omega))];first|exact c0|exact(aE4 _ _ _ hlt).trans c0);(have d1:w4.cell? ⟨w.heap.size,1,none⟩=some (.int .i64 df):=by rw [hc4 _ _ (by first|omega|(simp<;>omega))];first|exact c1|exact(aE4 _ _ _ hlt).trans c1);(have d2:w4.cell? ⟨w.heap.size,2,none⟩=some (.int .i64 ds):=by rw [hc4 _ _ (by first|omega|(simp<;>omega))];first|exact c2|exact(aE4 _ _ _ hlt).trans c2);(first|(guard_hyp hs4:V.heap.size+1<=w4.heap.size;obtain⟨⟨z0,z1,z2,z3⟩,x0,x1,x2,x3⟩:=fP (Fo.one_block (show Below (V.alloc (.cells (iR ⟨#[]⟩ 0 0 0) 155)).heap.size (V.alloc (.cells (iR ⟨#[]⟩ 0 0 0) 155)) w4 from⟨hb4.os,hb4.tape,hb4.output,hb4.size,hb4.block⟩)).1;have BF:V.heap.size < w4.heap.size:=aFO _ _ z0;have HZ:=Hq (Fo.one_block (show Below (V.alloc (.cells (iR ⟨#[]⟩ 0 0 0) 155)).heap.size (V.alloc (.cells (iR ⟨#[]⟩ 0 0 0) 155)) w4 from⟨hb4.os,hb4.tape,hb4.output,hb4.size,hb4.block⟩)).1)|skip);(have TY:w.heap.size < w4.heap.size:=by omega);(have hn4:w.heap.size≠w4.heap.size:=by omega);(have hm4:w4.heap.size≠w.heap.size:=by omega);(clear hb4 hc4 hf4))
    |((go_at_call 305);(refine(HSH _ (by exact mQ.trans (by exact⟨rfl,rfl,rfl,Aac,λk hk=>by first|rfl|exact aEZ _ _ _ Aaa⟩))).mono ?_);(rintro e w5 ⟨rfl,hb5⟩);(have hs5:=hb5.size);(try simp at hs5);(have gQ:=Hq (mQ.trans (Below.trans (b:=_) (by exact⟨rfl,rfl,rfl,Aac,λk hk=>by first|rfl|exact aEZ _ _ _ Aaa⟩) (hb5.mono (by first|omega|(simp<;>omega))))));(obtain⟨DY,Yt⟩:=fE hb5);(have e0:w5.cell? ⟨w.heap.size,0,none⟩=some (.int .i64 dm):=by rw [DY _ _ (by first|omega|(simp<;>omega))];first|exact d0|exact(aE4 _ _ _ TY).trans d0);(have e1:w5.cell? ⟨w.heap.size,1,none⟩=some (.int .i64 df):=by rw [DY _ _ (by first|omega|(simp<;>omega))];first|exact d1|exact(aE4 _ _ _ TY).trans d1);(have e2:w5.cell? ⟨w.heap.size,2,none⟩=some (.int .i64 ds):=by rw [DY _ _ (by first|omega|(simp<;>omega))];first|exact d2|exact(aE4 _ _ _ TY).trans d2);(first|(guard_hyp BF:V.heap.size < w4.heap.size;have HY:=Hq ((hb5.block _ BF).trans HZ);have y0:=(DY _ 0 BF).trans z0;have y1:=(DY _ 1 BF).trans z1;have y2:=(DY _ 2 BF).trans z2;have y3:=(DY _ 3 BF).trans z3;have v0:=(Yt _ 0 BF).trans x0;have v1:=(Yt _ 1 BF).trans x1;have v2:=(Yt _ 2 BF).trans x2;have v3:=(Yt _ 3 BF).trans x3)|(guard_hyp hs5:w4.heap.size+1<=w5.heap.size;have HY:=Hq (Fo.one_block hb5).1;obtain⟨⟨y0,y1,y2,y3⟩,v0,v1,v2,v3⟩:=fP (Fo.one_block hb5).1)|skip);(have aCq:w.heap.size < w5.heap.size:=by omega);(have hn5:w.heap.size≠w5.heap.size:=by omega);(have hm5:w5.heap.size≠w.heap.size:=by omega);(clear hb5 DY Yt)))
  all_goals
   go_wp2_with fail
   go_meet
   case rel=>
    first
     |exact⟨_,rfl,rfl,Fo.four_below gQ Aaa,Fo.four_set HY,Aaa⟩
     |exact⟨_,rfl,rfl,gQ.alloc gQ.size _,aEK w5 _,Aaa⟩
 case rest=>
  obtain⟨pb,rfl,rfl,hbx,hpb,hge⟩:=hcut;obtain⟨⟨p0,p1,p2,p3⟩,_⟩:=fP hpb;have alT:=Hq (ad5 _ hbx);have jI:=Hq hbx;have Lh:=Hq hpb;have aCs:=Fo.lt_of_blk hpb
  have HNE:=Hq (show pb≠mp/\v.ownBlock≠some pb from⟨λe=>by
   have:=(HPM _ hbx).blk
   rw [<-e,hpb] at this
   injection this with this
   injection this with h1 h2 h3
   exact absurd h2 Aae,own_ne (HPM _ hbx).row hpb Aae⟩)
  clear hbx hpb ad5 Oq HSH wY c0 c1 c2 hlt;go_wp2_with fail;refine alT.mono ?_;rintro e w6 ⟨hb6,ayB,hcase⟩;have yj:=Hq (Below.trans (jI.mono hB) hb6);have ak0:=(ayB pb aCs HNE.1 HNE.2).trans Lh;clear ayB hb6 p0 p1 p2 p3 alT;rcases hcase with⟨hf,rfl,Ih⟩|⟨hf,h20,rfl⟩|⟨hf,h20,rfl,v',Ih⟩
  .rw [ah xS hf] at Ih;open aqd in exact awZ
  .have HF:=Hq hf;have H20:=Hq h20;clear hf h20 ak0;go_wp2_with fail;go_ret;exact⟨yj,.inl ⟨HF,H20,rfl⟩⟩
  .rw [ah HKN hf] at Ih;open aqc in exact awZ):P:=h
theorem aoV.Ad3(h:P:=by
 have hnV:w.heap.size≠V.heap.size:=Aaa
 have hmV:V.heap.size≠w.heap.size:=Aaa
 go_region_held (λw'=>w'.cell? ⟨w.heap.size,0,none⟩=some (.int .i64 dm)/\w'.cell? ⟨w.heap.size,1,none⟩=some (.int .i64 df)/\w'.cell? ⟨w.heap.size,2,none⟩=some (.int .i64 ds)) (go_keep)
  (first
   |((go_at_call 304);(refine(Oq _ (by exact wY.trans (by exact⟨rfl,rfl,rfl,Aac,λk hk=>by first|rfl|exact aEZ _ _ _ Aaa⟩))).mono ?_);(rintro e w4 ⟨rfl,hb4⟩);(have hs4:=hb4.size);(simp at hs4);(have mQ:=Hq (wY.trans (Below.trans (b:=_) (by exact⟨rfl,rfl,rfl,Aac,λk hk=>by first|rfl|exact aEZ _ _ _ Aaa⟩) (hb4.mono (by first|omega|(simp<;>omega))))));(obtain⟨hc4,hf4⟩:=fE hb4);(have d0:w4.cell? ⟨w.heap.size,0,none⟩=some (.int .i64 dm):=by rw [hc4 _ _ (by first|omega|(simp<;>omega))];first|exact c0|exact(aE4 _ _ _ hlt).trans c0);(have d1:w4.cell? ⟨w.heap.size,1,none⟩=some (.int .i64 df):=by rw [hc4 _ _ (by first|omega|(simp<;>omega))];first|exact c1|exact(aE4 _ _ _ hlt).trans c1);(have d2:w4.cell? ⟨w.heap.size,2,none⟩=some (.int .i64 ds):=by rw [hc4 _ _ (by first|omega|(simp<;>omega))];first|exact c2|exact(aE4 _ _ _ hlt).trans c2);(first|(guard_hyp hs4:V.heap.size+1<=w4.heap.size;obtain⟨⟨z0,z1,z2,z3⟩,x0,x1,x2,x3⟩:=fP (Fo.one_block (show Below (V.alloc (.cells (iR ⟨#[]⟩ 0 0 0) 155)).heap.size (V.alloc (.cells (iR ⟨#[]⟩ 0 0 0) 155)) w4 from⟨hb4.os,hb4.tape,hb4.output,hb4.size,hb4.block⟩)).1;have BF:V.heap.size < w4.heap.size:=aFO _ _ z0)|skip);(have TY:w.heap.size < w4.heap.size:=by omega);(have hn4:w.heap.size≠w4.heap.size:=by omega);(have hm4:w4.heap.size≠w.heap.size:=by omega);(clear hb4 hc4 hf4))
   |((go_at_call 305);(refine(HSH _ (by exact mQ.trans (by exact⟨rfl,rfl,rfl,Aac,λk hk=>by first|rfl|exact aEZ _ _ _ Aaa⟩))).mono ?_);(rintro e w5 ⟨ix,hix,rfl,hb5⟩);(have hs5:=hb5.size);(try simp at hs5);(have gQ:=Hq (mQ.trans (Below.trans (b:=_) (by exact⟨rfl,rfl,rfl,Aac,λk hk=>by first|rfl|exact aEZ _ _ _ Aaa⟩) (hb5.mono (by first|omega|(simp<;>omega))))));(obtain⟨DY,Yt⟩:=fE hb5);(have e0:w5.cell? ⟨w.heap.size,0,none⟩=some (.int .i64 dm):=by rw [DY _ _ (by first|omega|(simp<;>omega))];first|exact d0|exact(aE4 _ _ _ TY).trans d0);(have e1:w5.cell? ⟨w.heap.size,1,none⟩=some (.int .i64 df):=by rw [DY _ _ (by first|omega|(simp<;>omega))];first|exact d1|exact(aE4 _ _ _ TY).trans d1);(have e2:w5.cell? ⟨w.heap.size,2,none⟩=some (.int .i64 ds):=by rw [DY _ _ (by first|omega|(simp<;>omega))];first|exact d2|exact(aE4 _ _ _ TY).trans d2);(first|(guard_hyp BF:V.heap.size < w4.heap.size;have y0:=(DY _ 0 BF).trans z0;have y1:=(DY _ 1 BF).trans z1;have y2:=(DY _ 2 BF).trans z2;have y3:=(DY _ 3 BF).trans z3;have v0:=(Yt _ 0 BF).trans x0;have v1:=(Yt _ 1 BF).trans x1;have v2:=(Yt _ 2 BF).trans x2;have v3:=(Yt _ 3 BF).trans x3)|(guard_hyp hs5:w4.heap.size+1<=w5.heap.size;obtain⟨⟨y0,y1,y2,y3⟩,v0,v1,v2,v3⟩:=fP (Fo.one_block hb5).1)|skip);(have aCq:w.heap.size < w5.heap.size:=by omega);(have hn5:w.heap.size≠w5.heap.size:=by omega);(have hm5:w5.heap.size≠w.heap.size:=by omega);(clear hb5 DY Yt)))
 all_goals
  go_wp2_with fail
  go_ret
  refine⟨ix,hix,rfl,?_⟩
  first|exact gQ.alloc gQ.size _|exact Fo.four_below gQ Aaa):P:=h
theorem awM(h:P:=by
 have Sy:=Hq (aj wu hbw);have HR3:=Hq (aj HR1 hbw);have EF:=Hq (aj Hz hbw);have HB3:=Hq (HB1.trans (hbw.mono HB1.size));clear hW3 hbw c0 c1 c2 c3 c4 c5 c6 c7 c8 d0 d1 d2 d3;obtain⟨c0,c1,c2,c3,c4,c5,c6,c7,c8⟩:=nine Sy;obtain⟨d0,d1,d2,d3⟩:=iD HR3;obtain⟨r0,r1,r2,r3,r4,r5,r6⟩:=jM EF;have f0:=aC EF 0;have f1:=aC EF 1;have f2:=aC EF 2;have f3:=aC EF 3;have f4:=aC EF 4;have f5:=aC EF 5;have f6:=aC EF 6;go_wp2_with fail;refine iy (λW' hW'=>?_);exact Aeg):P:=h
theorem aoW.Aeg(h:P:=by
 have hR:=zo (b0:= .int .i64 1) (b1:= .int .i64 id) (b2:= .int .i64 st) (b3:= .int .i64 LO) (b4:= .int .i64 LO) (b5:= .string sx) (b6:= .int .i64 sn) EF;have hK:=vG (w:=W3) (g:=w.heap.size+1+1) (b0:= .int .i64 1) (b1:= .int .i64 id) (b2:= .int .i64 st) (b3:= .int .i64 LO) (b4:= .int .i64 LO) (b5:= .string sx) (b6:= .int .i64 sn);rw [<-hW'] at hR hK;obtain⟨x0,x1,x2,x3,x4,x5,x6⟩:=jM hR;refine aET (v:= .agg (bQ 1 id st LO LO sx sn)) Ade rfl ⟨rfl,HB3.trans (hK.below (λx hx=>by have:x=w.heap.size+1+1:=Aag;omega) HB3.size)⟩):P:=h
theorem aoX.Aeg(h:P:=by
 have hR:=zo (b0:= .int .i64 1) (b1:= .int .i64 id) (b2:= .int .i64 st) (b3:= .int .i64 si) (b4:= .int .i64 LO) (b5:= .string sx) (b6:= .int .i64 sn) EF;have hK:=vG (w:=W3) (g:=w.heap.size+1+1) (b0:= .int .i64 1) (b1:= .int .i64 id) (b2:= .int .i64 st) (b3:= .int .i64 si) (b4:= .int .i64 LO) (b5:= .string sx) (b6:= .int .i64 sn);rw [<-hW'] at hR hK;obtain⟨x0,x1,x2,x3,x4,x5,x6⟩:=jM hR;refine aET (v:= .agg (bQ 1 id st si LO sx sn)) Ade rfl ⟨rfl,HB3.trans (hK.below (λx hx=>by have:x=w.heap.size+1+1:=Aag;omega) HB3.size)⟩):P:=h
theorem aj1(h:P:=by
 refine aE0 Aab Aab ?_;repeat (first|go_big_quiet_step (first|exact cO _ _|exact cM _ _)|quiet_step (first|exact cO _ _|exact cM _ _))
 refine aFs ?_;intro _ hw';obtain⟨⟨dq,osq⟩,hw''⟩:=hw';subst hw'';have fI:=Hq (wY.trans ((aFe _ dq osq).mono wY.size));clear cO cM y0 y1 y2 y3 y4 y5 y6;exact AcM):P:=h
theorem aoY.AcM(h:P:=by
 exact Kk2):P:=h
theorem aoZ.AcM(h:P:=by
 exact Kk7):P:=h
theorem ao0.AcM(h:P:=by
 go_wp2_with fail;exact aET (v:= .tuple #[xE ⟨1,F,T,I,L,k,N⟩,.bool true]) Aax rfl ⟨Aav,fI⟩):P:=h
theorem awN(h:P:=by
 rw [<-hW] at e1 e2 e3 e4;have HN:=Hq e1;have HM:=Hq e2;have HR:=Hq e3;have HB0:=Hq e4;have Ik:=Hq (mP.kc (k:=9) (KC.of_below e4) Aaa);clear hW e1 e2 e3 e4 mP;obtain⟨m0,m1,m2,m3,m4,m5,m6⟩:=jM HM;have hml:=ay HM;have hnl:=ay HN;go_wp2_with fail;refine(HMO W0).mono ?_;rintro e W1 ⟨rfl,hb1⟩;have mU:=Hq (aj HN hb1);have Sv:=Hq (aj HM hb1);have BM:=Hq (aj HR hb1);have HB1:=Hq (HB0.trans (hb1.mono HB0.size));have yu:=Hq (Ik.kc (k:=9) (KC.of_below hb1) Aaa);clear hb1 HM HR HN HB0 Ik;clear m0 m1 m2 m3 m4 m5 m6 hml hnl HMO;obtain⟨m0,m1,m2,m3,m4,m5,m6⟩:=jM Sv;exact Ac5):P:=h
theorem ao1.Ac5(h:P:=by
 have hml:=ay Sv;have xU:=Hq (aj BM (au W1 (.cells #[] 70)));have N8:=Hq (yu.kc (k:=9) (KC.of_below (au W1 (.cells #[] 70))) Aaa);have vT:=Hq (HB1.trans ((au W1 (.cells #[] 70)).mono HB1.size));obtain⟨c0,c1,c2,c3,c4,c5,c6,c7,c8⟩:=nine mU;obtain⟨⟨d0,d1,d2,d3,d4,d5,d6,d7,d8⟩,f0,f1,f2,f3,f4,f5,f6,f7,f8⟩:=iM xU;have hnl:=ay mU;open apw in exact awQ):P:=h
theorem ao2.Ac5(h:P:=by
 obtain⟨c0,c1,c2,c3,c4,c5,c6,c7,c8⟩:=nine mU;have hml:=ay Sv;have hnl:=ay mU;go_wp2_with fail;refine(R7 W1 yu.at.k).mono ?_;rintro e W2 ⟨rfl,hb2⟩;open auc in exact ag0):P:=h
theorem awO(h:P:=by
 cases h1:NN fr
 case' false=>
  have cN:=ah R7 fr false W1 HKI h1
  have HV:=Hq (show bb=true by rw [<-ah eT];simp[h1])
  clear eT
  refine aE0 Aab Aab ?_
  repeat (first|go_big_quiet_step ((first|(go_at_call 92;exact cN _ _)|(go_at_call 90;exact cS _ _)))|quiet_step ((first|(go_at_call 92;exact cN _ _)|(go_at_call 90;exact cS _ _))))
  refine aFs ?_
  intro _ hw'
  obtain⟨⟨dq,osq⟩,hw''⟩:=hw'
  subst hw''
  go_wp2_with fail
  go_meet
  case rel=>exact yK
 have cN:=ah R7 fr true W1 HKI h1;exact AdZ):P:=h
theorem ao3.AdZ(h:P:=by
 by_cases h2:y < fr
 case' neg=>
  have hy:decide (fr<=y)=true:=aEO Aaa
  have HV:=Hq (show bb=true by rw [<-ah eT];simp[h2])
  clear eT
  refine aE0 Aab Aab ?_
  repeat (first|go_big_quiet_step ((first|(go_at_call 92;exact cN _ _)|(go_at_call 90;exact cS _ _)))|quiet_step ((first|(go_at_call 92;exact cN _ _)|(go_at_call 90;exact cS _ _))))
  refine aFs ?_
  intro _ hw'
  obtain⟨⟨dq,osq⟩,hw''⟩:=hw'
  subst hw''
  go_wp2_with fail
  go_meet
  case rel=>exact yK
 have hy:decide (fr<=y)=false:=aEN Aaa;open aBD in exact awz):P:=h
theorem ao4.AdZ(h:P:=by
 open aBE in exact awz):P:=h
theorem aj2(h:P:=by
 have hr:(convert 127 9 (.slice (some ⟨g,a+4,none⟩) (s.size - (a+4)) (s.size - (a+4)))).run prog w= .ok (.string (iI (tl s a))) w:=by
  exact aBT
 have h1:(s.size:Int)<=(a:Int)+1006:=Aaa
 have h2:¬((s.size:Int) - (a:Int) < 4):=Aaa
 have h3:(a:Int)+4 < (s.size:Int):=Aaa
 have hcap2:(s.size:Int)<=(cap:Int):=Aaa
 exact AbO):P:=h
theorem ao5.AbO(h:P:=by
 rw [CW s a 0 4 Aaa] at hq;have hmn:min (s.size:Int) ((a:Int)+1006)=(s.size:Int):=Int.min_eq_left Aaa;exact axo):P:=h
theorem ao6.AbO(h:P:=by
 rw [CW s a 0 4 Aaa] at hq;have hmn:min (s.size:Int) ((a:Int)+1006)=(s.size:Int):=Int.min_eq_left Aaa;exact axl):P:=h
theorem ao7.AbO(h:P:=by
 have hmn:min (s.size:Int) ((a:Int)+1006)=(s.size:Int):=Int.min_eq_left Aaa;exact axN):P:=h
theorem aeI(h:P:=by
 have HML:=Hq hml;clear hm hml;go_wp2_with (go_at_call 35;refine(ED _ _ Aaa).mono ?_;rintro e w1 ⟨rfl,hb1⟩;have HB1:=Hq hb1;have hgz:=hb1.size;obtain⟨hcc,hff⟩:=fE hb1;clear hb1)
 exact AbH):P:=h
theorem ao8.AbH(h:P:=by
 go_roundw
 case rel=>
  have hpos:0 < l.length:=Aaa
  have h0:=GR.W.toC aV Aaa HR;open awf in exact aaX
 case measure=>simp[intOf];omega):P:=h
theorem ao9.AbH(h:P:=by
 go_roundw
 case rel=>
  have hpos:0 < l.length:=Aaa
  have h0:=GR.W.toC aR Aaa HR;open awe in exact aaX
 case measure=>simp[intOf];omega):P:=h
theorem apa.AbH(h:P:=by
 go_roundw
 case rel=>
  have hpos:0 < l.length:=Aaa
  have h0:=GR.W.toC aP Aaa HR;open awd in exact aaX
 case measure=>simp[intOf];omega):P:=h
theorem apb.AbH(h:P:=by
 go_roundw
 case rel=>
  have hpos:0 < l.length:=Aaa
  have h0:=GR.W.toC jT Aaa HR;open aow in exact aeH
 case measure=>simp[intOf];omega):P:=h
theorem aeJ(h:P:=by
 open aun in exact aaO):P:=h
theorem apc.Aa6(h:P:=by
 refine aGt rfl 88 (.tmp 4) rfl w.heap.size 0 rfl (opl x.o) _ (H7.rng 0 _ rfl) underlying88 rfl Aab ?_;go_wp2_with fail;refine(HT _).mono ?_;rintro e x1 ⟨rfl,hb⟩;have zB:=Hq (H7.step hb (λ_=>True) (λ_ _=>trivial));clear hb H7 HT;open as1 in exact VO):P:=h
theorem apd.Aa6(h:P:=by
 refine aGt rfl 39 (.tmp 11) rfl w.heap.size 9 rfl (dH k.node A.n).toList _ hr1 underlying39 rfl Aab ?_;go_wp2_with fail;refine(Vq W1 HB1).mono ?_;rintro e W2 ⟨rfl,hk⟩;have oH:=Hq (aj zx hk);have HB2:=Hq (HB1.trans (hk.mono HB1.size));clear hk hr1 zx HB1 Vq;have c20:W2.cell? ⟨w.heap.size,20,none⟩=some (.slice A.wa k.wait.length A.wc):=aEW W2 w.heap.size 20 _ 43 (0,0) oH;go_wp2_with fail;refine(HM3 W2 HB2).mono ?_;rintro e W3 ⟨rfl,hk⟩;have Sq:=Hq (aj oH hk);have HB3:=Hq (HB2.trans (hk.mono HB2.size));clear hk c20 oH HB2 HM3;have g3:decide (((E2:Int)+7*(k.wait.length:Int)) < 0)=false:=aEN Aaa;have c21:W3.cell? ⟨w.heap.size,21,none⟩=some (.slice A.aa k.asked.length A.ac):=aEW W3 w.heap.size 21 _ 43 (0,0) Sq;go_wp2_with fail;refine(HM4 _ W3 Aaa HB3).mono ?_;rintro e W4 ⟨rfl,hk⟩;have mQ:=Hq (HB3.trans (hk.mono HB3.size));have g4:decide ((((E2+7*k.wait.length:Nat):Int)+12*(k.asked.length:Int)) < 0)=false:=aEN Aaa;clear hk c21 Sq HB3 HM4;go_wp2_with fail;go_ret;exact⟨mD (by rw [ah HEK];omega),mQ⟩):P:=h
theorem ape.Aa6(h:P:=by
 refine aGt rfl 39 (.tmp 9) rfl w.heap.size 9 rfl (dH k.node A.n).toList _ hr1 underlying39 rfl Aab ?_;go_wp2_with fail;refine(Vq W1 yu).mono ?_;rintro e W2 ⟨rfl,hm,hk⟩;have Hy:=Hq hm;have HB2:=Hq (gU.keeps HB1 hk (λx hx hx2=>HD.1 x (all_mk hx) hx2));have HW2:=Hq (HW1.keeps hk (λx hx hx2=>(HD.2 x (aFc _ hx)).2 hx2));have HA2:=Hq (HA1.keeps hk (λx hx hx2=>(HD.2 x (aFh _ hx)).2 hx2));have oH:=Hq (hk.obj zx (λhx=>HNE _ Aai rfl));have HL2:=Hq (uq.trans (hk.mono (λx hx=>Aai)));clear hm hk hr1 HB1 yu HW1 HA1 zx uq Vq;have c20:W2.cell? ⟨w.heap.size,20,none⟩=some (.slice A.wa k.wait.length A.wc):=aEW W2 w.heap.size 20 _ 43 (0,0) oH;go_wp2_with fail;refine(HM3 W2 HW2).mono ?_;rintro e W3 ⟨rfl,hm,hk⟩;have HW3:=Hq hm;have HN3:=Hq (gU.keeps Hy hk (λx hx hx2=>(HD.2 x (aFc _ hx2)).2 (all_mk hx)));have HB3:=Hq (gU.keeps HB2 hk (λx hx hx2=>(HD.2 x (aFc _ hx2)).1 (all_mk hx)));have HA3:=Hq (HA2.keeps hk (λx hx hx2=>HDD x hx2 hx));have Sq:=Hq (hk.obj oH (λhx=>HNE _ Aai rfl));have qX:=Hq (HL2.trans (hk.mono (λx hx=>Aai)));clear hm hk c20 HB2 Hy HW2 HA2 oH HL2 HM3;have c21:W3.cell? ⟨w.heap.size,21,none⟩=some (.slice A.aa k.asked.length A.ac):=aEW W3 w.heap.size 21 _ 43 (0,0) Sq;go_wp2_with fail;refine(HM4 _ W3 Aaa HA3).mono ?_;rintro e W4 ⟨rfl,hm,hk⟩;have HA4:=Hq hm;have HN4:=Hq (gU.keeps HN3 hk (λx hx hx2=>(HD.2 x (aFh _ hx2)).2 (all_mk hx)));have mQ:=Hq (gU.keeps HB3 hk (λx hx hx2=>(HD.2 x (aFh _ hx2)).1 (all_mk hx)));have HW4:=Hq (HW3.keeps hk (λx hx hx2=>HDD x (jl hx) hx2));have Ij:=Hq (qX.trans (hk.mono (λx hx=>Aai)));clear hm hk c21 HB3 HN3 HA3 Sq qX HM4 HW3;go_wp2_with fail;go_ret;exact⟨mD (by rw [ah HEK];omega),⟨mQ,HN4,HW4,HA4⟩,Ij⟩):P:=h
theorem apf.Aa6(h:P:=by
 refine aGt rfl 28 (.tmp 8) rfl w.heap.size 9 rfl (dH k.node A.n).toList _ (zB.rng 9 _ rfl) underlying28 rfl Aab ?_;go_wp2_with fail;refine(H2 _ zB.b).mono ?_;rintro e x ⟨A2,rfl,G2,hN,hS,hb⟩;have hs0:=zB.s;have hs1:=(zB.m _ (aA.refl _ _)).2.2;have Li:=Hq (zB.step hb (λW'=>gU W' A2 G2 k.node/\x.heap.size<=W'.heap.size) (λW' hk=>⟨hN.keeps hk (λy hy hm=>by have:=hS.rng y hy;simp at hm;omega),hk.size⟩));have HR2:=Hq (show(∀y∈G2.all k.node,s1<=y/\y < x.heap.size)/\w.heap.size<=s1/\s1<=x.heap.size from⟨λy hy=>by have:=hS.rng y hy;omega,HR1.2,by have:=hb.size;omega⟩);have HD2:=Hq hS.nodup;clear hN hS hb hs0 hs1 zB H2;generalize hs2:x.heap.size=s2 at *;clear hs2;open as0 in exact VO):P:=h
theorem aj3(h:P:=by
 go_wp2_with fail;refine wp_region_quiet_lit Aab Aab ?_;repeat (first|go_big_quiet_step ((first|(go_at_call 121;exact ajf _ _ hx1 _ _)))|quiet_step ((first|(go_at_call 121;exact ajf _ _ hx1 _ _))))
 refine aFs ?_;intro _ hw';obtain⟨nq,hw''⟩:=hw';subst hw'';go_wp2_with fail;exact AbQ):P:=h
theorem apg.AbQ(h:P:=by
 go_roundw
 case rel=>exact⟨j+1+1,Aaa,Aaf,HG,Hu,aY.trans ⟨rfl,rfl,rfl,aEM _,λ_ _=>rfl⟩⟩
 case measure=>simp[intOf];omega):P:=h
theorem aph.AbQ(h:P:=by
 go_roundw
 case rel=>exact⟨0+1,Aaa,Aaf,HG,Hu,aY.trans ⟨rfl,rfl,rfl,aEM _,λ_ _=>rfl⟩⟩
 case measure=>simp[intOf];omega):P:=h
theorem apj.AbQ(h:P:=by
 go_ret;exact⟨aF HP.symm,aY.trans ⟨rfl,rfl,rfl,aEM _,λ_ _=>rfl⟩⟩):P:=h
theorem awP(h:P:=by
 go_wp2_with fail;refine kC results129 rfl rfl rfl sD (λW' e4 fq=>?_);have HAT:=Hq (λW'' (ho:Out c w W' W'')=>(yu.kc (k:=9) ((KC.keeps fq (λx hx=>by have:x=w.heap.size+1:=Aag;rw [this];exact aX Aaa)).trans (KC.out H9 ho)) Aaa).rm);have qZ:Hid (Below B w W'):=(HB1.mono hB).trans (fq.below (λx hx=>by have:x=w.heap.size+1:=Aag;omega) (aEP hB (HB1.mono hB).size));have xS:=Hq (Apart.keeps (c:=c) (Apart.of_below (HB1)) (HB1.mono hB).size fq (λx hx=>by have:x=w.heap.size+1:=Aag;omega));clear e4 fq;exact AdD):P:=h
theorem apk.AdD(h:P:=by
 exact⟨(⟨a_k,rG,je,iU,(some ⟨g,off,none⟩),dz,fJ,dX,dA,dK⟩:bq),rfl,HAT,qZ,xS⟩):P:=h
theorem apl.AdD(h:P:=by
 exact⟨A,rfl,HAT,qZ,xS⟩):P:=h
theorem aj4(h:P:=by
 have hr:(convert 127 9 (.slice (some ⟨g,a+4,none⟩) 1002 1002)).run prog w= .ok (.string (iI (tl s a))) w:=by
  exact axj
 have h1:¬((s.size:Int)<=(a:Int)+1006):=Aaa
 have h3:(a:Int)+1006 < (s.size:Int):=Aaa
 have h31:¬((a:Int)+1006 - (a:Int) < 4):=Aaa
 have hcap2:(s.size:Int)<=(cap:Int):=Aaa
 exact AbT):P:=h
theorem apm.AbT(h:P:=by
 rw [CW s a 0 4 Aaa] at hq;have hmn:min (s.size:Int) ((a:Int)+1006)=(a:Int)+1006:=Int.min_eq_right Aaa;exact axo):P:=h
theorem apn.AbT(h:P:=by
 rw [CW s a 0 4 Aaa] at hq;have hmn:min (s.size:Int) ((a:Int)+1006)=(a:Int)+1006:=Int.min_eq_right Aaa;exact axl):P:=h
theorem apo.AbT(h:P:=by
 have hmn:min (s.size:Int) ((a:Int)+1006)=(a:Int)+1006:=Int.min_eq_right Aaa;exact axN):P:=h
theorem XM(h:P:=by
 have hkk:=hks l[k] (aE2 hlt);have HT:=Hq (aEV hlt);generalize l[k]=pu at *;exact AaY):P:=h
theorem apq.AaY(h:P:=by
 have wC:=Hq (λw1=>afY pu z w1 hz0 hz1 hkk);obtain⟨pk,pm,pf,ps⟩:=pu;exact akc):P:=h
theorem apr.AaY(h:P:=by
 have wC:=Hq (λw1=>alv pu z w1 hz0 hz1 hkk);obtain⟨pi,pt,pk,pn⟩:=pu;exact akc):P:=h
theorem aps.AaY(h:P:=by
 have wC:=Hq (λw1=>azK pu z w1 hz0 hz1 hkk);obtain⟨pno,pk,pn,ps⟩:=pu;exact akc):P:=h
theorem apt.AaY(h:P:=by
 have wC:=Hq (λw1=>alu pu b c z w1 hz0 hz1 hkk);obtain⟨fr,lo,ids⟩:=pu;dsimp only at q0 q1 q2 hkk;unfold maxLen at hkk;go_wp2_with fail;refine(wC _).mono ?_;rintro e w5 ⟨rfl,hb5⟩;have fI:=Hq (aY.trans (hb5.mono aY.size));clear hb5 q0 q1 q2;dsimp only;by_cases hc:(ids.length:Int)<=z
 .rw [aE7 hc];have hn2:decide (z - (ids.length:Int) < 0)=false:=aEN Aaa;go_wp2_with fail;go_roundw
  case rel=>
   refine⟨k+1,z - ids.length,Aaa,Aaf,rfl,Aaa,Aaa,?_,fI⟩;intro p hp;rw [ah HT] at hp;rcases aE6.1 hp with h|h
   .exact jr p h
   .rw [aE3] at h;subst h;show ids.length<=1048576
    omega
  case measure=>simp[intOf];omega
 .rw [aEX hc];go_wp2_with fail;go_ret;exact⟨-1,rfl,fI,.inl rfl⟩):P:=h
theorem apu.AaY(h:P:=by
 have wC:=Hq (fun(w1:World)=>ZF pu z w1 hz0 Aaa hkk);obtain⟨⟨oK,Qx,ok,on,⟨mK,mF,mT,mI,mL,mk,mN⟩⟩,ac⟩:=pu;dsimp only at q0 q1 q2 q3 q4 q5 q6 q7 q8 q9 q10 q11 wC;clear hkk;go_wp2_with fail;refine(wC wr).mono ?_;rintro e w5 ⟨r,rfl,hcase,hb5⟩;have fI:=Hq (aY.trans (hb5.mono aY.size));clear hb5 q0 q1 q2 q3 q4 q5 q6 q7 q8 q9 q10 q11;exact axL):P:=h
theorem apv.AaY(h:P:=by
 have wC:=Hq (fun(w1:World)=>alr pu z w1 hz0 Aaa hkk);obtain⟨mK,mF,mT,mI,mL,mk,mN⟩:=pu;dsimp only at q0 q1 q2 q3 q4 q5 q6 wC;clear hkk;go_wp2_with fail;refine(wC wr).mono ?_;rintro e w5 ⟨r,rfl,hcase,hb5⟩;have fI:=Hq (aY.trans (hb5.mono aY.size));clear hb5 q0 q1 q2 q3 q4 q5 q6;exact axL):P:=h
theorem awQ(h:P:=by
 have hrl:=ay xU;go_wp2_with fail;refine eH results131 rfl rfl rfl rfl xU (λW' e4 fq=>?_);have HAT:=Hq (λW'' (ho:Out c w W' W'')=>(N8.kc (k:=9) ((KC.keeps fq (λx hx=>by have:x=w.heap.size+2:=Aag;rw [this];exact aX Aaa)).trans (KC.out H9 ho)) Aaa).rm);have qZ:Hid (Below B w W'):=(vT.mono hB).trans (fq.below (λx hx=>by have:x=w.heap.size+2:=Aag;omega) (aEP hB (vT.mono hB).size));have xS:=Hq (Apart.keeps (c:=c) (Apart.of_below vT) (vT.mono hB).size fq (λx hx=>by have:x=w.heap.size+2:=Aag;omega));clear e4 fq;exact Aeu):P:=h
theorem apw.Aeu(h:P:=by
 exact⟨A,some ⟨W1.heap.size,0,none⟩,0,rfl,HAT,λW'' _ i hi=>Aat,qZ,xS⟩):P:=h
theorem apx.Aeu(h:P:=by
 exact⟨A,some ⟨W2.heap.size,0,none⟩,0,rfl,HAT,λW'' _ i hi=>Aat,qZ,xS⟩):P:=h
theorem aa3(h:P:=by
 have hk2:k < m.length:=(ah HN)▸hlt;have HE:=Hq (λe=>nM HN hlt HT e);have HD:=Hq (λe=>Kj hlt hk2 e);exact Aa1):P:=h
theorem apy.Aa1(h:P:=by
 obtain⟨g1,o1,rfl,hg1,s0,s1,s2,s3⟩:=fT.four (GR.At.below HA aY) k hlt;obtain⟨g2,o2,rfl,hg2,t0,t1,t2,t3⟩:=fT.four (GR.At.below HB aY) k hk2;open atY in exact agX):P:=h
theorem apz.Aa1(h:P:=by
 obtain⟨g1,o1,rfl,hg1,s0,s1,s2,s3⟩:=SentAt.four (GR.At.below HA aY) k hlt;obtain⟨g2,o2,rfl,hg2,t0,t1,t2,t3⟩:=SentAt.four (GR.At.below HB aY) k hk2;open atW in exact agX):P:=h
theorem apA.Aa1(h:P:=by
 obtain⟨g1,o1,rfl,hg1,s0,s1,s2,s3⟩:=aG.four (GR.At.below HA aY) k hlt;obtain⟨g2,o2,rfl,hg2,t0,t1,t2,t3⟩:=aG.four (GR.At.below HB aY) k hk2;generalize l[k]=x at *;generalize m[k]=y at *;obtain⟨x0,x1,x2,x3⟩:=x;obtain⟨y0,y1,y2,y3⟩:=y;dsimp only at s0 s1 s2 s3 t0 t1 t2 t3;clear hk2;by_cases hx:x0=y0
 case' neg=>
  have hq:(x0.toList == y0.toList)=false:=CU hx;have hr:¬x0.toList=y0.toList:=Abh
  exact akm
 subst hx;by_cases hx:x1=y1
 case' neg=>
  have hq:(x1 == y1)=false:=Aag
  exact abm
 exact aiw):P:=h
theorem apB.Aa1(h:P:=by
 obtain⟨g1,o1,rfl,hg1,s0⟩:=bC.one (GR.At.below HA aY) k hlt;obtain⟨g2,o2,rfl,hg2,t0⟩:=bC.one (GR.At.below HB aY) k hk2;generalize l[k]=x at *;generalize m[k]=y at *;clear hk2;by_cases hxy:x=y
 case' neg=>
  have hq:(x != y)=true:=by simpa using hxy
  have HP:=Hq (HD hxy);clear HD HE hxy;go_upto_region 6 with fail;go_quiet (fail);go_wp2_with fail;go_ret;exact .no HP (fG _ aY)
 subst hxy;have HT2:=Hq (HE rfl);clear HE HD;go_upto_region 6 with fail;go_quiet (fail);go_wp2_with fail;go_roundw
 case rel=>exact⟨k+1,Aaa,Aaf,fG _ aY,HT2⟩
 case measure=>simp[intOf];omega):P:=h
theorem apC.Aa1(h:P:=by
 obtain⟨g1,o1,b1,c1,rfl,hg1,s0,s1,s2,i1⟩:=HA.below aY k hlt;obtain⟨g2,o2,b2,c2,rfl,hg2,t0,t1,t2,i2⟩:=HB.below aY k hk2;have hil:=ah HI l[k] (aE2 hlt);generalize l[k]=x at *;generalize m[k]=y at *;have HC:=Hq (λW (h:aH wr W)=>ads x y b1 b2 c1 c2 W hil (i1.below h) (i2.below h));clear i1 i2 hil hk2;have hbz:=Hq (zU wr (.cells #[.int .i64 x.f,.int .i64 x.l,.slice b1 x.ids.length c1] 130) (.cells #[.int .i64 y.f,.int .i64 y.l,.slice b2 y.ids.length c2] 130));go_wp2_with fail;refine(HC _ hbz).mono ?_;rintro e w1 ⟨⟨r,rfl,hr⟩,hb1⟩;have zD:=Hq (aY.trans ((Below.trans hbz (hb1.mono hbz.size)).mono aY.size));clear hb1 hbz HC aY;cases r
 .have HP:=Hq (HD (λe=>by have:=hr.2 e;cases this));clear hr HE HD;go_wp2_with fail;go_ret;exact .no HP zD
 .have HT2:=Hq (HE (hr.1 rfl));clear hr HE HD;go_wp2_with fail;go_roundw
  case rel=>exact⟨k+1,Aaa,Aaf,zD,HT2⟩
  case measure=>simp[intOf];omega):P:=h
theorem awR(h:P:=by
 go_wp2_with fail;refine(jJ X A1 HPR.1 BL.at.p).mono ?_;rintro e W5 ⟨v,rfl,_,hown,hb5⟩;obtain⟨pa,pc,rfl,_⟩:=GR.own_at (enc:=fu) aP hown;have nT:=Hq (aj iE hb5);have ru:=Hq (aj sD hb5);have yj:=Hq (jI.trans (hb5.mono jI.size));have Xx:=Hq (BL.kc (k:=9) (KC.of_below hb5) Aaa);have JK:=Hq hown;have hxr:=ay sD;clear hown hb5 c0 c1 c2 c3 c4 c5 c6 c7 c8 p0 p1 p2 p3 p4 p5 p6 p7 p8 p9 oD hnl hol jJ iE HOX sD BL HPR jI;obtain⟨c0,c1,c2,c3,c4,c5,c6,c7,c8⟩:=nine nT;have hnl:=ay nT;exact AdG):P:=h
theorem apD.AdG(h:P:=by
 have f4:=aC nT 4;go_upto_region 11 with fail;refine wp_at (λY hY=>?_)
 have hky:aA [w.heap.size] W5 Y:=by
  rw [hY];exact aA.set _
 have rU:Hid (Y.heap[w.heap.size]?=some (.cells (vW n.id n.par A1.k n.kids.length A1.ck n.next pa RL.length pc A1.o n.out.length A1.co A1.s n.seen.length A1.cs n.old A1.r n.reqs.length A1.cr) 39 (0,0))):=by
  rw [hY];exact aN nT 4 (.slice pa RL.length pc)
 have wB:=Hq (hky.obj ru Aac);have Ht:=Hq (yj.trans (hky.below (B:=w.heap.size) (λx hx=>by have:x=w.heap.size:=Aag;omega) yj.size));have aAb:=Hq (Xx.kc (k:=9) (KC.keeps hky (λx hx=>by have:x=w.heap.size:=Aag;rw [this];exact NV)) Aaa);have aAf:=Hq (dD JK hky (λx hx=>by have:x=w.heap.size:=Aag;omega));clear hY hky f4 c0 c1 c2 c3 c4 c5 c6 c7 c8 hnl nT ru yj Xx JK;obtain⟨c0,c1,c2,c3,c4,c5,c6,c7,c8⟩:=nine rU;have hnl:=ay rU;obtain⟨⟨d0,d1,d2,d3,d4,d5,d6,d7,d8⟩,f0,f1,f2,f3,f4,f5,f6,f7,f8⟩:=iM wB;have hrl:=ay wB;go_wp2_with fail;refine eH (u1:= .slice (some ⟨w.heap.size+1+1+1,0,none⟩) 0 0) (u2:= .int .i64 0) results99 rfl rfl rfl rfl wB (λW' e4 fq=>?_)
 have HAT:=Hq (λW'' (ho:yh w W' W'')=>(show RM W'' ⟨A1.k,pa,A1.o,A1.s,A1.r,A1.ck,pc,A1.co,A1.cs,A1.cr⟩ (setPu n RL) from(by
  have h:=((aAb.kc (k:=9) (KC.keeps fq (λx hx=>by have:x=w.heap.size+2:=Aag;rw [this];exact CY)) Aaa).kc (k:=9) (ho.kc (λx hx=>HC9 x Aaa)) Aaa)
  obtain⟨F,hk2,hF⟩:=ho
  have hpo:=(dD (dD aAf fq (λx hx=>by have:x=w.heap.size+2:=Aag;omega)) hk2 (λx hx=>by have:=hF x hx;omega))
  have hp9:∀g',pa.map (λy=>y.block)=some g'->6 < newC X.heap.size 9 c g':=λg' hg'=>by
   have h1:=vw hpo (tq hpo hg')
   rw [aX Aaa]
   omega
  exact NQ.put h HCQ (setPu n RL) ⟨A1.k,pa,A1.o,A1.s,A1.r,A1.ck,pc,A1.co,A1.cs,A1.cr⟩ rfl rfl rfl rfl (GR.own_ati aP hpo) (λg' hg' _=> .inr (hp9 g' hg')) h.o (λy hy=> .inl (HCQ.co y hy)) h.r (λy hy=> .inl (HCQ.cr y hy))
   (λg' hg' _ h6=>⟨λe=>by have:=HCQ.co g' e;omega,λe=>by have:=HCQ.cr g' e;omega⟩) (λy hy h6 e=>by have:=HCQ.co y hy;omega))))
 have qZ:Hid (aH w W'):=Ht.trans (fq.below (λx hx=>by have:x=w.heap.size+2:=Aag;omega) Ht.size);clear e4 fq;exact⟨⟨A1.k,pa,A1.o,A1.s,A1.r,A1.ck,pc,A1.co,A1.cs,A1.cr⟩,some ⟨w.heap.size+1+1+1,0,none⟩,0,rfl,HAT,λW'' _ i hi=>Aat,qZ⟩):P:=h
theorem apE.AdG(h:P:=by
 go_upto_region 9 with fail;obtain⟨⟨d0,d1,d2,d3,d4,d5,d6,d7,d8⟩,f0,f1,f2,f3,f4,f5,f6,f7,f8⟩:=iM ru;have hrl:=ay ru;go_wp2_with fail;refine eH (u1:= .slice (some ⟨w.heap.size+1+1+1,0,none⟩) 0 0) (u2:= .int .i64 1) results99 rfl rfl rfl rfl ru (λW' e4 fq=>?_);have HAT:=Hq (λW'' (ho:yh w W' W'')=>((Xx.kc (k:=9) (KC.keeps fq (λx hx=>by have:x=w.heap.size+2:=Aag;rw [this];exact CY)) Aaa).kc (k:=9) (ho.kc (λx hx=>HC9 x Aaa)) Aaa).rm);have qZ:Hid (aH w W'):=yj.trans (fq.below (λx hx=>by have:x=w.heap.size+2:=Aag;omega) yj.size);clear e4 fq;exact⟨A1,some ⟨w.heap.size+1+1+1,0,none⟩,0,rfl,HAT,λW'' _ i hi=>Aat,qZ⟩):P:=h
theorem SL(h:P:=by
 obtain⟨k,m,hk,rfl,rfl,hm,hR,hkp⟩:=hrel;have HM:=Hq hm;have HR:=Hq hR;have HK:=Hq hkp;clear hR hkp;exact AaQ):P:=h
theorem apF.AaQ(h:P:=by
 by_cases hlt:k < l.length
 .have hml:=fA mkInt 1 s l k hk;have hk':k < (jH mkInt 1 s l k).length:=Abr
  have hm0:0 < m:=Aaa
  have hm1:(m:Int)<=92233720368547758:=Aaa
  obtain⟨e0,hg0,s0,f0⟩:=GR.W.one HR k hk';subst e0;have HML:=Hq hml;clear hm hml;go_wp2_with fail;go_roundw
  case rel=>
   have hpos:0 < l.length:=Aaa
   have h5:=GR.W.set aW HR k (mkInt m) Abq;have hmk:mkInt m=mkInt (s+1*k):=Abf
   rw [hmk,xI mkInt 1 s l k hlt,<-hmk,Nat.mul_one] at h5;exact⟨k+1,m+1,Aaa,Aaf,Aaf,by have:=ah HM;omega,h5,HK.trans (dx (aA.set _) hpos)⟩
  case measure=>simp[intOf];omega
 .exact XQ):P:=h
theorem apG.AaQ(h:P:=by
 by_cases hlt:k < l.length
 .have hml:=fA jO 4 s l k hk;have hk':k < (jH jO 4 s l k).length:=Abr
  have hm0:0 < m:=Aaa
  have hm1:(m:Int)<=92233720368547758:=Aaa
  obtain⟨e0,hg0,⟨s0,s1,s2,s3⟩,f0,f1,f2,f3⟩:=GR.W.fourReq HR k hk';subst e0;have ED:=Hq (λz w1 (hz:z=((m+1:Nat):Int))=>kH (m+1) z w1 hz Aaa Aaa);open ao8 in exact aeI
 .exact XQ):P:=h
theorem apH.AaQ(h:P:=by
 by_cases hlt:k < l.length
 .have hml:=fA iA 4 s l k hk;have hk':k < (jH iA 4 s l k).length:=Abr
  have hm0:0 < m:=Aaa
  have hm1:(m:Int)<=92233720368547758:=Aaa
  obtain⟨e0,hg0,⟨s0,s1,s2,s3⟩,f0,f1,f2,f3⟩:=GR.W.fourSent HR k hk';open avl in exact VT
 .exact XQ):P:=h
theorem apI.AaQ(h:P:=by
 by_cases hlt:k < l.length
 .have hml:=fA fZ 4 s l k hk;have hk':k < (jH fZ 4 s l k).length:=Abr
  have hm0:0 < m:=Aaa
  have hm1:(m:Int)<=92233720368547758:=Aaa
  obtain⟨e0,hg0,⟨s0,s1,s2,s3⟩,f0,f1,f2,f3⟩:=GR.W.fourPurse HR k hk';subst e0;have ED:=Hq (λz w1 (hz:z=((m+0:Nat):Int))=>kH (m+0) z w1 hz Aaa Aaa);open apa in exact aeI
 .exact XQ):P:=h
theorem apJ.AaQ(h:P:=by
 by_cases hlt:k < l.length
 .open asj in exact agD
 .open amU in exact uz):P:=h
theorem apK.AaQ(h:P:=by
 by_cases hlt:k < l.length
 .have hml:=fA iX 12 s l k hk;have hk':k < (jH iX 12 s l k).length:=Abr
  have hm0:0 < m:=Aaa
  have hm1:(m:Int)<=92233720368547758:=Aaa
  have hpos:0 < l.length:=Aaa
  have hfl:(GR.flat dQ (jH iX 12 s l k)).length=l.length*12:=by rw [GR.flat_length dQ 12 aQ,hml]
  have HL9:=Hq (show k*12+9 < (GR.flat dQ (jH iX 12 s l k)).length by omega);have az3:=Hq (show k*12+10 < (GR.flat dQ (jH iX 12 s l k)).length by omega);have az4:=Hq (show k*12+11 < (GR.flat dQ (jH iX 12 s l k)).length by omega);obtain⟨e0,hg0,⟨s0,s1,s2,s3,s4,s5,s6,s7,s8,s9,s10,s11⟩,f0,f1,f2,f3,f4,f5,f6,f7,f8,f9,f10,f11⟩:=GR.W.twelveA HR k hk';open avk in exact VT
 .exact XQ):P:=h
theorem apL.AaQ(h:P:=by
 by_cases hlt:k < l.length
 .have hml:=fA mkMsg 7 s l k hk;have hk':k < (jH mkMsg 7 s l k).length:=Abr
  have hm0:0 < m:=Aaa
  have hm1:(m:Int)<=92233720368547758:=Aaa
  obtain⟨e0,hg0,⟨s0,s1,s2,s3,s4,s5,s6⟩,f0,f1,f2,f3,f4,f5,f6⟩:=GR.W.sevenM HR k hk';subst e0;have ED:=Hq (λz w1 (hz:z=((m+5:Nat):Int))=>kH (m+5) z w1 hz Aaa Aaa);open apb in exact aeI
 .exact XQ):P:=h
theorem awS(h:P:=by
 go_in
 go_wp2_with fail;refine HOF.mono ?_;rintro e w1 ⟨mp,mb,v,rfl,Ih,hb1⟩;obtain⟨hblk,hlt1,hbw⟩:=Fo.one_block hb1;have HB1:=Hq hbw;have c0:w1.cell? ⟨w.heap.size,0,none⟩=some (.int .i64 dm):=by rw [aEW w1 _ _ _ _ (0,0) hblk];rfl
 have c1:w1.cell? ⟨w.heap.size,1,none⟩=some (.int .i64 df):=by rw [aEW w1 _ _ _ _ (0,0) hblk];rfl
 have c2:w1.cell? ⟨w.heap.size,2,none⟩=some (.int .i64 ds):=by rw [aEW w1 _ _ _ _ (0,0) hblk];rfl
 exact AcR):P:=h
theorem apM.AcR(h:P:=by
 have HMX:=Hq (HMV _ mp mb _ v w1 hb1.size Aaj Ih (HE.below hbw));clear hb1 Ih HOF hblk hbw HMV;go_wp2_with (first|(go_at_call 190;refine(HK _).mono ?_;rintro e w2 ⟨rfl,rfl⟩)|(go_at_call 170;refine(Lf _).mono ?_;rintro e w2 ⟨rfl,rfl⟩))
 refine HMX.mono ?_;rintro e w3 ⟨hb3,hcase⟩;have HB3:=Hq (HB1.trans (Below.mono hb3 Aac));clear hb3 HMX;rcases hcase with⟨hf,h20,rfl⟩|⟨hf,rfl,v',ayw⟩
 .have HAD:=Hq (aaf hf h20);clear hf h20 aaf aal;go_wp2_with fail;go_ret2
  exact⟨HB3,.inl ⟨HAD,_,Aaa,rfl⟩⟩
 .obtain⟨hadd,hlen⟩:=ah aal hf;have ad5:=Hq hadd;have zy:=Hq (acn _ mp mb _ v' PL G2 w3 hlen EM Sc ayw);clear hf aaf aal hadd ayw;go_wp2_with fail;refine zy.mono ?_;rintro e w4 ⟨rfl,ai9,hb4⟩;have mQ:=Hq (HB3.trans (hb4.mono HB3.size));have HK4:=Hq ai9;clear hb4 ai9;go_wp2_with fail;go_ret2
  rw [ah ad5];exact⟨mQ,.inr ⟨rfl,_,HB3.size,rfl,HK4⟩⟩):P:=h
theorem apN.AcR(h:P:=by
 have HMX:=Hq (HMV _ mp mb _ v w1 Ih (HE.below hbw));clear hb1 Ih HOF hblk hbw HMV;go_wp2_with (first|(go_at_call 190;refine(HK _).mono ?_;rintro e w2 ⟨rfl,rfl⟩)|(go_at_call 170;refine(Lf _).mono ?_;rintro e w2 ⟨rfl,rfl⟩)|(go_at_call 293;refine HMX.mono ?_;rintro e w3 ⟨i,hi,rfl,hb3⟩))
 go_ret2
 exact⟨HB1.trans (hb3.mono HB1.size),.inl ⟨HAD,i,hi,rfl⟩⟩):P:=h
theorem awT(h:P:=by
 open auj in exact ag1):P:=h
theorem apP.AdY(h:P:=by
 have r1:=aEL q1;have r2:=aEL q2;have r3:=aEL q3;have e4:=aEL d4;refine rg 23 Ge 25 ?_;refine tk [0,1,2,3,4,5,6,7,8,9,10,11,12,13,14,15,16,17,18,19] ?_;iterate 20 (refine iO (λK hK=>?_);go_simp;refine hK _ ?_;clear hK K)
 refine jf ?_;clear r1 r2 r3 e4;refine dG 20 rfl Aab Aad (λx hx=>?_);go_simp;have HX:=Hq (HZ1.step hx);refine(HUN x HX).mono ?_;rintro e y ⟨a,cp,g5,hg5,rfl,hp,hby⟩;refine⟨hby,?_⟩;have HST:=Hq (λu (hu:Ge y u)=>afR (cp:=cp) HX (hby.trans (hu.mono hby.size)) hg5 (hp.below hu));clear hby hg5 hp HUN hx;refine tk [21,22] ?_;open auL in exact ET):P:=h
theorem apQ.AdY(h:P:=by
 have r3:=aEL q3;refine I9 25 ?_;refine tk [0,1,2,3,4,5,6,7,8,9,10,11,12,13,14,15,16,17,18,19,20,21,22,23,24] ?_;iterate 25 (refine iO (λK hK=>?_);go_simp;refine hK _ ?_;clear hK K)
 refine jf ?_;refine dS Aab (λx hx=>?_);have HX:=Hq (HZ1.step hx);have x3:=(fE hx).1 g (i*4+3) hgl;clear hx r3;go_simp;go_wp2_with fail;go_ret;exact⟨rfl,A,G,c,HX⟩):P:=h
theorem awU(h:P:=by
 rw [<-hW] at e1 e2 e3;have HN:=Hq e1;have HR:=Hq e2;have HB0:=Hq e3;have Ik:=Hq (mP.kc (k:=9) (KC.of_below e3) Aaa);clear hW e1 e2 e3 mP hbw0;obtain⟨c0,c1,c2,c3,c4,c5,c6,c7,c8⟩:=nine HN;have hnl:=ay HN;go_wp2_with fail;refine(JK W0 Ik.at.p).mono ?_;open avL in exact ahp):P:=h
theorem apR.Ad5(h:P:=by
 have HI:=Hq (And.intro hi (And.intro hz0 (And.intro hz1 hz2)));clear hi hz0 hz1 hz2;obtain⟨c0,c1,c2,c3,c4,c5,c6,c7,c8⟩:=nine mU;have hnl:=ay mU;have hrl:=ay sD;open ap6 in exact awY):P:=h
theorem apS.Ad5(h:P:=by
 have xU:=Hq (aj sD (au W1 (.cells #[] 70)));obtain⟨c0,c1,c2,c3,c4,c5,c6,c7,c8⟩:=nine mU;obtain⟨⟨d0,d1,d2,d3,d4,d5,d6,d7,d8⟩,f0,f1,f2,f3,f4,f5,f6,f7,f8⟩:=iM xU;have hnl:=ay mU;have hrl:=ay xU;open ap5 in exact awY):P:=h
theorem awV(h:P:=by
 have hat:og l k=(iB l[k]&&(k == 0|| !sle l[k].k (l.getD (k - 1) default).k)):=by unfold og;rw [getD_at l k hlt]
 exact AdN):P:=h
theorem apT.AdN(h:P:=by
 cases k with
 |zero=>
  open ar3 in exact agy
 |succ j=>
  obtain⟨g,off,rfl,hgw,c0,c1,c2,c3⟩:=aG.four (GR.At.below HA aY) (j+1) hlt;obtain⟨g',off',e',_,d0,_,_,_⟩:=aG.four (GR.At.below HA aY) j Aaa;have eg:g=g'/\off=off':=by injection e' with e';injection e' with e1 e2;exact⟨e1,e2⟩
  obtain⟨rfl,rfl⟩:=eg;have hgd:l.getD j default=l[j]:=getD_at l j Aaa;rw [show j+1 - 1=j from rfl,hgd] at hat;have hgt:decide ((0:Int) < ((j:Int)+1))=true:=aEO Aaa;clear e' hgd;generalize l[j].k=q at *;have nU:=Hq hat;have iE:=Hq (qA (og l) (j+1));clear hat;generalize l[j+1]=pu at *;obtain⟨pk,pm,pf,ps⟩:=pu;dsimp only at c0 c1 c2 c3 hks;cases hkb:keyOk pk.data.toList
  .have HB:=Hq hkb;have HBAD:=Hq (oh hlt (show og l (j+1)=false by rw [ah nU];simp[iB,ah HB]));clear nU iE;have hkb':=ah HB;exact Zk0
  have hkb':=hkb;cases hbl:Op.bytesLess pk.toList q.toList
  case' true=>
   have hsl:sle pk q=true:=by unfold sle;rw [hbl];rfl
   cases heq:pk.toList == q.toList
   .exact aa6
   .exact aa6
  cases heq:pk.toList == q.toList
  case' true=>
   have hsl:sle pk q=true:=by unfold sle;rw [hbl,heq];rfl
   exact aa6
  have hsl:Hid (sle pk q=false):=by unfold sle;rw [hbl,heq];rfl
  by_cases h1:0<=pm/\pm<=1000000000
  case' neg=>
   have hA:rA pm=false:=aEN h1;have g1:decide (yJ pm 0 1000000000)=false:=aEN h1;exact aeR
  have g1:decide (yJ pm 0 1000000000)=true:=aEO h1;have hA1:rA pm=true:=aEO h1;by_cases h2:0<=pf/\pf<=1000000000
  case' neg=>
   have hA:rA pf=false:=aEN h2;have g2:decide (yJ pf 0 1000000000)=false:=aEN h2;exact aeR
  have g2:decide (yJ pf 0 1000000000)=true:=aEO h2;have hA2:rA pf=true:=aEO h2;by_cases h3:0<=ps/\ps<=1000000000
  case' neg=>
   have hA:rA ps=false:=aEN h3;have g3:decide (yJ ps 0 1000000000)=false:=aEN h3;exact aeR
  open avW in exact ahr):P:=h
theorem apU.AdN(h:P:=by
 cases k with
 |zero=>
  open ar2 in exact agy
 |succ j=>
  have hlt2:j < l.length:=Aaa
  obtain⟨g,off,rfl,hgw,c0,c1,c2,c3⟩:=aG.four (GR.At.below HA aY) (j+1) hlt;obtain⟨g2,off2,e2,akS,d0,d1,d2,d3⟩:=aG.four (GR.At.below HA aY) j hlt2;have e3:g=g2:=by injection e2 with e2;injection e2 with e2 e4
  have e4:off=off2:=by injection e2 with e2;injection e2 with e2 e4
  subst e3 e4;clear e2 akS d1 d2 d3;have hgt:decide ((0:Int) < ((j+1:Nat):Int))=true:=aEO Aaa;have ej:IntKind.i64.wrap (((j+1:Nat):Int) - 1)=(j:Int):=by rw [IntWalk.i64_in _ ⟨by omega,by omega⟩];omega
  rw [show j+1 - 1=j by omega,getD_at l j hlt2] at hat;have nU:=Hq hat;have iE:=Hq (qA (og l) (j+1));clear hat;generalize l[j+1]=pu at *;generalize l[j]=pq at *;obtain⟨q,qm,qf,qs⟩:=pq;dsimp only at d0;cases hpo:iB pu
  .have HO:=Hq (λw1=>ql pu false w1 hpo);have HBAD:=Hq (oh hlt (show og l (j+1)=false by rw [ah nU,hpo];rfl));clear nU iE hpo;obtain⟨pk,pm,pf,ps⟩:=pu;dsimp only at c0 c1 c2 c3;open aBH in exact aaZ
  .have HO:=Hq (λw1=>ql pu true w1 hpo);cases hsl:Op.bytesLess q.toList pu.k.toList
   .have HBAD:=Hq (oh hlt (show og l (j+1)=false by rw [ah nU,hpo];dsimp only;rw [<-Qn,hsl];simp));clear nU iE hpo;obtain⟨pk,pm,pf,ps⟩:=pu;dsimp only at c0 c1 c2 c3 hsl;open aBG in exact aaZ
   .have Ez:=Hq (show og l (j+1)=true by rw [ah nU,hpo];dsimp only;rw [<-Qn,hsl];simp);clear nU hpo;obtain⟨pk,pm,pf,ps⟩:=pu;dsimp only at c0 c1 c2 c3 hsl;open aBF in exact aaZ):P:=h
theorem awW(h:P:=by
 obtain⟨⟨p0,p1,p2,p3,p4,p5,p6,p7,p8,p9,oD⟩,_⟩:=aJ Ip;have hol:=ay Ip;go_wp2_with fail;refine(EG W2).mono ?_;rintro e W4 ⟨rfl,hb4⟩;have Io:=Hq (aj ku hb4);have ajE:=Hq (aj Ip hb4);have EO:=Hq (aj mZ hb4);have gQ:=Hq (HB2.trans (hb4.mono HB2.size));clear hb4 p0 p1 p2 p3 p4 p5 p6 p7 p8 p9 oD hol EG ku Ip mZ HB2;obtain⟨c0,c1,c2,c3,c4,c5,c6,c7,c8⟩:=nine Io;have hnl:=ay Io;go_wp2_with fail;refine(NY W4 gQ).mono ?_;exact Ac0):P:=h
theorem apV.Ac0(h:P:=by
 rintro e W3 ⟨A1,G1,cc,rfl,hNO,hb3,hP1,hP2,hR1,hR2⟩;have qx:=Hq (aj EO hb3);have sG:=Hq (aj Io hb3);have Lg:=Hq (aj ajE hb3);have HB3:=Hq (gQ.trans (hb3.mono gQ.size));have HPR:=Hq (And.intro (And.intro hP1 hP2) (And.intro hR1 hR2));have mP:=Hq (hNO.flat (b:=0) (aE1 _));have HC9:=Hq (λx (hx:x < w.heap.size+3)=>Yg (b:=0) (aE1 _) (hNO.lo x (by have:=ay EO;omega)));have hrs:=ay EO;have H9:=Hq (abI 0 cc);generalize yD 0 cc=c at *;have CY:=Hq (HC9 (w.heap.size+2) Aaa);have NV:=Hq (HC9 w.heap.size Aaa);clear hb3 hNO hP1 hP2 hR1 hR2 c0 c1 c2 c3 c4 c5 c6 c7 c8 hnl NY Io ajE EO;obtain⟨⟨d0,d1,d2,d3,d4,d5,d6,d7,d8⟩,f0,f1,f2,f3,f4,f5,f6,f7,f8⟩:=iM sG;obtain⟨⟨p0,p1,p2,p3,p4,p5,p6,p7,p8,p9,oD⟩,_⟩:=aJ Lg;have hnl:=ay sG;have hol:=ay Lg;go_upto_region 5 with fail;refine azP sG (λX e5 hkx=>?_);have iE:=Hq e5;have HOX:=Hq ((hkx.block _ (ay Lg) Aac).trans Lg);have sD:=Hq ((hkx.block _ (ay qx) Aac).trans qx);have jI:=Hq (HB3.trans (hkx.below (B:=w.heap.size) (λx hx=>by have:x=w.heap.size:=Aag;omega) HB3.size));have BL:=Hq (mP.kc (k:=9) (KC.keeps hkx (λx hx=>by have:x=w.heap.size:=Aag;rw [this];exact NV)) Aaa);exact Kk0):P:=h
theorem apW.Ac0(h:P:=by
 rintro e W3 ⟨A1,G1,cc,rfl,hNO,hb3,_,_⟩;have qx:=Hq (aj EO hb3);have HB3:=Hq (gQ.trans (hb3.mono gQ.size));have mP:=Hq hNO;have hrs:=ay EO;clear hb3 hNO c0 c1 c2 c3 c4 c5 c6 c7 c8 hnl NY Io ajE EO;exact axD):P:=h
theorem awX(h:P:=by
 have abV:cand s=⟨s[0].toNat,vB s (gG s 0),vB s (gG s 1),vB s (gG s 2),vB s (gG s 3),j6 s (gG s 4),vB s (iZ s (gG s 4))⟩:=by unfold cand;rw [L9 h0];rfl
 have HM:=Hq (show jV s=true->DX s= .tuple #[nZ (cand s),.bool true] from λh=>by unfold DX mY;rw [h,aE7 rfl]);have HZ:=Hq (show jV s=false->DX s= .tuple #[.agg (bQ 0 0 0 0 0 ⟨#[]⟩ 0),.bool false] from Ep);have hE:yC s=jX s (iZ s (gG s 4)):=rfl;rw [hE] at HO;rw [abV] at HP HM HO;exact AeH):P:=h
theorem apX.AeH(h:P:=by
 clear abV hE e1 e2 e3 e4;have hne:=kJ s h0;have hi0:(0:Int) < (s.size:Int):=Aaa
 open asK in exact VN):P:=h
theorem apY.AeH(h:P:=by
 clear hcs abV hE;have hne:=kJ s h0;have hi0:(0:Int) < (s.size:Int):=Aaa
 open arw in exact axe):P:=h
theorem aj5(h:P:=by
 rw [<-hW] at e2 e3;have Lh:=Hq e2;have HW1:=Hq (HW0.step e3);clear hW e2 e3;generalize w.heap.size+1=B at *;obtain⟨c0,c1,c2,c3,c4,c5,c6,c7,c8,c9⟩:=jN HW1.blk;obtain⟨⟨p0,p1,p2,p3,p4,p5,p6⟩,_⟩:=eD Lh;have hBl:=ay Lh;have aCQ:=ay HW1.blk;exact Ab9):P:=h
theorem apZ.Ab9(h:P:=by
 go_upto_region 12 with fail;go_wp2_with fail;refine(HDL W B Lh HW1.no.o).mono ?_;rintro e y ⟨a2,cp2,rfl,hrow,hgr,hx2⟩;have HY:=Hq (HW1.setOut hgr hrow hx2);clear hrow hgr hx2 HDL c0 c1 c2 c3 c4 c5 c6 c7 c8 c9 p0 p1 p2 p3 p4 p5 p6;obtain⟨c0,c1,c2,c3,c4,c5,c6,c7,c8,c9⟩:=jN HY.1;have f5:=aC HY.1 5;have ak3:=ay HY.1;go_wp2_with fail;go_ret;exact⟨rfl,_,G,c,v,by rw [aFZ];exact HY.2⟩):P:=h
theorem ap0.Ab9(h:P:=by
 go_wp2_with fail;refine(OI W HW1).mono ?_;rintro e y ⟨rfl,⟨A',G',c',hY⟩,hJ⟩;have HY:=Hq hY;have Iq:=Hq (hJ B ⟨1,mF,mT,mI,mL,mk,mN⟩ Lh);clear hY hJ OI p0 p1 p2 p3 p4 p5 p6 c0 c1 c2 c3 c4 c5 c6 c7 c8 c9;exact Ac2):P:=h
theorem ap1.Ab9(h:P:=by
 have SE:=Hq (λp:Regrown=>HW1.no.at.below (aFe _ p.d p.os));go_upto_region 4 with fail;open anu in exact XJ):P:=h
theorem aj6(h:P:=by
 refine wp_at (λW0 hW0=>?_);have HB0:Hid (W0.heap[w.heap.size]?=some (.cells (dH ⟨id,par,kids,next,pu,out,seen,old,reqs⟩ ⟨ak,ap,ao,as',ar,ck,cp,co,cs,cr⟩) 39 (0,0))):=by rw [hW0];exact jI
 have pJ:Hid (aH w W0):=by rw [hW0];exact au w _
 clear hW0 jI;exact Ab1):P:=h
theorem ap2.Ab1(h:P:=by
 obtain⟨c0,c1,c2,c3,c4,c5,c6,c7,c8⟩:=nine HB0;go_wp2_with fail;refine(N9 _ pJ).mono ?_;rintro e w1 ⟨rfl,hb1⟩;open as9 in exact aaG):P:=h
theorem ap3.Ab1(h:P:=by
 obtain⟨bb,hbb⟩:∃bb,(!(PL&&PS&&TD&&fH next&&decide (out.length<=40)&&rA old&&decide (reqs.length<=30)))=bb:=⟨_,rfl⟩;have eT:=Hq hbb;clear hbb;obtain⟨c0,c1,c2,c3,c4,c5,c6,c7,c8⟩:=nine HB0;go_cut [44] (λr wx=>r= .bool bb/\wx.heap[w.heap.size]?=some (.cells (dH ⟨id,par,kids,next,pu,out,seen,old,reqs⟩ ⟨ak,ap,ao,as',ar,ck,cp,co,cs,cr⟩) 39 (0,0))/\aH w wx)
 case first=>
  go_wp2_with fail;refine(N9 _ pJ).mono ?_;rintro e w1 ⟨rfl,hb1⟩;open aws in exact aa0
 case rest=>
  obtain⟨rfl,hblk,hbel⟩:=hcut;have HB1:=Hq hblk;have uq:=Hq hbel;clear hblk hbel c0 c1 c2 c3 c4 c5 c6 c7 c8 N9 HPU Oc HB0 pJ;cases hbv:bb
  case' true=>
   have HP:Hid (TT=false):=by
    have h:=ah eT;rw [hbv] at h;rw [ah HD];generalize (PL&&PS&&TD&&fH next&&decide (out.length<=40)&&rA old&&decide (reqs.length<=30))=X at *;cases X
    .rfl
    .cases h
   clear eT HD;subst hbv;go_wp2_with fail;go_ret;exact⟨aF HP.symm,uq⟩
  have HF:Hid (fH next=true/\rA old=true/\TT=(gV OT (λs t=>iL s.i t.i) out&&gV RQ (λs t=>iL s.no t.no) reqs)):=by
   have h:=ah eT;rw [hbv] at h;rw [ah HD];cases h4:fH next<;>cases h6:rA old<;>rw [h4,h6] at h
   all_goals first
    |(simp at h;done)
    |skip
   refine⟨rfl,rfl,?_⟩;generalize (PL&&PS&&TD&&true&&decide (out.length<=40)&&true&&decide (reqs.length<=30))=X at *;cases X
   .cases h
   .rfl
  clear eT HD;subst hbv;obtain⟨hn1,ho1,hTT⟩:=ah HF;have HTT:=Hq hTT;have hn2:1<=next/\next<=1000000000:=aE5 hn1;have ho2:0<=old/\old<=1000000000:=aE5 ho1;obtain⟨hn3,hn4⟩:=hn2;obtain⟨ho3,ho4⟩:=ho2;clear hn1 ho1 hTT HF;have yt:=Hq (λk h=>pV OT (λs t=>iL s.i t.i) out k h);have Oo:=Hq (sJ OT (λs t=>iL s.i t.i) out);have Ey:=Hq (wD OT (λs t=>iL s.i t.i) out);have HDB:=Hq (λk h=>pV RQ (λs t=>iL s.no t.no) reqs k h);have HDF:=Hq (sJ RQ (λs t=>iL s.no t.no) reqs);have HDN:=Hq (wD RQ (λs t=>iL s.no t.no) reqs);generalize (λs t:jC=>iL s.i t.i)=RO at *;generalize (λs t:Rq=>iL s.no t.no)=RR at *;go_wp2_with fail;go_loopw [3] (λi wr=>∃k:Nat,k<=out.length/\i= .int .i64 k/\gV OT RO (out.take k)=true/\wr.heap[w.heap.size]?=some (.cells (dH ⟨id,par,kids,next,pu,out,seen,old,reqs⟩ ⟨ak,ap,ao,as',ar,ck,cp,co,cs,cr⟩) 39 (0,0))/\aH w wr) (λi _=>out.length - (intOf i).toNat)
  case atStart=>exact⟨0,aE1 _,rfl,rfl,HB1,uq⟩
  case round=>
   open aqQ in exact aeK):P:=h
theorem ap4.Ab1(h:P:=by
 obtain⟨al,hal⟩:∃al:Int,(kids.length:Int)+(if 0<=par then 1 else 0)=al:=⟨_,rfl⟩;rw [hal] at HD;go_cut [3] (λr wx=>r= .int .i64 al/\wx=W0)
 case first=>
  by_cases hp:0<=par
  .rw [aE7 hp] at hal;have HAL:=Hq hal;clear hal;go_wp2_with fail;go_meet
   case rel=>exact⟨by rw [<-ah HAL],rfl⟩
  .rw [aEX hp] at hal;have HAL:=Hq hal;clear hal;go_wp2_with fail;go_meet
   case rel=>exact⟨by rw [<-ah HAL,Int.add_zero],rfl⟩
 case rest=>
  obtain⟨rfl,rfl⟩:=hcut;clear hal;obtain⟨c0,c1,c2,c3,c4,c5,c6,_⟩:=nine HB0;by_cases hlen:(seen.length:Int)=al
  case' neg=>
   have hbn:((seen.length:Int) != al)=true:=by simpa using hlen
   have HP:Hid (TT=false):=by rw [ah HD,aEN hlen];rfl
   clear hlen HD yt Oo Ey R7 Xz HRR;go_wp2_with fail;go_ret;exact⟨aF HP.symm,pJ⟩
  have hbn:((seen.length:Int) != al)=false:=by simpa using hlen
  have mW:Hid (TT=gV PP RR seen):=by rw [ah HD,aEO hlen];rfl
  clear hlen HD;go_wp2_with fail;go_loopw [4] (λi wr=>∃k:Nat,k<=seen.length/\i= .int .i64 k/\gV PP RR (seen.take k)=true/\wr.heap[w.heap.size]?=some (.cells (dH ⟨id,par,kids,next,pu,out,seen,old,reqs⟩ ⟨ak,ap,ao,as',ar,ck,cp,co,cs,cr⟩) 39 (0,0))/\aH w wr) (λi _=>seen.length - (intOf i).toNat)
  case atStart=>exact⟨0,aE1 _,rfl,rfl,HB0,pJ⟩
  case round=>
   open aqP in exact aeK):P:=h
theorem awY(h:P:=by
 go_wp2_with fail;rw [JX];go_upto_if 20 with fail;go_cut [3] (λl wx=>l= .int .i64 gP/\W1=wx)
 case first=>
  by_cases hq:pf < most
  .rw [aE7 hq] at hc;subst hc;have q0:decide (pf < most)=true:=aEO hq;go_wp2_with fail;go_meet
   case rel=>exact⟨rfl,rfl⟩
  .rw [aEX hq] at hc;subst hc;have q0:decide (pf < most)=false:=aEN hq;go_wp2_with fail;go_meet
   case rel=>exact⟨rfl,rfl⟩
 case rest=>
 obtain⟨rfl,rfl⟩:=hcut;clear hc;exact Adk):P:=h
theorem ap5.Adk(h:P:=by
 go_upto_region 5 with fail;go_wp2_with fail;have N8:=Hq (yu.kc (k:=9) (KC.of_below (au W1 (.cells #[] 70))) Aaa);have vT:=Hq (HB1.trans ((au W1 (.cells #[] 70)).mono HB1.size));refine eH results132 rfl rfl rfl rfl xU (λW' e4 fq=>?_);have HAT:=Hq (λW'' (ho:Out c w W' W'')=>(N8.kc (k:=9) ((KC.keeps fq (λx hx=>by have:x=w.heap.size+1:=Aag;rw [this];exact aX Aaa)).trans (KC.out H9 ho)) Aaa).rm);have qZ:Hid (Below B w W'):=(vT.mono hB).trans (fq.below (λx hx=>by have:x=w.heap.size+1:=Aag;omega) (aEP hB (vT.mono hB).size));have xS:=Hq (Apart.keeps (c:=c) (Apart.of_below vT) (vT.mono hB).size fq (λx hx=>by have:x=w.heap.size+1:=Aag;omega));clear e4 fq;exact⟨A,some ⟨W1.heap.size,0,none⟩,0,rfl,HAT,λW'' _ i hi=>Aat,qZ,xS⟩):P:=h
end Go.Proofs.YtbolgdleijjgfaaGreatDoor
