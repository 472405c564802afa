/-
  Parts of proofs that stand more than once, each said once.
-/
import Derived.Test.YtbolgdleijjgfaaGreatDoorRfZ1
namespace Go.Proofs.YtbolgdleijjgfaaGreatDoor
open Go.Proofs.Tryz
set_option maxRecDepth 100000
variable{P:Prop}
theorem anK.AcM(h:P:=by
 dsimp only at hf;clear he;rcases hf with hf|⟨hf,hs⟩
 all_goals
  go_in
  go_upto_region 5 with fail
  refine Fo.wp_at (λV hV=>?_)
  obtain⟨_,hC,hbel⟩:=BF (w:=w) (w1:=V) (by rw [hV];exact aE3 _ _)
  have HC:=Hq hC
  have aZ:=Hq hbel
  have vv:=(HE.below hbel).var 4 Aaa
  have hsz:=(show w.heap.size+1+1 < V.heap.size from Fo.lt_of_blk hC)
  obtain⟨⟨r0,r1,r2,r3⟩,s0,s1,s2,s3⟩:=fZ hC
  clear hC hbel hV
  go_region
  all_goals
   go_wp2_with fail
   refine Fo.bodyPost_at (λW' hW'=>?_)
   obtain⟨⟨t0,t1,t2,t3⟩,_⟩:=fZ (show W'.heap[w.heap.size+1+1]?=some (.cells (iX ⟨#[]⟩ 0 0 0) 155 (0,0)) by rw [hW'];exact Fo.four_set (w:=V.drew) HC)
   have hbb:aH w W':=by rw [hW'];exact Fo.four_below (w:=V.drew) (aZ.trans ⟨rfl,rfl,rfl,aER _,λ_ _=>rfl⟩) Aaa
   exact aEY (v:= .tuple #[.agg (iX ⟨#[]⟩ 0 0 0),uN (E 4)]) (by simp[results,results305,go_sem,t0,t1,t2,t3]) rfl ⟨rfl,hbb⟩):P:=h
theorem anL.AcM(h:P:=by
 dsimp only at hf hs;clear hok he;open awz in exact ahu):P:=h
theorem anM.AcM(h:P:=by
 dsimp only at hf hs;clear hok;open awy in exact ahu):P:=h
theorem awP(h:P:=by
 have xZ:=Hq fC;clear fC;refine aI 12 rfl Aab Aad ?_;go_simp;refine aI 13 rfl Aab Aad ?_;go_simp;refine wpAny_done Aab ?_;go_simp;go_wp2_with fail;refine iE (λW' hW'=>?_);subst hW';have fC:=ah xZ;open auR in exact ag0):P:=h
theorem anN.AdB(h:P:=by
 exact aEY (v:= .tuple #[(gU n A1),.slice (some ⟨y.heap.size,0,none⟩) 1 1,.int .i64 0]) Acm rfl ⟨A1,some ⟨y.heap.size,0,none⟩,1,rfl,HAT,EP,rG⟩):P:=h
theorem anO.AdB(h:P:=by
 exact aEY (v:= .tuple #[(gU n A1),.slice (some ⟨x.heap.size,0,none⟩) 1 1,.int .i64 0]) Acm rfl ⟨A1,some ⟨x.heap.size,0,none⟩,1,rfl,HAT,EP,rG⟩):P:=h
theorem awQ(h:P:=by
 have hTi:∀j,j < 3->∃u,wc.cell? ⟨G.s,i*3+j,none⟩=some u/\wc.frozen? ⟨G.s,i*3+j,none⟩=false:=λj hj=>⟨_,(hcT j hj).1.trans (aEV (by rw [bE];exact hj)),(hcT j hj).2⟩
 obtain⟨v0,y0,x0⟩:=hTi 0 Aaa;obtain⟨v1,y1,x1⟩:=hTi 1 Aaa;obtain⟨v2,y2,x2⟩:=hTi 2 Aaa;rw [aGB] at y0 x0;exact Adz):P:=h
theorem anP.Adz(h:P:=by
 clear hTi hcT hrT hT hlT T AA hb4 ajx sZ Xx qH HB3 al9 amx ael;have aDy:G.s < wc.heap.size:=Aaa
 obtain⟨c0,c1,c2,c3,c4,c5,c6,c7,c8⟩:=nine DX;obtain⟨s40,s41,s42⟩:=Da aar;have sf:=aC aar 2;have hnl:=ay DX;have hne1:sb≠G.s:=Aaa
 have hne2:G.s≠sb:=Aaa
 go_upto_region 15 with fail;refine wp_at (λW6 IW=>?_);have HNW:Hid (NQ W6 B (dX n (n.seen.set i ⟨mF,gu s0 mL,cu s0 mL⟩)) (⟨a_k,(some ⟨gp,0,none⟩),jm,(some ⟨G.s,0,none⟩),jy,dH,fQ,eu,dJ,dR⟩:bq) ⟨G.k,G.p,G.o,G.s,G.r,vJ G.i i gi⟩ (wL gi (cu s0 mL) (newC w.heap.size 9 c))):=by rw [IW];exact Xz
 have Sl:aA [sb,G.s] wc W6:=by
  rw [IW];exact((aA.set _).mono Aac).trans ((gI [.int .i64 mF,.int .i64 (gu s0 mL),.slice (some ⟨gi,0,none⟩) (cu s0 mL).length Ye] _ (i*3)).mono Aac)
 have HIW:Hid (GR.W bg 1 W6 (some ⟨gi,0,none⟩) gi (cu s0 mL)):=by
  rw [IW];exact Sk.W.keeps (gI [.int .i64 mF,.int .i64 (gu s0 mL),.slice (some ⟨gi,0,none⟩) (cu s0 mL).length Ye] _ (i*3)) (λx hx hm=>by have h1:=(dw hx).1;simp at hm;omega)
 have aem:Hid (W6.heap[sb]?=some (.cells #[.int .i64 mF,.int .i64 (gu s0 mL),.slice (some ⟨gi,0,none⟩) (cu s0 mL).length Ye] 130 (0,0))):=by rw [IW];exact mO _ hne1 (mO _ hne1 (mO _ hne1 (aP aar 2 _)))
 have ou:=Hq (Sl.obj DX (λhx=>Aak));have ad8:=Hq (Sl.obj al5 (λhx=>Aak));have rH:=Hq (Sl.obj SH (λhx=>Aak))
 have hBs:B<=G.s:=by
  rcases aF2 G.s B with h1|h1
  .have h2:=nA.lo G.s h1;rw [fE Aaa,hc4] at h2;omega
  .exact h1
 have alQ:=Hq ((nC.mono hB).trans (Sl.below (B:=B) (λx hx=>Aak) (aEU hB nC.size)))
 have al2:=Hq (Apart.keeps (c:=c) (Apart.of_below nC) nC.size Sl (λx hx=>by
  have h1:x=sb\/x=G.s:=Aag
  rcases h1 with rfl|rfl
  .left;omega
  .right;omega))
 have aDS:gi < W6.heap.size:=aEZ aCn Sl.size;have aEi:w.heap.size+3<=W6.heap.size:=by have:=ay aem;omega
 have HCO:Hid (∀x,x < w.heap.size->6 < c x->wL gi (cu s0 mL) (newC w.heap.size 9 c) x=9):=λx hx h=>by rw [wM (λhm=>by have:=(dw hm).1;omega),fE hx];exact H9 x h
 have BP:Hid (∀x,w.heap.size<=x->x≠gi->wL gi (cu s0 mL) (newC w.heap.size 9 c) x=9):=λx hx h=>by rw [wM (λhm=>h (dw hm).1)];exact aY hx
 clear IW Sl Sk Xz y0 y1 y2 x0 x1 x2 s40 s41 s42 sf c0 c1 c2 c3 c4 c5 c6 c7 c8 hnl DX al5 SH aar nC;obtain⟨c0,c1,c2,c3,c4,c5,c6,c7,c8⟩:=nine ou;obtain⟨m0,m1,m2,m3,m4,m5,m6⟩:=jS ad8;have hnl:=ay ou;have hml:=ay ad8;go_upto_region 16 with fail;refine wp_at (λW7 Oi=>?_);have wB:=au W6 (.cells (bX 2 n.id mF mI 0 ⟨#[]⟩ 0) 70);have ha7:=aEP W6 (.cells (bX 2 n.id mF mI 0 ⟨#[]⟩ 0) 70);rw [<-Oi] at wB ha7;have aae:=Hq ha7;have sJ:=Hq (aj ou wB);have ad9:=Hq (aj ad8 wB);have wI:=Hq (aj rH wB);have aen:=Hq (aj aem wB);have ajt:=Hq (HIW.below wB);have aec:=Hq (HNW.kc (k:=9) (KC.of_below wB) Aaa);have ajm:=Hq (alQ.trans (wB.mono (aEU hB Aaa)));have ajv:=Hq (al2.step Aaa wB);obtain⟨ab,hab⟩:∃ab,W6.heap.size=ab:=⟨_,rfl⟩;have aDI:w.heap.size+3<=ab:=Aaa
 have habs:sb < ab:=by have:=ay aem;omega
 have aDJ:gi < ab:=Aaa
 rw [hab] at aae;rw [hab] at *;have hz7:=ay aae;clear Oi wB ha7 c0 c1 c2 c3 c4 c5 c6 c7 c8 m0 m1 m2 m3 m4 m5 m6 hnl hml ou ad8 rH aem HIW HNW alQ al2;obtain⟨m0,m1,m2,m3,m4,m5,m6⟩:=jS ad9;obtain⟨s70,s71,s72⟩:=Da aen;have hml:=ay ad9;have aCR:=ay aen;have ad3:=Hq (λW (ha:bH W (some ⟨gi,0,none⟩) (cu s0 mL))=>Xk (some ⟨gi,0,none⟩) Ye (cu s0 mL) mI W Aaa ha);cases hhas:tF s0 mL mI
 .clear r1;have hm1:¬mI < gu s0 mL:=λh=>by unfold tF at hhas;rw [aET h] at hhas;simp at hhas
  have hd:decide (mI < gu s0 mL)=false:=aES hm1;have hb:hasB (cu s0 mL) mI=false:=Ada
  rw [hb] at ad3;obtain⟨c0,c1,c2,c3,c4,c5,c6,c7,c8⟩:=nine sJ;have hnl:=ay sJ;open aBR in exact awM
 .obtain rfl:=r1 hhas;clear r1 r2 r3;obtain⟨c0,c1,c2,c3,c4,c5,c6,c7,c8⟩:=nine sJ;obtain⟨⟨d0,d1,d2,d3,d4,d5,d6,d7,d8⟩,f0,f1,f2,f3,f4,f5,f6,f7,f8⟩:=iT wI;have hnl:=ay sJ;have hrl:=ay wI;by_cases hm:mI < gu s0 mL
  .have hd:decide (mI < gu s0 mL)=true:=aET hm;go_wp2_with fail;exact axD
  .have hd:decide (mI < gu s0 mL)=false:=aES hm;have hb:hasB (cu s0 mL) mI=true:=Ada
   rw [hb] at ad3;open aBQ in exact awM):P:=h
theorem anQ.Adz(h:P:=by
 clear hTi hcT hrT hT hlT T ayV Mh hown2 aga aai agd aap afW Vu af9 afY af5 aef;have aDz:G.s < wc.heap.size:=Aaa
 obtain⟨c0,c1,c2,c3,c4,c5,c6,c7,c8⟩:=nine Vx;obtain⟨s40,s41,s42⟩:=Da aaq;have hnl:=ay Vx;have aza:=ay aaq;have ayB:Hid ((lK (cu s0 mL) mI).length=(cu s0 mL).length+1):=abO;clear abO;go_upto_region 27 with fail;refine wp_at (λW12 akC=>?_)
 have ama:Hid (NQ W12 B (dX (dX n (n.seen.set i ⟨mF,gu s0 mL,cu s0 mL⟩)) ((n.seen.set i ⟨mF,gu s0 mL,cu s0 mL⟩).set i ⟨mF,gu s0 mL,lK (cu s0 mL) mI⟩)) (⟨a_k,(some ⟨gp,0,none⟩),jm,(some ⟨G.s,0,none⟩),jy,dH,fQ,eu,dJ,dR⟩:bq) ⟨G.k,G.p,G.o,G.s,G.r,vJ (vJ G.i i gi) i g2⟩ (wL g2 (lK (cu s0 mL) mI) (wL gi (cu s0 mL) (newC w.heap.size 9 c)))):=by
  rw [akC,<-ah ayB];exact HNP
 have Ud:aA [G.s] wc W12:=by
  rw [akC];exact gI [.int .i64 mF,.int .i64 (gu s0 mL),.slice (some ⟨g2,0,none⟩) ((cu s0 mL).length+1) cq2] wc (i*3)
 have agb:=Hq (Ud.obj Vx (λhx=>Aak));have OG:=Hq (Ud.obj agf (λhx=>Aak));have alM:=Hq (Ud.obj afX (λhx=>Aak));have alP:=Hq (afZ.trans (Ud.below (B:=B) (λx hx=>Aak) Aaa));have al1:=Hq (Apart.keeps (c:=c) af6 Aaa Ud (λx hx=>by have:x=G.s:=Aag;rw [this];right;omega));have aAi:=Hq (amd.keeps Ud (λx hx=>Aak));have az0:Hid (∀x,x < w.heap.size->6 < c x->wL g2 (lK (cu s0 mL) mI) (wL gi (cu s0 mL) (newC w.heap.size 9 c)) x=9):=λx hx h=>by rw [wM (λhm=>by have:=(dw hm).1;omega)];exact HCO x hx h
 have alU:Hid (∀x,w.heap.size<=x->x≠gi->x≠g2->wL g2 (lK (cu s0 mL) mI) (wL gi (cu s0 mL) (newC w.heap.size 9 c)) x=9):=λx hx h h'=>by rw [wM (λhm=>h' (dw hm).1)];exact BP x hx h
 clear akC Ud HNP y0 y1 y2 x0 x1 x2 s40 s41 s42 c0 c1 c2 c3 c4 c5 c6 c7 c8 hnl aza Vx agf afX afZ af6 amd aaq aaj HW2;obtain⟨c0,c1,c2,c3,c4,c5,c6,c7,c8⟩:=nine agb;obtain⟨⟨d0,d1,d2,d3,d4,d5,d6,d7,d8⟩,f0,f1,f2,f3,f4,f5,f6,f7,f8⟩:=iT OG;have hnl:=ay agb;have hrl:=ay OG;go_wp2_with fail;refine eP (u1:= .slice (some ⟨ab,0,none⟩) 1 1) (u2:= .int .i64 0) results158 rfl rfl rfl rfl OG (λW' e4 fC=>?_);have ab5:w.heap.size+2≠gi:=Aaa
 have HNF:=Hq (ama.kc (k:=9) (KC.keeps fC (λx hx=>by have:x=w.heap.size+2:=Aag;rw [this];exact alU _ Aaa ab5 Aaa)) Aaa)
 have HAT:Hid (∀W'',Out c w W' W''->RM W'' (⟨a_k,av,jm,(some ⟨G.s,0,none⟩),jy,dH,cv,eu,dJ,dR⟩:bq) (dX (setPu n RL) (n.seen.set i ⟨mF,gu s0 mL,lK (cu s0 mL) mI⟩))):=λW'' ho=>by
  obtain⟨F,hk,hF⟩:=ho
  have hold:=(HNF.kc (k:=9) (KC.keeps hk (λx hx=>az0 x (hF x hx).1 (hF x hx).2)) Aaa)
  have ho:Out c w W' W'':=⟨F,hk,hF⟩
  have hc9:∀g,av.map (λy=>y.block)=some g->0 < RL.length->wL g2 (lK (cu s0 mL) mI) (wL gi (cu s0 mL) (newC w.heap.size 9 c)) g=9:=λg hg hp=>by
   have h1:=ah Oc g hg hp
   exact alU g Aaa Aaa Aaa
  refine NQ.put hold hold (dX (setPu n RL) (n.seen.set i ⟨mF,gu s0 mL,lK (cu s0 mL) mI⟩)) (⟨a_k,av,jm,(some ⟨G.s,0,none⟩),jy,dH,cv,eu,dJ,dR⟩:bq) rfl (by simp only[dX,List.set_set]) rfl rfl ((aAi.keeps fC (λx hx=>Aak)).out Aaa ho) (λg hg hp=> .inr (by have h3:=hc9 g hg hp;omega)) hold.o (λy hy=> .inl (hold.co y hy)) hold.r (λy hy=> .inl (hold.cr y hy)) (λg hg hp _=>⟨λe=>?_,λe=>?_⟩) (λx hx h6=>by have:=hold.co x hx;omega)
  .have h1:=hold.co g e;have h2:=hc9 g hg hp;omega
  .have h1:=hold.cr g e;have h2:=hc9 g hg hp;omega
 have Ll:Hid (∀W'',Out c w W' W''->GR.At jC 7 W'' (some ⟨ab,0,none⟩) [⟨2,n.id,mF,mI,0,ByteArray.empty,0⟩]):=λW'' ho j hj=>Tq (fC.obj alM (λhm=>Ack)) ho Aaa j hj
 have rG:Hid (Below B w W'):=alP.trans (fC.below (λx hx=>by have:x=w.heap.size+2:=Aag;omega) (by have h1:=ay OG;omega));have xZ:=Hq (Apart.keeps (c:=c) al1 (by have h1:=ay OG;omega) fC (λx hx=>by have:x=w.heap.size+2:=Aag;omega));clear e4 fC;exact⟨(⟨a_k,av,jm,(some ⟨G.s,0,none⟩),jy,dH,cv,eu,dJ,dR⟩:bq),(some ⟨ab,0,none⟩),⟨1,by simp[gU,dD,dX,setPu]⟩,HAT,Ll,rG,xZ⟩):P:=h
theorem vY(h:P:=by
 obtain⟨id,par,kids,next,pu,out,seen,old,reqs⟩:=n;obtain⟨ak,ap,ao,as',ar,ck,cp,co,cs,cr⟩:=A;exact AaM):P:=h
theorem anR.AaM(h:P:=by
 dsimp only at hl HA HD Lu yC Ov BP ⊢;cases h1:uY id
 case' false=>
  have HP:=Hq (HD (by rw [h1];rfl));clear HD Lu yC Ov BP;go_in
  go_wp2_with (first|(go_at_call 121;refine(nZ _ false _ h1).mono ?_;rintro e w1 ⟨rfl,rfl⟩))
  exact yh
 cases h2:decide (-1<=par/\par<=29)
 case' false=>
  have HP:=Hq (HD (by rw [h2];simp));clear HD Lu yC Ov BP;go_in
  go_wp2_with (first|(go_at_call 121;refine(nZ _ true _ h1).mono ?_;rintro e w1 ⟨rfl,rfl⟩)|(go_at_call 47;refine(zf _ _ _ false _ h2).mono ?_;rintro e w1 ⟨rfl,rfl⟩))
  exact yh
 by_cases h3:par=id
 case' pos=>
  have hb3:(par == id)=true:=by simp[h3]
  have HP:=Hq (HD (by simp[h3]));clear h3 HD Lu yC Ov BP;exact ahD
 have hb3:(par == id)=false:=by simp[h3]
 by_cases h4:kids.length<=30
 case' neg=>
  have hb4:decide ((30:Int) < kids.length)=true:=aET Aaa;have HP:=Hq (HD (by simp[h4]));clear HD Lu yC Ov BP;exact ahD
 have hb4:decide ((30:Int) < kids.length)=false:=aES Aaa;have nH:=Hq (Lu h1 (aFa h2) h3 h4);clear HD Lu;open avd in exact ag6):P:=h
theorem anS.AaM(h:P:=by
 dsimp only at hl hl2 HA HS sH HD yC Ov BP R6 jO ⊢;go_in
 go_upto_if 12 with fail;open ap3 in exact ajZ):P:=h
theorem anT.AaM(h:P:=by
 dsimp only at hl HD HA yC jP zI Vv jO ⊢;clear ha;go_in
 go_upto_region 1 with fail;refine wp_at (λW0 hW0=>?_);have hblk:W0.heap[w.heap.size]?=some (.cells (dD ⟨id,par,kids,next,pu,out,seen,old,reqs⟩ ⟨ak,ap,ao,as',ar,ck,cp,co,cs,cr⟩) 39 (0,0)):=by rw [hW0];exact jO
 have pY:Hid (aH w W0):=by rw [hW0];exact au w _
 obtain⟨c0,c1,c2,c3,c4,c5,c6,c7,c8⟩:=nine hblk;clear hW0 jO hblk;obtain⟨bb,hbb⟩:∃bb,(!(uY id&&(decide (par= -1)||(uY par&&decide (par≠id)))))=bb:=⟨_,rfl⟩;have eY:=Hq hbb;clear hbb;go_cut [27] (λr wx=>r= .bool bb/\wx=W0)
 case first=>
  cases h1:uY id
  case' false=>
   have HV:=Hq (show bb=true by rw [<-ah eY];simp[h1])
   have H1:=Hq (λw1=>isNode id false w1 h1)
   clear eY h1
   go_wp2_with (go_at_call 187;refine(H1 _).mono ?_;rintro e w1 ⟨rfl,rfl⟩)
   go_meet
   case rel=>exact⟨Aam,rfl⟩
  have H1:=Hq (λw1=>isNode id true w1 h1);by_cases h2:par= -1
  case' pos=>
   have HV:=Hq (show bb=false by rw [<-ah eY];simp[h1,h2])
   have hb2:(par != -1)=false:=by simp[h2]
   clear eY h1 h2
   go_wp2_with (go_at_call 187;refine(H1 _).mono ?_;rintro e w1 ⟨rfl,rfl⟩)
   go_meet
   case rel=>exact⟨Aam,rfl⟩
  have hb2:(par != -1)=true:=by simp[h2]
  cases h3:uY par
  case' false=>
   have HV:=Hq (show bb=true by rw [<-ah eY];simp[h2,h3])
   have H3:=Hq (λw1=>isNode par false w1 h3)
   clear eY h1 h2 h3
   go_wp2_with (first|(go_at_call_of 187 id;refine(H1 _).mono ?_;rintro e w1 ⟨rfl,rfl⟩)|(go_at_call_of 187 par;refine(H3 _).mono ?_;rintro e w1 ⟨rfl,rfl⟩))
   go_meet
   case rel=>exact⟨Aam,rfl⟩
  have H3:=Hq (λw1=>isNode par true w1 h3);by_cases h4:par=id
  case' pos=>
   have HV:=Hq (show bb=true by rw [<-ah eY,aES h2,aES (show¬(par≠id) from λh=>h h4)];simp)
   have hb4:(par == id)=true:=by simp[h4]
   subst h4
   clear eY h1 h2 h3
   go_wp2_with (go_at_call 187;refine(H1 _).mono ?_;rintro e w1 ⟨rfl,rfl⟩)
   go_meet
   case rel=>exact⟨Aam,rfl⟩
  have HV:=Hq (show bb=false by rw [<-ah eY];simp[h1,h3,h4]);have hb4:(par == id)=false:=by simp[h4]
  clear eY h1 h2 h3;go_wp2_with (first|(go_at_call_of 187 id;refine(H1 _).mono ?_;rintro e w1 ⟨rfl,rfl⟩)|(go_at_call_of 187 par;refine(H3 _).mono ?_;rintro e w1 ⟨rfl,rfl⟩))
  go_meet
  case rel=>exact⟨Aam,rfl⟩
 case rest=>
  obtain⟨rfl,rfl⟩:=hcut;cases hbv:bb
  case' true=>
   have HP:Hid (TT=false):=by
    have h:=ah eY;rw [hbv] at h;rw [ah HD];generalize (uY id&&(decide (par= -1)||(uY par&&decide (par≠id))))=X at *;cases X
    .rfl
    .cases h
   clear eY HD;subst hbv;go_wp2_with fail;go_ret;exact⟨aF HP.symm,pY⟩
  have nH:Hid (TT=ig KB iR kids):=by
   have h:=ah eY;rw [hbv] at h;rw [ah HD];generalize (uY id&&(decide (par= -1)||(uY par&&decide (par≠id))))=X at *;cases X
   .cases h
   .rfl
  clear eY HD;subst hbv;go_wp2_with fail;go_loop [3,31] (λlv i=>∃(k:Nat) (y:Int),k<=kids.length/\i= .int .i64 k/\lv= .int .i64 y/\y=yK (λx=>x) (-1) (kids.take k)/\ig KB iR (kids.take k)=true) (λ_ i=>kids.length - (intOf i).toNat)
  case atStart=>exact⟨0,-1,aE7 _,rfl,rfl,rfl,rfl⟩
  case round=>
   obtain⟨k,y,hk,rfl,rfl,hy,hall⟩:=hrel;have jA:=Hq hall;have HY:=Hq hy;clear hall hy;by_cases hlt:k < kids.length
   case' neg=>
    have hke:k=kids.length:=Aaa
    subst hke;have hnlt:decide ((kids.length:Int) < (kids.length:Int))=false:=Aac
    have HF:Hid (TT=true):=by
     exact Wo
    go_wp2_with fail;go_ret;exact⟨aF HF.symm,pY⟩
   obtain⟨g,off,rfl,hgw,q0⟩:=bH.one (GR.At.below HA pY) k hlt;have HBAD:Hid (ig KB iR (kids.take (k+1))=false->TT=false):=λh=>nH.trans (yC _ h)
   have iJ:Hid (ig KB iR (kids.take (k+1))=(KB kids[k]&&decide (y < kids[k]))):=by
    exact ah5
   have zT:=Hq (zI k hlt);have zO:=Hq (Vv kids[k]);clear jP zI yC Vv;generalize kids[k]=x at *;cases h1:uY x
   case' false=>
    have H1:=Hq (λw1=>isNode x false w1 h1);have HV:=Hq (HBAD (by rw [ah iJ,ah zO];simp[h1]));clear HBAD iJ zO h1;exact aeG
   have H1:=Hq (λw1=>isNode x true w1 h1);by_cases h2:y < x
   case' neg=>
    have hb2:decide (x<=y)=true:=aET Aaa;have HV:=Hq (HBAD (by rw [ah iJ,ah zO];simp[h2]));clear HBAD iJ zO h1;exact aeG
   have hb2:decide (x<=y)=false:=aES Aaa;by_cases h3:x=id
   case' pos=>
    have hb3:(x == id)=true:=by simp[h3]
    have HV:=Hq (HBAD (by rw [ah iJ,ah zO];simp[h3]));clear HBAD iJ zO h1 h3;exact aeG
   have hb3:(x == id)=false:=by simp[h3]
   by_cases h4:x=par
   case' pos=>
    have hb4:(x == par)=true:=by simp[h4]
    have HV:=Hq (HBAD (by rw [ah iJ,ah zO];simp[h4]));clear HBAD iJ zO h1 h4;exact aeG
   have hb4:(x == par)=false:=by simp[h4]
   have HV:=Hq (show ig KB iR (kids.take (k+1))=true by rw [ah iJ,ah zO];simp[h1,h2,h3,h4]);clear HBAD iJ zO h1;go_wp2_with (go_at_call 187;refine(H1 _).mono ?_;rintro e w1 ⟨rfl,rfl⟩)
   exact aiE):P:=h
theorem anU.AaM(h:P:=by
 obtain⟨bk,bp,bo,bs',br,dk,dp,dO,ds,dr⟩:=A';dsimp only at HK HP HO HS HR HA0 HB0 pY ⊢;go_in
 obtain⟨c0,c1,c2,c3,c4,c5,c6,c7,c8⟩:=nine HA0;obtain⟨d0,d1,d2,d3,d4,d5,d6,d7,d8⟩:=nine HB0;go_wp2_with fail;refine(HK _ pY).mono ?_;rintro e w1 ⟨rfl,hb1⟩;have HA1:=Hq (aj HA0 hb1);open awE in exact aaV):P:=h
theorem anV.AaM(h:P:=by
 dsimp only at OM HTP Og HTS HTR ⊢;go_in
 go_upto_region 4 with fail;refine wp_at (λW0 hW0=>?_);obtain⟨hP,hR,hO,hB⟩:=Ag w (.cells (dD ⟨id,par,kids,next,pu,out,seen,old,reqs⟩ ⟨ak,ap,ao,as',ar,ck,cp,co,cs,cr⟩) 28) (.cells (wC 0 0 none 0 0 0 none 0 0 none 0 0 none 0 0 0 none 0 0) 39) (.cells (wC id par none 0 0 0 none 0 0 none 0 0 none 0 0 0 none 0 0) 39);rw [<-hW0] at hP hR hO hB;have TQ:=Hq (TN.mk hP hR hO (rows:=[]) (λx hx=>by cases hx) hB);clear hP hR hO hB hW0;obtain⟨c0,c1,c2,c3,c4,c5,c6,c7,c8⟩:=nine TQ.par;go_wp2_with fail;refine(OM _ TQ.bel).mono ?_;rintro e w1 ⟨rfl,hblk,hb⟩;have hg:w.heap.size+1+1 < W0.heap.size:=ay (ah TQ).out;have UU:=Hq ((TQ.step hb).add [(W0.heap.size,_)] (λx hx=>by rw [aE6] at hx;subst hx;exact⟨hg,hblk⟩));have o0:=ay hblk;clear hblk hb hg TQ;clear c0 c1 c2 c3 c4 c5 c6 c7 c8;obtain⟨c0,c1,c2,c3,c4,c5,c6,c7,c8⟩:=nine UU.par;obtain⟨d0,d1,d2,d3,d4,d5,d6,d7,d8⟩:=nine (ah UU).out;obtain⟨f0,f1,f2,f3,f4,f5,f6,f7,f8⟩:=pJ ((ah UU).out);go_upto_region 6 with fail;refine wp_at (λW1 hW=>?_);have TQ:=(UU.put 2 (.slice (some ⟨W0.heap.size,0,none⟩) kids.length kids.length)).put 3 (.int .i64 next);rw [<-hW] at TQ;replace TQ:=Hq TQ
 have hzz:W1.heap.size=w1.heap.size:=Aby
 rw [<-hzz] at o0;clear c0 c1 c2 c3 c4 c5 c6 c7 c8 d0 d1 d2 d3 d4 d5 d6 d7 d8 f0 f1 f2 f3 f4 f5 f6 f7 f8;clear hW hzz UU;obtain⟨c0,c1,c2,c3,c4,c5,c6,c7,c8⟩:=nine TQ.par;go_wp2_with fail;refine(HTP _ TQ.bel).mono ?_;rintro e w2 ⟨rfl,hblk,hb⟩;have hg:w.heap.size+1+1 < W1.heap.size:=ay (ah TQ).out;have UU:=Hq ((TQ.step hb).add [(W1.heap.size,_)] (λx hx=>by rw [aE6] at hx;subst hx;exact⟨hg,hblk⟩));have o1:=ay hblk;clear hblk hb hg TQ;clear c0 c1 c2 c3 c4 c5 c6 c7 c8;obtain⟨c0,c1,c2,c3,c4,c5,c6,c7,c8⟩:=nine UU.par;obtain⟨d0,d1,d2,d3,d4,d5,d6,d7,d8⟩:=nine (ah UU).out;obtain⟨f0,f1,f2,f3,f4,f5,f6,f7,f8⟩:=pJ ((ah UU).out);go_upto_region 7 with fail;refine wp_at (λW2 hW=>?_);have TQ:=UU.put 4 (.slice (some ⟨W1.heap.size,0,none⟩) pu.length pu.length);rw [<-hW] at TQ;replace TQ:=Hq TQ
 have hzz:W2.heap.size=w2.heap.size:=Aby
 rw [<-hzz] at o1;clear c0 c1 c2 c3 c4 c5 c6 c7 c8 d0 d1 d2 d3 d4 d5 d6 d7 d8 f0 f1 f2 f3 f4 f5 f6 f7 f8;clear hW hzz UU;obtain⟨c0,c1,c2,c3,c4,c5,c6,c7,c8⟩:=nine TQ.par;go_wp2_with fail;refine(Og _ TQ.bel).mono ?_;rintro e w3 ⟨rfl,hblk,hb⟩;have hg:w.heap.size+1+1 < W2.heap.size:=ay (ah TQ).out;have UU:=Hq ((TQ.step hb).add [(W2.heap.size,_)] (λx hx=>by rw [aE6] at hx;subst hx;exact⟨hg,hblk⟩));have o2:=ay hblk;clear hblk hb hg TQ;clear c0 c1 c2 c3 c4 c5 c6 c7 c8;obtain⟨c0,c1,c2,c3,c4,c5,c6,c7,c8⟩:=nine UU.par;obtain⟨d0,d1,d2,d3,d4,d5,d6,d7,d8⟩:=nine (ah UU).out;obtain⟨f0,f1,f2,f3,f4,f5,f6,f7,f8⟩:=pJ ((ah UU).out);go_upto_region 8 with fail;refine wp_at (λW3 hW=>?_);have TQ:=UU.put 5 (.slice (some ⟨W2.heap.size,0,none⟩) out.length out.length);rw [<-hW] at TQ;replace TQ:=Hq TQ
 have hzz:W3.heap.size=w3.heap.size:=Aby
 rw [<-hzz] at o2;clear c0 c1 c2 c3 c4 c5 c6 c7 c8 d0 d1 d2 d3 d4 d5 d6 d7 d8 f0 f1 f2 f3 f4 f5 f6 f7 f8;clear hW hzz UU;obtain⟨c0,c1,c2,c3,c4,c5,c6,c7,c8⟩:=nine TQ.par;go_wp2_with fail;refine(HTS _ TQ.bel).mono ?_;rintro e w4 ⟨rfl,⟨TT,II,hblk,hTl,hII,hIm⟩,hb⟩;have hg:w.heap.size+1+1 < W3.heap.size:=ay (ah TQ).out;have Lu:=Hq hTl;have HII:=Hq (λi hi=>(hII i hi).2.2.1);have HIM:=Hq hIm
 have UU:=Hq ((TQ.step hb).add ((W3.heap.size,.cells (GR.flat eX TT).toArray 130 (0,0))::(List.range seen.length).map λi=>(II i,.cells (GR.flat bg (seen.getD i default).ids).toArray 3 (0,0))) (λx hx=>by
  rcases aFd.1 hx with rfl|hx
  .exact⟨hg,hblk⟩
  .obtain⟨i,hi,rfl⟩:=aGq.1 hx;have h:=hII i (aFU.1 hi)
   exact⟨Nat.lt_trans hg h.1,h.2.2.2⟩))
 have o3:W3.heap.size < w4.heap.size/\∀i,i < seen.length->W3.heap.size < II i/\II i < w4.heap.size:=⟨ay hblk,λi hi=>⟨(hII i hi).1,(hII i hi).2.1⟩⟩;clear hblk hb hg hTl hII hIm TQ;clear c0 c1 c2 c3 c4 c5 c6 c7 c8;obtain⟨c0,c1,c2,c3,c4,c5,c6,c7,c8⟩:=nine UU.par;obtain⟨d0,d1,d2,d3,d4,d5,d6,d7,d8⟩:=nine (ah UU).out;obtain⟨f0,f1,f2,f3,f4,f5,f6,f7,f8⟩:=pJ ((ah UU).out);go_upto_region 10 with fail;refine wp_at (λW4 hW=>?_);have TQ:=(UU.put 6 (.slice (some ⟨W3.heap.size,0,none⟩) seen.length seen.length)).put 7 (.int .i64 old);rw [<-hW] at TQ;replace TQ:=Hq TQ
 have hzz:W4.heap.size=w4.heap.size:=Aby
 rw [<-hzz] at o3;clear c0 c1 c2 c3 c4 c5 c6 c7 c8 d0 d1 d2 d3 d4 d5 d6 d7 d8 f0 f1 f2 f3 f4 f5 f6 f7 f8;clear hW hzz UU;obtain⟨c0,c1,c2,c3,c4,c5,c6,c7,c8⟩:=nine TQ.par;go_wp2_with fail;refine(HTR _ TQ.bel).mono ?_;rintro e w5 ⟨rfl,hblk,hb⟩;have hg:w.heap.size+1+1 < W4.heap.size:=ay (ah TQ).out;have UU:=Hq ((TQ.step hb).add [(W4.heap.size,_)] (λx hx=>by rw [aE6] at hx;subst hx;exact⟨hg,hblk⟩));have o4:=ay hblk;clear hblk hb hg TQ;clear c0 c1 c2 c3 c4 c5 c6 c7 c8;obtain⟨c0,c1,c2,c3,c4,c5,c6,c7,c8⟩:=nine UU.par;obtain⟨d0,d1,d2,d3,d4,d5,d6,d7,d8⟩:=nine (ah UU).out;obtain⟨f0,f1,f2,f3,f4,f5,f6,f7,f8⟩:=pJ ((ah UU).out);go_upto_region 11 with fail;refine wp_at (λW5 hW=>?_);have TQ:=UU.put 8 (.slice (some ⟨W4.heap.size,0,none⟩) reqs.length reqs.length);rw [<-hW] at TQ;replace TQ:=Hq TQ
 have hzz:W5.heap.size=w5.heap.size:=Aby
 rw [<-hzz] at o4;clear c0 c1 c2 c3 c4 c5 c6 c7 c8 d0 d1 d2 d3 d4 d5 d6 d7 d8 f0 f1 f2 f3 f4 f5 f6 f7 f8;clear hW hzz UU;obtain⟨d0,d1,d2,d3,d4,d5,d6,d7,d8⟩:=nine (show W5.heap[w.heap.size+1+1]?=some (.cells (dD ⟨id,par,kids,next,pu,out,seen,old,reqs⟩ ⟨some ⟨W0.heap.size,0,none⟩,some ⟨W1.heap.size,0,none⟩,some ⟨W2.heap.size,0,none⟩,some ⟨W3.heap.size,0,none⟩,some ⟨W4.heap.size,0,none⟩,kids.length,pu.length,out.length,seen.length,reqs.length⟩) 39 (0,0)) from(ah TQ).out);obtain⟨r0,r1,r2,r3,r4,r5,r6,r7,r8⟩:=nine TQ.res;obtain⟨f0,f1,f2,f3,f4,f5,f6,f7,f8⟩:=pJ (TQ.res);have hlt:=ay TQ.res;go_wp2_with fail;refine iE (λW' hW'=>?_);have hR:=ac1 (b0:= .int .i64 id) (b1:= .int .i64 par) (b2:= .slice (some ⟨W0.heap.size,0,none⟩) kids.length kids.length) (b3:= .int .i64 next) (b4:= .slice (some ⟨W1.heap.size,0,none⟩) pu.length pu.length) (b5:= .slice (some ⟨W2.heap.size,0,none⟩) out.length out.length) (b6:= .slice (some ⟨W3.heap.size,0,none⟩) seen.length seen.length) (b7:= .int .i64 old) (b8:= .slice (some ⟨W4.heap.size,0,none⟩) reqs.length reqs.length) TQ.res;have hK:=UA (w:=W5) (g:=w.heap.size+1) (b0:= .int .i64 id) (b1:= .int .i64 par) (b2:= .slice (some ⟨W0.heap.size,0,none⟩) kids.length kids.length) (b3:= .int .i64 next) (b4:= .slice (some ⟨W1.heap.size,0,none⟩) pu.length pu.length) (b5:= .slice (some ⟨W2.heap.size,0,none⟩) out.length out.length) (b6:= .slice (some ⟨W3.heap.size,0,none⟩) seen.length seen.length) (b7:= .int .i64 old) (b8:= .slice (some ⟨W4.heap.size,0,none⟩) reqs.length reqs.length);rw [<-hW'] at hR hK;clear d0 d1 d2 d3 d4 d5 d6 d7 d8 r0 r1 r2 r3 r4 r5 r6 r7 r8 f0 f1 f2 f3 f4 f5 f6 f7 f8 hW';obtain⟨x0,x1,x2,x3,x4,x5,x6,x7,x8⟩:=nine hR;have hrow:=TQ.rows;have eY:=TQ.bel.trans (hK.below (B:=w.heap.size) (λx hx=>Aak) TQ.bel.size);have q0:=hrow _ (aFp _ (aFp _ (aFp _ (aFp _ (aFz _ (aE6.2 rfl))))));have q1:=hrow _ (aFp _ (aFp _ (aFp _ (aFz _ (aE6.2 rfl)))));have q2:=hrow _ (aFp _ (aFp _ (aFz _ (aE6.2 rfl))));have q3:=hrow _ (aFp _ (aFz _ (List.mem_cons_self ..)));have q4:=hrow _ (aFz _ (aE6.2 rfl));have q5:=λi (hi:i < seen.length)=>hrow (II i,_) (aFp _ (aFz _ (aGU _ (aGq.2 ⟨i,aFU.2 hi,rfl⟩))))
 dsimp only at q0 q1 q2 q3 q4 q5;obtain⟨o3,o3i⟩:=o3;refine aEY (v:=gU ⟨id,par,kids,next,pu,out,seen,old,reqs⟩ ⟨some ⟨W0.heap.size,0,none⟩,some ⟨W1.heap.size,0,none⟩,some ⟨W2.heap.size,0,none⟩,some ⟨W3.heap.size,0,none⟩,some ⟨W4.heap.size,0,none⟩,kids.length,pu.length,out.length,seen.length,reqs.length⟩) (by simp[results,results25,go_sem,x0,x1,x2,x3,x4,x5,x6,x7,x8]) rfl ⟨_,rfl,⟨W0.heap.size,W1.heap.size,W2.heap.size,W3.heap.size,W4.heap.size,II⟩,?_,?_,eY⟩
 .refine gZ.keeps (w:=W5) (F:=[w.heap.size+1]) ⟨GR.W.of_blk aX q0.2,GR.W.of_blk aQ q1.2,GR.W.of_blk aT q2.2,eB.of q3.2 Lu (λi hi=>⟨HII i hi,(q5 i hi).2⟩),GR.W.of_blk aW q4.2⟩ hK (λx hx=>?_)
  have hx':w.heap.size+1+1 < x:=by
   rcases aN.mem_all.1 hx with h|h|h|h|h|h
   .rw [(dw h).1];exact q0.1
   .rw [(dw h).1];exact q1.1
   .rw [(dw h).1];exact q2.1
   .rw [(dw h).1];exact q3.1
   .obtain⟨i,hi,rfl,_⟩:=sV h;exact(q5 i hi).1
   .rw [(dw h).1];exact q4.1
  simp;omega
 .have hs5:=hK.size;have o4':=o4
  have hI:∀x∈nI II seen,W3.heap.size < x/\x < W4.heap.size:=λx hx=>by
   obtain⟨i,hi,rfl,_⟩:=sV hx
   exact o3i i hi
  refine⟨?_,λx hx=>?_⟩
  .unfold aN.all;dsimp only;rw [aF1,aF1,aF1,aF1,aF1];refine⟨jJ _ _,⟨jJ _ _,⟨jJ _ _,⟨jJ _ _,⟨ae1 HIM,jJ _ _,?_⟩,?_⟩,?_⟩,?_⟩,?_⟩
   all_goals
    intro a ha b hb
    (try simp only[aFb] at hb)
   .have:=hI a ha;rw [(dw hb).1];omega
   .rw [(dw ha).1];rcases hb with hb|hb
    .have:=hI b hb;omega
    .rw [(dw hb).1];omega
   .rw [(dw ha).1];rcases hb with hb|hb|hb
    .rw [(dw hb).1];omega
    .have:=hI b hb;omega
    .rw [(dw hb).1];omega
   .rw [(dw ha).1];rcases hb with hb|hb|hb|hb
    .rw [(dw hb).1];omega
    .rw [(dw hb).1];omega
    .have:=hI b hb;omega
    .rw [(dw hb).1];omega
   .rw [(dw ha).1];rcases hb with hb|hb|hb|hb|hb
    .rw [(dw hb).1];omega
    .rw [(dw hb).1];omega
    .rw [(dw hb).1];omega
    .have:=hI b hb;omega
    .rw [(dw hb).1];omega
  .have hq:=q0.1;rcases aN.mem_all.1 hx with h|h|h|h|h|h
   .rw [(dw h).1];dsimp only;omega
   .rw [(dw h).1];dsimp only;omega
   .rw [(dw h).1];dsimp only;omega
   .rw [(dw h).1];dsimp only;omega
   .have:=hI x h;omega
   .rw [(dw h).1];dsimp only;omega):P:=h
theorem anW.AaM(h:P:=by
 dsimp only at Oc HPU Og R6 HOT OD HD jO ⊢;have hlo:=hz.o;have hlr:=hz.r;dsimp only at hlo hlr;clear ha hz;go_in
 go_upto_region 1 with fail;open ap2 in exact ajZ):P:=h
theorem anX.AaM(h:P:=by
 dsimp only at hlo HD yC jP zI HLB Vv jO ⊢;generalize (λs t:Rq=>iR s.no t.no)=RR at *;cases h1:rM old
 case' false=>
  have HP:=Hq (show TT=false by rw [ah HD,h1];rfl);have H1:=Hq (λw1=>kS old false w1 h1);exact aij
 have H1:=Hq (λw1=>kS old true w1 h1);have hold:0<=old/\old<=1000000000:=aFa h1;obtain⟨ho1,ho2⟩:=hold;by_cases h0:reqs.length<=30
 case' neg=>
  have HP:=Hq (show TT=false by rw [ah HD,aES h0];simp);have hb0:decide ((30:Int) < reqs.length)=true:=aET Aaa;exact aij
 have hb0:decide ((30:Int) < reqs.length)=false:=aES Aaa;have nH:Hid (TT=ig KB RR reqs):=by rw [ah HD,h1,aET h0];rfl
 clear HD h1;go_in
 go_wp2_with (go_at_call 193;refine(H1 _).mono ?_;rintro e w9 ⟨rfl,rfl⟩)
 go_loopw [3,21] (λlv i wr=>∃(k:Nat) (y:Int),k<=reqs.length/\i= .int .i64 k/\lv= .int .i64 y/\y=yK (λs=>s.no) old (reqs.take k)/\ig KB RR (reqs.take k)=true/\wr.heap[w.heap.size]?=some (.cells (dD ⟨id,par,kids,next,pu,out,seen,old,reqs⟩ ⟨ak,ap,ao,as',ar,ck,cp,co,cs,cr⟩) 39 (0,0))/\aH w wr) (λ_ i _=>reqs.length - (intOf i).toNat)
 case atStart=>exact⟨0,old,aE7 _,rfl,rfl,rfl,rfl,jO,au w _⟩
 case round=>
  open auW in exact ag2):P:=h
theorem anY.AaM(h:P:=by
 dsimp only at hlo HD yC jP zI HLB Vv R6 jO ⊢;generalize (λs t:jI=>iR s.i t.i)=RR at *;by_cases h0:out.length<=40
 case' neg=>
  have HP:=Hq (show TT=false by rw [ah HD,aES h0];rfl);have hb0:decide ((40:Int) < out.length)=true:=aET Aaa;go_in
  go_wp2_with fail;exact yh
 have hb0:decide ((40:Int) < out.length)=false:=aES Aaa;have nH:Hid (TT=ig KB RR out):=by rw [ah HD,aET h0];rfl
 clear HD;go_in
 go_wp2_with fail;go_loopw [3,13] (λlv i wr=>∃(k:Nat) (y:Int),k<=out.length/\i= .int .i64 k/\lv= .int .i64 y/\y=yK (λs=>s.i) 0 (out.take k)/\ig KB RR (out.take k)=true/\wr.heap[w.heap.size]?=some (.cells (dD ⟨id,par,kids,next,pu,out,seen,old,reqs⟩ ⟨ak,ap,ao,as',ar,ck,cp,co,cs,cr⟩) 39 (0,0))/\aH w wr) (λ_ i _=>out.length - (intOf i).toNat)
 case atStart=>exact⟨0,0,aE7 _,rfl,rfl,rfl,rfl,jO,au w _⟩
 case round=>
  open auV in exact ag2):P:=h
theorem anZ.AaM(h:P:=by
 dsimp only at hl HC jO SA ⊢;clear ha;go_in
 go_wp2_with fail;refine HC.mono ?_;rintro e w1 ⟨v,rfl,hown,hb1⟩;have HB1:=Hq ((au w _).trans (hb1.mono Aac));have Ij:=Hq (GR.own_lower (b':=w.heap.size) hown Aac);obtain⟨c0,c1,_⟩:=nine (aj jO hb1);clear hown hb1 HC;go_upto_if 9 with fail;go_cut [3] (λr wx=>wx.ownsRow w.heap.size 3 1 r NB.length (GR.flat bg NB)/\aH w wx)
 case first=>
  by_cases hp:par= -1
  .have hb:(par != -1)=false:=by simp[hp]
   have HE:=Hq (SA.1 hp);clear hp;go_wp2_with fail;go_meet
   case rel=>exact⟨by rw [ah HE];exact Ij,HB1⟩
  .have hb:(par != -1)=true:=by simp[hp]
   have HE:=Hq (SA.2 hp);clear hp;have ho:=ah Ij;go_wp2_with (at_builtin;refine aFL _ rfl _ _ 22 rfl w.heap.size 3 i0 (.int .i64 0) 1 8 underlying22 hi hz0 hz1 hz2 rfl Aae _ _ _ rfl (ho.alloc _) ⟨w1.heap.size,0,none⟩ 1 1 [.int .i64 par] rfl rfl ?c1 ?c2 ?c3 ?c4 ?c5 ?_)
   case c1=>exact cell_one_new _ _ _
   case c2=>intro u hu;simp at hu;subst hu;rfl
   case c3=>unfold maxLen;omega
   case c4=>omega
   case c5=>have:=HB1.size;simp;omega
   intro v' w6 hown' hgrow _;have yB:=Hq (GR.below_append HB1 HB1.size ho hgrow)
   have HO6:Hid (w6.ownsRow w.heap.size 3 1 v' NB.length (GR.flat bg NB)):=by
    rw [ah HE,GR.flat_append,aEW];exact hown'
   clear hgrow ho hown';go_wp2_with fail;go_meet
   case rel=>exact⟨HO6,yB⟩
 case rest=>
  obtain⟨ho,hb⟩:=hcut;have HS:=Hq (afJ w.heap.size _ NB wc hln hb.size ho);have HB2:=Hq hb;clear ho hb c0 c1;go_wp2_with fail;refine HS.mono ?_;rintro e w3 ⟨rfl,ho3,hb3⟩;have ER:=Hq ho3;have HB3:=Hq (HB2.trans hb3);clear ho3 hb3;go_wp2_with fail;go_ret;exact⟨_,rfl,ER,HB3⟩):P:=h
theorem an0.AaM(h:P:=by
 dsimp only at Oc HPU HOT HSE HRE HD jO ⊢;go_in
 go_upto_region 1 with fail;open ap1 in exact ajZ):P:=h
theorem an1.AaM(h:P:=by
 dsimp only at hls HA HD HSK SA jO ⊢;go_in
 go_wp2_with fail;refine SA.mono ?_;rintro e w1 ⟨v,rfl,hown,hb1⟩;have HB1:=Hq ((au w _).trans (hb1.mono Aac));have BN:=Hq (aj jO hb1);have hFL:=ah zI;subst hFL;obtain⟨fa,fc,rfl,hF⟩:=GR.own_at (enc:=bg) (sz:=1) aX hown;have HF:=Hq hF;obtain⟨c0,c1,c2,c3,c4,c5,c6,c7,c8⟩:=nine BN;clear hown hb1 SA jO zI hF;by_cases hlen:seen.length=F.length
 case' neg=>
  have hbn:((seen.length:Int) != (F.length:Int))=true:=Aah
  have HP:=Hq (show TT=false by
   rw [ah HD,aES (show¬seen.map (·.f)=F from λh=>hlen (by rw [<-h,aFQ]))]
   rfl)
  clear HD;go_wp2_with fail;go_ret;exact⟨aF HP.symm,HB1⟩
 have hbn:((seen.length:Int) != (F.length:Int))=false:=Aah
 have zT:=Hq hlen;clear hlen;go_wp2_with fail;go_loopw [17] (λi wr=>∃k:Nat,k<=seen.length/\i= .int .i64 k/\(seen.take k).map (·.f)=F.take k/\(seen.take k).all wD=true/\aH w1 wr) (λi _=>seen.length - (intOf i).toNat)
 case atStart=>exact⟨0,aE7 _,rfl,rfl,rfl,aE3 _ _⟩
 case round=>
  obtain⟨k,hk,rfl,hm,hall,hbx⟩:=hrel;have HM:=Hq hm;have jA:=Hq hall;have jO:=Hq hbx;have Ig:=Hq (aj BN hbx);have aZ:=Hq (HB1.trans (hbx.mono HB1.size));clear hm hall hbx;by_cases hlt:k < seen.length
  case' neg=>
   have hke:k=seen.length:=Aaa
   subst hke;have hnlt:decide ((seen.length:Int) < (seen.length:Int))=false:=Aac
   have HP:=Hq (show TT=true by
    have h1:=ah HM
    have h2:=ah jA
    rw [aFh] at h1 h2
    rw [ah zT,aFh] at h1
    rw [ah HD,aET h1,h2]
    rfl)
   go_wp2_with fail;go_ret;exact⟨aF HP.symm,aZ⟩
  have aCw:k < F.length:=by rw [<-ah zT];exact hlt
  obtain⟨g,off,b,c,e0,hgw,q0,q1,q2,hI⟩:=iA.below (cK.s HA) aZ k hlt;obtain⟨g2,off2,e2,akK,p0⟩:=bH.one (GR.At.below HF jO) k aCw;(try dsimp only at e0 q0 q1 q2 hI)
  subst e0 e2;have yt:=ah HSK _ (aE8 hlt);have HI:=Hq hI;have HST:=Hq (λh3 h4=>Zw hlt zT.symm HM jA h3 h4);have zK:=Hq (λh3=>Zu (F:=F) hlt zT.symm h3);have JV:=Hq (λh4=>Zv hlt h4);clear hI;generalize seen[k]=sk at *;generalize F[k]=y at *;obtain⟨fr,lo,ids⟩:=sk;dsimp only at q0 q1 q2 HI yt HST zK JV;go_upto_region 7 with fail;open avq in exact ahc):P:=h
theorem an2.AaM(h:P:=by
 obtain⟨si,st,sx,sn⟩:=s;dsimp only at hl HA HLY zI zT HP HR HO HB ⊢;obtain⟨c0,c1,c2,c3,c4,c5,c6,c7,c8⟩:=nine HP;obtain⟨d0,d1,d2,d3⟩:=iI HR;go_in
 go_wp2_with fail;go_loopw [5,13] (λlv i wr=>∃k:Nat,k<=out.length/\i= .int .i64 k/\lv= .int .i64 si/\(out.take k).find? (λo=>decide (o.t=st))=none/\Below (((w.alloc (.cells (dD ⟨id,par,kids,next,pu,out,seen,old,reqs⟩ ⟨ak,ap,ao,as',ar,ck,cp,co,cs,cr⟩) 39)).alloc (.cells (gN si st sx sn) 145)).alloc (.cells zm7 70)).heap.size (((w.alloc (.cells (dD ⟨id,par,kids,next,pu,out,seen,old,reqs⟩ ⟨ak,ap,ao,as',ar,ck,cp,co,cs,cr⟩) 39)).alloc (.cells (gN si st sx sn) 145)).alloc (.cells zm7 70)) wr) (λ_ i _=>out.length - (intOf i).toNat)
 case atStart=>exact⟨0,aE7 _,rfl,rfl,rfl,aE3 _ _⟩
 case round=>
  obtain⟨k,hk,rfl,rfl,hno,hbx⟩:=hrel;have HN:=Hq hno;have wH:=Hq (aj HP hbx);have HR1:=Hq (aj HR hbx);have Ij:=Hq (aj HO hbx);have HB1:=Hq (HB.trans (hbx.mono HB.size));have jO:=Hq hbx;clear hno hbx c0 c1 c2 c3 c4 c5 c6 c7 c8 d0 d1 d2 d3;obtain⟨c0,c1,c2,c3,c4,c5,c6,c7,c8⟩:=nine wH;obtain⟨d0,d1,d2,d3⟩:=iI HR1;have hrz:=ay Ij;have aEe:w.heap.size+1 < wr.heap.size:=Aaa
  have aEd:w.heap.size < wr.heap.size:=Aaa
  by_cases hlt:k < out.length
  .obtain⟨g,off,e0,hgw,q0,q1,q2,q3⟩:=SentAt.four (GR.At.below HA HB1) k hlt;(try dsimp only at e0 q0 q1 q2 q3)
   subst e0;by_cases ht:(out[k]).t=st
   .have HY:=Hq (HLY k hlt HN ht);have hb:((out[k]).t == st)=true:=by simp[ht]
    clear ht HLY zI zT;generalize out[k]=sk at *;obtain⟨ui,ut,ux,un⟩:=sk;dsimp only at q0 q1 q2 q3 hb HY;have hyy:=ah HY;subst hyy;go_upto_region 8 with fail;refine wp_at (λW3 hW3=>?_);have hbw:aH wr W3:=by rw [hW3];exact au wr _
    open aoS in exact awT
   .have HS:=Hq (zI k hlt HN ht);have hb:((out[k]).t == st)=false:=by simp[ht]
    clear ht HLY zI zT;generalize out[k]=sk at *;obtain⟨ui,ut,ux,un⟩:=sk;dsimp only at q0 q1 q2 q3 hb;go_wp2_with fail;go_roundw
    case rel=>exact⟨k+1,Aaa,Aaf,rfl,HS,jO.alloc jO.size _⟩
    case measure=>simp[intOf];omega
  .open aqJ in exact aa0):P:=h
theorem an3.AaM(h:P:=by
 dsimp only at hl HA HLY zI zT c0 c1 c2 c3 c4 c5 c6 c7 c8 ⊢;go_in
 go_wp2_with fail;go_loop [7] (λi=>∃k:Nat,k<=out.length/\i= .int .i64 k/\(out.take k).find? (λo=>decide (o.t=t))=none) (λi=>out.length - (intOf i).toNat)
 case atStart=>exact⟨0,aE7 _,rfl,rfl⟩
 case round=>
  obtain⟨k,hk,rfl,hno⟩:=hrel;have HN:=Hq hno;clear hno;by_cases hlt:k < out.length
  .obtain⟨g,off,e0,hgw,q0,q1,q2,q3⟩:=SentAt.four HA k hlt;subst e0;by_cases ht:(out[k]).t=t
   .have HY:=Hq (HLY k hlt HN ht);have hb:((out[k]).t == t)=true:=by simp[ht]
    clear ht HLY zI zT;generalize out[k]=sk at *;obtain⟨si,st,sx,sn⟩:=sk;dsimp only at q0 q1 q2 q3 hb HY;go_wp2_with fail;go_ret;exact⟨mU HY.symm,au w _⟩
   .have HS:=Hq (zI k hlt HN ht);have hb:((out[k]).t == t)=false:=by simp[ht]
    clear ht HLY zI zT;generalize out[k]=sk at *;obtain⟨si,st,sx,sn⟩:=sk;dsimp only at q0 q1 q2 q3 hb;go_wp2_with fail;go_round
    case rel=>exact⟨k+1,Aaa,Aaf,HS⟩
    case measure=>simp[intOf];omega
  .open aqI in exact aa0):P:=h
theorem an4.AaM(h:P:=by
 obtain⟨si,st,sx,sn⟩:=s;dsimp only at hl HLW hP hR hO hB ⊢;have HP:=Hq hP;have HR:=Hq hR;have HO:=Hq hO;have HB:=Hq hB;clear ha hP hR hO hB HPM;go_in
 go_upto_region 1 with fail;refine wp_at (λW hW=>?_);rw [<-hW] at HP HR HO HB;have aAa:=Hq (HLW W HB);have hz2:w.heap.size+1+1 < W.heap.size:=ay HO;have hz1:w.heap.size+1 < W.heap.size:=Aaa
 have hz0:w.heap.size < W.heap.size:=Aaa
 have hne0:w.heap.size+1+1≠w.heap.size:=Aaa
 have hne1:w.heap.size+1+1≠w.heap.size+1:=Aaa
 clear hW HLW;obtain⟨c0,c1,c2,c3,c4,c5,c6,c7,c8⟩:=nine HP;obtain⟨d0,d1,d2,d3⟩:=iI HR
 go_region_held (λw'=>(w'.cell? ⟨w.heap.size,0,none⟩=some (.int .i64 id)/\w'.cell? ⟨w.heap.size,1,none⟩=some (.int .i64 par)/\w'.cell? ⟨w.heap.size,2,none⟩=some (.slice ak kids.length ck)/\w'.cell? ⟨w.heap.size,3,none⟩=some (.int .i64 next)/\w'.cell? ⟨w.heap.size,4,none⟩=some (.slice ap pu.length cp)/\w'.cell? ⟨w.heap.size,5,none⟩=some (.slice ao out.length co)/\w'.cell? ⟨w.heap.size,6,none⟩=some (.slice as' seen.length cs)/\w'.cell? ⟨w.heap.size,7,none⟩=some (.int .i64 old)/\w'.cell? ⟨w.heap.size,8,none⟩=some (.slice ar reqs.length cr))/\w'.cell? ⟨w.heap.size+1,0,none⟩=some (.int .i64 si)/\w'.cell? ⟨w.heap.size+1,1,none⟩=some (.int .i64 st)/\w'.cell? ⟨w.heap.size+1,2,none⟩=some (.string sx)/\w'.cell? ⟨w.heap.size+1,3,none⟩=some (.int .i64 sn)) (first|go_keep|(refine⟨⟨?_,?_,?_,?_,?_,?_,?_,?_,?_⟩,?_,?_,?_,?_⟩<;>first|exact aB6 hne0 (by assumption)|exact aB6 hne1 (by assumption)))
  (first
   |(go_at_call 185;refine(aAa W.drew rfl).mono ?_;rintro e w5 ⟨rfl,hb5⟩;have hb6:aH W w5:=⟨hb5.os,hb5.tape,hb5.output,hb5.size,hb5.block⟩;clear hb5;have JQ:=Hq (aj HP hb6);have XE:=Hq (aj HR hb6);have JO:=Hq (aj HO hb6);have gX:=Hq (HB.trans (hb6.mono HB.size));clear hb6;obtain⟨y0,y1,y2,y3,y4,y5,y6,y7,y8⟩:=nine JQ;obtain⟨z0,z1,z2,z3⟩:=iI XE;obtain⟨r0,r1,r2,r3,r4,r5,r6⟩:=jS JO;have f0:=aC JO 0;have f1:=aC JO 1;have f2:=aC JO 2;have f3:=aC JO 3;have f4:=aC JO 4;have f5:=aC JO 5;have f6:=aC JO 6))
 all_goals
  go_wp2_with fail
  refine iE (λW' hW'=>?_)
  have hR:=zC (b0:= .int .i64 1) (b1:= .int .i64 id) (b2:= .int .i64 st) (b3:= .int .i64 si) (b4:= .int .i64 LO) (b5:= .string sx) (b6:= .int .i64 sn) JO
  have hK:=vK (w:=w5) (g:=w.heap.size+1+1) (b0:= .int .i64 1) (b1:= .int .i64 id) (b2:= .int .i64 st) (b3:= .int .i64 si) (b4:= .int .i64 LO) (b5:= .string sx) (b6:= .int .i64 sn)
  rw [<-hW'] at hR hK
  obtain⟨x0,x1,x2,x3,x4,x5,x6⟩:=jS hR
  refine aEY (v:= .agg (bX 1 id st si LO sx sn)) (by simp[results,results157,go_sem,x0,x1,x2,x3,x4,x5,x6]) rfl ⟨rfl,gX.trans (hK.below (λx hx=>by have:x=w.heap.size+1+1:=Aag;omega) gX.size)⟩):P:=h
theorem an5.AaM(h:P:=by
 dsimp only at hlo HAO Lr nH IG Oc ⊢;go_in
 go_upto_region 1 with fail;refine wp_at (λW0 hW0=>?_);rw [<-hW0] at Lr;have HB0:Hid (aH w W0):=by rw [hW0];exact au w _
 have afa:w.heap.size < W0.heap.size:=ay Lr;have aD9:w.heap.size≠W0.heap.size:=Aaa
 clear hW0;have al4:Hid ((W0.alloc (.cells #[] 70)).ownsRow W0.heap.size 70 7 (.slice (some ⟨W0.heap.size,0,none⟩) 0 0) 0 []):=aFC (base:=W0.heap.size) (e:=70) (size:=7) W0 #[] 0 (aER _) Aae rfl;go_wp2_with fail;go_loopw [3,4] (λov i wr=>∃(k:Nat) (va:Option Addr) (vc:Nat),k<=out.length/\i= .int .i64 k/\ov= .slice va k vc/\wr.ownsRow W0.heap.size 70 7 (.slice va k vc) k (GR.flat jC ((out.take k).map PM))/\aH W0 wr/\(0 < k->OK=true)) (λ_ i _=>out.length - (intOf i).toNat)
 case atStart=>exact⟨0,some ⟨W0.heap.size,0,none⟩,0,aE7 _,rfl,rfl,al4,au W0 _,λh=>Aaa⟩
 case round=>
  obtain⟨k,va,vc,hk,rfl,rfl,hown,hbel,hpos⟩:=hrel;have HO:=Hq hown;have aZ:=Hq hbel;have HW:=Hq (HB0.trans (hbel.mono HB0.size));have wH:=Hq (aj Lr hbel);clear hown hbel al4;obtain⟨c0,c1,c2,c3,c4,c5,c6,c7,c8⟩:=nine wH;by_cases hlt:k < out.length
  .obtain⟨g,off,e0,hg,q0,q1,q2,q3⟩:=SentAt.four (GR.At.below HAO HB0) k hlt;subst e0;have amb:=Hq (nH wr HW);go_wp2_with fail;refine amb.mono ?_;rintro e w4 ⟨rfl,hb4⟩;have HO4:=Hq (GR.own_below HO hb4);have EJ:=Hq (aZ.trans (hb4.mono aZ.size));clear hb4 amb c0 c1 c2 c3 c4 c5 c6 c7 c8 wH aZ HW HO;have R8:=Hq (aj Lr EJ);have HW4:=Hq (HB0.trans (EJ.mono HB0.size));cases hOK:OK
   .have hk0:k=0:=by
     rcases Nat.eq_zero_or_pos k with h|h
     .exact h
     .exact absurd (hpos h) (by rw [hOK];simp)
    subst hk0;have HE:Hid (L=[]):=by rw [ah Oc,hOK];rfl
    clear hpos hOK Oc;go_wp2_with fail;go_ret;rw [ah HE];exact BM.of_own rfl HO4 Aaa HW4
   .clear hpos;have ajD:=Hq (IG out[k] w4 HW4);have HT:=Hq (show(out.take (k+1)).map PM=(out.take k).map PM++[PM out[k]] by rw [aE0 hlt,List.map_append];rfl);generalize out[k]=sk at *;generalize PM sk=mk at *;obtain⟨si,st,sx,sn⟩:=sk;obtain⟨mK,mF,mT,mI,mL,mk,mN⟩:=mk;dsimp only at q0 q1 q2 q3;have HQ0:=Hq q0;have HQ1:=Hq q1;have HQ2:=Hq q2;have HQ3:=Hq q3;have x0:=(EJ.cell (p:=⟨g,off+k*4,none⟩) hg).trans q0;have x1:=(EJ.cell (p:=⟨g,off+k*4+1,none⟩) hg).trans q1;have x2:=(EJ.cell (p:=⟨g,off+k*4+2,none⟩) hg).trans q2;have x3:=(EJ.cell (p:=⟨g,off+k*4+3,none⟩) hg).trans q3;clear q0 q1 q2 q3;obtain⟨c0,c1,c2,c3,c4,c5,c6,c7,c8⟩:=nine R8;go_wp2_with fail
    go_region_held_law (λw'=>(w'.cell? ⟨w.heap.size,0,none⟩=some (.int .i64 id)/\w'.cell? ⟨w.heap.size,1,none⟩=some (.int .i64 par)/\w'.cell? ⟨w.heap.size,2,none⟩=some (.slice ak kids.length ck)/\w'.cell? ⟨w.heap.size,3,none⟩=some (.int .i64 next)/\w'.cell? ⟨w.heap.size,4,none⟩=some (.slice ap pu.length cp)/\w'.cell? ⟨w.heap.size,5,none⟩=some (.slice (some ⟨g,off,none⟩) out.length co)/\w'.cell? ⟨w.heap.size,6,none⟩=some (.slice as' seen.length cs)/\w'.cell? ⟨w.heap.size,7,none⟩=some (.int .i64 old)/\w'.cell? ⟨w.heap.size,8,none⟩=some (.slice ar reqs.length cr))/\w'.cell? ⟨g,off+k*4,none⟩=some (.int .i64 si)/\w'.cell? ⟨g,off+k*4+1,none⟩=some (.int .i64 st)/\w'.cell? ⟨g,off+k*4+2,none⟩=some (.string sx)/\w'.cell? ⟨g,off+k*4+3,none⟩=some (.int .i64 sn)) (go_keep)
     (first
      |((go_at_call 157);(refine(ajD w4.drew rfl).mono ?_);(rintro e w5 ⟨rfl,hb5⟩);(have hb6:aH w4 w5:=⟨hb5.os,hb5.tape,hb5.output,hb5.size,hb5.block⟩);(clear hb5);(have JO:=Hq (GR.own_below HO4 hb6));(have fO:=Hq (EJ.trans (hb6.mono EJ.size)));(clear hb6);(have JQ:=Hq (aj Lr fO));(obtain⟨y0,y1,y2,y3,y4,y5,y6,y7,y8⟩:=nine JQ);(have u0:=(fO.cell (p:=⟨g,off+k*4,none⟩) hg).trans HQ0);(have u1:=(fO.cell (p:=⟨g,off+k*4+1,none⟩) hg).trans HQ1);(have u2:=(fO.cell (p:=⟨g,off+k*4+2,none⟩) hg).trans HQ2);(have u3:=(fO.cell (p:=⟨g,off+k*4+3,none⟩) hg).trans HQ3))
      |((refine CZ _ rfl (.tmp 17) (.tmp 25) 40 rfl W0.heap.size 70 i0 (.agg (bX 0 0 0 0 0 ByteArray.empty 0)) 7 64 underlying40 hi hz0 hz1 hz2 rfl Aae (.slice va k vc) k (GR.flat jC ((out.take k).map PM)) Aao (JO.alloc _) ⟨w5.heap.size,0,none⟩ 1 1 (jC ⟨mK,mF,mT,mI,mL,mk,mN⟩) Aao rfl (aFF (aEP w5 _)) (Pp _) Aaj Aaa (aEU fO.size Aac) ?_);(intro v6 w6 hown6 rP PN);(have Kh:w6.ownsRow W0.heap.size 70 7 v6 (k+1) (GR.flat jC ((out.take (k+1)).map PM)):=by rw [ah HT,jr];exact hown6);(obtain⟨va6,vc6,hv6,_⟩:=GR.own_at (enc:=jC) (sz:=7) (l:=(out.take (k+1)).map PM) ku (by rw [aFQ,aFj,aFZ Aaa];exact Kh));(rw [aFQ,aFj,aFZ Aaa] at hv6);(subst hv6);(have HO6:=Hq Kh);(have Ol:=Hq (show aH W0 w6 from(fO.alloc fO.size _).trans (Mc rP (λk e=>(JO.lt k e).1) (aEU fO.size Aac))));(clear hown6 rP PN Kh);(have HP6:=Hq (aj Lr Ol));(obtain⟨z0,z1,z2,z3,z4,z5,z6,z7,z8⟩:=nine HP6);(have t0:=(Ol.cell (p:=⟨g,off+k*4,none⟩) hg).trans HQ0);(have t1:=(Ol.cell (p:=⟨g,off+k*4+1,none⟩) hg).trans HQ1);(have t2:=(Ol.cell (p:=⟨g,off+k*4+2,none⟩) hg).trans HQ2);(have t3:=(Ol.cell (p:=⟨g,off+k*4+3,none⟩) hg).trans HQ3))
      |fail)
    all_goals
     go_wp2_with fail
     go_roundw
     case rel=>exact⟨k+1,va6,vc6,Aaa,Aaf,rfl,HO6,Ol,λ_=>hOK⟩
     case measure=>simp[intOf];omega
  .open aqH in exact aa0):P:=h
theorem an6.AaM(h:P:=by
 dsimp only at HK HP HO HS HR HQ jO hkl ⊢;go_in
 go_wp2_with fail;refine(HK _ _ Aaa Aaa).mono ?_;rintro e w0 ⟨rfl,rfl⟩;have pY:=Hq (au w (.cells (dD ⟨id,par,kids,next,pu,out,seen,old,reqs⟩ ⟨ak,ap,ao,as',ar,ck,cp,co,cs,cr⟩) 28));have HB0:=Hq jO;obtain⟨z0,hz0⟩:∃zz:Int,(if (kids.length:Int)<=z then z - (kids.length:Int) else -1)=zz:=⟨_,rfl⟩;rw [hz0];by_cases hk:(kids.length:Int)<=z
 case' neg=>
  rw [aE2 hk] at hz0;subst hz0;go_wp2_with fail;go_ret;exact⟨-1,rfl,pY,.inl rfl⟩
 rw [aFc hk] at hz0;have q0:0<=z0:=Aaa
 have q1:z0<=1048576:=Aaa
 have q2:decide (z0 < 0)=false:=aES Aaa;clear hz0 jO;obtain⟨c0,c1,c2,c3,c4,c5,c6,c7,c8⟩:=nine HB0;go_wp2_with fail;refine(HP _ _ pY Aaa Aaa).mono ?_;rintro e w1 ⟨z1,rfl,hb1,hcase⟩;open atc in exact aaF):P:=h
theorem an7.AaM(h:P:=by
 dsimp only at HS HB0 pY HKK XB HOO HSS HRR hzk hzp hzo hzs hzr ⊢;obtain⟨q1,q2,q3,q4,q5⟩:=ah HS;have HQ4:=Hq q4;clear q4 HS;obtain⟨c0,c1,c2,c3,c4,c5,c6,c7,c8⟩:=nine HB0;go_in
 go_wp2_with fail;refine(HKK _ _ pY Aaa).mono ?_;rintro e w1 ⟨rfl,hb1⟩;open atb in exact aaF):P:=h
theorem an8.AaM(h:P:=by
 dsimp only at HS HMN Oz HP0 HO0 ajH VB HB0 HL al3 jA HD2 HD3 HD4 HD5 HD6 al7 ⊢;obtain⟨q1,q2,q3,q4,q5⟩:=ah HS;have HQ4:=Hq q4;clear q4 HS;have hzk:=HZ.k;have hzp:=HZ.p;have hzo:=HZ.o;have hzs:=HZ.s;have hzr:=HZ.r;dsimp only at hzk hzp hzo hzs hzr;obtain⟨c0,c1,c2,c3,c4,c5,c6,c7,c8⟩:=nine HB0;go_in
 go_wp2_with fail;refine(Qt ak G.k ck s0 _ kids _ Aaa Aaa Aaa hzk Oz).mono ?_;rintro e w1 ⟨rfl,hw,hk⟩;have yO:=Hq hw;have wH:=Hq (GR.W.keeps HP0 hk (λx hx=>λhx2=>(Ne.symm (HD2 _ hx2 _ (.inl hx))) rfl));have Ij:=Hq (GR.W.keeps HO0 hk (λx hx=>λhx2=>(Ne.symm (HD2 _ hx2 _ (.inr (.inl hx)))) rfl));have amj:=Hq (eB.keeps ajH hk (λx hx=>λhx2=>(Ne.symm (HD2 _ hx2 _ (.inr (.inr (.inl hx))))) rfl) (λx hx=>λhx2=>(Ne.symm (HD2 _ hx2 _ (.inr (.inr (.inr (.inl hx)))))) rfl));have HR1:=Hq (GR.W.keeps VB hk (λx hx=>λhx2=>(Ne.symm (HD2 _ hx2 _ (.inr (.inr (.inr (.inr hx)))))) rfl));have HB1:=Hq (hk.obj HB0 (λhx=>by have:=HL.1 _ hx;omega));have az3:=Hq (al3.trans (hk.mono (λx hx=>jA _ (.inl hx))));clear hw hk c0 c1 c2 c3 c4 c5 c6 c7 c8 Oz HP0 HO0 ajH VB;obtain⟨c0,c1,c2,c3,c4,c5,c6,c7,c8⟩:=nine HB1;go_wp2_with fail;refine(Uw ap G.p cp s1 _ pu _ Aaa b1 Aaa hzp wH).mono ?_;rintro e w2 ⟨rfl,hw,hk⟩;have rF:=Hq hw;have oq:=Hq (GR.W.keeps yO hk (λx hx=>λhx2=>(HD2 _ (kD hx) _ (.inl hx2)) rfl));have yP:=Hq (GR.W.keeps Ij hk (λx hx=>λhx2=>(Ne.symm (HD3 _ hx2 _ (.inl hx))) rfl));have amk:=Hq (eB.keeps amj hk (λx hx=>λhx2=>(Ne.symm (HD3 _ hx2 _ (.inr (.inl hx)))) rfl) (λx hx=>λhx2=>(Ne.symm (HD3 _ hx2 _ (.inr (.inr (.inl hx))))) rfl));have HR2:=Hq (GR.W.keeps HR1 hk (λx hx=>λhx2=>(Ne.symm (HD3 _ hx2 _ (.inr (.inr (.inr hx))))) rfl));have HB2:=Hq (hk.obj HB1 (λhx=>by have:=HL.2.1 _ hx;omega));have az4:=Hq (az3.trans (hk.mono (λx hx=>jA _ (.inr (.inl hx)))));clear hw hk c0 c1 c2 c3 c4 c5 c6 c7 c8 yO wH Ij amj HR1;obtain⟨c0,c1,c2,c3,c4,c5,c6,c7,c8⟩:=nine HB2;go_wp2_with fail;refine(YQ ao G.o co s2 _ out _ Aaa b3 Aaa hzo yP).mono ?_;rintro e w3 ⟨rfl,hw,hk⟩;have ER:=Hq hw;have Sw:=Hq (GR.W.keeps oq hk (λx hx=>λhx2=>(HD2 _ (kD hx) _ (.inr (.inl hx2))) rfl));have SE:=Hq (GR.W.keeps rF hk (λx hx=>λhx2=>(HD3 _ (kD hx) _ (.inl hx2)) rfl));have aml:=Hq (eB.keeps amk hk (λx hx=>λhx2=>(Ne.symm (HD4 _ hx2 _ (.inl hx))) rfl) (λx hx=>λhx2=>(Ne.symm (HD4 _ hx2 _ (.inr (.inl hx)))) rfl));have HR3:=Hq (GR.W.keeps HR2 hk (λx hx=>λhx2=>(Ne.symm (HD4 _ hx2 _ (.inr (.inr hx)))) rfl));have HB3:=Hq (hk.obj HB2 (λhx=>by have:=HL.2.2.1 _ hx;omega));have ad5:=Hq (az4.trans (hk.mono (λx hx=>jA _ (.inr (.inr (.inl hx))))));clear hw hk c0 c1 c2 c3 c4 c5 c6 c7 c8 oq rF yP amk HR2;obtain⟨c0,c1,c2,c3,c4,c5,c6,c7,c8⟩:=nine HB3;go_wp2_with fail;refine(YL as' G.s cs s3 _ G.i seen _ Aaa b5 b6 hzs HZ.sk al7 aml).mono ?_;rintro e w4 ⟨rfl,hw,hk⟩;have amm:=Hq hw;have HK4:=Hq (GR.W.keeps Sw hk (λx hx=>λhx2=>by rcases aFb.1 hx2 with hx3|hx3;exact(HD2 _ (kD hx) _ (.inr (.inr (.inl hx3)))) rfl;exact(HD2 _ (kD hx) _ (.inr (.inr (.inr (.inl hx3))))) rfl));have R8:=Hq (GR.W.keeps SE hk (λx hx=>λhx2=>by rcases aFb.1 hx2 with hx3|hx3;exact(HD3 _ (kD hx) _ (.inr (.inl hx3))) rfl;exact(HD3 _ (kD hx) _ (.inr (.inr (.inl hx3)))) rfl));have HO4:=Hq (GR.W.keeps ER hk (λx hx=>λhx2=>by rcases aFb.1 hx2 with hx3|hx3;exact(HD4 _ (kD hx) _ (.inl hx3)) rfl;exact(HD4 _ (kD hx) _ (.inr (.inl hx3))) rfl));have HR4:=Hq (GR.W.keeps HR3 hk (λx hx=>λhx2=>by rcases aFb.1 hx2 with hx3|hx3;exact(Ne.symm (HD5 _ hx3 _ (.inr hx))) rfl;exact(Ne.symm (HD6 _ hx3 _ hx)) rfl));have nC:=Hq (hk.obj HB3 (λhx=>by have:=HL.2.2.2.1 _ hx;omega));have az5:=Hq (ad5.trans (hk.mono (λx hx=>by rcases aFb.1 hx with hx|hx;exact jA _ (.inr (.inr (.inr (.inl hx))));exact jA _ (.inr (.inr (.inr (.inr (.inl hx))))))));clear hw hk c0 c1 c2 c3 c4 c5 c6 c7 c8 Sw SE ER aml HR3;obtain⟨c0,c1,c2,c3,c4,c5,c6,c7,c8⟩:=nine nC;rw [<-ah HQ4];go_wp2_with fail;refine(acR ar G.r cr s4 _ reqs _ Aaa b7 Aaa hzr HR4).mono ?_;rintro e w5 ⟨rfl,hw,hk⟩;have XE:=Hq hw;have HK5:=Hq (GR.W.keeps HK4 hk (λx hx=>λhx2=>(HD2 _ (kD hx) _ (.inr (.inr (.inr (.inr hx2))))) rfl));have JQ:=Hq (GR.W.keeps R8 hk (λx hx=>λhx2=>(HD3 _ (kD hx) _ (.inr (.inr (.inr hx2)))) rfl));have JO:=Hq (GR.W.keeps HO4 hk (λx hx=>λhx2=>(HD4 _ (kD hx) _ (.inr (.inr hx2))) rfl));have aAn:=Hq (eB.keeps amm hk (λx hx=>λhx2=>(HD5 _ (ai5 hx) _ (.inr hx2)) rfl) (λx hx=>λhx2=>(HD6 _ (abG hx) _ hx2) rfl));have gX:=Hq (hk.obj nC (λhx=>by have:=HL.2.2.2.2 _ hx;omega));have az6:=Hq (az5.trans (hk.mono (λx hx=>jA _ (.inr (.inr (.inr (.inr (.inr hx))))))));clear hw hk c0 c1 c2 c3 c4 c5 c6 c7 c8 HK4 R8 HO4 amm HR4;obtain⟨c0,c1,c2,c3,c4,c5,c6,c7,c8⟩:=nine gX;go_wp2_with fail;go_ret;refine⟨mU Aaa,?_,az6⟩;rw [ah HMN];exact⟨HK5,JQ,JO,aAn,XE⟩):P:=h
theorem ajS(h:P:=by
 obtain⟨x0,x1,x2,x3,x4,x5,x6,x7,x8⟩:=nine e;generalize (((((((((W.setCell ⟨g,0,none⟩ v0).setCell ⟨g,1,none⟩ v1).setCell ⟨g,2,none⟩ v2).setCell ⟨g,3,none⟩ v3).setCell ⟨g,4,none⟩ v4).setCell ⟨g,5,none⟩ v5).setCell ⟨g,6,none⟩ v6).setCell ⟨g,7,none⟩ v7).setCell ⟨g,8,none⟩ v8)=W' at *;have hp':act.tmps[p]?.getD undef= .pointer (some ⟨g,0,none⟩):=by simpa [Act.eval] using hp
 exact Ab4):P:=h
theorem an9.Ab4(h:P:=by
 have hq':act.tmps[q]?.getD undef=u1:=by simpa [Act.eval] using hq
 have hr':act.tmps[r]?.getD undef=u2:=by simpa [Act.eval] using hr
 exact aEY (by simp[results,hf,go_sem,hp',hq',hr',x0,x1,x2,x3,x4,x5,x6,x7,x8]) hd (h W' e k)):P:=h
theorem aoa.Ab4(h:P:=by
 have hq':act.tmps[q]?.getD undef=u1:=by simpa [Act.eval] using hq
 exact aEY (by simp[results,hf,go_sem,hp',hq',x0,x1,x2,x3,x4,x5,x6,x7,x8]) hd (h W' e k)):P:=h
theorem aob.Ab4(h:P:=by
 exact aEY (by simp[results,hf,go_sem,hp',x0,x1,x2,x3,x4,x5,x6,x7,x8]) hd (h W' e k hs hz)):P:=h
theorem D6(h:P:=by
 unfold jZ;have nH:=Hq (λW (h:aH w W)=>ru n A W (hz.mono Aaa) (ha.below h));rw [hok] at nH;exact AaN):P:=h
theorem aoc.AaN(h:P:=by
 have ES:=Hq (λW=>jK ⟨K,no,k,nn,⟨mK,mF,mT,mI,mL,mk,mN⟩⟩ W Aal Aal);open aBe in exact E9):P:=h
theorem aod.AaN(h:P:=by
 have EL:=Hq (λW (h:aH w W)=>kZ n A W hz (ha.below h));clear hz ha hok;go_in
 go_upto_region 2 with fail;refine wp_at (λW1 hW=>?_);open aqS in exact axe):P:=h
theorem aoe.AaN(h:P:=by
 have jP:=Hq (λW A1 G1 c (hB:0<=W.heap.size) (h9:∀x,6 < c x->c x=9) (hp:((∃g,A1.p=some ⟨g,0,none⟩)/\n.pu.length<=A1.cp)/\(∃g,A1.r=some ⟨g,0,none⟩)/\n.reqs.length<=A1.cr) (hN:NQ W 0 n A1 G1 c)=>Ru n A1 G1 c no W 0 hB h9 hz hp.1.1 hp.1.2 (bJ hok).2.2.2.2.2 hN);unfold je at jP;generalize aU n no=GV at *;obtain⟨N1,Di⟩:=GV;dsimp only at jP ⊢;have ES:=Hq (λW=>jK ⟨2,no,k,nn,⟨mK,mF,mT,mI,mL,mk,mN⟩⟩ W Aal Aal);open aBf in exact E9):P:=h
theorem aof.AaN(h:P:=by
 have jP:=Hq (λW A1 G1 c (hB:0<=W.heap.size) (h9:∀x,6 < c x->c x=9) (hp:((∃g,A1.p=some ⟨g,0,none⟩)/\n.pu.length<=A1.cp)/\(∃g,A1.r=some ⟨g,0,none⟩)/\n.reqs.length<=A1.cr) (hN:NQ W 0 n A1 G1 c)=>ZA n A1 G1 c 1 no k nn mK mF mT mI mL mk mN W 0 hB h9 hz hk hp.1.1 hp.1.2 hp.2.1 hp.2.2 (bJ hok).2.2.2.2.2 hN);unfold je at jP;generalize fT n no k nn=GV at *;obtain⟨N1,Di⟩:=GV;dsimp only at jP ⊢;have ES:=Hq (λW=>jK ⟨1,no,k,nn,⟨mK,mF,mT,mI,mL,mk,mN⟩⟩ W Aal Aal);open aBg in exact E9):P:=h
theorem aog.AaN(h:P:=by
 have hpz:(decide (n.par < 0))=false:=by
  exact aip
 have jP:=Hq (λW A1 G1 c (hB:0<=W.heap.size) (h9:∀x,6 < c x->c x=9) (hp:((∃g,A1.p=some ⟨g,0,none⟩)/\n.pu.length<=A1.cp)/\(∃g,A1.r=some ⟨g,0,none⟩)/\n.reqs.length<=A1.cr) (hN:NQ W 0 n A1 G1 c)=>Rk n A1 G1 c n.par k nn W 0 hB h9 hz hk hp.1.1 hp.1.2 (by have h:=(bJ hok).2.2.2.1;unfold fJ at h;simp at h;omega) hN);unfold gM at jP;generalize fu n n.par k nn=GV at *;obtain⟨N1,L1,b1⟩:=GV;dsimp only at jP ⊢;generalize (if b1=true then(0:Int) else 1)=Di at *;have ES:=Hq (λW=>jK ⟨4,no,k,nn,⟨mK,mF,mT,mI,mL,mk,mN⟩⟩ W Aal Aal);open aBh in exact E9):P:=h
theorem aoh.AaN(h:P:=by
 have hmo:bY ⟨mK,mF,mT,mI,mL,mk,mN⟩=true:=by
  have h:=hop;unfold bQ at h;dsimp only at h;rw [aE2 Aaa,aE2 Aaa,aE2 Aaa,aE2 Aaa,aFc rfl,aEX] at h;exact h.2
 have jP:=Hq (λW A1 G1 c (hB:0<=W.heap.size) (h9:∀x,6 < c x->c x=9) (hp:((∃g,A1.p=some ⟨g,0,none⟩)/\n.pu.length<=A1.cp)/\(∃g,A1.r=some ⟨g,0,none⟩)/\n.reqs.length<=A1.cr) (hN:NQ W 0 n A1 G1 c)=>adu n A1 G1 c mK mF mT mI mL mk mN W 0 hB h9 hz hmk hok hmo hp.1.1 hp.1.2 hN);clear hmo;unfold gM at jP;generalize Dl n ⟨mK,mF,mT,mI,mL,mk,mN⟩=GV at *;obtain⟨N1,L1,Di⟩:=GV;dsimp only at jP ⊢;have ES:=Hq (λW=>jK ⟨6,no,k,nn,⟨mK,mF,mT,mI,mL,mk,mN⟩⟩ W Aal Aal);open aBi in exact E9):P:=h
theorem aoi.AaN(h:P:=by
 have hpz:(decide (n.par < 0))=true:=by rw [hpar];rfl
 clear hpar;have ES:=Hq (λW=>jK ⟨4,no,k,nn,⟨mK,mF,mT,mI,mL,mk,mN⟩⟩ W Aal Aal);open aBj in exact E9):P:=h
theorem aoj.AaN(h:P:=by
 have hpz:(decide (n.par < 0))=true:=by rw [hpar];rfl
 clear hpar;have ES:=Hq (λW=>jK ⟨3,no,k,nn,⟨mK,mF,mT,mI,mL,mk,mN⟩⟩ W Aal Aal);open aBk in exact E9):P:=h
theorem aok.AaN(h:P:=by
 have hpg:(decide (n.par≥0))=false:=by rw [hpar];rfl
 have ayR:(decide (0<=n.par))=false:=hpg;clear hpar
 have jP:=Hq (λW (A1:bq) (hp:(∃g,A1.p=some ⟨g,0,none⟩)/\n.pu.length<=A1.cp) (hN:aG W A1.p n.pu)=>(by
  obtain⟨⟨g,hg⟩,hc⟩:=hp
  rw [hg] at hN ⊢
  have:=GZ g 0 A1.cp n.pu k nn W (aEU hz.p Aaa) hc hz.pk hk hN
  rw [hu] at this
  exact this:Calls prog 127 #[.slice A1.p n.pu.length A1.cp,.string k,.int .i64 nn] W (jd W (RL,true))))
 clear hu;unfold jd at jP;have ES:=Hq (λW=>jK ⟨0,no,k,nn,⟨mK,mF,mT,mI,mL,mk,mN⟩⟩ W Aal Aal);open aBl in exact E9):P:=h
theorem aol.AaN(h:P:=by
 have hpg:(decide (n.par≥0))=false:=by rw [hpar];rfl
 have ayR:(decide (0<=n.par))=false:=hpg;clear hpar
 have jP:=Hq (λW (A1:bq) (hp:(∃g,A1.p=some ⟨g,0,none⟩)/\n.pu.length<=A1.cp) (hN:aG W A1.p n.pu)=>(by
  obtain⟨⟨g,hg⟩,hc⟩:=hp
  rw [hg] at hN ⊢
  have:=GZ g 0 A1.cp n.pu k nn W (aEU hz.p Aaa) hc hz.pk hk hN
  rw [hu] at this
  exact this:Calls prog 127 #[.slice A1.p n.pu.length A1.cp,.string k,.int .i64 nn] W (jd W (RL,false))))
 exact Zk4):P:=h
theorem aom.AaN(h:P:=by
 have hpg:(decide (n.par≥0))=true:=by
  have h:=(bJ hok).1;unfold eD at h;simp only[aEX,aFf] at h;exact aET Aaa
 have ayR:(decide (0<=n.par))=true:=hpg
 have jP:=Hq (λW (A1:bq) (hp:(∃g,A1.p=some ⟨g,0,none⟩)/\n.pu.length<=A1.cp) (hN:aG W A1.p n.pu)=>(by
  obtain⟨⟨g,hg⟩,hc⟩:=hp
  rw [hg] at hN ⊢
  have:=GZ g 0 A1.cp n.pu k nn W (aEU hz.p Aaa) hc hz.pk hk hN
  rw [hu] at this
  exact this:Calls prog 127 #[.slice A1.p n.pu.length A1.cp,.string k,.int .i64 nn] W (jd W (RL,ok))))
 exact Zk4):P:=h
theorem aon.AaN(h:P:=by
 have jP:=Hq (λW A1 (hN:cK W A1 n)=>adw n A1 W (hz.mono Aaa) hN);rw [show ada n=n.out.map (qU n) from aFc hok] at jP;unfold BM at jP;dsimp only at jP ⊢;generalize n.out.map (qU n)=L1 at *;have ES:=Hq (λW=>jK ⟨5,no,k,nn,⟨mK,mF,mT,mI,mL,mk,mN⟩⟩ W Aal Aal);open aBm in exact E9):P:=h
theorem XM(h:P:=by
 open apC in exact SY):P:=h
theorem aoo.AaZ(h:P:=by
 refine aGE rfl 73 (.tmp 7) (.tmp 6) rfl (w.heap.size+1+1) 0 (opl x.o).toArray rfl rfl (zJ.there 0 11 Aac) Aab Aab ?_;have HS2:=Hq (zJ.mid 0 (opl x.o));clear zJ;generalize World.setCells _ _ _ _=W1 at *;have c11:W1.cell? ⟨w.heap.size,11,none⟩=some (.int .i64 x.c):=(HS2.cell 11).trans Aab;have f11:=aC HS2.o 11;have o11:W1.cell? ⟨w.heap.size+1+1,11,none⟩=some (.int .i64 0):=(aE1 _ _ 11 _ _ (0,0) HS2.o).trans Aab;go_upto_region 4 with fail;refine wp_at (λW hW=>?_);have vQ:=Hq (hW.symm▸(ah HS2).one 11 (.int .i64 x.c));clear hW c11 f11 o11 HS2;obtain⟨L,hL⟩:∃L,L=eU x:=⟨_,rfl⟩;have Sc:Hid (TO 90 75 (eU x) adU w (λ_=>True) L W):=⟨vQ.p,vQ.r,vQ.o.trans (by rw [hL];kernel_rfl),vQ.b,λ_ _=>trivial⟩;have hl:L.length=12:=by rw [hL];rfl
 have h1:L.toArray.all (·.oneCell')=true:=by rw [hL];kernel_rfl
 have HQ:=Hq (show Ending.returned (.agg L.toArray)= .returned (anv x) by rw [hL]);have ht:W.there (w.heap.size+1) 0 12:=Sc.thereR;clear vQ hL;refine aFm ?_;show wpList _ _ _ [_,_] _ _
 refine aGj rfl 75 (.tmp 3) rfl (w.heap.size+1+1) 0 rfl L _ Sc.rngO underlying75 rfl Acj ?_;refine aGE rfl 75 (.tmp 2) (.tmp 11) rfl (w.heap.size+1) 0 L.toArray rfl rfl (by simpa [hl] using ht) (by simp only[aFM,hl];kernel_rfl) h1 ?_;have hr:=World.rangeAt_setCells_same W (w.heap.size+1) 0 L (by rw [hl];exact ht);have hb:=Sc.ends.2;go_wp2_with fail;exact aEY (v:= .agg L.toArray) (jN rfl _ _ (w.heap.size+1) L _ rfl hr underlying75 rfl Acj) rfl ⟨HQ,hb⟩):P:=h
theorem aop.AaZ(h:P:=by
 refine aGj rfl 39 (.tmp 11) rfl w.heap.size 9 rfl (dD k.node A.n).toList _ hr1 underlying39 rfl Aab ?_;go_wp2_with fail;refine(Vw W1 HB1).mono ?_;rintro e W2 ⟨rfl,hk⟩;have oq:=Hq (aj yO hk);have HB2:=Hq (HB1.trans (hk.mono HB1.size));clear hk hr1 yO HB1 Vw;have c20:W2.cell? ⟨w.heap.size,20,none⟩=some (.slice A.wa k.wait.length A.wc):=aE1 W2 w.heap.size 20 _ 43 (0,0) oq;go_wp2_with fail;refine(HM3 W2 HB2).mono ?_;rintro e W3 ⟨rfl,hk⟩;have Sw:=Hq (aj oq hk);have HB3:=Hq (HB2.trans (hk.mono HB2.size));clear hk c20 oq HB2 HM3;have g3:decide (((E2:Int)+7*(k.wait.length:Int)) < 0)=false:=aES Aaa;have c21:W3.cell? ⟨w.heap.size,21,none⟩=some (.slice A.aa k.asked.length A.ac):=aE1 W3 w.heap.size 21 _ 43 (0,0) Sw;go_wp2_with fail;refine(HM4 _ W3 Aaa HB3).mono ?_;rintro e W4 ⟨rfl,hk⟩;have nC:=Hq (HB3.trans (hk.mono HB3.size));have g4:decide ((((E2+7*k.wait.length:Nat):Int)+12*(k.asked.length:Int)) < 0)=false:=aES Aaa;clear hk c21 Sw HB3 HM4;go_wp2_with fail;go_ret;exact⟨mU (by rw [ah HEK];omega),nC⟩):P:=h
theorem aoq.AaZ(h:P:=by
 refine aGj rfl 39 (.tmp 9) rfl w.heap.size 9 rfl (dD k.node A.n).toList _ hr1 underlying39 rfl Aab ?_;go_wp2_with fail;refine(Vw W1 yD).mono ?_;rintro e W2 ⟨rfl,hm,hk⟩;have Ii:=Hq hm;have HB2:=Hq (gZ.keeps HB1 hk (λx hx hx2=>HD.1 x (all_mk hx) hx2));have HW2:=Hq (HW1.keeps hk (λx hx hx2=>(HD.2 x (aFp _ hx)).2 hx2));have HA2:=Hq (HA1.keeps hk (λx hx hx2=>(HD.2 x (aFz _ hx)).2 hx2));have oq:=Hq (hk.obj yO (λhx=>HNE _ Aai rfl));have HL2:=Hq (vW.trans (hk.mono (λx hx=>Aai)));clear hm hk hr1 HB1 yD HW1 HA1 yO vW Vw;have c20:W2.cell? ⟨w.heap.size,20,none⟩=some (.slice A.wa k.wait.length A.wc):=aE1 W2 w.heap.size 20 _ 43 (0,0) oq;go_wp2_with fail;refine(HM3 W2 HW2).mono ?_;rintro e W3 ⟨rfl,hm,hk⟩;have HW3:=Hq hm;have HN3:=Hq (gZ.keeps Ii hk (λx hx hx2=>(HD.2 x (aFp _ hx2)).2 (all_mk hx)));have HB3:=Hq (gZ.keeps HB2 hk (λx hx hx2=>(HD.2 x (aFp _ hx2)).1 (all_mk hx)));have HA3:=Hq (HA2.keeps hk (λx hx hx2=>HDD x hx2 hx));have Sw:=Hq (hk.obj oq (λhx=>HNE _ Aai rfl));have sH:=Hq (HL2.trans (hk.mono (λx hx=>Aai)));clear hm hk c20 HB2 Ii HW2 HA2 oq HL2 HM3;have c21:W3.cell? ⟨w.heap.size,21,none⟩=some (.slice A.aa k.asked.length A.ac):=aE1 W3 w.heap.size 21 _ 43 (0,0) Sw;go_wp2_with fail;refine(HM4 _ W3 Aaa HA3).mono ?_;rintro e W4 ⟨rfl,hm,hk⟩;have HA4:=Hq hm;have HN4:=Hq (gZ.keeps HN3 hk (λx hx hx2=>(HD.2 x (aFz _ hx2)).2 (all_mk hx)));have nC:=Hq (gZ.keeps HB3 hk (λx hx hx2=>(HD.2 x (aFz _ hx2)).1 (all_mk hx)));have HW4:=Hq (HW3.keeps hk (λx hx hx2=>HDD x (kD hx) hx2));have Iu:=Hq (sH.trans (hk.mono (λx hx=>Aai)));clear hm hk c21 HB3 HN3 HA3 Sw sH HM4 HW3;go_wp2_with fail;go_ret;exact⟨mU (by rw [ah HEK];omega),⟨nC,HN4,HW4,HA4⟩,Iu⟩):P:=h
theorem aor.AaZ(h:P:=by
 refine aGE rfl 39 (.tmp 33) (.tmp 31) rfl g 11 (dD k.node B) rfl rfl rR.there11 Aab Aab ?_;obtain⟨W6,IW⟩:∃W,W=x4.setCells g 11 (dD k.node B).toList:=⟨_,rfl⟩;have HG6:=Hq (show hkB W6 g {k with base:=k.node} {A with b:=B} 1 true true from by rw [IW];exact hkB.base rR k.node B);have Xv:=Hq (show aA [g] w W6 from by rw [IW];exact HK5.trans (dz _ _ _ _));have HN6:=Hq (show NO W6 W2.heap.size k.node B G cc from by rw [IW];exact HN5.keepsN hgw (dz _ _ _ _));rw [<-IW];clear IW rR HK5 HN5;have c20:W6.cell? ⟨g,20,none⟩=some (.string k.log):=aV HG6 20;have f20:=aC HG6 20;have c21:W6.cell? ⟨g,21,none⟩=some (.int .i64 k.safe):=aV HG6 21;have f21:=aC HG6 21;go_wp2_with fail;have HGU:=Hq (show hkB _ g (Dk k) {A with b:=B} 1 true true from HG6.logs ByteArray.empty 0);open aqN in exact aj1):P:=h
theorem aos.AaZ(h:P:=by
 refine aGE rfl 39 (.tmp 21) (.tmp 20) rfl s1 0 (dD k.node B) rfl rfl (Sc.there 0 9 (by rw [(ah OO).len];decide)) Aab Aab ?_;obtain⟨W5,Sk⟩:∃W,W=w4.setCells s1 0 (dD k.node B).toList:=⟨_,rfl⟩;have HK5:=Hq (show aA [s1,r] w4 W5 from by rw [Sk];exact(dz _ _ _ _).mono (λx hx=>Aas));have Sd:=Hq (Sk.symm▸(ah Sc).mid 0 (dD k.node B).toList);rw [<-Sk];clear Sk Sc;have o18:W5.cell? ⟨s1,18,none⟩=some (.string k.log):=(Sd.co 18).trans (by rw [show VC=_ from ah OO];kernel_rfl);have f18:=aC Sd.ho 18;go_upto_region 6 with fail;refine wp_at (λW6 IW=>?_);have Xv:=Hq (show aA [s1,r] w4 W6 from by rw [IW];exact HK5.trans ((aA.set _).mono (λx hx=>Aas)));have SI:=Hq (IW.symm▸(ah Sd).one 18 (.string ByteArray.empty));clear IW Sd HK5 o18 f18;have o19:W6.cell? ⟨s1,19,none⟩=some (.int .i64 k.safe):=(SI.co 19).trans (by rw [show VC=_ from ah OO];kernel_rfl);have f19:=aC SI.ho 19;go_upto_region 7 with fail;refine wp_at (λW7 Oi=>?_);have HK7:=Hq (show aA [s1,r] w4 W7 from by rw [Oi];exact Xv.trans ((aA.set _).mono (λx hx=>Aas)));have HS7:=Hq (Oi.symm▸(ah SI).one 19 (.int .i64 0));clear Oi SI Xv o19 f19;obtain⟨VD,hVD⟩:∃V,BX V (Dk k) {A1 with b:=B}:=⟨_,rfl⟩;have HVD:=Hq hVD
 have XF:=Hq (show Io V VD p r s1 w w1 W7 from by
  have h:=ah HS7
  rwa [show((GR.setRun VC 0 (dD k.node B).toList).set 18 (.string ByteArray.empty)).set 19 (.int .i64 0)=VD from by rw [show VC=_ from ah OO,show VD=_ from hVD];kernel_rfl] at h)
 clear HS7 hVD;refine aFm ?_;show wpList _ _ _ [_,_] _ _
 refine oH Aad (.tmp 3) rfl s1 rfl VD HVD.len (KR.blk XF.ho) ?_;refine uT Aad (.tmp 2) (.tmp 24) rfl r rfl VD rfl HVD.len HVD.one Aad XF.hr (λW9 hW hR=>?_);have hE:=XF.ends;rw [<-hW] at hE;have XB:=Hq (show∃A',Ending.returned (Value.agg VD.toArray)= .returned (Jg (Dk k) A')/\jw W9 A' (Dk k)/\aH w W9 from⟨{A1 with b:=B},by rw [<-(ah HVD).agg],⟨HN4 W9 (HK7.trans (by rw [hW];exact(dz _ _ _ _).mono (λx hx=>Aas))),(HA1 W9 hE.1).kn,(HA1 W9 hE.1).kw,(HA1 W9 hE.1).ka⟩,by rw [hp];exact hE.2⟩);have HRR:=Hq hR;have HLL:=Hq HVD.len;clear hE hW hR;go_wp2_with fail;exact aEY (v:= .agg VD.toArray) (jN rfl _ _ r VD _ rfl HRR.r underlying43 rfl (by rw [ah HLL];kernel_rfl)) rfl XB):P:=h
theorem aot.AaZ(h:P:=by
 refine aGE rfl 39 (.tmp 11) (.tmp 10) rfl (w.heap.size+1+1) 9 (dD k.node A2) rfl rfl (Ls.there 9 9 (aFa Aab)) Aab Aab ?_;have HS2:=Hq (Ls.mid 9 (dD k.node A2).toList);clear Ls;generalize World.setCells _ _ _ _=W1 at *;go_upto_region 4 with fail;have c18:World.cell? _ ⟨w.heap.size,18,none⟩=some (.string k.log):=(HS2.cell 18).trans Aab;have f18:=aC HS2.o 18;have o18:World.cell? _ ⟨w.heap.size+1+1,18,none⟩=some (.string ByteArray.empty):=(aE1 _ _ 18 _ _ (0,0) HS2.o).trans Aab;go_upto_region 5 with fail;refine wp_at (λW hW=>?_);have vQ:=Hq (hW.symm▸(ah HS2).one 18 (.string k.log));clear hW c18 f18 o18 HS2;have c19:World.cell? _ ⟨w.heap.size,19,none⟩=some (.int .i64 k.safe):=(vQ.cell 19).trans Aab;have f19:=aC vQ.o 19;have o19:World.cell? _ ⟨w.heap.size+1+1,19,none⟩=some (.int .i64 0):=(aE1 _ _ 19 _ _ (0,0) vQ.o).trans Aab;go_upto_region 6 with fail;refine wp_at (λW hW=>?_);have Sc:=Hq (hW.symm▸(ah vQ).one 19 (.int .i64 k.safe));clear hW c19 f19 o19 vQ;have c20:World.cell? _ ⟨w.heap.size,20,none⟩=some (.slice A.wa k.wait.length A.wc):=(Sc.cell 20).trans Aab;have f20:=aC Sc.o 20;have o20:World.cell? _ ⟨w.heap.size+1+1,20,none⟩=some (.slice none 0 0):=(aE1 _ _ 20 _ _ (0,0) Sc.o).trans Aab;go_wp2_with fail;refine(H3 _ Sc.b).mono ?_;rintro e x20 ⟨rfl,hN,hb⟩;have azb:=Sc.s;have HR3:=Hq (show s2<=W.heap.size from(Sc.m _ (aA.refl _ _)).2.2);have Ls:=Hq (Sc.step hb (λW'=>GR.Blk iH 70 W' W.heap.size k.wait) (λW' hk=>hk.obj hN (λhm=>Ack)));clear hN hb Sc H3 c20 f20 o20 azb;generalize W.heap.size=g20 at *;have c20:World.cell? _ ⟨w.heap.size,20,none⟩=some (.slice A.wa k.wait.length A.wc):=(Ls.cell 20).trans Aab;have f20:=aC Ls.o 20;have o20:World.cell? _ ⟨w.heap.size+1+1,20,none⟩=some (.slice none 0 0):=(aE1 _ _ 20 _ _ (0,0) Ls.o).trans Aab;go_upto_region 7 with fail;refine wp_at (λW hW=>?_);have Sd:=Hq (hW.symm▸(ah Ls).one 20 (.slice (some ⟨g20,0,none⟩) k.wait.length k.wait.length));clear hW c20 f20 o20 Ls;have c21:World.cell? _ ⟨w.heap.size,21,none⟩=some (.slice A.aa k.asked.length A.ac):=(Sd.cell 21).trans Aab;have f21:=aC Sd.o 21;have o21:World.cell? _ ⟨w.heap.size+1+1,21,none⟩=some (.slice none 0 0):=(aE1 _ _ 21 _ _ (0,0) Sd.o).trans Aab;go_wp2_with fail;refine(H4 _ Sd.b).mono ?_;rintro e x21 ⟨rfl,hN,hb⟩;have azc:=Sd.s;have HR4:=Hq (show g20 < W.heap.size from ay (Sd.m _ (aA.refl _ _)).2);have Ls:=Hq (Sd.step hb (λW'=>GR.Blk eU 75 W' W.heap.size k.asked) (λW' hk=>hk.obj hN (λhm=>Ack)));clear hN hb Sd H4 c21 f21 o21 azc;generalize W.heap.size=g21 at *;have c21:World.cell? _ ⟨w.heap.size,21,none⟩=some (.slice A.aa k.asked.length A.ac):=(Ls.cell 21).trans Aab;have f21:=aC Ls.o 21;have o21:World.cell? _ ⟨w.heap.size+1+1,21,none⟩=some (.slice none 0 0):=(aE1 _ _ 21 _ _ (0,0) Ls.o).trans Aab;go_upto_region 8 with fail;refine wp_at (λW hW=>?_);have SI:=Hq (hW.symm▸(ah Ls).one 21 (.slice (some ⟨g21,0,none⟩) k.asked.length k.asked.length));clear hW c21 f21 o21 Ls;obtain⟨V,hV⟩:∃V,BX V k ⟨A1,A2,some ⟨g20,0,none⟩,k.wait.length,some ⟨g21,0,none⟩,k.asked.length⟩:=⟨_,rfl⟩;have HR:=Hq (KR.blk (V:=V) (show W.heap[w.heap.size+1+1]?=some (.cells V.toArray 43 (0,0)) from SI.o.trans (by rw [show V=_ from hV];kernel_rfl)));have HV:=Hq hV;clear hV;refine aFm ?_;show wpList _ _ _ [_,_] _ _
 refine oH Aad (.tmp 3) rfl (w.heap.size+1+1) rfl V HV.len HR ?_;refine uT Aad (.tmp 2) (.tmp 26) rfl (w.heap.size+1) rfl V rfl HV.len HV.one Aad SI.r (λW5 Sk WB=>?_);have hk:aA [w.heap.size+1,w.heap.size+1+1] W W5:=by rw [Sk];exact(dz _ _ _ _).mono (λx hx=>by simp at hx;simp[hx])
 have hb:aH w W5:=by rw [Sk];exact eZ Aaa _ _ _ _ SI.b
 obtain⟨⟨⟨⟨_,q1,z1⟩,q2,z2⟩,q3⟩,q4⟩:=SI.m W5 hk;have akG:=ah HR3;have aCl:=ah HR4;have aCu:=ay q4;obtain⟨hr2,hw1,hw2⟩:=ah HR2;have hr1:=HR1.1
 have HP:=Hq (show∃A' G1 G2 gw ga,Ending.returned (Value.agg V.toArray)= .returned (Jg k A')/\jw W5 A' k/\Eu w.heap.size W5.heap.size W5 A' k G1 G2 gw ga/\aH w W5 from⟨_,G1,G2,g20,g21,by rw [(ah HV).agg],⟨q1.at,q2.at,GR.Blk.at q3 dA,GR.Blk.at q4 aR⟩,
  ⟨q1,q2,HD1,HD2,λx h1 h2=>by have:=hr1 x h1;have:=hr2 x h2;omega,GR.W.of_blk dA q3,GR.W.of_blk aR q4,λx hx=>⟨λh1=>by
   have:=hr1 x h1
   rcases aFb.1 hx with hx|hx
   .have:=(dw hx).1;omega
   .have:=(dw hx).1;omega,λh2=>by
   have:=hr2 x h2
   rcases aFb.1 hx with hx|hx
   .have:=(dw hx).1;omega
   .have:=(dw hx).1;omega⟩,λx h1 h2=>by have:=(dw h1).1;have:=(dw h2).1;omega,λx hx=>by
   rcases aFb.1 hx with hx|hx
   .have:=hr1 x hx;omega
   rcases aFb.1 hx with hx|hx
   .have:=hr2 x hx;omega
   rcases aFb.1 hx with hx|hx
   .have:=(dw hx).1;omega
   .have:=(dw hx).1;omega⟩,hb⟩)
 clear Sk hk hb q1 q2 q3 q4 z1 z2 hr1 hr2 hw1 hw2 akG aCl aCu SI HR HR1 HR2 HR3 HR4 HD1 HD2;go_wp2_with fail;exact aEY (v:= .agg V.toArray) (jN rfl _ _ (w.heap.size+1) V _ rfl WB.r underlying43 rfl (by rw [(ah HV).len];kernel_rfl)) rfl HP):P:=h
theorem aev(h:P:=by
 have e1:(m:Int)+1+1=m+2:=Aaa
 have e2:(m:Int)+2+1=m+3:=Aaa
 have e3:(m:Int)+3+1=m+4:=Aaa
 have e4:(m:Int)+4+1=m+5:=Aaa
 have e5:(m:Int)+5+1=m+6:=Aaa
 have e6:(m:Int)+6+1=m+7:=Aaa
 exact AbO):P:=h
theorem aou.AbO(h:P:=by
 have e7:(m:Int)+7+1=m+8:=Aaa
 have e8:(m:Int)+8+1=m+9:=Aaa
 have e9:(m:Int)+9+1=m+10:=Aaa
 have e10:(m:Int)+10+1=m+11:=Aaa
 have e11:(m:Int)+11+1=m+12:=Aaa
 go_wp2_with fail;go_region_with (go_at_call 35;refine(EP _ _ Aaa).mono ?_;rintro e w1 ⟨rfl,hb1⟩;have pE:=Hq (aZ.trans (((aE3 _ _).drew.trans hb1).mono aZ.size));have hc0:=(fG hb1).1 g (k*12) Aan;have hc1:=(fG hb1).1 g (k*12+1) Aan;have hc2:=(fG hb1).1 g (k*12+2) Aan;have hc3:=(fG hb1).1 g (k*12+3) Aan;have hc4:=(fG hb1).1 g (k*12+4) Aan;have Ea:=(fG hb1).1 g (k*12+5) Aan;have hc6:=(fG hb1).1 g (k*12+6) Aan;have hc7:=(fG hb1).1 g (k*12+7) Aan;have hc8:=(fG hb1).1 g (k*12+8) Aan;have hc9:=(fG hb1).1 g (k*12+9) Aan;have aDL:=(fG hb1).1 g (k*12+10) Aan;have aDM:=(fG hb1).1 g (k*12+11) Aan;have Eb:=aEZ hgl (show wr.heap.size<=w1.heap.size by have:=hb1.size;simpa using this);clear hb1)
 all_goals
  go_wp2_with fail
  go_region_with (go_at_call 35;refine(HMU _ _ Aaa).mono ?_;rintro e w2 ⟨rfl,hb2⟩;have zL:=Hq (pE.trans (((aE3 _ _).drew.trans hb2).mono pE.size));have hd0:=(fG hb2).1 g (k*12) Aav;have hd1:=(fG hb2).1 g (k*12+1) Aav;have hd2:=(fG hb2).1 g (k*12+2) Aav;have hd3:=(fG hb2).1 g (k*12+3) Aav;have hd4:=(fG hb2).1 g (k*12+4) Aav;have hd5:=(fG hb2).1 g (k*12+5) Aav;have hd6:=(fG hb2).1 g (k*12+6) Aav;have hd7:=(fG hb2).1 g (k*12+7) Aav;have hd8:=(fG hb2).1 g (k*12+8) Aav;have hd9:=(fG hb2).1 g (k*12+9) Aav;have aDO:=(fG hb2).1 g (k*12+10) Aav;have aDP:=(fG hb2).1 g (k*12+11) Aav;clear hb2)
  all_goals
   go_wp2_with fail
   go_roundw
   case rel=>exact⟨k+1,m+12,Aaa,Aaf,Aaf,by have:=ah HM;omega,zL⟩
   case measure=>simp[intOf];omega):P:=h
theorem aov.AbO(h:P:=by
 have e7:(m:Int)+7+1=m+8:=Aaa
 have e8:(m:Int)+8+1=m+9:=Aaa
 have e9:(m:Int)+9+1=m+10:=Aaa
 have e10:(m:Int)+10+1=m+11:=Aaa
 have e11:(m:Int)+11+1=m+12:=Aaa
 go_upto_region 22 with(go_at_call 35;refine(EP _ _ Aaa).mono ?_;rintro e w1 ⟨rfl,hb1⟩;have HB1:=Hq hb1;have hgz:=hb1.size;obtain⟨hcc,hff⟩:=fG hb1;clear hb1)
 refine wp_at (λV hV=>?_);(try simp only[e1,e2,e3,e4,e5,e6,e7,e8,e9,e10,e11] at HB1 hV ⊢)
 have HCV:Hid (GR.C V (some ⟨g,0,none⟩) g ((((((((((GR.flat eU (jW jo 12 s l k)).set (k*12) (.int .i64 (jo m).o.K)).set (k*12+1) (.int .i64 (jo m).o.no)).set (k*12+2) (.string (jo m).o.k)).set (k*12+3) (.int .i64 (jo m).o.n)).set (k*12+4) (.int .i64 (jo m).o.m.K)).set (k*12+5) (.int .i64 (jo m).o.m.F)).set (k*12+6) (.int .i64 (jo m).o.m.T)).set (k*12+7) (.int .i64 (jo m).o.m.I)).set (k*12+8) (.int .i64 (jo m).o.m.L))):=by
  have h0:=GR.W.toC aR Aaa HR;have h1:=GR.C.set h0 (k*12) (.int .i64 (jo m).o.K);have h2:=GR.C.set h1 (k*12+1) (.int .i64 (jo m).o.no);have hB2:=GR.C.below h2 HB1;have h3:=GR.C.set hB2 (k*12+2) (.string (jo m).o.k);have h4:=GR.C.set h3 (k*12+3) (.int .i64 (jo m).o.n);have h5:=GR.C.set h4 (k*12+4) (.int .i64 (jo m).o.m.K);have h6:=GR.C.set h5 (k*12+5) (.int .i64 (jo m).o.m.F);have h7:=GR.C.set h6 (k*12+6) (.int .i64 (jo m).o.m.T);have h8:=GR.C.set h7 (k*12+7) (.int .i64 (jo m).o.m.I);have h9:=GR.C.set h8 (k*12+8) (.int .i64 (jo m).o.m.L);rw [hV];exact h9
 have Xw:Hid (aA (fp g l) w V):=by
  rw [hV];exact((((((((((HK.trans (dG (aA.set _) hpos)).trans (dG (aA.set _) hpos)).trans (aA.of_below HB1)).trans (dG (aA.set _) hpos)).trans (dG (aA.set _) hpos)).trans (dG (aA.set _) hpos)).trans (dG (aA.set _) hpos)).trans (dG (aA.set _) hpos)).trans (dG (aA.set _) hpos)).trans (dG (aA.set _) hpos))
 clear hV HB1 hgz hcc hff EP HK HR s0 s1 s2 s3 s4 s5 s6 s7 s8 s9 s10 s11 f0 f1 f2 f3 f4 f5 f6 f7 f8 f9 f10 f11 hg0;obtain⟨_,hgV,s9,f9⟩:=ah HCV (k*12+9) (by simp only[aF6];exact HL9);obtain⟨_,_,s10,f10⟩:=ah HCV (k*12+10) (by simp only[aF6];exact az8);obtain⟨_,_,s11,f11⟩:=ah HCV (k*12+11) (by simp only[aF6];exact az9);go_wp2_with (go_at_call 35;refine(HMU _ _ Aaa).mono ?_;rintro e w2 ⟨rfl,hb2⟩;have HB2:=Hq hb2;have hgz:=hb2.size;obtain⟨hcc,hff⟩:=fG hb2;clear hb2)
 go_roundw
 case rel=>
  (try simp only[e1,e2,e3,e4,e5,e6,e7,e8,e9,e10,e11] at HB2 ⊢)
  have h9:=ah HCV;have hB9:=GR.C.below h9 HB2;have h10:=GR.C.set hB9 (k*12+9) (.string (jo m).o.m.k);have h11:=GR.C.set h10 (k*12+10) (.int .i64 (jo m).o.m.N);have h12:=GR.C.set h11 (k*12+11) (.int .i64 (jo m).c);have hf:=GR.flat_set eU 12 aR (jW jo 12 s l k) k (jo m) Abq;have h99:=GR.C.toW (enc:=eU) (l:=(jW jo 12 s l k).set k (jo m)) aR Aaa (by rw [<-hf];exact h12);have hmk:jo m=jo (s+12*k):=Abf
  rw [hmk,xO jo 12 s l k hlt,<-hmk] at h99;refine⟨k+1,m+12,Aaa,Aaf,Aaf,by have:=ah HM;omega,h99,?_⟩;exact((((Xw.trans (aA.of_below HB2)).trans (dG (aA.set _) hpos)).trans (dG (aA.set _) hpos)).trans (dG (aA.set _) hpos))
 case measure=>simp[intOf];omega):P:=h
theorem aow.AbO(h:P:=by
 go_wp2_with fail;go_region_with (go_at_call 35;refine(EP _ _ Aaa).mono ?_;rintro e w1 ⟨rfl,hb1⟩;have hc0:=(fG hb1).1 g (k*7) Aan;have hc1:=(fG hb1).1 g (k*7+1) Aan;have hc2:=(fG hb1).1 g (k*7+2) Aan;have hc3:=(fG hb1).1 g (k*7+3) Aan;have hc4:=(fG hb1).1 g (k*7+4) Aan;have Ea:=(fG hb1).1 g (k*7+5) Aan;have hc6:=(fG hb1).1 g (k*7+6) Aan;have pE:=Hq (aZ.trans (((aE3 _ _).drew.trans hb1).mono aZ.size));clear hb1)
 all_goals
  go_wp2_with fail
  go_roundw
  case rel=>exact⟨k+1,m+7,Aaa,Aaf,Aaf,by have:=ah HM;omega,pE⟩
  case measure=>simp[intOf];omega):P:=h
theorem aox.AbO(h:P:=by
 (try simp only[e1,e2,e3,e4,e5,e6] at HB1 ⊢)
 have h1:=GR.C.set h0 (k*7) (.int .i64 (mkMsg m).K);have h2:=GR.C.set h1 (k*7+1) (.int .i64 (mkMsg m).F);have h3:=GR.C.set h2 (k*7+2) (.int .i64 (mkMsg m).T);have h4:=GR.C.set h3 (k*7+3) (.int .i64 (mkMsg m).I);have h5:=GR.C.set h4 (k*7+4) (.int .i64 (mkMsg m).L);have hB:=GR.C.below h5 HB1;have h6:=GR.C.set hB (k*7+5) (.string (mkMsg m).k);have h7:=GR.C.set h6 (k*7+6) (.int .i64 (mkMsg m).N);have hf:=GR.flat_set jC 7 ku (jW mkMsg 7 s l k) k (mkMsg m) Abq;have h9:=GR.C.toW (enc:=jC) (l:=(jW mkMsg 7 s l k).set k (mkMsg m)) ku Aaa (by rw [<-hf];exact h7);have hmk:mkMsg m=mkMsg (s+7*k):=Abf
 rw [hmk,xO mkMsg 7 s l k hlt,<-hmk] at h9;refine⟨k+1,m+7,Aaa,Aaf,Aaf,by have:=ah HM;omega,h9,?_⟩;exact((((((((HK.trans (dG (aA.set _) hpos)).trans (dG (aA.set _) hpos)).trans (dG (aA.set _) hpos)).trans (dG (aA.set _) hpos)).trans (dG (aA.set _) hpos)).trans (aA.of_below HB1)).trans (dG (aA.set _) hpos)).trans (dG (aA.set _) hpos))):P:=h
theorem awR(h:P:=by
 open aun in exact aaM):P:=h
theorem aoy.AdZ(h:P:=by
 open aur in exact agU):P:=h
theorem aoz.AdZ(h:P:=by
 open asG in exact agy):P:=h
theorem XP(h:P:=by
 have xD:=Hq (show aH w V by rw [hV];exact((aE3 _ _).alloc (aER _) _).alloc Aac _);have hgV:=dx hblk;obtain⟨p0,p1,p2,p3,p4,p5,p6⟩:=uK hblk;clear hV hblk;exact AaX):P:=h
theorem aoA.AaX(h:P:=by
 have cO:∀d os,Calls prog 345 #[.agg #[.int .i64 F,.int .i64 T,.int .i64 I]] (Sort.grow (redrawn V d) os) λe w''=>e= .returned (.bool false)/\∃p:Regrown,w''=Sort.grow (redrawn V p.d) p.os:=λd os=>aFr (HO _)
 open ant in exact OW):P:=h
theorem aoB.AaX(h:P:=by
 have cO:∀d os,Calls prog 344 #[.agg #[.int .i64 F,.int .i64 T,.int .i64 I,.int .i64 L,.string k,.int .i64 N]] (Sort.grow (redrawn V d) os) λe w''=>e= .returned (.bool true)/\∃p:Regrown,w''=Sort.grow (redrawn V p.d) p.os:=λd os=>aFr (HO _)
 have cM:∀d os,Calls prog 272 #[.iface 297 (.agg #[.int .i64 F,.int .i64 T,.int .i64 I,.int .i64 L,.string k,.int .i64 N])] (Sort.grow (redrawn V d) os) λe w''=>e= .returned (oJ ⟨1,F,T,I,L,k,N⟩)/\∃p:Regrown,w''=Sort.grow (redrawn V p.d) p.os:=λd os=>aFr (HM _)
 open anu in exact OW):P:=h
theorem aoC.AaX(h:P:=by
 have cO:∀d os,Calls prog 344 #[.agg #[.int .i64 F,.int .i64 T,.int .i64 I,.int .i64 L,.string k,.int .i64 N]] (Sort.grow (redrawn V d) os) λe w''=>e= .returned (.bool false)/\∃p:Regrown,w''=Sort.grow (redrawn V p.d) p.os:=λd os=>aFr (HO _)
 open anw in exact OW):P:=h
theorem aoD.AaX(h:P:=by
 have cO:∀d os,Calls prog 343 #[.agg #[.int .i64 F,.int .i64 T,.string k,.int .i64 N]] (Sort.grow (redrawn V d) os) λe w''=>e= .returned (.bool false)/\∃p:Regrown,w''=Sort.grow (redrawn V p.d) p.os:=λd os=>aFr (HO _)
 open anx in exact OW):P:=h
theorem aoE.AaX(h:P:=by
 have cO:∀d os,Calls prog 343 #[.agg #[.int .i64 F,.int .i64 T,.string k,.int .i64 N]] (Sort.grow (redrawn V d) os) λe w''=>e= .returned (.bool true)/\∃p:Regrown,w''=Sort.grow (redrawn V p.d) p.os:=λd os=>aFr (HO _)
 have cM:∀d os,Calls prog 272 #[.iface 295 (.agg #[.int .i64 F,.int .i64 T,.string k,.int .i64 N])] (Sort.grow (redrawn V d) os) λe w''=>e= .returned (oJ ⟨0,F,T,0,0,k,N⟩)/\∃p:Regrown,w''=Sort.grow (redrawn V p.d) p.os:=λd os=>aFr (HM _)
 open anB in exact OW):P:=h
theorem aoF.AaX(h:P:=by
 have cO:∀d os,Calls prog 345 #[.agg #[.int .i64 F,.int .i64 T,.int .i64 I]] (Sort.grow (redrawn V d) os) λe w''=>e= .returned (.bool true)/\∃p:Regrown,w''=Sort.grow (redrawn V p.d) p.os:=λd os=>aFr (HO _)
 have cM:∀d os,Calls prog 272 #[.iface 299 (.agg #[.int .i64 F,.int .i64 T,.int .i64 I])] (Sort.grow (redrawn V d) os) λe w''=>e= .returned (oJ ⟨2,F,T,I,0,ByteArray.empty,0⟩)/\∃p:Regrown,w''=Sort.grow (redrawn V p.d) p.os:=λd os=>aFr (HM _)
 open anC in exact OW):P:=h
theorem XQ(h:P:=by
 have HW1:=Hq (h.step (au w (.cells (bV K no k nn mK mF mT mI mL mk mN) 73)));have wH:=Hq (aEP w (.cells (bV K no k nn mK mF mT mI mL mk mN) 73));exact AaY):P:=h
theorem aoG.AaY(h:P:=by
 clear h he hR hz hk hpar;open atF in exact VW):P:=h
theorem aoH.AaY(h:P:=by
 clear h hR hpar;obtain⟨c0,c1,c2,c3,c4,c5,c6,c7,c8,c9⟩:=jT HW1.blk;have hwl:=ay HW.blk;have hne:wb≠w.heap.size:=Aaa
 go_in
 go_upto_region 1 with fail;have y1:=aEQ c1;clear c0 c1 c2 c3 c4 c5 c6 c7 c8 c9;open asF in exact agy):P:=h
theorem aoI.AaY(h:P:=by
 have hq2:(n.par == -1)=false:=Abg
 clear h hR hpar;open atE in exact VW):P:=h
theorem aoJ.AaY(h:P:=by
 have hq2:(n.par == -1)=false:=Abg
 clear h hR hpar;generalize fu n n.par k nn=gv at *;obtain⟨gn,gl,gb⟩:=gv;dsimp only at IG ⊢;open atD in exact VW):P:=h
theorem aoK.AaY(h:P:=by
 clear h ho;obtain⟨⟨p0,p1,p2,p3,p4,p5,p6,p7,p8,p9,pz⟩,_⟩:=aK wH;have hpl:=ay wH;go_in
 go_wp2_with fail;refine(HIO _).mono ?_;rintro e w2 ⟨rfl,hb2⟩;have HW2:=Hq (HW1.step hb2);have rF:=Hq (aj wH hb2);clear hb2 HW1 wH p0 p1 p2 p3 p4 p5 p6 p7 p8 p9 pz HIO;exact AaI):P:=h
theorem aoL.AaY(h:P:=by
 open atC in exact VW):P:=h
theorem ajT(h:P:=by
 clear iJ HBM;go_wp2_with fail;refine wp_region_quiet_lit Aab Aab ?_;repeat (first|go_big_quiet_step ((first|(go_at_call 47;exact qIn _ _ _ _ h1 _ _)))|quiet_step ((first|(go_at_call 47;exact qIn _ _ _ _ h1 _ _))))
 refine aFy ?_;intro _ hw';obtain⟨nq,hw''⟩:=hw';subst hw'';go_wp2_with fail;exact AbT):P:=h
theorem aoM.AbT(h:P:=by
 go_roundw
 case rel=>exact⟨j+1+1,Aaa,Aaf,HV,jO.trans ⟨rfl,rfl,rfl,aER _,λ_ _=>rfl⟩⟩
 case measure=>simp[intOf];omega):P:=h
theorem aoN.AbT(h:P:=by
 go_roundw
 case rel=>exact⟨0+1,Aaa,Aaf,HV,jO.trans ⟨rfl,rfl,rfl,aER _,λ_ _=>rfl⟩⟩
 case measure=>simp[intOf];omega):P:=h
theorem aoO.AbT(h:P:=by
 go_ret;exact⟨aF HV.symm,HL9.trans ⟨rfl,rfl,rfl,aER _,λ_ _=>rfl⟩⟩):P:=h
theorem awS(h:P:=by
 go_in
 go_upto_region 1 with fail;refine Fo.wp_at (λV hV=>?_);have hbV:aH w V:=by rw [hV];exact dS w _
 have hblk:V.heap[w.heap.size]?=some (.cells #[.int .i64 dm,.int .i64 df,.int .i64 ds] 261 (0,0)):=by rw [hV];exact aEP w _
 have hlt:=Fo.lt_of_blk hblk;have c0:V.cell? ⟨w.heap.size,0,none⟩=some (.int .i64 dm):=by rw [aE1 V _ _ _ _ (0,0) hblk];rfl
 have c1:V.cell? ⟨w.heap.size,1,none⟩=some (.int .i64 df):=by rw [aE1 V _ _ _ _ (0,0) hblk];rfl
 have c2:V.cell? ⟨w.heap.size,2,none⟩=some (.int .i64 ds):=by rw [aE1 V _ _ _ _ (0,0) hblk];rfl
 have xD:=Hq hbV;clear hblk hV hbV;exact Ad6):P:=h
theorem aoP.Ad6(h:P:=by
 go_cut [9,10] (λp9 pz wx=>∃pb:Nat,p9= .pointer (some ⟨pb,0,none⟩)/\pz= .nilIface/\aH w wx/\wx.heap[pb]?=some (.cells (iX pk qm qf qs) 155 (0,0))/\w.heap.size<=pb)
 case first=>
  have hnV:w.heap.size≠V.heap.size:=Aaa
  have hmV:V.heap.size≠w.heap.size:=Aaa
  go_region_held (λw'=>w'.cell? ⟨w.heap.size,0,none⟩=some (.int .i64 dm)/\w'.cell? ⟨w.heap.size,1,none⟩=some (.int .i64 df)/\w'.cell? ⟨w.heap.size,2,none⟩=some (.int .i64 ds)) (go_keep)
   (first
    |((go_at_call 304);(refine(Ow _ (by exact xD.trans (by exact⟨rfl,rfl,rfl,Aac,λk hk=>by first|rfl|exact aE4 _ _ _ Aaa⟩))).mono ?_);(rintro e w4 ⟨rfl,hb4⟩);(have hs4:=hb4.size);(simp at hs4);(have nC:=Hq (xD.trans (Below.trans (b:=_) (by exact⟨rfl,rfl,rfl,Aac,λk hk=>by first|rfl|exact aE4 _ _ _ Aaa⟩) (hb4.mono (by first|omega|(simp<;>omega))))));(obtain⟨hc4,hf4⟩:=fG hb4);(have d0:w4.cell? ⟨w.heap.size,0,none⟩=some (.int .i64 dm):=by rw [hc4 _ _ (by first|omega|(simp<;>omega))];first|exact c0|exact(aE9 _ _ _ hlt).trans c0);(have d1:w4.cell? ⟨w.heap.size,1,none⟩=some (.int .i64 df):=by rw [hc4 _ _ (by first|omega|(simp<;>omega))];first|exact c1|exact(aE9 _ _ _ hlt).trans c1);(have d2:w4.cell? ⟨w.heap.size,2,none⟩=some (.int .i64 ds):=by rw [hc4 _ _ (by first|omega|(simp<;>omega))];first|exact c2|exact(aE9 _ _ _ hlt).trans c2);(first|(guard_hyp hs4:V.heap.size+1<=w4.heap.size;obtain⟨⟨z0,z1,z2,z3⟩,x0,x1,x2,x3⟩:=fZ (Fo.one_block (show Below (V.alloc (.cells (iX ⟨#[]⟩ 0 0 0) 155)).heap.size (V.alloc (.cells (iX ⟨#[]⟩ 0 0 0) 155)) w4 from⟨hb4.os,hb4.tape,hb4.output,hb4.size,hb4.block⟩)).1;have BK:V.heap.size < w4.heap.size:=aFT _ _ z0;have HZ:=Hq (Fo.one_block (show Below (V.alloc (.cells (iX ⟨#[]⟩ 0 0 0) 155)).heap.size (V.alloc (.cells (iX ⟨#[]⟩ 0 0 0) 155)) w4 from⟨hb4.os,hb4.tape,hb4.output,hb4.size,hb4.block⟩)).1)|skip);(have Ue:w.heap.size < w4.heap.size:=by omega);(have hn4:w.heap.size≠w4.heap.size:=by omega);(have hm4:w4.heap.size≠w.heap.size:=by omega);(clear hb4 hc4 hf4))
    |((go_at_call 305);(refine(HSH _ (by exact nC.trans (by exact⟨rfl,rfl,rfl,Aac,λk hk=>by first|rfl|exact aE4 _ _ _ Aaa⟩))).mono ?_);(rintro e w5 ⟨rfl,hb5⟩);(have hs5:=hb5.size);(try simp at hs5);(have gX:=Hq (nC.trans (Below.trans (b:=_) (by exact⟨rfl,rfl,rfl,Aac,λk hk=>by first|rfl|exact aE4 _ _ _ Aaa⟩) (hb5.mono (by first|omega|(simp<;>omega))))));(obtain⟨Ea,Yw⟩:=fG hb5);(have e0:w5.cell? ⟨w.heap.size,0,none⟩=some (.int .i64 dm):=by rw [Ea _ _ (by first|omega|(simp<;>omega))];first|exact d0|exact(aE9 _ _ _ Ue).trans d0);(have e1:w5.cell? ⟨w.heap.size,1,none⟩=some (.int .i64 df):=by rw [Ea _ _ (by first|omega|(simp<;>omega))];first|exact d1|exact(aE9 _ _ _ Ue).trans d1);(have e2:w5.cell? ⟨w.heap.size,2,none⟩=some (.int .i64 ds):=by rw [Ea _ _ (by first|omega|(simp<;>omega))];first|exact d2|exact(aE9 _ _ _ Ue).trans d2);(first|(guard_hyp BK:V.heap.size < w4.heap.size;have HY:=Hq ((hb5.block _ BK).trans HZ);have y0:=(Ea _ 0 BK).trans z0;have y1:=(Ea _ 1 BK).trans z1;have y2:=(Ea _ 2 BK).trans z2;have y3:=(Ea _ 3 BK).trans z3;have v0:=(Yw _ 0 BK).trans x0;have v1:=(Yw _ 1 BK).trans x1;have v2:=(Yw _ 2 BK).trans x2;have v3:=(Yw _ 3 BK).trans x3)|(guard_hyp hs5:w4.heap.size+1<=w5.heap.size;have HY:=Hq (Fo.one_block hb5).1;obtain⟨⟨y0,y1,y2,y3⟩,v0,v1,v2,v3⟩:=fZ (Fo.one_block hb5).1)|skip);(have aCv:w.heap.size < w5.heap.size:=by omega);(have hn5:w.heap.size≠w5.heap.size:=by omega);(have hm5:w5.heap.size≠w.heap.size:=by omega);(clear hb5 Ea Yw)))
  all_goals
   go_wp2_with fail
   go_meet
   case rel=>
    first
     |exact⟨_,rfl,rfl,Fo.four_below gX Aaa,Fo.four_set HY,Aaa⟩
     |exact⟨_,rfl,rfl,gX.alloc gX.size _,aEP w5 _,Aaa⟩
 case rest=>
  obtain⟨pb,rfl,rfl,hbx,hpb,hge⟩:=hcut;obtain⟨⟨p0,p1,p2,p3⟩,_⟩:=fZ hpb;have alK:=Hq (adX _ hbx);have jO:=Hq hbx;have Lr:=Hq hpb;have aCx:=Fo.lt_of_blk hpb
  have HNE:=Hq (show pb≠mp/\v.ownBlock≠some pb from⟨λe=>by
   have:=(HPM _ hbx).blk
   rw [<-e,hpb] at this
   injection this with this
   injection this with h1 h2 h3
   exact absurd h2 Aae,own_ne (HPM _ hbx).row hpb Aae⟩)
  clear hbx hpb adX Ow HSH xD c0 c1 c2 hlt;go_wp2_with fail;refine alK.mono ?_;rintro e w6 ⟨hb6,ayH,hcase⟩;have yB:=Hq (Below.trans (jO.mono hB) hb6);have akS:=(ayH pb aCx HNE.1 HNE.2).trans Lr;clear ayH hb6 p0 p1 p2 p3 alK;rcases hcase with⟨hf,rfl,Iq⟩|⟨hf,h20,rfl⟩|⟨hf,h20,rfl,v',Iq⟩
  .rw [ah xZ hf] at Iq;open ap7 in exact aw7
  .have HF:=Hq hf;have H20:=Hq h20;clear hf h20 akS;go_wp2_with fail;go_ret;exact⟨yB,.inl ⟨HF,H20,rfl⟩⟩
  .rw [ah HKN hf] at Iq;open ap6 in exact aw7):P:=h
theorem aoQ.Ad6(h:P:=by
 have hnV:w.heap.size≠V.heap.size:=Aaa
 have hmV:V.heap.size≠w.heap.size:=Aaa
 go_region_held (λw'=>w'.cell? ⟨w.heap.size,0,none⟩=some (.int .i64 dm)/\w'.cell? ⟨w.heap.size,1,none⟩=some (.int .i64 df)/\w'.cell? ⟨w.heap.size,2,none⟩=some (.int .i64 ds)) (go_keep)
  (first
   |((go_at_call 304);(refine(Ow _ (by exact xD.trans (by exact⟨rfl,rfl,rfl,Aac,λk hk=>by first|rfl|exact aE4 _ _ _ Aaa⟩))).mono ?_);(rintro e w4 ⟨rfl,hb4⟩);(have hs4:=hb4.size);(simp at hs4);(have nC:=Hq (xD.trans (Below.trans (b:=_) (by exact⟨rfl,rfl,rfl,Aac,λk hk=>by first|rfl|exact aE4 _ _ _ Aaa⟩) (hb4.mono (by first|omega|(simp<;>omega))))));(obtain⟨hc4,hf4⟩:=fG hb4);(have d0:w4.cell? ⟨w.heap.size,0,none⟩=some (.int .i64 dm):=by rw [hc4 _ _ (by first|omega|(simp<;>omega))];first|exact c0|exact(aE9 _ _ _ hlt).trans c0);(have d1:w4.cell? ⟨w.heap.size,1,none⟩=some (.int .i64 df):=by rw [hc4 _ _ (by first|omega|(simp<;>omega))];first|exact c1|exact(aE9 _ _ _ hlt).trans c1);(have d2:w4.cell? ⟨w.heap.size,2,none⟩=some (.int .i64 ds):=by rw [hc4 _ _ (by first|omega|(simp<;>omega))];first|exact c2|exact(aE9 _ _ _ hlt).trans c2);(first|(guard_hyp hs4:V.heap.size+1<=w4.heap.size;obtain⟨⟨z0,z1,z2,z3⟩,x0,x1,x2,x3⟩:=fZ (Fo.one_block (show Below (V.alloc (.cells (iX ⟨#[]⟩ 0 0 0) 155)).heap.size (V.alloc (.cells (iX ⟨#[]⟩ 0 0 0) 155)) w4 from⟨hb4.os,hb4.tape,hb4.output,hb4.size,hb4.block⟩)).1;have BK:V.heap.size < w4.heap.size:=aFT _ _ z0)|skip);(have Ue:w.heap.size < w4.heap.size:=by omega);(have hn4:w.heap.size≠w4.heap.size:=by omega);(have hm4:w4.heap.size≠w.heap.size:=by omega);(clear hb4 hc4 hf4))
   |((go_at_call 305);(refine(HSH _ (by exact nC.trans (by exact⟨rfl,rfl,rfl,Aac,λk hk=>by first|rfl|exact aE4 _ _ _ Aaa⟩))).mono ?_);(rintro e w5 ⟨ix,hix,rfl,hb5⟩);(have hs5:=hb5.size);(try simp at hs5);(have gX:=Hq (nC.trans (Below.trans (b:=_) (by exact⟨rfl,rfl,rfl,Aac,λk hk=>by first|rfl|exact aE4 _ _ _ Aaa⟩) (hb5.mono (by first|omega|(simp<;>omega))))));(obtain⟨Ea,Yw⟩:=fG hb5);(have e0:w5.cell? ⟨w.heap.size,0,none⟩=some (.int .i64 dm):=by rw [Ea _ _ (by first|omega|(simp<;>omega))];first|exact d0|exact(aE9 _ _ _ Ue).trans d0);(have e1:w5.cell? ⟨w.heap.size,1,none⟩=some (.int .i64 df):=by rw [Ea _ _ (by first|omega|(simp<;>omega))];first|exact d1|exact(aE9 _ _ _ Ue).trans d1);(have e2:w5.cell? ⟨w.heap.size,2,none⟩=some (.int .i64 ds):=by rw [Ea _ _ (by first|omega|(simp<;>omega))];first|exact d2|exact(aE9 _ _ _ Ue).trans d2);(first|(guard_hyp BK:V.heap.size < w4.heap.size;have y0:=(Ea _ 0 BK).trans z0;have y1:=(Ea _ 1 BK).trans z1;have y2:=(Ea _ 2 BK).trans z2;have y3:=(Ea _ 3 BK).trans z3;have v0:=(Yw _ 0 BK).trans x0;have v1:=(Yw _ 1 BK).trans x1;have v2:=(Yw _ 2 BK).trans x2;have v3:=(Yw _ 3 BK).trans x3)|(guard_hyp hs5:w4.heap.size+1<=w5.heap.size;obtain⟨⟨y0,y1,y2,y3⟩,v0,v1,v2,v3⟩:=fZ (Fo.one_block hb5).1)|skip);(have aCv:w.heap.size < w5.heap.size:=by omega);(have hn5:w.heap.size≠w5.heap.size:=by omega);(have hm5:w5.heap.size≠w.heap.size:=by omega);(clear hb5 Ea Yw)))
 all_goals
  go_wp2_with fail
  go_ret
  refine⟨ix,hix,rfl,?_⟩
  first|exact gX.alloc gX.size _|exact Fo.four_below gX Aaa):P:=h
theorem awT(h:P:=by
 have SE:=Hq (aj wH hbw);have HR3:=Hq (aj HR1 hbw);have ER:=Hq (aj Ij hbw);have HB3:=Hq (HB1.trans (hbw.mono HB1.size));clear hW3 hbw c0 c1 c2 c3 c4 c5 c6 c7 c8 d0 d1 d2 d3;obtain⟨c0,c1,c2,c3,c4,c5,c6,c7,c8⟩:=nine SE;obtain⟨d0,d1,d2,d3⟩:=iI HR3;obtain⟨r0,r1,r2,r3,r4,r5,r6⟩:=jS ER;have f0:=aC ER 0;have f1:=aC ER 1;have f2:=aC ER 2;have f3:=aC ER 3;have f4:=aC ER 4;have f5:=aC ER 5;have f6:=aC ER 6;go_wp2_with fail;refine iE (λW' hW'=>?_);exact AeA):P:=h
theorem aoR.AeA(h:P:=by
 have hR:=zC (b0:= .int .i64 1) (b1:= .int .i64 id) (b2:= .int .i64 st) (b3:= .int .i64 LO) (b4:= .int .i64 LO) (b5:= .string sx) (b6:= .int .i64 sn) ER;have hK:=vK (w:=W3) (g:=w.heap.size+1+1) (b0:= .int .i64 1) (b1:= .int .i64 id) (b2:= .int .i64 st) (b3:= .int .i64 LO) (b4:= .int .i64 LO) (b5:= .string sx) (b6:= .int .i64 sn);rw [<-hW'] at hR hK;obtain⟨x0,x1,x2,x3,x4,x5,x6⟩:=jS hR;refine aEY (v:= .agg (bX 1 id st LO LO sx sn)) Acz rfl ⟨rfl,HB3.trans (hK.below (λx hx=>by have:x=w.heap.size+1+1:=Aag;omega) HB3.size)⟩):P:=h
theorem aoS.AeA(h:P:=by
 have hR:=zC (b0:= .int .i64 1) (b1:= .int .i64 id) (b2:= .int .i64 st) (b3:= .int .i64 si) (b4:= .int .i64 LO) (b5:= .string sx) (b6:= .int .i64 sn) ER;have hK:=vK (w:=W3) (g:=w.heap.size+1+1) (b0:= .int .i64 1) (b1:= .int .i64 id) (b2:= .int .i64 st) (b3:= .int .i64 si) (b4:= .int .i64 LO) (b5:= .string sx) (b6:= .int .i64 sn);rw [<-hW'] at hR hK;obtain⟨x0,x1,x2,x3,x4,x5,x6⟩:=jS hR;refine aEY (v:= .agg (bX 1 id st si LO sx sn)) Acz rfl ⟨rfl,HB3.trans (hK.below (λx hx=>by have:x=w.heap.size+1+1:=Aag;omega) HB3.size)⟩):P:=h
theorem ajU(h:P:=by
 refine aE5 Aab Aab ?_;repeat (first|go_big_quiet_step (first|exact cO _ _|exact cM _ _)|quiet_step (first|exact cO _ _|exact cM _ _))
 refine aFy ?_;intro _ hw';obtain⟨⟨dq,osq⟩,hw''⟩:=hw';subst hw'';have fO:=Hq (xD.trans ((aFl _ dq osq).mono xD.size));clear cO cM y0 y1 y2 y3 y4 y5 y6;exact Ab8):P:=h
theorem aoT.Ab8(h:P:=by
 exact Kk2):P:=h
theorem aoU.Ab8(h:P:=by
 exact Kk7):P:=h
theorem aoV.Ab8(h:P:=by
 go_wp2_with fail;exact aEY (v:= .tuple #[xK ⟨1,F,T,I,L,k,N⟩,.bool true]) Aay rfl ⟨Aaw,fO⟩):P:=h
theorem awU(h:P:=by
 rw [<-hW] at e1 e2 e3 e4;have HN:=Hq e1;have HM:=Hq e2;have HR:=Hq e3;have HB0:=Hq e4;have Iw:=Hq (nA.kc (k:=9) (KC.of_below e4) Aaa);clear hW e1 e2 e3 e4 nA;obtain⟨m0,m1,m2,m3,m4,m5,m6⟩:=jS HM;have hml:=ay HM;have hnl:=ay HN;go_wp2_with fail;refine(HMO W0).mono ?_;rintro e W1 ⟨rfl,hb1⟩;have nD:=Hq (aj HN hb1);have Sz:=Hq (aj HM hb1);have BU:=Hq (aj HR hb1);have HB1:=Hq (HB0.trans (hb1.mono HB0.size));have yD:=Hq (Iw.kc (k:=9) (KC.of_below hb1) Aaa);clear hb1 HM HR HN HB0 Iw;clear m0 m1 m2 m3 m4 m5 m6 hml hnl HMO;obtain⟨m0,m1,m2,m3,m4,m5,m6⟩:=jS Sz;exact AdD):P:=h
theorem aoW.AdD(h:P:=by
 have hml:=ay Sz;have yc:=Hq (aj BU (au W1 (.cells #[] 70)));have Ob:=Hq (yD.kc (k:=9) (KC.of_below (au W1 (.cells #[] 70))) Aaa);have wm:=Hq (HB1.trans ((au W1 (.cells #[] 70)).mono HB1.size));obtain⟨c0,c1,c2,c3,c4,c5,c6,c7,c8⟩:=nine nD;obtain⟨⟨d0,d1,d2,d3,d4,d5,d6,d7,d8⟩,f0,f1,f2,f3,f4,f5,f6,f7,f8⟩:=iT yc;have hnl:=ay nD;open apm in exact awX):P:=h
theorem aoX.AdD(h:P:=by
 obtain⟨c0,c1,c2,c3,c4,c5,c6,c7,c8⟩:=nine nD;have hml:=ay Sz;have hnl:=ay nD;go_wp2_with fail;refine(R6 W1 yD.at.k).mono ?_;rintro e W2 ⟨rfl,hb2⟩;open auk in exact agS):P:=h
theorem awV(h:P:=by
 cases h1:NN fr
 case' false=>
  have cN:=ah R6 fr false W1 HKI h1
  have HV:=Hq (show bb=true by rw [<-ah eY];simp[h1])
  clear eY
  refine aE5 Aab Aab ?_
  repeat (first|go_big_quiet_step ((first|(go_at_call 92;exact cN _ _)|(go_at_call 90;exact cS _ _)))|quiet_step ((first|(go_at_call 92;exact cN _ _)|(go_at_call 90;exact cS _ _))))
  refine aFy ?_
  intro _ hw'
  obtain⟨⟨dq,osq⟩,hw''⟩:=hw'
  subst hw''
  go_wp2_with fail
  go_meet
  case rel=>exact yR
 have cN:=ah R6 fr true W1 HKI h1;exact Aer):P:=h
theorem aoY.Aer(h:P:=by
 by_cases h2:y < fr
 case' neg=>
  have hy:decide (fr<=y)=true:=aET Aaa
  have HV:=Hq (show bb=true by rw [<-ah eY];simp[h2])
  clear eY
  refine aE5 Aab Aab ?_
  repeat (first|go_big_quiet_step ((first|(go_at_call 92;exact cN _ _)|(go_at_call 90;exact cS _ _)))|quiet_step ((first|(go_at_call 92;exact cN _ _)|(go_at_call 90;exact cS _ _))))
  refine aFy ?_
  intro _ hw'
  obtain⟨⟨dq,osq⟩,hw''⟩:=hw'
  subst hw''
  go_wp2_with fail
  go_meet
  case rel=>exact yR
 have hy:decide (fr<=y)=false:=aES Aaa;open aBI in exact awI):P:=h
theorem aoZ.Aer(h:P:=by
 open aBJ in exact awI):P:=h
theorem ajV(h:P:=by
 have hr:(convert 127 9 (.slice (some ⟨g,a+4,none⟩) (s.size - (a+4)) (s.size - (a+4)))).run prog w= .ok (.string (iN (tl s a))) w:=by
  exact aBY
 have h1:(s.size:Int)<=(a:Int)+1006:=Aaa
 have h2:¬((s.size:Int) - (a:Int) < 4):=Aaa
 have h3:(a:Int)+4 < (s.size:Int):=Aaa
 have hcap2:(s.size:Int)<=(cap:Int):=Aaa
 exact AcG):P:=h
theorem ao0.AcG(h:P:=by
 rw [Db s a 0 4 Aaa] at hq;have hmn:min (s.size:Int) ((a:Int)+1006)=(s.size:Int):=Int.min_eq_left Aaa;exact axu):P:=h
theorem ao1.AcG(h:P:=by
 rw [Db s a 0 4 Aaa] at hq;have hmn:min (s.size:Int) ((a:Int)+1006)=(s.size:Int):=Int.min_eq_left Aaa;exact axq):P:=h
theorem ao2.AcG(h:P:=by
 have hmn:min (s.size:Int) ((a:Int)+1006)=(s.size:Int):=Int.min_eq_left Aaa;exact axT):P:=h
theorem aew(h:P:=by
 have HML:=Hq hml;clear hm hml;go_wp2_with (go_at_call 35;refine(EP _ _ Aaa).mono ?_;rintro e w1 ⟨rfl,hb1⟩;have HB1:=Hq hb1;have hgz:=hb1.size;obtain⟨hcc,hff⟩:=fG hb1;clear hb1)
 exact AbK):P:=h
theorem ao3.AbK(h:P:=by
 go_roundw
 case rel=>
  have hpos:0 < l.length:=Aaa
  have h0:=GR.W.toC aW Aaa HR;open awm in exact aaT
 case measure=>simp[intOf];omega):P:=h
theorem ao4.AbK(h:P:=by
 go_roundw
 case rel=>
  have hpos:0 < l.length:=Aaa
  have h0:=GR.W.toC aT Aaa HR;open awl in exact aaT
 case measure=>simp[intOf];omega):P:=h
theorem ao5.AbK(h:P:=by
 go_roundw
 case rel=>
  have hpos:0 < l.length:=Aaa
  have h0:=GR.W.toC aQ Aaa HR;open awk in exact aaT
 case measure=>simp[intOf];omega):P:=h
theorem ao6.AbK(h:P:=by
 go_roundw
 case rel=>
  have hpos:0 < l.length:=Aaa
  have h0:=GR.W.toC ku Aaa HR;open aox in exact aev
 case measure=>simp[intOf];omega):P:=h
theorem ajW(h:P:=by
 go_wp2_with fail;refine wp_region_quiet_lit Aab Aab ?_;repeat (first|go_big_quiet_step ((first|(go_at_call 121;exact ajd _ _ hx1 _ _)))|quiet_step ((first|(go_at_call 121;exact ajd _ _ hx1 _ _))))
 refine aFy ?_;intro _ hw';obtain⟨nq,hw''⟩:=hw';subst hw'';go_wp2_with fail;exact Ab0):P:=h
theorem ao7.Ab0(h:P:=by
 go_roundw
 case rel=>exact⟨j+1+1,Aaa,Aaf,HG,Ig,aZ.trans ⟨rfl,rfl,rfl,aER _,λ_ _=>rfl⟩⟩
 case measure=>simp[intOf];omega):P:=h
theorem ao8.Ab0(h:P:=by
 go_roundw
 case rel=>exact⟨0+1,Aaa,Aaf,HG,Ig,aZ.trans ⟨rfl,rfl,rfl,aER _,λ_ _=>rfl⟩⟩
 case measure=>simp[intOf];omega):P:=h
theorem ao9.Ab0(h:P:=by
 go_ret;exact⟨aF HP.symm,aZ.trans ⟨rfl,rfl,rfl,aER _,λ_ _=>rfl⟩⟩):P:=h
theorem awW(h:P:=by
 go_wp2_with fail;refine kR results129 rfl rfl rfl wu (λW' e4 fC=>?_);have HAT:=Hq (λW'' (ho:Out c w W' W'')=>(yD.kc (k:=9) ((KC.keeps fC (λx hx=>by have:x=w.heap.size+1:=Aag;rw [this];exact aY Aaa)).trans (KC.out H9 ho)) Aaa).rm);have rG:Hid (Below B w W'):=(HB1.mono hB).trans (fC.below (λx hx=>by have:x=w.heap.size+1:=Aag;omega) (aEU hB (HB1.mono hB).size));have xZ:=Hq (Apart.keeps (c:=c) (Apart.of_below (HB1)) (HB1.mono hB).size fC (λx hx=>by have:x=w.heap.size+1:=Aag;omega));clear e4 fC;exact Adr):P:=h
theorem apa.Adr(h:P:=by
 exact⟨(⟨a_k,rU,jm,jc,(some ⟨g,off,none⟩),dH,fQ,eu,dJ,dR⟩:bq),rfl,HAT,rG,xZ⟩):P:=h
theorem apb.Adr(h:P:=by
 exact⟨A,rfl,HAT,rG,xZ⟩):P:=h
theorem ajX(h:P:=by
 have hr:(convert 127 9 (.slice (some ⟨g,a+4,none⟩) 1002 1002)).run prog w= .ok (.string (iN (tl s a))) w:=by
  exact axo
 have h1:¬((s.size:Int)<=(a:Int)+1006):=Aaa
 have h3:(a:Int)+1006 < (s.size:Int):=Aaa
 have h31:¬((a:Int)+1006 - (a:Int) < 4):=Aaa
 have hcap2:(s.size:Int)<=(cap:Int):=Aaa
 exact AbY):P:=h
theorem apc.AbY(h:P:=by
 rw [Db s a 0 4 Aaa] at hq;have hmn:min (s.size:Int) ((a:Int)+1006)=(a:Int)+1006:=Int.min_eq_right Aaa;exact axu):P:=h
theorem apd.AbY(h:P:=by
 rw [Db s a 0 4 Aaa] at hq;have hmn:min (s.size:Int) ((a:Int)+1006)=(a:Int)+1006:=Int.min_eq_right Aaa;exact axq):P:=h
theorem ape.AbY(h:P:=by
 have hmn:min (s.size:Int) ((a:Int)+1006)=(a:Int)+1006:=Int.min_eq_right Aaa;exact axT):P:=h
theorem XR(h:P:=by
 have hkk:=hks l[k] (aE8 hlt);have HT:=Hq (aE0 hlt);generalize l[k]=pu at *;exact Aa2):P:=h
theorem apf.Aa2(h:P:=by
 have wJ:=Hq (λw1=>afO pu z w1 hz0 hz1 hkk);obtain⟨pk,pm,pf,ps⟩:=pu;exact aj5):P:=h
theorem apg.Aa2(h:P:=by
 have wJ:=Hq (λw1=>alm pu z w1 hz0 hz1 hkk);obtain⟨pi,pt,pk,pn⟩:=pu;exact aj5):P:=h
theorem aph.Aa2(h:P:=by
 have wJ:=Hq (λw1=>azQ pu z w1 hz0 hz1 hkk);obtain⟨pno,pk,pn,ps⟩:=pu;exact aj5):P:=h
theorem apj.Aa2(h:P:=by
 have wJ:=Hq (λw1=>alk pu b c z w1 hz0 hz1 hkk);obtain⟨fr,lo,ids⟩:=pu;dsimp only at q0 q1 q2 hkk;unfold maxLen at hkk;go_wp2_with fail;refine(wJ _).mono ?_;rintro e w5 ⟨rfl,hb5⟩;have fO:=Hq (aZ.trans (hb5.mono aZ.size));clear hb5 q0 q1 q2;dsimp only;by_cases hc:(ids.length:Int)<=z
 .rw [aFc hc];have hn2:decide (z - (ids.length:Int) < 0)=false:=aES Aaa;go_wp2_with fail;go_roundw
  case rel=>
   refine⟨k+1,z - ids.length,Aaa,Aaf,rfl,Aaa,Aaa,?_,fO⟩;intro p hp;rw [ah HT] at hp;rcases aFb.1 hp with h|h
   .exact jA p h
   .rw [aE6] at h;subst h;show ids.length<=1048576
    omega
  case measure=>simp[intOf];omega
 .rw [aE2 hc];go_wp2_with fail;go_ret;exact⟨-1,rfl,fO,.inl rfl⟩):P:=h
theorem apk.Aa2(h:P:=by
 have wJ:=Hq (fun(w1:World)=>ZJ pu z w1 hz0 Aaa hkk);obtain⟨⟨oK,Qx,ok,on,⟨mK,mF,mT,mI,mL,mk,mN⟩⟩,ac⟩:=pu;dsimp only at q0 q1 q2 q3 q4 q5 q6 q7 q8 q9 q10 q11 wJ;clear hkk;go_wp2_with fail;refine(wJ wr).mono ?_;rintro e w5 ⟨r,rfl,hcase,hb5⟩;have fO:=Hq (aZ.trans (hb5.mono aZ.size));clear hb5 q0 q1 q2 q3 q4 q5 q6 q7 q8 q9 q10 q11;exact axR):P:=h
theorem apl.Aa2(h:P:=by
 have wJ:=Hq (fun(w1:World)=>ali pu z w1 hz0 Aaa hkk);obtain⟨mK,mF,mT,mI,mL,mk,mN⟩:=pu;dsimp only at q0 q1 q2 q3 q4 q5 q6 wJ;clear hkk;go_wp2_with fail;refine(wJ wr).mono ?_;rintro e w5 ⟨r,rfl,hcase,hb5⟩;have fO:=Hq (aZ.trans (hb5.mono aZ.size));clear hb5 q0 q1 q2 q3 q4 q5 q6;exact axR):P:=h
theorem awX(h:P:=by
 have hrl:=ay yc;go_wp2_with fail;refine eP results131 rfl rfl rfl rfl yc (λW' e4 fC=>?_);have HAT:=Hq (λW'' (ho:Out c w W' W'')=>(Ob.kc (k:=9) ((KC.keeps fC (λx hx=>by have:x=w.heap.size+2:=Aag;rw [this];exact aY Aaa)).trans (KC.out H9 ho)) Aaa).rm);have rG:Hid (Below B w W'):=(wm.mono hB).trans (fC.below (λx hx=>by have:x=w.heap.size+2:=Aag;omega) (aEU hB (wm.mono hB).size));have xZ:=Hq (Apart.keeps (c:=c) (Apart.of_below wm) (wm.mono hB).size fC (λx hx=>by have:x=w.heap.size+2:=Aag;omega));clear e4 fC;exact Adj):P:=h
theorem apm.Adj(h:P:=by
 exact⟨A,some ⟨W1.heap.size,0,none⟩,0,rfl,HAT,λW'' _ i hi=>Aau,rG,xZ⟩):P:=h
theorem apn.Adj(h:P:=by
 exact⟨A,some ⟨W2.heap.size,0,none⟩,0,rfl,HAT,λW'' _ i hi=>Aau,rG,xZ⟩):P:=h
theorem aaY(h:P:=by
 have hk2:k < m.length:=(ah HN)▸hlt;have HE:=Hq (λe=>nV HN hlt HT e);have HD:=Hq (λe=>Ku hlt hk2 e);exact Aa5):P:=h
theorem apo.Aa5(h:P:=by
 obtain⟨g1,o1,rfl,hg1,s0,s1,s2,s3⟩:=gB.four (GR.At.below HA aZ) k hlt;obtain⟨g2,o2,rfl,hg2,t0,t1,t2,t3⟩:=gB.four (GR.At.below HB aZ) k hk2;open aub in exact agP):P:=h
theorem apq.Aa5(h:P:=by
 obtain⟨g1,o1,rfl,hg1,s0,s1,s2,s3⟩:=SentAt.four (GR.At.below HA aZ) k hlt;obtain⟨g2,o2,rfl,hg2,t0,t1,t2,t3⟩:=SentAt.four (GR.At.below HB aZ) k hk2;open aua in exact agP):P:=h
theorem apr.Aa5(h:P:=by
 obtain⟨g1,o1,rfl,hg1,s0,s1,s2,s3⟩:=aG.four (GR.At.below HA aZ) k hlt;obtain⟨g2,o2,rfl,hg2,t0,t1,t2,t3⟩:=aG.four (GR.At.below HB aZ) k hk2;generalize l[k]=x at *;generalize m[k]=y at *;obtain⟨x0,x1,x2,x3⟩:=x;obtain⟨y0,y1,y2,y3⟩:=y;dsimp only at s0 s1 s2 s3 t0 t1 t2 t3;clear hk2;by_cases hx:x0=y0
 case' neg=>
  have hq:(x0.toList == y0.toList)=false:=C9 hx;have hr:¬x0.toList=y0.toList:=Abh
  exact akg
 subst hx;by_cases hx:x1=y1
 case' neg=>
  have hq:(x1 == y1)=false:=Aag
  exact abh
 exact ait):P:=h
theorem aps.Aa5(h:P:=by
 obtain⟨g1,o1,rfl,hg1,s0⟩:=bH.one (GR.At.below HA aZ) k hlt;obtain⟨g2,o2,rfl,hg2,t0⟩:=bH.one (GR.At.below HB aZ) k hk2;generalize l[k]=x at *;generalize m[k]=y at *;clear hk2;by_cases hxy:x=y
 case' neg=>
  have hq:(x != y)=true:=by simpa using hxy
  have HP:=Hq (HD hxy);clear HD HE hxy;go_upto_region 6 with fail;go_quiet (fail);go_wp2_with fail;go_ret;exact .no HP (fI _ aZ)
 subst hxy;have HT2:=Hq (HE rfl);clear HE HD;go_upto_region 6 with fail;go_quiet (fail);go_wp2_with fail;go_roundw
 case rel=>exact⟨k+1,Aaa,Aaf,fI _ aZ,HT2⟩
 case measure=>simp[intOf];omega):P:=h
theorem apt.Aa5(h:P:=by
 obtain⟨g1,o1,b1,c1,rfl,hg1,s0,s1,s2,i1⟩:=HA.below aZ k hlt;obtain⟨g2,o2,b2,c2,rfl,hg2,t0,t1,t2,i2⟩:=HB.below aZ k hk2;have hil:=ah HI l[k] (aE8 hlt);generalize l[k]=x at *;generalize m[k]=y at *;have HC:=Hq (λW (h:aH wr W)=>adq x y b1 b2 c1 c2 W hil (i1.below h) (i2.below h));clear i1 i2 hil hk2;have hbz:=Hq (Ae wr (.cells #[.int .i64 x.f,.int .i64 x.l,.slice b1 x.ids.length c1] 130) (.cells #[.int .i64 y.f,.int .i64 y.l,.slice b2 y.ids.length c2] 130));go_wp2_with fail;refine(HC _ hbz).mono ?_;rintro e w1 ⟨⟨r,rfl,hr⟩,hb1⟩;have zL:=Hq (aZ.trans ((Below.trans hbz (hb1.mono hbz.size)).mono aZ.size));clear hb1 hbz HC aZ;cases r
 .have HP:=Hq (HD (λe=>by have:=hr.2 e;cases this));clear hr HE HD;go_wp2_with fail;go_ret;exact .no HP zL
 .have HT2:=Hq (HE (hr.1 rfl));clear hr HE HD;go_wp2_with fail;go_roundw
  case rel=>exact⟨k+1,Aaa,Aaf,zL,HT2⟩
  case measure=>simp[intOf];omega):P:=h
theorem awY(h:P:=by
 go_wp2_with fail;refine(jP X A1 HPR.1 BR.at.p).mono ?_;rintro e W5 ⟨v,rfl,_,hown,hb5⟩;obtain⟨pa,pc,rfl,_⟩:=GR.own_at (enc:=fA) aQ hown;have ou:=Hq (aj iJ hb5);have rH:=Hq (aj wu hb5);have yB:=Hq (jO.trans (hb5.mono jO.size));have Xz:=Hq (BR.kc (k:=9) (KC.of_below hb5) Aaa);have JR:=Hq hown;have hxr:=ay wu;clear hown hb5 c0 c1 c2 c3 c4 c5 c6 c7 c8 p0 p1 p2 p3 p4 p5 p6 p7 p8 p9 pz hnl hol jP iJ HOX wu BR HPR jO;obtain⟨c0,c1,c2,c3,c4,c5,c6,c7,c8⟩:=nine ou;have hnl:=ay ou;exact AcU):P:=h
theorem apu.AcU(h:P:=by
 have f4:=aC ou 4;go_upto_region 11 with fail;refine wp_at (λY hY=>?_)
 have hky:aA [w.heap.size] W5 Y:=by
  rw [hY];exact aA.set _
 have sJ:Hid (Y.heap[w.heap.size]?=some (.cells (wC n.id n.par A1.k n.kids.length A1.ck n.next pa RL.length pc A1.o n.out.length A1.co A1.s n.seen.length A1.cs n.old A1.r n.reqs.length A1.cr) 39 (0,0))):=by
  rw [hY];exact aP ou 4 (.slice pa RL.length pc)
 have wI:=Hq (hky.obj rH Aac);have Ie:=Hq (yB.trans (hky.below (B:=w.heap.size) (λx hx=>by have:x=w.heap.size:=Aag;omega) yB.size));have aAg:=Hq (Xz.kc (k:=9) (KC.keeps hky (λx hx=>by have:x=w.heap.size:=Aag;rw [this];exact N8)) Aaa);have aAk:=Hq (dM JR hky (λx hx=>by have:x=w.heap.size:=Aag;omega));clear hY hky f4 c0 c1 c2 c3 c4 c5 c6 c7 c8 hnl ou rH yB Xz JR;obtain⟨c0,c1,c2,c3,c4,c5,c6,c7,c8⟩:=nine sJ;have hnl:=ay sJ;obtain⟨⟨d0,d1,d2,d3,d4,d5,d6,d7,d8⟩,f0,f1,f2,f3,f4,f5,f6,f7,f8⟩:=iT wI;have hrl:=ay wI;go_wp2_with fail;refine eP (u1:= .slice (some ⟨w.heap.size+1+1+1,0,none⟩) 0 0) (u2:= .int .i64 0) results99 rfl rfl rfl rfl wI (λW' e4 fC=>?_)
 have HAT:=Hq (λW'' (ho:yA w W' W'')=>(show RM W'' ⟨A1.k,pa,A1.o,A1.s,A1.r,A1.ck,pc,A1.co,A1.cs,A1.cr⟩ (setPu n RL) from(by
  have h:=((aAg.kc (k:=9) (KC.keeps fC (λx hx=>by have:x=w.heap.size+2:=Aag;rw [this];exact Df)) Aaa).kc (k:=9) (ho.kc (λx hx=>HC9 x Aaa)) Aaa)
  obtain⟨F,hk2,hF⟩:=ho
  have hpo:=(dM (dM aAk fC (λx hx=>by have:x=w.heap.size+2:=Aag;omega)) hk2 (λx hx=>by have:=hF x hx;omega))
  have hp9:∀g',pa.map (λy=>y.block)=some g'->6 < newC X.heap.size 9 c g':=λg' hg'=>by
   have h1:=vD hpo (tL hpo hg')
   rw [aY Aaa]
   omega
  exact NQ.put h HCQ (setPu n RL) ⟨A1.k,pa,A1.o,A1.s,A1.r,A1.ck,pc,A1.co,A1.cs,A1.cr⟩ rfl rfl rfl rfl (GR.own_ati aQ hpo) (λg' hg' _=> .inr (hp9 g' hg')) h.o (λy hy=> .inl (HCQ.co y hy)) h.r (λy hy=> .inl (HCQ.cr y hy))
   (λg' hg' _ h6=>⟨λe=>by have:=HCQ.co g' e;omega,λe=>by have:=HCQ.cr g' e;omega⟩) (λy hy h6 e=>by have:=HCQ.co y hy;omega))))
 have rG:Hid (aH w W'):=Ie.trans (fC.below (λx hx=>by have:x=w.heap.size+2:=Aag;omega) Ie.size);clear e4 fC;exact⟨⟨A1.k,pa,A1.o,A1.s,A1.r,A1.ck,pc,A1.co,A1.cs,A1.cr⟩,some ⟨w.heap.size+1+1+1,0,none⟩,0,rfl,HAT,λW'' _ i hi=>Aau,rG⟩):P:=h
theorem apv.AcU(h:P:=by
 go_upto_region 9 with fail;obtain⟨⟨d0,d1,d2,d3,d4,d5,d6,d7,d8⟩,f0,f1,f2,f3,f4,f5,f6,f7,f8⟩:=iT rH;have hrl:=ay rH;go_wp2_with fail;refine eP (u1:= .slice (some ⟨w.heap.size+1+1+1,0,none⟩) 0 0) (u2:= .int .i64 1) results99 rfl rfl rfl rfl rH (λW' e4 fC=>?_);have HAT:=Hq (λW'' (ho:yA w W' W'')=>((Xz.kc (k:=9) (KC.keeps fC (λx hx=>by have:x=w.heap.size+2:=Aag;rw [this];exact Df)) Aaa).kc (k:=9) (ho.kc (λx hx=>HC9 x Aaa)) Aaa).rm);have rG:Hid (aH w W'):=yB.trans (fC.below (λx hx=>by have:x=w.heap.size+2:=Aag;omega) yB.size);clear e4 fC;exact⟨A1,some ⟨w.heap.size+1+1+1,0,none⟩,0,rfl,HAT,λW'' _ i hi=>Aau,rG⟩):P:=h
theorem SY(h:P:=by
 refine aFi Aad (λK hK=>?_);go_simp;refine hK _ _ ?_;clear hK K;exact AaU):P:=h
theorem apw.AaU(h:P:=by
 refine aGj rfl 88 (.tmp 4) rfl w.heap.size 0 rfl (opl x.o) _ (Il.rng 0 _ rfl) underlying88 rfl Aab ?_;go_wp2_with fail;refine(HT _).mono ?_;rintro e x1 ⟨rfl,hb⟩;have zJ:=Hq (Il.step hb (λ_=>True) (λ_ _=>trivial));clear hb Il HT;rename_i qC
 refine qC _ _ ?_;clear qC;open aoo in exact XM):P:=h
theorem apx.AaU(h:P:=by
 refine aGj rfl 39 (.tmp 5) rfl w.heap.size 0 rfl (dD k.base A.b).toList _ hr0 underlying39 rfl Aab ?_;go_wp2_with fail;refine(HM1 W0 HB0).mono ?_;rintro e W1 ⟨rfl,hk⟩;have yO:=Hq (aj Oz hk);have HB1:=Hq (HB0.trans (hk.mono HB0.size));clear hk hr0 Oz HB0 HM1;obtain⟨_,hr1⟩:=oI yO;go_upto_region 4 with fail;refine aFm ?_;show wpList _ _ _ [_,_,_,_,_] _ _
 open aop in exact XM):P:=h
theorem apy.AaU(h:P:=by
 refine aGj rfl 39 (.tmp 5) rfl w.heap.size 0 rfl (dD k.base A.b).toList _ hr0 underlying39 rfl Aab ?_;go_wp2_with fail;refine(HM1 W0 HB0).mono ?_;rintro e W1 ⟨rfl,hm,hk⟩;have HB1:=Hq hm;have yD:=Hq (gZ.keeps Iw hk (λx hx hx2=>HD.1 x hx2 hx));have HW1:=Hq (HW0.keeps hk (λx hx hx2=>(HD.2 x (aFp _ hx)).1 hx2));have HA1:=Hq (HA0.keeps hk (λx hx hx2=>(HD.2 x (aFz _ hx)).1 hx2));have yO:=Hq (hk.obj Oz (λhx=>HNE _ Aai rfl));have vW:=Hq (pY.trans (hk.mono (λx hx=>Aai)));clear hm hk hr0 HB0 Iw HW0 HA0 Oz pY HM1;obtain⟨_,hr1⟩:=oI yO;go_upto_region 2 with fail;refine aFm ?_;show wpList _ _ _ [_,_,_,_,_] _ _
 open aoq in exact XM):P:=h
theorem apz.AaU(h:P:=by
 open aor in exact XM):P:=h
theorem apA.AaU(h:P:=by
 refine aGj rfl 39 (.tmp 18) rfl p 9 rfl (dD k.node A.n).toList _ hr1 underlying39 rfl Aab ?_;clear hr1;go_wp2_with fail;refine(BP w3 vQ.b).mono ?_;rintro e w4 ⟨B,G,cc,rfl,hN,hy,hxx⟩;obtain⟨G2,q,S2,hcc⟩:=hN.full;have hg3:s1 < w3.heap.size:=ay vQ.ho;have hd:=vQ.d;have HN4:=Hq (show∀z,aA [s1,r] w4 z->cK z B k.node from λz hk=>(q.keeps hk (λu hu hm=>by have:=S2.rng u hu;simp at hm;omega)).at);have Sc:=Hq (vQ.step hy);clear hN q S2 hy hxx hcc BP vQ hg3;rename_i qC
 refine qC _ _ ?_;clear qC;open aos in exact XM):P:=h
theorem apB.AaU(h:P:=by
 refine aGj rfl 28 (.tmp 8) rfl w.heap.size 9 rfl (dD k.node A.n).toList _ (zJ.rng 9 _ rfl) underlying28 rfl Aab ?_;go_wp2_with fail;refine(H2 _ zJ.b).mono ?_;rintro e x ⟨A2,rfl,G2,hN,hS,hb⟩;have hs0:=zJ.s;have hs1:=(zJ.m _ (aA.refl _ _)).2.2;have Ls:=Hq (zJ.step hb (λW'=>gZ W' A2 G2 k.node/\x.heap.size<=W'.heap.size) (λW' hk=>⟨hN.keeps hk (λy hy hm=>by have:=hS.rng y hy;simp at hm;omega),hk.size⟩));have HR2:=Hq (show(∀y∈G2.all k.node,s1<=y/\y < x.heap.size)/\w.heap.size<=s1/\s1<=x.heap.size from⟨λy hy=>by have:=hS.rng y hy;omega,HR1.2,by have:=hb.size;omega⟩);have HD2:=Hq hS.nodup;clear hN hS hb hs0 hs1 zJ H2;generalize hs2:x.heap.size=s2 at *;clear hs2;rename_i qC
 refine qC _ _ ?_;clear qC;open aot in exact XM):P:=h
theorem apC.AaU(h:P:=by
 exact AaZ):P:=h
theorem Te(h:P:=by
 obtain⟨k,m,hk,rfl,rfl,hm,hR,hkp⟩:=hrel;have HM:=Hq hm;have HR:=Hq hR;have HK:=Hq hkp;clear hR hkp;exact AaS):P:=h
theorem apD.AaS(h:P:=by
 by_cases hlt:k < l.length
 .have hml:=fD mkInt 1 s l k hk;have hk':k < (jW mkInt 1 s l k).length:=Abr
  have hm0:0 < m:=Aaa
  have hm1:(m:Int)<=92233720368547758:=Aaa
  obtain⟨e0,hg0,s0,f0⟩:=GR.W.one HR k hk';subst e0;have HML:=Hq hml;clear hm hml;go_wp2_with fail;go_roundw
  case rel=>
   have hpos:0 < l.length:=Aaa
   have h5:=GR.W.set aX HR k (mkInt m) Abq;have hmk:mkInt m=mkInt (s+1*k):=Abf
   rw [hmk,xO mkInt 1 s l k hlt,<-hmk,Nat.mul_one] at h5;exact⟨k+1,m+1,Aaa,Aaf,Aaf,by have:=ah HM;omega,h5,HK.trans (dG (aA.set _) hpos)⟩
  case measure=>simp[intOf];omega
 .exact XU):P:=h
theorem apE.AaS(h:P:=by
 by_cases hlt:k < l.length
 .have hml:=fD jV 4 s l k hk;have hk':k < (jW jV 4 s l k).length:=Abr
  have hm0:0 < m:=Aaa
  have hm1:(m:Int)<=92233720368547758:=Aaa
  obtain⟨e0,hg0,⟨s0,s1,s2,s3⟩,f0,f1,f2,f3⟩:=GR.W.fourReq HR k hk';subst e0;have EP:=Hq (λz w1 (hz:z=((m+1:Nat):Int))=>kV (m+1) z w1 hz Aaa Aaa);open ao3 in exact aew
 .exact XU):P:=h
theorem apF.AaS(h:P:=by
 by_cases hlt:k < l.length
 .have hml:=fD iF 4 s l k hk;have hk':k < (jW iF 4 s l k).length:=Abr
  have hm0:0 < m:=Aaa
  have hm1:(m:Int)<=92233720368547758:=Aaa
  obtain⟨e0,hg0,⟨s0,s1,s2,s3⟩,f0,f1,f2,f3⟩:=GR.W.fourSent HR k hk';open avc in exact VZ
 .exact XU):P:=h
theorem apG.AaS(h:P:=by
 by_cases hlt:k < l.length
 .have hml:=fD gF 4 s l k hk;have hk':k < (jW gF 4 s l k).length:=Abr
  have hm0:0 < m:=Aaa
  have hm1:(m:Int)<=92233720368547758:=Aaa
  obtain⟨e0,hg0,⟨s0,s1,s2,s3⟩,f0,f1,f2,f3⟩:=GR.W.fourPurse HR k hk';subst e0;have EP:=Hq (λz w1 (hz:z=((m+0:Nat):Int))=>kV (m+0) z w1 hz Aaa Aaa);open ao5 in exact aew
 .exact XU):P:=h
theorem apH.AaS(h:P:=by
 by_cases hlt:k < l.length
 .open asx in exact agv
 .open amL in exact uI):P:=h
theorem apI.AaS(h:P:=by
 by_cases hlt:k < l.length
 .have hml:=fD jo 12 s l k hk;have hk':k < (jW jo 12 s l k).length:=Abr
  have hm0:0 < m:=Aaa
  have hm1:(m:Int)<=92233720368547758:=Aaa
  have hpos:0 < l.length:=Aaa
  have hfl:(GR.flat eU (jW jo 12 s l k)).length=l.length*12:=by rw [GR.flat_length eU 12 aR,hml]
  have HL9:=Hq (show k*12+9 < (GR.flat eU (jW jo 12 s l k)).length by omega);have az8:=Hq (show k*12+10 < (GR.flat eU (jW jo 12 s l k)).length by omega);have az9:=Hq (show k*12+11 < (GR.flat eU (jW jo 12 s l k)).length by omega);obtain⟨e0,hg0,⟨s0,s1,s2,s3,s4,s5,s6,s7,s8,s9,s10,s11⟩,f0,f1,f2,f3,f4,f5,f6,f7,f8,f9,f10,f11⟩:=GR.W.twelveA HR k hk';open avb in exact VZ
 .exact XU):P:=h
theorem apJ.AaS(h:P:=by
 by_cases hlt:k < l.length
 .have hml:=fD mkMsg 7 s l k hk;have hk':k < (jW mkMsg 7 s l k).length:=Abr
  have hm0:0 < m:=Aaa
  have hm1:(m:Int)<=92233720368547758:=Aaa
  obtain⟨e0,hg0,⟨s0,s1,s2,s3,s4,s5,s6⟩,f0,f1,f2,f3,f4,f5,f6⟩:=GR.W.sevenM HR k hk';subst e0;have EP:=Hq (λz w1 (hz:z=((m+5:Nat):Int))=>kV (m+5) z w1 hz Aaa Aaa);open ao6 in exact aew
 .exact XU):P:=h
theorem awZ(h:P:=by
 go_in
 go_wp2_with fail;refine HOF.mono ?_;rintro e w1 ⟨mp,mb,v,rfl,Iq,hb1⟩;obtain⟨hblk,hlt1,hbw⟩:=Fo.one_block hb1;have HB1:=Hq hbw;have c0:w1.cell? ⟨w.heap.size,0,none⟩=some (.int .i64 dm):=by rw [aE1 w1 _ _ _ _ (0,0) hblk];rfl
 have c1:w1.cell? ⟨w.heap.size,1,none⟩=some (.int .i64 df):=by rw [aE1 w1 _ _ _ _ (0,0) hblk];rfl
 have c2:w1.cell? ⟨w.heap.size,2,none⟩=some (.int .i64 ds):=by rw [aE1 w1 _ _ _ _ (0,0) hblk];rfl
 exact AdR):P:=h
theorem apK.AdR(h:P:=by
 have HMX:=Hq (HMV _ mp mb _ v w1 hb1.size Aaj Iq (HE.below hbw));clear hb1 Iq HOF hblk hbw HMV;go_wp2_with (first|(go_at_call 190;refine(HK _).mono ?_;rintro e w2 ⟨rfl,rfl⟩)|(go_at_call 170;refine(Ll _).mono ?_;rintro e w2 ⟨rfl,rfl⟩))
 refine HMX.mono ?_;rintro e w3 ⟨hb3,hcase⟩;have HB3:=Hq (HB1.trans (Below.mono hb3 Aac));clear hb3 HMX;rcases hcase with⟨hf,h20,rfl⟩|⟨hf,rfl,v',ayC⟩
 .have HAD:=Hq (aaf hf h20);clear hf h20 aaf aal;go_wp2_with fail;go_ret2
  exact⟨HB3,.inl ⟨HAD,_,Aaa,rfl⟩⟩
 .obtain⟨hadd,hlen⟩:=ah aal hf;have adX:=Hq hadd;have zI:=Hq (ach _ mp mb _ v' PL G2 w3 hlen IE Sb ayC);clear hf aaf aal hadd ayC;go_wp2_with fail;refine zI.mono ?_;rintro e w4 ⟨rfl,ai7,hb4⟩;have nC:=Hq (HB3.trans (hb4.mono HB3.size));have HK4:=Hq ai7;clear hb4 ai7;go_wp2_with fail;go_ret2
  rw [ah adX];exact⟨nC,.inr ⟨rfl,_,HB3.size,rfl,HK4⟩⟩):P:=h
theorem apL.AdR(h:P:=by
 have HMX:=Hq (HMV _ mp mb _ v w1 Iq (HE.below hbw));clear hb1 Iq HOF hblk hbw HMV;go_wp2_with (first|(go_at_call 190;refine(HK _).mono ?_;rintro e w2 ⟨rfl,rfl⟩)|(go_at_call 170;refine(Ll _).mono ?_;rintro e w2 ⟨rfl,rfl⟩)|(go_at_call 293;refine HMX.mono ?_;rintro e w3 ⟨i,hi,rfl,hb3⟩))
 go_ret2
 exact⟨HB1.trans (hb3.mono HB1.size),.inl ⟨HAD,i,hi,rfl⟩⟩):P:=h
theorem aw0(h:P:=by
 open auo in exact agT):P:=h
theorem apM.Aem(h:P:=by
 have r1:=aEQ q1;have r2:=aEQ q2;have r3:=aEQ q3;have e4:=aEQ d4;refine bC 23 Aab ?_;show fV _ _ _ _ _ 25 (Array.replicate 25 false) _ _
 refine tk [0,1,2,3,4,5,6,7,8,9,10,11,12,13,14,15,16,17,18,19] ?_;iterate 20 (refine lW (λK hK=>?_);go_simp;refine hK _ ?_;clear hK K)
 refine jh ?_;clear r1 r2 r3 e4;refine dP 20 rfl Aab Aad (λx hx=>?_);go_simp;have HX:=Hq (HZ1.step hx);refine(HUN x HX).mono ?_;rintro e y ⟨a,cp,g5,hg5,rfl,hp,hby⟩;refine⟨hby,?_⟩;have HST:=Hq (λu (hu:Ge y u)=>afI (cp:=cp) HX (hby.trans (hu.mono hby.size)) hg5 (hp.below hu));clear hby hg5 hp HUN hx;refine tk [21,22] ?_;open arI in exact zZ):P:=h
theorem apN.Aem(h:P:=by
 have r3:=aEQ q3;refine bZ Aab ?_;show iZ _ _ _ _ 25 (Array.replicate 25 false) _ _
 refine tk [0,1,2,3,4,5,6,7,8,9,10,11,12,13,14,15,16,17,18,19,20,21,22,23,24] ?_;iterate 25 (refine lW (λK hK=>?_);go_simp;refine hK _ ?_;clear hK K)
 refine jh ?_;refine dW Aab (λx hx=>?_);have HX:=Hq (HZ1.step hx);have x3:=(fG hx).1 g (i*4+3) hgl;clear hx r3;go_simp;go_wp2_with fail;go_ret;exact⟨rfl,A,G,c,HX⟩):P:=h
theorem aw1(h:P:=by
 rw [<-hW] at e1 e2 e3;have HN:=Hq e1;have HR:=Hq e2;have HB0:=Hq e3;have Iw:=Hq (nA.kc (k:=9) (KC.of_below e3) Aaa);clear hW e1 e2 e3 nA hbw0;obtain⟨c0,c1,c2,c3,c4,c5,c6,c7,c8⟩:=nine HN;have hnl:=ay HN;go_wp2_with fail;refine(JR W0 Iw.at.p).mono ?_;open avV in exact ahk):P:=h
theorem apO.AdM(h:P:=by
 have HI:=Hq (And.intro hi (And.intro hz0 (And.intro hz1 hz2)));clear hi hz0 hz1 hz2;obtain⟨c0,c1,c2,c3,c4,c5,c6,c7,c8⟩:=nine nD;have hnl:=ay nD;have hrl:=ay wu;open ap0 in exact aw5):P:=h
theorem apP.AdM(h:P:=by
 have yc:=Hq (aj wu (au W1 (.cells #[] 70)));obtain⟨c0,c1,c2,c3,c4,c5,c6,c7,c8⟩:=nine nD;obtain⟨⟨d0,d1,d2,d3,d4,d5,d6,d7,d8⟩,f0,f1,f2,f3,f4,f5,f6,f7,f8⟩:=iT yc;have hnl:=ay nD;have hrl:=ay yc;open apZ in exact aw5):P:=h
theorem aw2(h:P:=by
 have hat:oL l k=(iG l[k]&&(k == 0|| !sle l[k].k (l.getD (k - 1) default).k)):=by unfold oL;rw [getD_at l k hlt]
 exact AdN):P:=h
theorem apQ.AdN(h:P:=by
 cases k with
 |zero=>
  open asa in exact agp
 |succ j=>
  obtain⟨g,off,rfl,hgw,c0,c1,c2,c3⟩:=aG.four (GR.At.below HA aZ) (j+1) hlt;obtain⟨g',off',e',_,d0,_,_,_⟩:=aG.four (GR.At.below HA aZ) j Aaa;have eg:g=g'/\off=off':=by injection e' with e';injection e' with e1 e2;exact⟨e1,e2⟩
  obtain⟨rfl,rfl⟩:=eg;have hgd:l.getD j default=l[j]:=getD_at l j Aaa;rw [show j+1 - 1=j from rfl,hgd] at hat;have hgt:decide ((0:Int) < ((j:Int)+1))=true:=aET Aaa;clear e' hgd;generalize l[j].k=q at *;have oz:=Hq hat;have iJ:=Hq (qO (oL l) (j+1));clear hat;generalize l[j+1]=pu at *;obtain⟨pk,pm,pf,ps⟩:=pu;dsimp only at c0 c1 c2 c3 hks;cases hkb:keyOk pk.data.toList
  .have HB:=Hq hkb;have HBAD:=Hq (oN hlt (show oL l (j+1)=false by rw [ah oz];simp[iG,ah HB]));clear oz iJ;have hkb':=ah HB;exact Zk0
  have hkb':=hkb;cases hbl:Op.bytesLess pk.toList q.toList
  case' true=>
   have hsl:sle pk q=true:=by unfold sle;rw [hbl];rfl
   cases heq:pk.toList == q.toList
   .exact aa1
   .exact aa1
  cases heq:pk.toList == q.toList
  case' true=>
   have hsl:sle pk q=true:=by unfold sle;rw [hbl,heq];rfl
   exact aa1
  have hsl:Hid (sle pk q=false):=by unfold sle;rw [hbl,heq];rfl
  by_cases h1:0<=pm/\pm<=1000000000
  case' neg=>
   have hA:rM pm=false:=aES h1;have g1:decide (yQ pm 0 1000000000)=false:=aES h1;exact aeE
  have g1:decide (yQ pm 0 1000000000)=true:=aET h1;have hA1:rM pm=true:=aET h1;by_cases h2:0<=pf/\pf<=1000000000
  case' neg=>
   have hA:rM pf=false:=aES h2;have g2:decide (yQ pf 0 1000000000)=false:=aES h2;exact aeE
  have g2:decide (yQ pf 0 1000000000)=true:=aET h2;have hA2:rM pf=true:=aET h2;by_cases h3:0<=ps/\ps<=1000000000
  case' neg=>
   have hA:rM ps=false:=aES h3;have g3:decide (yQ ps 0 1000000000)=false:=aES h3;exact aeE
  open av3 in exact ahm):P:=h
theorem apR.AdN(h:P:=by
 cases k with
 |zero=>
  open ar9 in exact agp
 |succ j=>
  have hlt2:j < l.length:=Aaa
  obtain⟨g,off,rfl,hgw,c0,c1,c2,c3⟩:=aG.four (GR.At.below HA aZ) (j+1) hlt;obtain⟨g2,off2,e2,akK,d0,d1,d2,d3⟩:=aG.four (GR.At.below HA aZ) j hlt2;have e3:g=g2:=by injection e2 with e2;injection e2 with e2 e4
  have e4:off=off2:=by injection e2 with e2;injection e2 with e2 e4
  subst e3 e4;clear e2 akK d1 d2 d3;have hgt:decide ((0:Int) < ((j+1:Nat):Int))=true:=aET Aaa;have ej:IntKind.i64.wrap (((j+1:Nat):Int) - 1)=(j:Int):=by rw [IntWalk.i64_in _ ⟨by omega,by omega⟩];omega
  rw [show j+1 - 1=j by omega,getD_at l j hlt2] at hat;have oz:=Hq hat;have iJ:=Hq (qO (oL l) (j+1));clear hat;generalize l[j+1]=pu at *;generalize l[j]=pq at *;obtain⟨q,qm,qf,qs⟩:=pq;dsimp only at d0;cases hpo:iG pu
  .have HO:=Hq (λw1=>qE pu false w1 hpo);have HBAD:=Hq (oN hlt (show oL l (j+1)=false by rw [ah oz,hpo];rfl));clear oz iJ hpo;obtain⟨pk,pm,pf,ps⟩:=pu;dsimp only at c0 c1 c2 c3;open aBX in exact aaW
  .have HO:=Hq (λw1=>qE pu true w1 hpo);cases hsl:Op.bytesLess q.toList pu.k.toList
   .have HBAD:=Hq (oN hlt (show oL l (j+1)=false by rw [ah oz,hpo];dsimp only;rw [<-Qp,hsl];simp));clear oz iJ hpo;obtain⟨pk,pm,pf,ps⟩:=pu;dsimp only at c0 c1 c2 c3 hsl;open aBW in exact aaW
   .have EM:=Hq (show oL l (j+1)=true by rw [ah oz,hpo];dsimp only;rw [<-Qp,hsl];simp);clear oz hpo;obtain⟨pk,pm,pf,ps⟩:=pu;dsimp only at c0 c1 c2 c3 hsl;open aBV in exact aaW):P:=h
theorem aw3(h:P:=by
 obtain⟨⟨p0,p1,p2,p3,p4,p5,p6,p7,p8,p9,pz⟩,_⟩:=aK IC;have hol:=ay IC;go_wp2_with fail;refine(ES W2).mono ?_;rintro e W4 ⟨rfl,hb4⟩;have IB:=Hq (aj kQ hb4);have ajB:=Hq (aj IC hb4);have EY:=Hq (aj nK hb4);have gX:=Hq (HB2.trans (hb4.mono HB2.size));clear hb4 p0 p1 p2 p3 p4 p5 p6 p7 p8 p9 pz hol ES kQ IC nK HB2;obtain⟨c0,c1,c2,c3,c4,c5,c6,c7,c8⟩:=nine IB;have hnl:=ay IB;go_wp2_with fail;refine(EL W4 gX).mono ?_;exact Ac8):P:=h
theorem apS.Ac8(h:P:=by
 rintro e W3 ⟨A1,G1,cc,rfl,hNO,hb3,hP1,hP2,hR1,hR2⟩;have qH:=Hq (aj EY hb3);have sZ:=Hq (aj IB hb3);have Lp:=Hq (aj ajB hb3);have HB3:=Hq (gX.trans (hb3.mono gX.size));have HPR:=Hq (And.intro (And.intro hP1 hP2) (And.intro hR1 hR2));have nA:=Hq (hNO.flat (b:=0) (aE7 _));have HC9:=Hq (λx (hx:x < w.heap.size+3)=>Yj (b:=0) (aE7 _) (hNO.lo x (by have:=ay EY;omega)));have hrs:=ay EY;have H9:=Hq (abD 0 cc);generalize yI 0 cc=c at *;have Df:=Hq (HC9 (w.heap.size+2) Aaa);have N8:=Hq (HC9 w.heap.size Aaa);clear hb3 hNO hP1 hP2 hR1 hR2 c0 c1 c2 c3 c4 c5 c6 c7 c8 hnl EL IB ajB EY;obtain⟨⟨d0,d1,d2,d3,d4,d5,d6,d7,d8⟩,f0,f1,f2,f3,f4,f5,f6,f7,f8⟩:=iT sZ;obtain⟨⟨p0,p1,p2,p3,p4,p5,p6,p7,p8,p9,pz⟩,_⟩:=aK Lp;have hnl:=ay sZ;have hol:=ay Lp;go_upto_region 5 with fail;refine azV sZ (λX e5 hkx=>?_);have iJ:=Hq e5;have HOX:=Hq ((hkx.block _ (ay Lp) Aac).trans Lp);have wu:=Hq ((hkx.block _ (ay qH) Aac).trans qH);have jO:=Hq (HB3.trans (hkx.below (B:=w.heap.size) (λx hx=>by have:x=w.heap.size:=Aag;omega) HB3.size));have BR:=Hq (nA.kc (k:=9) (KC.keeps hkx (λx hx=>by have:x=w.heap.size:=Aag;rw [this];exact N8)) Aaa);exact Kk0):P:=h
theorem apT.Ac8(h:P:=by
 rintro e W3 ⟨A1,G1,cc,rfl,hNO,hb3,_,_⟩;have qH:=Hq (aj EY hb3);have HB3:=Hq (gX.trans (hb3.mono gX.size));have nA:=Hq hNO;have hrs:=ay EY;clear hb3 hNO c0 c1 c2 c3 c4 c5 c6 c7 c8 hnl EL IB ajB EY;exact axL):P:=h
theorem aw4(h:P:=by
 have abQ:cand s=⟨s[0].toNat,vF s (gL s 0),vF s (gL s 1),vF s (gL s 2),vF s (gL s 3),kN s (gL s 4),vF s (jg s (gL s 4))⟩:=by unfold cand;rw [Me h0];rfl
 have HM:=Hq (show kE s=true->D9 s= .tuple #[oJ (cand s),.bool true] from λh=>by unfold D9 nJ;rw [h,aFc rfl]);have HZ:=Hq (show kE s=false->D9 s= .tuple #[.agg (bX 0 0 0 0 0 ⟨#[]⟩ 0),.bool false] from Ez);have hE:yH s=kJ s (jg s (gL s 4)):=rfl;rw [hE] at HO;rw [abQ] at HP HM HO;exact AeE):P:=h
theorem apU.AeE(h:P:=by
 clear abQ hE e1 e2 e3 e4;have hne:=kW s h0;have hi0:(0:Int) < (s.size:Int):=Aaa
 open asV in exact VT):P:=h
theorem apV.AeE(h:P:=by
 clear hcs abQ hE;have hne:=kW s h0;have hi0:(0:Int) < (s.size:Int):=Aaa
 open aro in exact axk):P:=h
theorem ajY(h:P:=by
 rw [<-hW] at e2 e3;have Lr:=Hq e2;have HW1:=Hq (HW0.step e3);clear hW e2 e3;generalize w.heap.size+1=B at *;obtain⟨c0,c1,c2,c3,c4,c5,c6,c7,c8,c9⟩:=jT HW1.blk;obtain⟨⟨p0,p1,p2,p3,p4,p5,p6⟩,_⟩:=eF Lr;have hBl:=ay Lr;have aCV:=ay HW1.blk;exact Ab6):P:=h
theorem apW.Ab6(h:P:=by
 go_upto_region 12 with fail;go_wp2_with fail;refine(HDL W B Lr HW1.no.o).mono ?_;rintro e y ⟨a2,cp2,rfl,hrow,hgr,hx2⟩;have HY:=Hq (HW1.setOut hgr hrow hx2);clear hrow hgr hx2 HDL c0 c1 c2 c3 c4 c5 c6 c7 c8 c9 p0 p1 p2 p3 p4 p5 p6;obtain⟨c0,c1,c2,c3,c4,c5,c6,c7,c8,c9⟩:=jT HY.1;have f5:=aC HY.1 5;have akV:=ay HY.1;go_wp2_with fail;go_ret;exact⟨rfl,_,G,c,v,by rw [aF4];exact HY.2⟩):P:=h
theorem apX.Ab6(h:P:=by
 go_wp2_with fail;refine(OM W HW1).mono ?_;rintro e y ⟨rfl,⟨A',G',c',hY⟩,hJ⟩;have HY:=Hq hY;have IG:=Hq (hJ B ⟨1,mF,mT,mI,mL,mk,mN⟩ Lr);clear hY hJ OM p0 p1 p2 p3 p4 p5 p6 c0 c1 c2 c3 c4 c5 c6 c7 c8 c9;exact AcS):P:=h
theorem apY.Ab6(h:P:=by
 have SK:=Hq (λp:Regrown=>HW1.no.at.below (aFl _ p.d p.os));go_upto_region 4 with fail;open ank in exact XL):P:=h
end Go.Proofs.YtbolgdleijjgfaaGreatDoor
