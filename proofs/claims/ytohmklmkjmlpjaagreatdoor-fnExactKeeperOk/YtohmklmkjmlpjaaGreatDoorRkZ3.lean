/-
  Parts of proofs that stand more than once, each said once.
-/
import Derived.Test.YtohmklmkjmlpjaaGreatDoorRkZ2
namespace Go.Proofs.YtohmklmkjmlpjaaGreatDoor
open Go.Proofs.Tryz
set_option maxRecDepth 100000
variable{P:Prop}
theorem apy.Adm(h:P:=by
 cases k with
 |zero=>
  open arL in exact afM
 |succ j=>
  obtain⟨g,off,rfl,hgw,c0,c1,c2,c3⟩:=aG.four (GR.At.below HA cK) (j+1) hlt;obtain⟨g',off',e',_,d0,_,_,_⟩:=aG.four (GR.At.below HA cK) j Aaa;have eg:g=g'/\off=off':=by injection e' with e';injection e' with e1 e2;exact⟨e1,e2⟩
  obtain⟨rfl,rfl⟩:=eg;have hgd:l.getD j default=l[j]:=getD_at l j Aaa;rw [show j+1 - 1=j from rfl,hgd] at hat;have hgt:decide ((0:Int) < ((j:Int)+1))=true:=decide_eq_true Aaa;clear e' hgd;generalize l[j].k=q at *;have nG:=Hq hat;have iH:=Hq (pJ (nL l) (j+1));clear hat;generalize l[j+1]=pu at *;obtain⟨pk,pm,pf,ps⟩:=pu;dsimp only at c0 c1 c2 c3 hks;cases hkb:keyOk pk.data.toList
  .have HB:=Hq hkb;have HBAD:=Hq (nM hlt (show nL l (j+1)=false by rw [ah nG];simp[iy,ah HB]));clear nG iH;have hkb':=ah HB;exact Zk1
  have hkb':=hkb;cases hbl:Op.bytesLess pk.toList q.toList
  case' true=>
   have hsl:sle pk q=true:=by unfold sle;rw [hbl];rfl
   cases heq:pk.toList == q.toList
   .exact aam
   .exact aam
  cases heq:pk.toList == q.toList
  case' true=>
   have hsl:sle pk q=true:=by unfold sle;rw [hbl,heq];rfl
   exact aam
  have hsl:Hid (sle pk q=false):=by unfold sle;rw [hbl,heq];rfl
  by_cases h1:0<=pm/\pm<=1000000000
  case' neg=>
   have hA:qw pm=false:=decide_eq_false h1;have g1:decide (xJ pm 0 1000000000)=false:=decide_eq_false h1;exact adV
  have g1:decide (xJ pm 0 1000000000)=true:=decide_eq_true h1;have hA1:qw pm=true:=decide_eq_true h1;by_cases h2:0<=pf/\pf<=1000000000
  case' neg=>
   have hA:qw pf=false:=decide_eq_false h2;have g2:decide (xJ pf 0 1000000000)=false:=decide_eq_false h2;exact adV
  have g2:decide (xJ pf 0 1000000000)=true:=decide_eq_true h2;have hA2:qw pf=true:=decide_eq_true h2;by_cases h3:0<=ps/\ps<=1000000000
  case' neg=>
   have hA:qw ps=false:=decide_eq_false h3;have g3:decide (xJ ps 0 1000000000)=false:=decide_eq_false h3;exact adV
  open avv in exact agV):P:=h
theorem apz.Adm(h:P:=by
 cases k with
 |zero=>
  open arK in exact afM
 |succ j=>
  have hlt2:j < l.length:=Aaa
  obtain⟨g,off,rfl,hgw,c0,c1,c2,c3⟩:=aG.four (GR.At.below HA cK) (j+1) hlt;obtain⟨g2,off2,e2,akq,d0,d1,d2,d3⟩:=aG.four (GR.At.below HA cK) j hlt2;have e3:g=g2:=by injection e2 with e2;injection e2 with e2 e4
  have e4:off=off2:=by injection e2 with e2;injection e2 with e2 e4
  subst e3 e4;clear e2 akq d1 d2 d3;have hgt:decide ((0:Int) < ((j+1:Nat):Int))=true:=decide_eq_true Aaa;have ej:IntKind.i64.wrap (((j+1:Nat):Int) - 1)=(j:Int):=by rw [IntWalk.i64_in _ ⟨by omega,by omega⟩];omega
  rw [show j+1 - 1=j by omega,getD_at l j hlt2] at hat;have nG:=Hq hat;have iH:=Hq (pJ (nL l) (j+1));clear hat;generalize l[j+1]=pu at *;generalize l[j]=pq at *;obtain⟨q,qm,qf,qs⟩:=pq;dsimp only at d0;cases hpo:iy pu
  .have HO:=Hq (λw1=>oU pu false w1 hpo);have HBAD:=Hq (nM hlt (show nL l (j+1)=false by rw [ah nG,hpo];rfl));clear nG iH hpo;obtain⟨pk,pm,pf,ps⟩:=pu;dsimp only at c0 c1 c2 c3;open amu in exact aag
  .have HO:=Hq (λw1=>oU pu true w1 hpo);cases hsl:Op.bytesLess q.toList pu.k.toList
   .have HBAD:=Hq (nM hlt (show nL l (j+1)=false by rw [ah nG,hpo];dsimp only;rw [<-PI,hsl];simp));clear nG iH hpo;obtain⟨pk,pm,pf,ps⟩:=pu;dsimp only at c0 c1 c2 c3 hsl;open ams in exact aag
   .have DZ:=Hq (show nL l (j+1)=true by rw [ah nG,hpo];dsimp only;rw [<-PI,hsl];simp);clear nG hpo;obtain⟨pk,pm,pf,ps⟩:=pu;dsimp only at c0 c1 c2 c3 hsl;open amr in exact aag):P:=h
theorem awy(h:P:=by
 go_simp;have D6:=Hq (HG0.trans (hx1.mono HG0.size));have aby:uH.heap.size<=x1.heap.size:=D6.size;clear hx1;refine⟨(ay x1 _).mono aby,?_⟩;exact Ael):P:=h
theorem apA.Ael(h:P:=by
 have Ev:=ay x1 (.cells #[.int .i64 mI] 3);have ajl:=Hq (heap_alloc_new x1 (.cells #[.int .i64 mI] 3));have xH:=Hq (D6.trans (Ev.mono D6.size));clear Ev;generalize Tf:x1.alloc (.cells #[.int .i64 mI] 3)=y1 at *;clear Tf;refine gF 0 rfl Aab Aad Aae (λx2 hx2=>?_);go_simp;have sW:=Hq (xH.trans (hx2.mono xH.size));have vC:uH.heap.size<=x2.heap.size:=sW.size;have ajk:=Hq (au ajl hx2);clear hx2;refine⟨(ay x2 _).mono vC,?_⟩;have KO:=ay x2 (.cells #[] 3);have Gt:=Hq (show(x2.alloc (.cells #[] 3)).ownsRow uH.heap.size 3 1 (.slice (some ⟨x2.heap.size,0,none⟩) 0 0) 0 (GR.flat aU []) from World.ownsRow_lit (base:=uH.heap.size) (e:=3) (size:=1) x2 #[] 0 vC Aai Aac);open asG in exact af3):P:=h
theorem apB.Ael(h:P:=by
 have Ev:=ay x1 (.cells #[] 3);have Zv:=Hq (show(x1.alloc (.cells #[] 3)).ownsRow uH.heap.size 3 1 (.slice (some ⟨x1.heap.size,0,none⟩) 0 0) 0 (GR.flat aU []) from World.ownsRow_lit (base:=uH.heap.size) (e:=3) (size:=1) x1 #[] 0 aby Aai Aac);have xH:=Hq (D6.trans (Ev.mono D6.size));clear Ev;generalize Tf:x1.alloc (.cells #[] 3)=y1 at *;clear Tf;refine mW 4 7 rfl rfl Aab Aad Aad Aae Aae (λx2 hx2=>?_) (λx2 hx2=>?_)
 .have sW:=Hq (xH.trans (hx2.mono xH.size));have vC:uH.heap.size<=x2.heap.size:=sW.size;have Ec:=Hq (GR.own_below Zv hx2);clear hx2;obtain⟨v2,y2,Xf,Xd,Xa,ayD⟩:=fQ aQ Aaa x2 uH.heap.size 22 22 3 i0 (.int .i64 0) 8 underlying22 hi0 hz0 hz1' hz2 rfl (.slice (some ⟨x1.heap.size,0,none⟩) 0 0) 0 (GR.flat aU ([])) Ec (some ⟨gi,0,none⟩) ((aV s0 mL).take pos) OA (GR.At.below Eb sW) (qG _) Aai Aaa vC;rw [hlt1] at Xf Xd;refine Lib.wp_append_run x2 (.tmp 127) (.tmp 130) 22 22 rfl _ _ Aal Aal v2 y2 Xf ?_;refine⟨(Below.refl _ _).grown Xa vC (λb hb=>(Ec.lt b hb).1),?_⟩;go_simp;have Ke:=Hq (sW.grown Xa vC (λb hb=>(Ec.lt b hb).1));have Gt:Hid (y2.ownsRow uH.heap.size 3 1 v2 (pos) (GR.flat aU ((aV s0 mL).take pos))):=Hq (by simpa [GR.flat_nil] using Xd);obtain⟨avR,cvR,abw,_⟩:=GR.own_at (enc:=aU) (sz:=1) (l:=(aV s0 mL).take pos) aQ (by rw [hlt1];exact Gt);open auI in exact agD
 .go_simp;have sW:=Hq (xH.trans (hx2.mono xH.size));have vC:uH.heap.size<=x2.heap.size:=sW.size;have Ec:=Hq (GR.own_below Zv hx2);clear hx2;refine⟨(ay x2 _).mono vC,?_⟩;have KO:=ay x2 (.cells #[.int .i64 mI] 3);have adC:=Hq (heap_alloc_new x2 (.cells #[.int .i64 mI] 3));open asv in exact afY):P:=h
theorem awz(h:P:=by
 go_simp;have D6:=Hq (HG0.trans (hx1.mono HG0.size));have aby:wc.heap.size<=x1.heap.size:=D6.size;clear hx1;refine⟨(ay x1 _).mono aby,?_⟩;exact Aea):P:=h
theorem apC.Aea(h:P:=by
 have Ev:=ay x1 (.cells (fA no k nn st) 95);have ajl:=Hq (heap_alloc_new x1 (.cells (fA no k nn st) 95));have xH:=Hq (D6.trans (Ev.mono D6.size));clear Ev;generalize Tf:x1.alloc (.cells (fA no k nn st) 95)=y1 at *;clear Tf;refine gF 0 rfl Aab Aad Aae (λx2 hx2=>?_);go_simp;have sW:=Hq (xH.trans (hx2.mono xH.size));have vC:wc.heap.size<=x2.heap.size:=sW.size;have ajk:=Hq (au ajl hx2);clear hx2;refine⟨(ay x2 _).mono vC,?_⟩;have KO:=ay x2 (.cells #[] 95);have Gt:=Hq (show(x2.alloc (.cells #[] 95)).ownsRow wc.heap.size 95 4 (.slice (some ⟨x2.heap.size,0,none⟩) 0 0) 0 (GR.flat aL []) from World.ownsRow_lit (base:=wc.heap.size) (e:=95) (size:=4) x2 #[] 0 vC Aai Aac);open asF in exact af3):P:=h
theorem apD.Aea(h:P:=by
 have Ev:=ay x1 (.cells #[] 95);have Zv:=Hq (show(x1.alloc (.cells #[] 95)).ownsRow wc.heap.size 95 4 (.slice (some ⟨x1.heap.size,0,none⟩) 0 0) 0 (GR.flat aL []) from World.ownsRow_lit (base:=wc.heap.size) (e:=95) (size:=4) x1 #[] 0 aby Aai Aac);have xH:=Hq (D6.trans (Ev.mono D6.size));clear Ev;generalize Tf:x1.alloc (.cells #[] 95)=y1 at *;clear Tf;refine mW 5 7 rfl rfl Aab Aad Aad Aae Aae (λx2 hx2=>?_) (λx2 hx2=>?_)
 .have sW:=Hq (xH.trans (hx2.mono xH.size));have vC:wc.heap.size<=x2.heap.size:=sW.size;have Ec:=Hq (GR.own_below Zv hx2);clear hx2;obtain⟨v2,y2,Xf,Xd,Xa,ayD⟩:=fQ aR Aaa x2 wc.heap.size 38 38 95 i0 (.agg (fA 0 ByteArray.empty 0 0)) 40 underlying38 hi hz0 hz1 hz2 rfl (.slice (some ⟨x1.heap.size,0,none⟩) 0 0) 0 (GR.flat aL ([])) Ec (some ⟨gr,0,none⟩) (n.reqs.take pos) bg (GR.At.below Eb sW) (jc _) Aai Aaa vC;rw [hlt1] at Xf Xd;refine Lib.wp_append_run x2 (.tmp 93) (.tmp 97) 38 38 rfl _ _ Aal Aal v2 y2 Xf ?_;refine⟨(Below.refl _ _).grown Xa vC (λb hb=>(Ec.lt b hb).1),?_⟩;go_simp;have Ke:=Hq (sW.grown Xa vC (λb hb=>(Ec.lt b hb).1));have Gt:Hid (y2.ownsRow wc.heap.size 95 4 v2 (pos) (GR.flat aL (n.reqs.take pos))):=Hq (by simpa [GR.flat_nil] using Xd);obtain⟨avR,cvR,abw,_⟩:=GR.own_at (enc:=aL) (sz:=4) (l:=n.reqs.take pos) aR (by rw [hlt1];exact Gt);open auH in exact agD
 .go_simp;have sW:=Hq (xH.trans (hx2.mono xH.size));have vC:wc.heap.size<=x2.heap.size:=sW.size;have Ec:=Hq (GR.own_below Zv hx2);clear hx2;refine⟨(ay x2 _).mono vC,?_⟩;have KO:=ay x2 (.cells (fA no k nn st) 95);have adC:=Hq (heap_alloc_new x2 (.cells (fA no k nn st) 95));open asu in exact afY):P:=h
theorem awC(h:P:=by
 have abf:cand s=⟨s[0].toNat,uo s (gI s 0),uo s (gI s 1),uo s (gI s 2),uo s (gI s 3),jU s (gI s 4),uo s (je s (gI s 4))⟩:=by unfold cand;rw [KQ h0];rfl
 have HM:=Hq (show jQ s=true->CZ s= .tuple #[nK (cand s),.bool true] from λh=>by unfold CZ mq;rw [h,if_pos rfl]);have HZ:=Hq (show jQ s=false->CZ s= .tuple #[.agg (bV 0 0 0 0 0 ⟨#[]⟩ 0),.bool false] from Dw);have hE:wZ s=jS s (je s (gI s 4)):=rfl;rw [hE] at HO;rw [abf] at HP HM HO;exact AcR):P:=h
theorem apE.AcR(h:P:=by
 clear abf hE e1 e2 e3 e4;have hne:=jY s h0;have hi0:(0:Int) < (s.size:Int):=Aaa
 open asl in exact UW):P:=h
theorem apF.AcR(h:P:=by
 clear hcs abf hE;have hne:=jY s h0;have hi0:(0:Int) < (s.size:Int):=Aaa
 open arb in exact afE):P:=h
theorem awD(h:P:=by
 have hTi:∀j,j < 3->∃u,wc.cell? ⟨G.s,i*3+j,none⟩=some u/\wc.frozen? ⟨G.s,i*3+j,none⟩=false:=λj hj=>⟨_,(hcT j hj).1.trans (List.getElem?_eq_getElem (by rw [dK];exact hj)),(hcT j hj).2⟩
 obtain⟨v0,y0,x0⟩:=hTi 0 Aaa;obtain⟨v1,y1,x1⟩:=hTi 1 Aaa;obtain⟨v2,y2,x2⟩:=hTi 2 Aaa;rw [Nat.add_zero] at y0 x0;exact AeE):P:=h
theorem apG.AeE(h:P:=by
 clear hTi hcT hrT hT hlT T ayt KV hown2 afq Zf afu Zp afe UE afp afg afk adz;have aCZ:G.s < wc.heap.size:=Aaa
 obtain⟨c0,c1,c2,c3,c4,c5,c6,c7,c8⟩:=nine UG;obtain⟨s40,s41,s42⟩:=BQ Zq;have hnl:=aA UG;have ayy:=aA Zq;have ax9:Hid ((lD (aV s0 mL) mI).length=(aV s0 mL).length+1):=abd;clear abd;go_upto_region 27 with fail;refine wp_at (λW12 akk=>?_)
 have alN:Hid (NQ W12 B (dM (dM n (n.seen.set i ⟨mF,fE s0 mL,aV s0 mL⟩)) ((n.seen.set i ⟨mF,fE s0 mL,aV s0 mL⟩).set i ⟨mF,fE s0 mL,lD (aV s0 mL) mI⟩)) (⟨a_k,(some ⟨gp,0,none⟩),fH,(some ⟨G.s,0,none⟩),gM,aY,dH,bE,aZ,bg⟩:bQ) ⟨G.k,G.p,G.o,G.s,G.r,su (su G.i i gi) i g2⟩ (uP g2 (lD (aV s0 mL) mI) (uP gi (aV s0 mL) (newC w.heap.size 9 c)))):=by
  rw [akk,<-ah ax9];exact HNP
 have SK:aC [G.s] wc W12:=by
  rw [akk];exact aT [.int .i64 mF,.int .i64 (fE s0 mL),.slice (some ⟨g2,0,none⟩) ((aV s0 mL).length+1) cq2] wc (i*3)
 have afr:=Hq (SK.obj UG (λhx=>Aak));have qB:=Hq (SK.obj afv (λhx=>Aak));have alp:=Hq (SK.obj aff (λhx=>Aak));have als:=Hq (afh.trans (SK.below (B:=B) (λx hx=>Aak) Aaa));have alG:=Hq (Apart.keeps (c:=c) afl Aaa SK (λx hx=>by have:x=G.s:=Aaf;rw [this];right;omega));have azK:=Hq (alQ.keeps SK (λx hx=>Aak));have azx:Hid (∀x,x < w.heap.size->6 < c x->uP g2 (lD (aV s0 mL) mI) (uP gi (aV s0 mL) (newC w.heap.size 9 c)) x=9):=λx hx h=>by rw [uY (λhm=>by have:=(dY hm).1;omega)];exact HCO x hx h
 have alA:Hid (∀x,w.heap.size<=x->x≠gi->x≠g2->uP g2 (lD (aV s0 mL) mI) (uP gi (aV s0 mL) (newC w.heap.size 9 c)) x=9):=λx hx h h'=>by rw [uY (λhm=>h' (dY hm).1)];exact DW x hx h
 clear akk SK HNP y0 y1 y2 x0 x1 x2 s40 s41 s42 c0 c1 c2 c3 c4 c5 c6 c7 c8 hnl ayy UG afv aff afh afl alQ Zq Zg HW2;obtain⟨c0,c1,c2,c3,c4,c5,c6,c7,c8⟩:=nine afr;obtain⟨d0,d1,d2,d3,d4,d5,d6,d7,d8⟩:=nine qB;have f0:=aj qB 0;have f1:=aj qB 1;have f2:=aj qB 2;have f3:=aj qB 3;have f4:=aj qB 4;have f5:=aj qB 5;have f6:=aj qB 6;have f7:=aj qB 7;have f8:=aj qB 8;have hnl:=aA afr;have hrl:=aA qB;go_wp2_with fail;refine aO (λW' hW'=>?_)
 have e4:W'.heap[w.heap.size+2]?=some (.cells (iD n.id n.par a_k n.kids.length aY n.next av RL.length cv fH n.out.length bE (some ⟨G.s,0,none⟩) n.seen.length aZ n.old gM n.reqs.length bg) 40 (0,0)):=by
  rw [hW'];exact GR.setW_blk (iD n.id n.par a_k n.kids.length aY n.next av RL.length cv fH n.out.length bE (some ⟨G.s,0,none⟩) n.seen.length aZ n.old gM n.reqs.length bg).toList (o:=0) (xs:=iF.toList) qB
 have fP:aC [w.heap.size+2] W12 W':=by
  rw [hW'];exact aT (iD n.id n.par a_k n.kids.length aY n.next av RL.length cv fH n.out.length bE (some ⟨G.s,0,none⟩) n.seen.length aZ n.old gM n.reqs.length bg).toList W12 0
 have abt:w.heap.size+2≠gi:=Aaa
 have HNF:=Hq (alN.kc (k:=9) (KC.keeps fP (λx hx=>by have:x=w.heap.size+2:=Aaf;rw [this];exact alA _ Aaa abt Aaa)) Aaa)
 have HAT:Hid (∀W'',Out c w W' W''->RM W'' (⟨a_k,av,fH,(some ⟨G.s,0,none⟩),gM,aY,cv,bE,aZ,bg⟩:bQ) (dM (setPu n RL) (n.seen.set i ⟨mF,fE s0 mL,lD (aV s0 mL) mI⟩))):=λW'' ho=>by
  obtain⟨F,hk,hF⟩:=ho
  have hold:=(HNF.kc (k:=9) (KC.keeps hk (λx hx=>azx x (hF x hx).1 (hF x hx).2)) Aaa)
  have ho:Out c w W' W'':=⟨F,hk,hF⟩
  have hc9:∀g,av.map (λy=>y.block)=some g->0 < RL.length->uP g2 (lD (aV s0 mL) mI) (uP gi (aV s0 mL) (newC w.heap.size 9 c)) g=9:=λg hg hp=>by
   have h1:=ah Nw g hg hp
   exact alA g Aaa Aaa Aaa
  refine NQ.put hold hold (dM (setPu n RL) (n.seen.set i ⟨mF,fE s0 mL,lD (aV s0 mL) mI⟩)) (⟨a_k,av,fH,(some ⟨G.s,0,none⟩),gM,aY,cv,bE,aZ,bg⟩:bQ) rfl (by simp only[dM,List.set_set]) rfl rfl ((azK.keeps fP (λx hx=>Aak)).out Aaa ho) (λg hg hp=> .inr (by have h3:=hc9 g hg hp;omega)) hold.o (λy hy=> .inl (hold.co y hy)) hold.r (λy hy=> .inl (hold.cr y hy)) (λg hg hp _=>⟨λe=>?_,λe=>?_⟩) (λx hx h6=>by have:=hold.co x hx;omega)
  .have h1:=hold.co g e;have h2:=hc9 g hg hp;omega
  .have h1:=hold.cr g e;have h2:=hc9 g hg hp;omega
 have Ga:Hid (∀W'',Out c w W' W''->GR.At lK 7 W'' (some ⟨ab,0,none⟩) [⟨2,n.id,mF,mI,0,ByteArray.empty,0⟩]):=λW'' ho j hj=>Sb (fP.obj alp (λhm=>Acm)) ho Aaa j hj
 have oh:Hid (Below B w W'):=als.trans (fP.below (λx hx=>by have:x=w.heap.size+2:=Aaf;omega) (by have h1:=aA qB;omega));have sZ:=Hq (Apart.keeps (c:=c) alG (by have h1:=aA qB;omega) fP (λx hx=>by have:x=w.heap.size+2:=Aaf;omega));obtain⟨x0,x1,x2,x3,x4,x5,x6,x7,x8⟩:=nine e4;clear hW' e4 fP
 first
  |exact bodyPost_ret (v:= .tuple #[.agg (iD n.id n.par a_k n.kids.length aY n.next av RL.length cv fH n.out.length bE (some ⟨G.s,0,none⟩) n.seen.length aZ n.old gM n.reqs.length bg),.slice (some ⟨ab,0,none⟩) 1 1,.int .i64 0]) Abo rfl ⟨(⟨a_k,av,fH,(some ⟨G.s,0,none⟩),gM,aY,cv,bE,aZ,bg⟩:bQ),(some ⟨ab,0,none⟩),⟨1,by simp[gB,dG,dM,setPu]⟩,HAT,Ga,oh,sZ⟩
  |exact bodyPost_ret (v:= .tuple #[.agg (iD n.id n.par a_k n.kids.length aY n.next av RL.length cv fH n.out.length bE (some ⟨G.s,0,none⟩) n.seen.length aZ n.old gM n.reqs.length bg),.slice (some ⟨ab,0,none⟩) 1 1,.int .i64 0]) Abo rfl ⟨(⟨a_k,av,fH,(some ⟨G.s,0,none⟩),gM,aY,cv,bE,aZ,bg⟩:bQ),(some ⟨ab,0,none⟩),1,by simp[gB,dG,dM,setPu],HAT,Ga,oh,sZ⟩):P:=h
theorem apH.AeE(h:P:=by
 clear hTi hcT hrT hT hlT T zw hb4 ajb lH VW lu HB3 alM al4 adF;have aCY:G.s < wc.heap.size:=Aaa
 obtain⟨c0,c1,c2,c3,c4,c5,c6,c7,c8⟩:=nine CS;obtain⟨s40,s41,s42⟩:=BQ Zr;have sf:=aj Zr 2;have hnl:=aA CS;have hne1:sb≠G.s:=Aaa
 have hne2:G.s≠sb:=Aaa
 go_upto_region 15 with fail;refine wp_at (λW6 YL=>?_);exact AaF):P:=h
theorem ajF(h:P:=by
 rw [<-hW] at e2 e3;have Kj:=Hq e2;have HW1:=Hq (HW0.step e3);clear hW e2 e3;generalize w.heap.size+1=B at *;obtain⟨c0,c1,c2,c3,c4,c5,c6,c7,c8,c9⟩:=jE HW1.blk;obtain⟨⟨p0,p1,p2,p3,p4,p5,p6⟩,_⟩:=eF Kj;have hBl:=aA Kj;have aCl:=aA HW1.blk;exact Ab8):P:=h
theorem apI.Ab8(h:P:=by
 go_upto_region 12 with fail;go_wp2_with fail;refine(HDL W B Kj HW1.no.o).mono ?_;rintro e y ⟨a2,cp2,rfl,hrow,hgr,hx2⟩;have HY:=Hq (HW1.setOut hgr hrow hx2);clear hrow hgr hx2 HDL c0 c1 c2 c3 c4 c5 c6 c7 c8 c9 p0 p1 p2 p3 p4 p5 p6;obtain⟨c0,c1,c2,c3,c4,c5,c6,c7,c8,c9⟩:=jE HY.1;have f5:=aj HY.1 5;have akA:=aA HY.1;go_wp2_with fail;go_ret;exact⟨rfl,_,G,c,v,by rw [List.append_nil];exact HY.2⟩):P:=h
theorem apJ.Ab8(h:P:=by
 go_wp2_with fail;refine(NJ W HW1).mono ?_;rintro e y ⟨rfl,⟨A',G',c',hY⟩,hJ⟩;have HY:=Hq hY;have Gq:=Hq (hJ B ⟨1,mF,mT,mI,mL,mk,mN⟩ Kj);clear hY hJ NJ p0 p1 p2 p3 p4 p5 p6 c0 c1 c2 c3 c4 c5 c6 c7 c8 c9;exact Ad5):P:=h
theorem apK.Ab8(h:P:=by
 have Rz:=Hq (λp:Regrown=>HW1.no.at.below (below_regrown _ p.d p.os));go_upto_region 4 with fail;open am8 in exact Wp):P:=h
theorem awE(h:P:=by
 refine CJ 1 20 rfl Aab Aab Aab Aab Aab (λ_ _ _ _ h=>h) (λK hK=>?_);go_simp
 first
  |(refine hK _ ?_;clear hK K)
  |(apply Exists.intro
    refine⟨λ_=>?_,hK _ ?_⟩
    (rfl)
    clear hK K)
 exact AeA):P:=h
theorem apL.AeA(h:P:=by
 have y3:=OC (r:=w.heap.size+2) (iE adB).2.2.2 Aaa;open asU in exact af8):P:=h
theorem apM.AeA(h:P:=by
 have y3:=OC (r:=w.heap.size+2) (iE alT).2.2.2 Aaa;open asT in exact af8):P:=h
theorem ajG(h:P:=by
 refine wp_at (λW0 hW0=>?_);have HB0:Hid (W0.heap[w.heap.size]?=some (.cells (dG ⟨id,par,kids,next,pu,out,seen,old,reqs⟩ ⟨ak,ap,ao,as',ar,ck,cp,co,cs,cr⟩) 40 (0,0))):=by rw [hW0];exact jN
 have nC:Hid (aI w W0):=by rw [hW0];exact ay w _
 clear hW0 jN;exact AcF):P:=h
theorem apN.AcF(h:P:=by
 obtain⟨c0,c1,c2,c3,c4,c5,c6,c7,c8⟩:=nine HB0;open aun in exact agw):P:=h
theorem apO.AcF(h:P:=by
 obtain⟨bb,hbb⟩:∃bb,(!(PL&&PS&&TD&&fF next&&decide (out.length<=40)&&qw old&&decide (reqs.length<=30)))=bb:=⟨_,rfl⟩;have eT:=Hq hbb;clear hbb;obtain⟨c0,c1,c2,c3,c4,c5,c6,c7,c8⟩:=nine HB0;go_cut [44] (λr wx=>r= .bool bb/\wx.heap[w.heap.size]?=some (.cells (dG ⟨id,par,kids,next,pu,out,seen,old,reqs⟩ ⟨ak,ap,ao,as',ar,ck,cp,co,cs,cr⟩) 40 (0,0))/\aI w wx)
 case first=>
  open aum in exact agw
 case rest=>
  obtain⟨rfl,hblk,hbel⟩:=hcut;have HB1:=Hq hblk;have qU:=Hq hbel;clear hblk hbel c0 c1 c2 c3 c4 c5 c6 c7 c8 Nw HPU Ni HB0 nC;cases hbv:bb
  case' true=>
   have HP:Hid (TT=false):=by
    have h:=ah eT;rw [hbv] at h;rw [ah HD];generalize (PL&&PS&&TD&&fF next&&decide (out.length<=40)&&qw old&&decide (reqs.length<=30))=X at *;cases X
    .rfl
    .cases h
   clear eT HD;subst hbv;go_wp2_with fail;go_ret;exact⟨aF HP.symm,qU⟩
  have HF:Hid (fF next=true/\qw old=true/\TT=(gU OT (λs t=>iM s.i t.i) out&&gU RQ (λs t=>iM s.no t.no) reqs)):=by
   have h:=ah eT;rw [hbv] at h;rw [ah HD];cases h4:fF next<;>cases h6:qw old<;>rw [h4,h6] at h
   all_goals first
    |(simp at h;done)
    |skip
   refine⟨rfl,rfl,?_⟩;generalize (PL&&PS&&TD&&true&&decide (out.length<=40)&&true&&decide (reqs.length<=30))=X at *;cases X
   .cases h
   .rfl
  clear eT HD;subst hbv;obtain⟨hn1,ho1,hTT⟩:=ah HF;have HTT:=Hq hTT;have hn2:1<=next/\next<=1000000000:=of_decide_eq_true hn1;have ho2:0<=old/\old<=1000000000:=of_decide_eq_true ho1;obtain⟨hn3,hn4⟩:=hn2;obtain⟨ho3,ho4⟩:=ho2;clear hn1 ho1 hTT HF;have wT:=Hq (λk h=>oD OT (λs t=>iM s.i t.i) out k h);have Nn:=Hq (rC OT (λs t=>iM s.i t.i) out);have DW:=Hq (uX OT (λs t=>iM s.i t.i) out);have HDB:=Hq (λk h=>oD RQ (λs t=>iM s.no t.no) reqs k h);have HDF:=Hq (rC RQ (λs t=>iM s.no t.no) reqs);have HDN:=Hq (uX RQ (λs t=>iM s.no t.no) reqs);generalize (λs t:jK=>iM s.i t.i)=RO at *;generalize (λs t:Rq=>iM s.no t.no)=RR at *;go_wp2_with fail;go_loopw [3] (λi wr=>∃k:Nat,k<=out.length/\i= .int .i64 k/\gU OT RO (out.take k)=true/\wr.heap[w.heap.size]?=some (.cells (dG ⟨id,par,kids,next,pu,out,seen,old,reqs⟩ ⟨ak,ap,ao,as',ar,ck,cp,co,cs,cr⟩) 40 (0,0))/\aI w wr) (λi _=>out.length - (intOf i).toNat)
  case atStart=>exact⟨0,Nat.zero_le _,rfl,rfl,HB1,qU⟩
  case round=>
   open aqD in exact adP):P:=h
theorem apP.AcF(h:P:=by
 obtain⟨al,hal⟩:∃al:Int,(kids.length:Int)+(if 0<=par then 1 else 0)=al:=⟨_,rfl⟩;rw [hal] at HD;go_cut [3] (λr wx=>r= .int .i64 al/\wx=W0)
 case first=>
  by_cases hp:0<=par
  .rw [if_pos hp] at hal;have HAL:=Hq hal;clear hal;go_wp2_with fail;go_meet
   case rel=>exact⟨by rw [<-ah HAL],rfl⟩
  .rw [if_neg hp] at hal;have HAL:=Hq hal;clear hal;go_wp2_with fail;go_meet
   case rel=>exact⟨by rw [<-ah HAL,Int.add_zero],rfl⟩
 case rest=>
  obtain⟨rfl,rfl⟩:=hcut;clear hal;obtain⟨c0,c1,c2,c3,c4,c5,c6,_⟩:=nine HB0;by_cases hlen:(seen.length:Int)=al
  case' neg=>
   have hbn:((seen.length:Int) != al)=true:=by simpa using hlen
   have HP:Hid (TT=false):=by rw [ah HD,decide_eq_false hlen];rfl
   clear hlen HD wT Nn DW Ra HPP HRR;go_wp2_with fail;go_ret;exact⟨aF HP.symm,nC⟩
  have hbn:((seen.length:Int) != al)=false:=by simpa using hlen
  have nS:Hid (TT=gU PP RR seen):=by rw [ah HD,decide_eq_true hlen];rfl
  clear hlen HD;go_wp2_with fail;go_loopw [4] (λi wr=>∃k:Nat,k<=seen.length/\i= .int .i64 k/\gU PP RR (seen.take k)=true/\wr.heap[w.heap.size]?=some (.cells (dG ⟨id,par,kids,next,pu,out,seen,old,reqs⟩ ⟨ak,ap,ao,as',ar,ck,cp,co,cs,cr⟩) 40 (0,0))/\aI w wr) (λi _=>seen.length - (intOf i).toNat)
  case atStart=>exact⟨0,Nat.zero_le _,rfl,rfl,HB0,nC⟩
  case round=>
   open aqC in exact adP):P:=h
theorem awF(h:P:=by
 clear h hc;obtain⟨⟨p0,p1,p2,p3,p4,p5,p6,p7,p8,p9,nT⟩,_⟩:=aM Rt;have hpl:=aA Rt;go_upto_region 3 with fail;have z1:=cell_regrown p1;have z2:=cell_regrown p2;have z3:=cell_regrown p3;clear p0 p1 p2 p3 p4 p5 p6 p7 p8 p9 nT;refine dB 9 Aab ?_;show eY _ _ _ _ _ 10 (Array.replicate 10 false) _ _
 refine tk [0,1,2,3,5,6] ?_;iterate 6 (refine uR (λK hK=>?_);go_simp;refine hK _ ?_;clear hK K)
 refine jJ ?_;clear z1 z2 z3;exact AdN):P:=h
theorem apQ.AdN(h:P:=by
 refine yG 4 8 rfl rfl Aab Aad Aad (λx hx=>?c1) (λx hx=>?c2)
 case' c1=>
  go_simp
  refine(clone k x Aaa).mono ?_
  rintro e y ⟨rfl,hby⟩
  refine⟨hby,?_⟩
  have HY:=Hq (Ge.trans hx hby)
  clear hx hby
  refine tk [7] ?_
  (refine uR (λK hK=>?_);go_simp;refine hK _ ?_;clear hK K)
  refine jJ ?_
  refine dU 8 rfl Aab Aad (λx2 hx2=>?_)
  go_simp
  refine⟨ay x2 _,?_⟩
  have hgl:z.heap.size<=x2.heap.size:=(Ge.trans HY hx2).size
  have Gd:=Hq (heap_alloc_new x2 (.cells (fA 0 ⟨#[]⟩ 0 0) 95))
  have uS:=Hq (Ge.trans (Ge.trans HY hx2) (ay x2 (.cells (fA 0 ⟨#[]⟩ 0 0) 95)))
  clear hx2 HY
  generalize x2.alloc (.cells (fA 0 ⟨#[]⟩ 0 0) 95)=y2 at *
  generalize x2.heap.size=g at *
  refine bC Aab (λz2 hz2=>?_)
  have ku:=Hq (au Gd hz2)
  have eT:=Hq (Ge.trans uS hz2)
  clear hz2 Gd uS
  have C9:=aA ku
  obtain⟨g0,g1,g2,g3⟩:=iE ku
  have f0:=aj ku 0
  have f1:=aj ku 1
  have f2:=aj ku 2
  have f3:=aj ku 3
  refine aH 9 rfl Aab Aad ?_
  go_simp
  refine wpAny_done Aab ?_
  go_simp
  go_upto_region 4 with fail
  refine wp_at (λW hW=>?_)
  have UD:Hid (W.heap[g]?=some (.cells (fA no k nn 0) 95 (0,0))):=Abu
  have iR:Hid (aI z W):=Abv
  clear hW ku eT C9 g0 g1 g2 g3 f0 f1 f2 f3
 case' c2=>
  go_simp
  refine⟨ay x _,?_⟩
  have hgl:z.heap.size<=x.heap.size:=hx.size
  have Gd:=Hq (heap_alloc_new x (.cells (fA 0 ⟨#[]⟩ 0 0) 95))
  have uS:=Hq (Ge.trans hx (ay x (.cells (fA 0 ⟨#[]⟩ 0 0) 95)))
  clear hx
  generalize x.alloc (.cells (fA 0 ⟨#[]⟩ 0 0) 95)=y2 at *
  generalize x.heap.size=g at *
  refine dU 4 rfl Aab Aad (λx2 hx2=>?_)
  go_simp
  refine(clone k x2 Aaa).mono ?_
  rintro e y3 ⟨rfl,hby⟩
  refine⟨hby,?_⟩
  have HGC:=Hq (au Gd (Ge.trans hx2 hby))
  have HBC:=Hq (Ge.trans uS (Ge.trans hx2 hby))
  clear hx2 hby Gd uS
  refine tk [7] ?_
  (refine uR (λK hK=>?_);go_simp;refine hK _ ?_;clear hK K)
  refine jJ ?_
  refine bC Aab (λz2 hz2=>?_)
  have ku:=Hq (au HGC hz2)
  have eT:=Hq (Ge.trans HBC hz2)
  clear hz2 HGC HBC
  have C9:=aA ku
  obtain⟨g0,g1,g2,g3⟩:=iE ku
  have f0:=aj ku 0
  have f1:=aj ku 1
  have f2:=aj ku 2
  have f3:=aj ku 3
  refine aH 9 rfl Aab Aad ?_
  go_simp
  refine wpAny_done Aab ?_
  go_simp
  go_upto_region 4 with fail
  refine wp_at (λW hW=>?_)
  have UD:Hid (W.heap[g]?=some (.cells (fA no k nn 0) 95 (0,0))):=Abu
  have iR:Hid (aI z W):=Abv
  clear hW ku eT C9 g0 g1 g2 g3 f0 f1 f2 f3
 all_goals
  have Zx:=Hq (HZ.step iR)
  have Gg:=Hq (au Rt iR)
  clear HZ Rt iR
  obtain⟨⟨p0,p1,p2,p3,p4,p5,p6,p7,p8,p9,nT⟩,_⟩:=aM Gg
  have hpw:=aA Gg
  go_wp2_with fail
  refine(uO W Zx).mono ?_
  rintro e w1 ⟨rfl,hb1⟩
  have HW2:=Hq (Zx.step hb1)
  have HG2:=Hq (au UD hb1)
  clear hb1 uO p0 p1 p2 p3 p4 p5 p6 p7 p8 p9 nT Zx Gg UD
  go_upto_region 5 with fail
  refine wp_at (λV hV=>?_)
  obtain rfl:=hV
  obtain⟨g6,hAr,aDm,aDh,⟨q0,q1,q2,q3⟩,_⟩:=HW2.reqRow i hil
  obtain⟨d0,d1,d2,d3,d4,d5,d6,d7,d8,d9⟩:=jE HW2.blk
  rw [hAr] at d8
  obtain⟨s0,s1,s2,s3⟩:=iE HG2
  have hw2:=aA HW2.blk
  have hg2:=aA HG2
  have aBS:(i:Int) < (n.reqs.length:Int):=Aaa
  generalize n.reqs[i]=lm at *
  obtain⟨ln,lk,lx,ls⟩:=lm
  dsimp only at q0 q1 q2 q3 aeu HSQ
  subst aeu
  have heq:=aBu ln lk k lx nn ls 0
  have hB:=ah HSQ
  generalize (lk.toList == k.toList&&decide (lx=nn)&&decide (ls=0))=B at *
  subst hB
  have y8:=cell_regrown d8
  have x0:=cell_regrown q0
  have x1:=cell_regrown q1
  have x2:=cell_regrown q2
  have x3:=cell_regrown q3
  have v0:=cell_regrown s0
  have v1:=cell_regrown s1
  have v2:=cell_regrown s2
  have v3:=cell_regrown s3
  clear d0 d1 d2 d3 d4 d5 d6 d7 d8 d9 q0 q1 q2 q3 s0 s1 s2 s3
  refine dx Aab ?_
  show gL _ _ _ _ 13 (Array.replicate 13 false) _ _
  refine tk [0,1,2,3,4,5,6,7,8,9,10,11,12] ?_
  iterate 13 (refine Ar (λK hK=>?_);go_simp;refine hK _ ?_;clear hK K)
  refine jJ ?_
  refine eX Aab (λV hV=>?_)
  have HW3:=Hq (HW2.step hV)
  clear hV HW2 HG2 y8 x0 x1 x2 x3 v0 v1 v2 v3 heq
  go_simp
  cases SQ
  all_goals
   go_wp2_with fail
   go_ret
   rw [ah HAD]
   exact⟨rfl,A,G,c,HW3⟩):P:=h
theorem apR.AdN(h:P:=by
 refine yG 4 8 rfl rfl Aab Aad Aad (λx hx=>?c1) (λx hx=>?c2)
 case' c1=>
  go_simp
  refine(clone k x Aaa).mono ?_
  rintro e y ⟨rfl,hby⟩
  refine⟨hby,?_⟩
  have HY:=Hq (Ge.trans hx hby)
  clear hx hby
  refine tk [7] ?_
  (refine uR (λK hK=>?_);go_simp;refine hK _ ?_;clear hK K)
  refine jJ ?_
  refine dU 8 rfl Aab Aad (λx2 hx2=>?_)
  go_simp
  refine⟨ay x2 _,?_⟩
  have hgl:z.heap.size<=x2.heap.size:=(Ge.trans HY hx2).size
  have Gd:=Hq (heap_alloc_new x2 (.cells (fA 0 ⟨#[]⟩ 0 0) 95))
  have uS:=Hq (Ge.trans (Ge.trans HY hx2) (ay x2 (.cells (fA 0 ⟨#[]⟩ 0 0) 95)))
  clear hx2 HY
  generalize x2.alloc (.cells (fA 0 ⟨#[]⟩ 0 0) 95)=y2 at *
  generalize x2.heap.size=g at *
  refine bC Aab (λz2 hz2=>?_)
  have ku:=Hq (au Gd hz2)
  have eT:=Hq (Ge.trans uS hz2)
  clear hz2 Gd uS
  have C9:=aA ku
  obtain⟨g0,g1,g2,g3⟩:=iE ku
  have f0:=aj ku 0
  have f1:=aj ku 1
  have f2:=aj ku 2
  have f3:=aj ku 3
  refine aH 9 rfl Aab Aad ?_
  go_simp
  refine wpAny_done Aab ?_
  go_simp
  go_upto_region 4 with fail
  refine wp_at (λW hW=>?_)
  have UD:Hid (W.heap[g]?=some (.cells (fA no k nn 0) 95 (0,0))):=Abu
  have iR:Hid (aI z W):=Abv
  clear hW ku eT C9 g0 g1 g2 g3 f0 f1 f2 f3
 case' c2=>
  go_simp
  refine⟨ay x _,?_⟩
  have hgl:z.heap.size<=x.heap.size:=hx.size
  have Gd:=Hq (heap_alloc_new x (.cells (fA 0 ⟨#[]⟩ 0 0) 95))
  have uS:=Hq (Ge.trans hx (ay x (.cells (fA 0 ⟨#[]⟩ 0 0) 95)))
  clear hx
  generalize x.alloc (.cells (fA 0 ⟨#[]⟩ 0 0) 95)=y2 at *
  generalize x.heap.size=g at *
  refine dU 4 rfl Aab Aad (λx2 hx2=>?_)
  go_simp
  refine(clone k x2 Aaa).mono ?_
  rintro e y3 ⟨rfl,hby⟩
  refine⟨hby,?_⟩
  have HGC:=Hq (au Gd (Ge.trans hx2 hby))
  have HBC:=Hq (Ge.trans uS (Ge.trans hx2 hby))
  clear hx2 hby Gd uS
  refine tk [7] ?_
  (refine uR (λK hK=>?_);go_simp;refine hK _ ?_;clear hK K)
  refine jJ ?_
  refine bC Aab (λz2 hz2=>?_)
  have ku:=Hq (au HGC hz2)
  have eT:=Hq (Ge.trans HBC hz2)
  clear hz2 HGC HBC
  have C9:=aA ku
  obtain⟨g0,g1,g2,g3⟩:=iE ku
  have f0:=aj ku 0
  have f1:=aj ku 1
  have f2:=aj ku 2
  have f3:=aj ku 3
  refine aH 9 rfl Aab Aad ?_
  go_simp
  refine wpAny_done Aab ?_
  go_simp
  go_upto_region 4 with fail
  refine wp_at (λW hW=>?_)
  have UD:Hid (W.heap[g]?=some (.cells (fA no k nn 0) 95 (0,0))):=Abu
  have iR:Hid (aI z W):=Abv
  clear hW ku eT C9 g0 g1 g2 g3 f0 f1 f2 f3
 all_goals
  have Zx:=Hq ((HZ.recol (c':=newC z.heap.size 9 c) (λx hx=>fq hx)).step iR)
  have hcg:newC z.heap.size 9 c g=9:=bJ hgl
  have Gg:=Hq (au Rt iR)
  have hgw:=aA UD
  have aBQ:g≠wb:=by have:=aA HZ.blk;omega
  clear HZ Rt iR
  obtain⟨⟨p0,p1,p2,p3,p4,p5,p6,p7,p8,p9,nT⟩,_⟩:=aM Gg
  have hpw:=aA Gg
  go_wp2_with fail
  refine(uO W _ Zx).mono ?_
  rintro e w1 ⟨rfl,hb1⟩
  have HW2:=Hq (Zx.step hb1)
  have qW:=Hq (au Gg hb1)
  have HG2:=Hq (au UD hb1)
  clear hb1 uO p0 p1 p2 p3 p4 p5 p6 p7 p8 p9 nT Zx Gg UD hgw
  go_upto_region 5 with fail
  refine wp_at (λV hV=>?_)
  obtain rfl:=hV
  refine dx Aab ?_
  show gL _ _ _ _ 13 (Array.replicate 13 false) _ _
  refine tk [0,1,2,3,4,5,6,7,8,9,10,11,12] ?_
  iterate 13 (refine Ar (λK hK=>?_);go_simp;refine hK _ ?_;clear hK K)
  refine jJ ?_
  refine eX Aab (λV hV=>?_)
  have HW3:=Hq (HW2.step hV)
  have YD:=Hq (au qW hV)
  have DY:=Hq (au HG2 hV)
  clear hV HW2 qW HG2
  obtain⟨c0,c1,c2,c3,c4,c5,c6,c7,c8,c9⟩:=jE HW3.blk
  obtain⟨⟨p0,p1,p2,p3,p4,p5,p6,p7,p8,p9,nT⟩,_⟩:=aM YD
  have hw3:=aA HW3.blk
  have hp3:=aA YD
  go_simp
  go_upto_region 10 with fail
  have y4:=cell_regrown c4
  have z2:=cell_regrown p2
  have z3:=cell_regrown p3
  clear c0 c1 c2 c3 c4 c5 c6 c7 c8 c9 p0 p1 p2 p3 p4 p5 p6 p7 p8 p9 nT
  refine dB 13 Aab ?_
  show eY _ _ _ _ _ 15 (Array.replicate 15 false) _ _
  refine tk [0,1,2,3,4,5,6,7,8,9] ?_
  iterate 10 (refine uR (λK hK=>?_);go_simp;refine hK _ ?_;clear hK K)
  refine jJ ?_
  clear y4 z2 z3
  refine dU 10 rfl Aab Aad (λx hx=>?_)
  go_simp
  have HX:=Hq (HW3.step hx)
  refine(Rf x _ HX).mono ?_
  rintro e y ⟨a,cp,g5,hg5,rfl,hp,hby⟩
  refine⟨hby,?_⟩
  have hgx:g < x.heap.size:=Nat.lt_of_lt_of_le (aA DY) hx.size
  have HGX:=Hq (au DY (Ge.trans hx hby))
  have HST:=Hq (λu (hu:Ge y u)=>VI (cp:=cp) HX (hby.trans (hu.mono hby.size)) hg5 (hp.below hu))
  clear hby hg5 hp Rf hx DY YD
  refine tk [11,12] ?_
  iterate 2 (refine uR (λK hK=>?_);go_simp;refine hK _ ?_;clear hK K)
  refine jJ ?_
  refine bC Aab (λu hu=>?_)
  refine aH 13 rfl Aab Aad ?_
  go_simp
  refine(HST u hu).mono ?_
  rintro e z9 ⟨rfl,A',G',c',hZ9,Vp,KP⟩
  have hc9:c' g=9:=(KP g hgx).trans hcg
  have HZ9:=Hq hZ9
  have HG9:=Hq (Vp g _ aBQ (au HGX hu))
  clear hZ9 HST hu Vp HGX HX HW3 KP hcg hgx
  obtain⟨rl,rb⟩:=r
  dsimp only at HZ9 HAD HRL ⊢
  refine aH 14 rfl Aab Aad ?_
  go_simp
  refine wpAny_done Aab ?_
  go_simp
  have h9l:=aA HG9
  obtain⟨s0,s1,s2,s3⟩:=iE HG9
  have sf3:=aj HG9 3
  cases rb
  .rw [if_neg Aac] at HZ9;have hrl:=ah HRL rfl;subst hrl;rw [if_neg Aac] at HAD;have al6:=Hq (HZ9.kc (k:=9) (KC.set (i:=3) (v:= .int .i64 1) hc9) Aaa);have alC:=Hq (azl (u:= .int .i64 1) HG9);clear HZ9;go_upto_region 12 with fail;refine wp_at (λY hY=>?_);have azT:Hid (WK w0 Y wb n A' G' c' v L):=by rw [hY];exact al6
   have alD:Hid (Y.heap[g]?=some (.cells (fA no k nn 1) 95 (0,0))):=by rw [hY];exact alC
   clear hY al6 alC HG9 s0 s1 s2 s3 sf3 h9l;have h9l:=aA alD;obtain⟨s0,s1,s2,s3⟩:=iE alD;have HKP:=Hq (ade w0 Y wb n A' G' c' v L ⟨no,k,nn,1⟩ i hil hlen azT);rw [ah HKN] at HKP;exact ahm
  .rw [if_pos rfl] at HZ9;rw [if_pos rfl] at HAD;have HKP:=Hq (ade w0 z9 wb (setPu n rl) A' G' c' v L ⟨no,k,nn,0⟩ i hil hlen HZ9);have hki:Cj (setPu n rl) ⟨no,k,nn,0⟩ i=qH (setPu n rl) ⟨no,k,nn,0⟩:=ah HKI rl 0;rw [hki] at HKP;clear hki;exact ahm):P:=h
theorem awG(h:P:=by
 go_wp2_with fail;rw [Jp];go_upto_if 20 with fail;go_cut [3] (λl wx=>l= .int .i64 gT/\W1=wx)
 case first=>
  by_cases hq:pf < most
  .rw [if_pos hq] at hc;subst hc;have q0:decide (pf < most)=true:=decide_eq_true hq;go_wp2_with fail;go_meet
   case rel=>exact⟨rfl,rfl⟩
  .rw [if_neg hq] at hc;subst hc;have q0:decide (pf < most)=false:=decide_eq_false hq;go_wp2_with fail;go_meet
   case rel=>exact⟨rfl,rfl⟩
 case rest=>
 obtain⟨rfl,rfl⟩:=hcut;clear hc;exact AeD):P:=h
theorem apS.AeD(h:P:=by
 go_upto_region 6 with fail;go_wp2_with fail;refine(HPT W1 yM.at.p).mono ?_;rintro e W2 ⟨v,rfl,hne,hrow,hb2⟩;obtain⟨av,cv,rfl,_⟩:=GR.own_at (enc:=gu) (sz:=4) aW hrow;have jO:=Hq (au kD hb2);have jA:=Hq (au qA hb2);have HB2:=Hq (HB1.trans (hb2.mono HB1.size));have Kg:=Hq (yM.kc (k:=9) (KC.of_below hb2) Aaa);have qW:=Hq hrow;have hbs:w.heap.size+1 < W1.heap.size:=hrl;generalize W1.heap.size=bs at *;clear hb2 hne hrow c0 c1 c2 c3 c4 c5 c6 c7 c8 hnl hrl HPT kD qA HB1 yM;have f4n:=aj jO 4;have c4n:=(nine jO).2.2.2.2.1;have hn2:=aA jO;go_upto_region 7 with fail;refine wp_at (λZ6 hZ=>?_);have nD:Hid (Z6.heap[w.heap.size]?=some (.cells (iD n.id n.par a_k n.kids.length aY n.next av RL.length cv fH n.out.length bE gG n.seen.length aZ n.old gM n.reqs.length bg) 40 (0,0))):=by rw [hZ];exact ow jO
 have lI:Hid (Z6.heap[w.heap.size+1]?=some (.cells iF 40 (0,0))):=by rw [hZ];exact jg jA Aaa
 have HN6:Hid (NQ Z6 B n (⟨a_k,(some ⟨gp,0,none⟩),fH,gG,gM,aY,dH,bE,aZ,bg⟩:bQ) G (newC w.heap.size 9 c)):=by rw [hZ];exact Kg.kc (k:=9) (KC.set (bJ (Nat.le_refl _))) Aaa
 have Zi:Hid (Z6.ownsRow bs 108 4 (.slice av RL.length cv) RL.length (GR.flat gu RL)):=by rw [hZ];exact dQ qW (aC.set _) (λy hy=>by have:y=w.heap.size:=Aar;omega)
 have yH:Hid (Below B w Z6):=by rw [hZ];exact(HB2.mono hB).setCell (p:=⟨w.heap.size,4,none⟩) hB _
 have YA:Hid (Apart c w Z6):=by rw [hZ];exact(Apart.of_below HB2).keeps HB2.size (aC.set _) (λy hy=>by have:y=w.heap.size:=Aar;omega)
 clear hZ jO jA Kg qW HB2 f4n c4n hn2;have c3n:=(nine nD).2.2.2.1;have hn6:=aA nD;go_upto_region 8 with fail;refine wp_at (λZ7 hZ=>?_)
 have HS7:Hid (Z7.heap[Z6.heap.size]?=some (.cells (gJ n.next dst key gT) 91 (0,0))):=by
  rw [hZ];exact heap_alloc_new Z6 _
 have uT:aI Z6 Z7:=by
  rw [hZ];exact ay Z6 _
 have qV:=Hq (au nD uT);have nU:=Hq (au lI uT);have HN7:=Hq (HN6.kc (k:=9) (KC.of_below uT) Aaa);have HP7:=Hq (GR.own_below Zi uT);have Gb:=Hq (yH.trans (uT.mono (Nat.le_trans hB yH.size)));have HK7:=Hq (YA.step yH.size uT);have hsb:w.heap.size+1 < Z6.heap.size:=aA lI;generalize Z6.heap.size=sb at *;clear hZ uT nD lI HN6 Zi yH YA c3n hn6;have c3n:=(nine qV).2.2.2.1;have f3n:=aj qV 3;have hn7:=aA qV;go_upto_region 9 with fail;refine wp_at (λZ8 hZ=>?_);have uN:Hid (Z8.heap[w.heap.size]?=some (.cells (iD n.id n.par a_k n.kids.length aY (n.next+1) av RL.length cv fH n.out.length bE gG n.seen.length aZ n.old gM n.reqs.length bg) 40 (0,0))):=by rw [hZ];exact ow qV
 have Gs:Hid (Z8.heap[w.heap.size+1]?=some (.cells iF 40 (0,0))):=by rw [hZ];exact jg nU Aaa
 have HS8:Hid (Z8.heap[sb]?=some (.cells (gJ n.next dst key gT) 91 (0,0))):=by rw [hZ];exact jg HS7 Aaa
 have HN8:Hid (NQ Z8 B n (⟨a_k,(some ⟨gp,0,none⟩),fH,gG,gM,aY,dH,bE,aZ,bg⟩:bQ) G (newC w.heap.size 9 c)):=by rw [hZ];exact HN7.kc (k:=9) (KC.set (bJ (Nat.le_refl _))) Aaa
 have HP8:Hid (Z8.ownsRow bs 108 4 (.slice av RL.length cv) RL.length (GR.flat gu RL)):=by rw [hZ];exact dQ HP7 (aC.set _) (λy hy=>by have:y=w.heap.size:=Aar;omega)
 have Yz:Hid (Below B w Z8):=by rw [hZ];exact Gb.setCell (p:=⟨w.heap.size,3,none⟩) hB _
 have HK8:Hid (Apart c w Z8):=by rw [hZ];exact HK7.keeps Gb.size (aC.set _) (λy hy=>by have:y=w.heap.size:=Aar;omega)
 clear hZ HK7 qV nU HN7 HP7 Gb HS7 c3n f3n hn7
 obtain⟨a6,c6,W9,hrun,abp,akp,akz⟩:∃a6 c6 W9,(Builtin.append_ #[36,36] 36 #[.slice fH n.out.length bE,.slice (some ⟨Z8.heap.size,0,none⟩) 1 1]).run prog (Z8.alloc (.cells (gJ n.next dst key gT) 91))= .ok (.slice a6 (n.out.length+1) c6) W9/\W9.ownsRow B 91 4 (.slice a6 (n.out.length+1) c6) (n.out.length+1) (GR.flat aS (n.out++[⟨n.next,dst,key,gT⟩]))/\(Z8.alloc (.cells (gJ n.next dst key gT) 91)).grownBy W9 (Value.slice fH n.out.length bE).ownBlock/\∀x,(Value.slice a6 (n.out.length+1) c6).ownBlock=some x->(Value.slice fH n.out.length bE).ownBlock=some x\/(Z8.alloc (.cells (gJ n.next dst key gT) 91)).heap.size<=x:=by
  obtain⟨hi,hz0,hz1,hz2⟩:=ah HI;obtain⟨v',w',hr,ho,hg,hw⟩:=iJ (P:=prog) (Z8.alloc (.cells (gJ n.next dst key gT) 91)) B 36 36 91 i0 (.agg (gJ 0 0 ByteArray.empty 0)) 4 40 underlying36 hi hz0 hz1 hz2 rfl Aae (.slice fH n.out.length bE) n.out.length (GR.flat aS n.out) (GR.own_below HN8.o (ay Z8 _)) ⟨Z8.heap.size,0,none⟩ 1 1 (aS ⟨n.next,dst,key,gT⟩) rfl (World.news_of_block (heap_alloc_new Z8 _)) (xR _) Aai Aaa (Nat.le_trans (Nat.le_trans hB Yz.size) (ay Z8 _).size);obtain⟨a6,c6,hv6,_⟩:=GR.own_at (enc:=aS) (sz:=4) (l:=n.out++[⟨n.next,dst,key,gT⟩]) bH (by rw [List.length_append,jh];exact ho);rw [List.length_append] at hv6;have hv7:v'= .slice a6 (n.out.length+1) c6:=hv6;subst hv7;exact⟨a6,c6,w',hr,by rw [jh];exact ho,hg,hw⟩
 have oN:=HN8.kc (k:=9) (KC.of_below (ay Z8 (.cells (gJ n.next dst key gT) 91))) Aaa;have k9:KC (newC w.heap.size 9 c) 3 (Z8.alloc (.cells (gJ n.next dst key gT) 91)) W9:=KC.grown akp oN.co;have hn9:∀x,w.heap.size<=x->newC w.heap.size 9 c x≠3:=λx hx=>by rw [bJ hx];omega
 have CU:=Hq (k9.obj (au uN (ay Z8 (.cells (gJ n.next dst key gT) 91))) (hn9 _ (Nat.le_refl _)));have oZ:=Hq (k9.obj (au Gs (ay Z8 (.cells (gJ n.next dst key gT) 91))) (hn9 _ Aaa));have Zt:=Hq (k9.obj (au HS8 (ay Z8 (.cells (gJ n.next dst key gT) 91))) (hn9 _ Aaa));have HB9:=Hq (k9.below (B:=B) (Yz.trans ((ay Z8 (.cells (gJ n.next dst key gT) 91)).mono (Nat.le_trans hB Yz.size))) oN.lo Aaa (Nat.le_trans (Nat.le_trans hB Yz.size) (ay Z8 _).size));have hZ8:w.heap.size+1 < Z8.heap.size:=aA Gs
 have iH:Hid (∀W',(∃F,aC F W9 W'/\∀y∈F,(y=w.heap.size\/y=w.heap.size+1)\/(y < w.heap.size/\6 < c y))->RM W' ⟨a_k,av,a6,gG,gM,aY,cv,c6,aZ,bg⟩ ⟨n.id,n.par,n.kids,n.next+1,RL,n.out++[⟨n.next,dst,key,gT⟩],n.seen,n.old,n.reqs⟩):=λW' hkF=>by
  obtain⟨F,hk,hF⟩:=hkF
  have kF:KC (newC w.heap.size 9 c) 9 W9 W':=KC.keeps hk (λy hy=>by
   rcases hF y hy with h1|h1
   .exact bJ Aaa
   .rw [fq h1.1];exact H9 y h1.2)
  have hr:=(kF.own (k9.own oN.r oN.cr Aaa) oN.cr Aaa)
  have hp:=(dQ (k9.own (j:=9) (GR.own_below HP8 (ay Z8 _)) (λx hx=>bJ (by have:=um HP8 hx;omega)) Aaa) hk (λy hy=>by
   have:=hF y hy
   omega))
  have ho:W'.ownsRow B 91 4 (.slice a6 (n.out++[(⟨n.next,dst,key,gT⟩:jK)]).length c6) (n.out++[(⟨n.next,dst,key,gT⟩:jK)]).length (GR.flat aS (n.out++[(⟨n.next,dst,key,gT⟩:jK)])):=(by
   rw [List.length_append]
   exact jm abp (λx hx=>by
    have hx9:=Bz abp hx
    refine hk.block x hx9 (λhm=>?_)
    have hm':=hF x hm
    rcases akz x hx with h1|h1
    .have h2:=oN.co x h1;rcases hm' with h3|h3
     .rw [bJ Aaa] at h2;cases h2
     .rw [fq h3.1] at h2;omega
    .have:=(ay Z8 (.cells (gJ n.next dst key gT) 91)).size
     omega))
  have hp9:∀g,av.map (λy=>y.block)=some g->6 < newC w.heap.size 9 c g:=λg hg=>by
   have h1:=um hp (rO hp hg)
   rw [bJ Aaa]
   omega
  have ho9:∀x,(Value.slice a6 (n.out++[(⟨n.next,dst,key,gT⟩:jK)]).length c6).ownBlock=some x->(Value.slice fH n.out.length bE).ownBlock=some x\/(Z8.alloc (.cells (gJ n.next dst key gT) 91)).heap.size<=x:=λx hx=>by
   rw [List.length_append] at hx
   exact akz x hx
  have hz9:(Z8.alloc (.cells (gJ n.next dst key gT) 91)).heap.size=Z8.heap.size+1:=Aac
  exact RM.of (n:=⟨n.id,n.par,n.kids,n.next+1,RL,n.out++[⟨n.next,dst,key,gT⟩],n.seen,n.old,n.reqs⟩) (A:=⟨a_k,av,a6,gG,gM,aY,cv,c6,aZ,bg⟩) (c:=newC w.heap.size 9 c) (kF.w (k9.w oN.k oN.ck Aaa) oN.ck Aaa) oN.ck (kF.seenQ (k9.seenQ oN.sq oN.c4 oN.ci Aaa Aaa) oN.c4 oN.ci Aaa Aaa) oN.c4 oN.ci oN.ni
   (GR.own_ati aW hp) (λg hg _=> .inr (hp9 g hg)) ho (λx hx=>by
    rcases ho9 x hx with h1|h1
    .exact .inl (oN.co x h1)
    .refine .inr ?_;rw [bJ Aaa]
     omega) hr (λx hx=> .inl (oN.cr x hx))
   (λg hg _ h6=>⟨λe=>by
    rcases ho9 g e with h1|h1
    .have:=oN.co g h1;omega
    .have h2:=Bz HP8 (rO HP8 hg)
     omega,λe=>by have:=oN.cr g e;omega⟩) (λx hx h6 e=>by have:=oN.cr x e;omega)
 have HK9:=Hq ((HK8.step Yz.size (ay Z8 (.cells (gJ n.next dst key gT) 91))).grown (Nat.le_trans Yz.size (ay Z8 _).size) akp (λx hx hlt=>by
  have h1:=oN.co x hx
  rw [fq hlt] at h1
  omega))
 have Zk:=Hq hrun;clear hrun abp akp akz oN k9 hn9 HP8 HN8 Yz HK8;have c5n:=(nine uN).2.2.2.2.2.1;obtain⟨s0,s1,s2,s3⟩:=iE HS8;have c5w:=(nine CU).2.2.2.2.2.1;have f5w:=aj CU 5;have hn8:=aA uN;have hs8:=aA HS8;go_upto_region 10 with(at_builtin;refine fZ rfl _ _ 36 rfl _ _ rfl rfl _ _ Zk ?_)
 refine wp_at (λZ9 hZ=>?_);have Nv:Hid (Z9.heap[w.heap.size]?=some (.cells (iD n.id n.par a_k n.kids.length aY (n.next+1) av RL.length cv a6 (n.out.length+1) c6 gG n.seen.length aZ n.old gM n.reqs.length bg) 40 (0,0))):=by rw [hZ];exact ow CU
 have ajn:Hid (Z9.heap[w.heap.size+1]?=some (.cells iF 40 (0,0))):=by rw [hZ];exact jg oZ Aaa
 have ajo:Hid (Z9.heap[sb]?=some (.cells (gJ n.next dst key gT) 91 (0,0))):=by rw [hZ];exact jg Zt Aaa
 have Gl:Hid (∀W' W'',aC [w.heap.size+1] Z9 W'->Out c w W' W''->RM W'' ⟨a_k,av,a6,gG,gM,aY,cv,c6,aZ,bg⟩ ⟨n.id,n.par,n.kids,n.next+1,RL,n.out++[⟨n.next,dst,key,gT⟩],n.seen,n.old,n.reqs⟩):=λW' W'' hk ho=>by
  obtain⟨F,hk2,hF⟩:=ho
  refine iH W'' ⟨w.heap.size::(w.heap.size+1)::F,aC.trans (b:=Z9) (by rw [hZ];exact(aC.set _).mono (λx hx=>Aaz)) (aC.trans (hk.mono (λx hx=>Aaz)) (hk2.mono (λx hx=>Aaj))),λy hy=>?_⟩
  rcases List.mem_cons.1 hy with h1|h1
  .exact .inl (.inl h1)
  .rcases List.mem_cons.1 h1 with h2|h2
   .exact .inl (.inr h2)
   .exact .inr (hF y h2)
 have sV:Hid (Below B w Z9):=by rw [hZ];exact HB9.setCell (p:=⟨w.heap.size,5,none⟩) hB _
 have HKZ:Hid (Apart c w Z9):=by rw [hZ];exact HK9.keeps HB9.size (aC.set _) (λy hy=>by have:y=w.heap.size:=Aar;omega)
 clear hZ HK9 iH Zk CU oZ Zt HB9 c5n s0 s1 s2 s3 c5w f5w hn8 hs8 uN Gs HS8 hZ8;have HNV:Hid (gB ⟨n.id,n.par,n.kids,n.next+1,RL,n.out++[⟨n.next,dst,key,gT⟩],n.seen,n.old,n.reqs⟩ ⟨a_k,av,a6,gG,gM,aY,cv,c6,aZ,bg⟩= .agg (iD n.id n.par a_k n.kids.length aY (n.next+1) av RL.length cv a6 (n.out.length+1) c6 gG n.seen.length aZ n.old gM n.reqs.length bg)):=by unfold Hid;simp[gB,dG]
 have Gq:Hid (∀x,Ge Z9 x->Calls prog 149 #[.agg (iD n.id n.par a_k n.kids.length aY (n.next+1) av RL.length cv a6 (n.out.length+1) c6 gG n.seen.length aZ n.old gM n.reqs.length bg),.agg (gJ n.next dst key gT)] x (eG x (nK PM))):=λx hx=>by
  have h1:=VL ⟨n.id,n.par,n.kids,n.next+1,RL,n.out++[⟨n.next,dst,key,gT⟩],n.seen,n.old,n.reqs⟩ ⟨a_k,av,a6,gG,gM,aY,cv,c6,aZ,bg⟩ ⟨n.next,dst,key,gT⟩ x Aag (GR.At.below (Gl Z9 Z9 (aC.refl _ _) Out.refl).at.o hx)
  rw [ah HPM,ah HNV] at h1
  exact h1
 obtain⟨qK,qF,qT,qI,qL,qk,qN⟩:=PM;unfold nK at Gq
 have DX:Hid (∀W' mb,aC [w.heap.size+1] Z9 W'->W'.heap[mb]?=some (.cells (bV qK qF qT qI qL qk qN) 98 (0,0))->w.heap.size<=mb->(∀W'',Out c w W' W''->RM W'' ⟨a_k,av,a6,gG,gM,aY,cv,c6,aZ,bg⟩ ⟨n.id,n.par,n.kids,n.next+1,RL,n.out++[⟨n.next,dst,key,gT⟩],n.seen,n.old,n.reqs⟩)/\(∀W'',Out c w W' W''->GR.At lK 7 W'' (some ⟨mb,0,none⟩) [⟨qK,qF,qT,qI,qL,qk,qN⟩])/\Below B w W'/\Apart c w W'):=λW' mb hk hm hmb=>by
  refine⟨λW'' ho=>Gl W' W'' hk ho,λW'' ho i hi=>?_,sV.trans (hk.below (λx hx=>by have:x=w.heap.size+1:=Aaf;omega) (Nat.le_trans hB sV.size)),HKZ.keeps sV.size hk (λx hx=>by have:x=w.heap.size+1:=Aaf;omega)⟩
  obtain⟨F,hk2,hF⟩:=ho
  have hm2:=hk2.obj hm (λhx=>by have:=(hF mb hx).1;omega)
  refine⟨mb,0,rfl,aA hm2,λj hj=>?_⟩
  have hi0:i=0:=Abw
  subst hi0
  have h1:=cell_of_row W'' mb (0+(0*7+j)) _ _ (0,0) hm2
  rw [h1]
  simp[lK]
 clear Gl sV HKZ HPM;obtain⟨c0,c1,c2,c3,c4,c5,c6,c7,c8⟩:=nine Nv;obtain⟨s0,s1,s2,s3⟩:=iE ajo;open am6 in exact Wp):P:=h
theorem apT.AeD(h:P:=by
 go_upto_region 5 with fail;go_wp2_with fail;have M8:=Hq (yM.kc (k:=9) (KC.of_below (ay W1 (.cells #[] 98))) Aaa);have uS:=Hq (HB1.trans ((ay W1 (.cells #[] 98)).mono HB1.size));refine aO (λW' hW'=>?_)
 have e4:W'.heap[w.heap.size+1]?=some (.cells (dG n A) 40 (0,0)):=by
  exact aat
 have fP:aC [w.heap.size+1] (W1.alloc (.cells #[] 98)) W':=by
  rw [hW'];exact aT (dG n A).toList (W1.alloc (.cells #[] 98)) 0
 have HAT:=Hq (λW'' (ho:Out c w W' W'')=>(M8.kc (k:=9) ((KC.keeps fP (λx hx=>by have:x=w.heap.size+1:=Aaf;rw [this];exact bJ Aaa)).trans (KC.out H9 ho)) Aaa).rm);have oh:Hid (Below B w W'):=(uS.mono hB).trans (fP.below (λx hx=>by have:x=w.heap.size+1:=Aaf;omega) (Nat.le_trans hB (uS.mono hB).size));have sZ:=Hq (Apart.keeps (c:=c) (Apart.of_below uS) (uS.mono hB).size fP (λx hx=>by have:x=w.heap.size+1:=Aaf;omega));obtain⟨x0,x1,x2,x3,x4,x5,x6,x7,x8⟩:=nine e4;clear hW' e4 fP;exact bodyPost_ret (v:= .tuple #[(gB n A),.slice (some ⟨W1.heap.size,0,none⟩) 0 0,.int .i64 1]) Ade rfl ⟨A,some ⟨W1.heap.size,0,none⟩,0,rfl,HAT,λW'' _ i hi=>Aas,oh,sZ⟩):P:=h
theorem aak(h:P:=by
 have hke:k=out.length:=Aaa
 subst hke;have hnlt:decide ((out.length:Int) < (out.length:Int))=false:=Aac
 exact Aa0):P:=h
theorem apU.Aa0(h:P:=by
 have HOF:Hid (TT=gU RQ RR reqs):=by
  have h:=ah kS;rw [List.take_length] at h;rw [ah HTT,h];rfl
 clear Nn DW wT HOT;go_wp2_with fail;go_loopw [5] (λi wr=>∃k:Nat,k<=reqs.length/\i= .int .i64 k/\gU RQ RR (reqs.take k)=true/\wr.heap[w.heap.size]?=some (.cells (dG ⟨id,par,kids,next,pu,out,seen,old,reqs⟩ ⟨ak,ap,ao,as',ar,ck,cp,co,cs,cr⟩) 40 (0,0))/\aI w wr) (λi _=>reqs.length - (intOf i).toNat)
 case atStart=>exact⟨0,Nat.zero_le _,rfl,rfl,Gc,cK⟩
 case round=>
  open aqB in exact adP):P:=h
theorem apV.Aa0(h:P:=by
 exact ajZ):P:=h
theorem apW.Aa0(h:P:=by
 have HRS:Hid (L=(out.take out.length).map PM):=by
  rw [ah Nw,List.take_length];cases hOK:OK
  .rcases Nat.eq_zero_or_pos out.length with h|h
   .rw [List.eq_nil_of_length_eq_zero h];rfl
   .exact absurd (hpos h) (by rw [hOK];simp)
  .rfl
 clear hpos;go_wp2_with fail;go_ret;rw [ah HRS];exact Au.of_own Aac HO Aaa HW):P:=h
theorem apX.Aa0(h:P:=by
 have HF:=Hq (Dq HN);go_wp2_with fail;go_ret;exact⟨Mf HF.symm,ay w _⟩):P:=h
theorem apY.Aa0(h:P:=by
 have hyy:=ah Dq HN;clear HLY yI Dq;subst hyy;go_upto_region 8 with fail;refine wp_at (λW3 hW3=>?_);have hbw:aI wr W3:=by rw [hW3];exact Below.refl _ _
 open aoR in exact awo):P:=h
theorem awH(h:P:=by
 have HF:=Hq hf;have ajg:=Hq (Vq mp mb n0 _ G ⟨pk,qm,qf,qs⟩ w6 hkey hn0 Gi.blk Gi.map);have Zi:=Hq Gi;obtain⟨⟨p0,p1,p2,p3⟩,_⟩:=fT akx;clear hf Gi akx;go_wp2_with fail;refine ajg.mono ?_;rintro e w7 ⟨rfl,hm7,hk7⟩;have HP7:=Hq (Zi.turned hk7 hm7);have Gb:=Hq (yH.trans (Ck hk7 Zi.lom (Nat.le_trans hB yH.size)));clear hm7 hk7 p0 p1 p2 p3;go_wp2_with fail;go_ret;exact AcS):P:=h
theorem apZ.AcS(h:P:=by
 exact⟨Gb,.inr ⟨.inr h20,rfl,_,HP7⟩⟩):P:=h
theorem ap0.AcS(h:P:=by
 exact⟨Gb,.inr ⟨.inl HF,rfl,_,HP7⟩⟩):P:=h
theorem R4(h:P:=by
 obtain⟨k,hk,rfl,hB,hbel⟩:=hrel;have HB:=Hq hB;have cK:=Hq hbel;clear hB hbel hmk;exact AaT):P:=h
theorem ap1.AaT(h:P:=by
 by_cases hlt:k < l.length
 .obtain⟨g,off,rfl,hgw,q0,q1,q2,q3⟩:=aG.four (GR.At.below HA cK) k hlt;have TS:=Hq (Cr l ⟨ByteArray.empty,0,0,0⟩ k hlt);generalize l[k]=pu at *;obtain⟨pk,pm,pf,ps⟩:=pu;dsimp only at q0 q1 q2 q3;have hln:(l.take k++List.replicate (l.length - k) (⟨ByteArray.empty,0,0,0⟩:Pu)).length=l.length:=Aag
  go_wp2_with fail;refine(ae9 ⟨pk,pm,pf,ps⟩ _).mono ?_;rintro e w5 ⟨rfl,hb5⟩;have gY:=Hq (Kv HB hb5);have fG:=Hq (cK.trans (hb5.mono cK.size));clear hb5 q0 q1 q2 q3;exact axw
 .exact R6):P:=h
theorem ap2.AaT(h:P:=by
 by_cases hlt:k < l.length
 .obtain⟨g,off,rfl,hgw,q0⟩:=bX.one (GR.At.below HA cK) k hlt;have TS:=Hq (Yl l 0 k hlt);generalize l[k]=pu at *;have hln:(l.take k++List.replicate (l.length - k) (0:Int)).length=l.length:=Aag
  have s0:=lQ.one HB k Aaa;have f0:=GR.Blk.free HB k;go_wp2_with fail;first|go_region|skip
  go_roundw
  case rel=>
   have h:=GR.Blk.set HB aQ k Aaa pu;rw [ah TS] at h;have h2:=GR.setW_below (o:=k*1) (Nat.le_refl w.heap.size) (aU pu) cK;rw [Nat.mul_one] at h h2;exact⟨k+1,Aaa,Aah,h,h2⟩
  case measure=>simp[intOf];omega
 .exact R6):P:=h
theorem ap3.AaT(h:P:=by
 by_cases hlt:k < l.length
 .obtain⟨g,off,rfl,hgw,q0,q1,q2,q3⟩:=SentAt.four (GR.At.below HA cK) k hlt;have TS:=Hq (MQ l ⟨0,0,ByteArray.empty,0⟩ k hlt);generalize l[k]=pu at *;obtain⟨pi,pt,pk,pn⟩:=pu;dsimp only at q0 q1 q2 q3;have hln:(l.take k++List.replicate (l.length - k) (⟨0,0,ByteArray.empty,0⟩:jK)).length=l.length:=Aag
  go_wp2_with fail;refine(ak5 ⟨pi,pt,pk,pn⟩ _).mono ?_;rintro e w5 ⟨rfl,hb5⟩;have gY:=Hq (lJ.step HB hb5);have fG:=Hq (cK.trans (hb5.mono cK.size));clear hb5 q0 q1 q2 q3;obtain⟨s0,s1,s2,s3⟩:=lJ.four gY k Aaa;open as9 in exact ZQ
 .exact R6):P:=h
theorem ap4.AaT(h:P:=by
 by_cases hlt:k < l.length
 .obtain⟨g,off,rfl,hgw,q0,q1,q2,q3⟩:=fU.four (GR.At.below HA cK) k hlt;have TS:=Hq (QT l ⟨0,ByteArray.empty,0,0⟩ k hlt);generalize l[k]=pu at *;obtain⟨pno,pk,pn,ps⟩:=pu;dsimp only at q0 q1 q2 q3;have hln:(l.take k++List.replicate (l.length - k) (⟨0,ByteArray.empty,0,0⟩:Rq)).length=l.length:=Aag
  go_wp2_with fail;refine(azp ⟨pno,pk,pn,ps⟩ _).mono ?_;rintro e w5 ⟨rfl,hb5⟩;have gY:=Hq (pz.step HB hb5);have fG:=Hq (cK.trans (hb5.mono cK.size));clear hb5 q0 q1 q2 q3;obtain⟨s0,s1,s2,s3⟩:=pz.four gY k Aaa;open as8 in exact ZQ
 .exact R6):P:=h
theorem ap5.AaT(h:P:=by
 by_cases hlt:k < l.length
 .obtain⟨g,off,rfl,hgw,q0,q1,q2,q3,q4,q5,q6,q7,q8,q9,q10,q11⟩:=lG (GR.At.below HA cK) k hlt;have TS:=Hq (J3 l ⟨⟨0,0,ByteArray.empty,0,⟨0,0,0,0,0,ByteArray.empty,0⟩⟩,0⟩ k hlt);generalize l[k]=pu at *;have Ni:=Hq (λw1=>acY pu w1);obtain⟨⟨oK,PW,ok,on,⟨mK,mF,mT,mI,mL,mk,mN⟩⟩,ac⟩:=pu;dsimp only at q0 q1 q2 q3 q4 q5 q6 q7 q8 q9 q10 q11;have hln:(l.take k++List.replicate (l.length - k) (⟨⟨0,0,ByteArray.empty,0,⟨0,0,0,0,0,ByteArray.empty,0⟩⟩,0⟩:An)).length=l.length:=Aag
  open avx in exact agW
 .exact R6):P:=h
theorem ap6.AaT(h:P:=by
 by_cases hlt:k < l.length
 .obtain⟨g,off,rfl,hgw,q0,q1,q2,q3,q4,q5,q6⟩:=qC (GR.At.below HA cK) k hlt;have TS:=Hq (J3 l ⟨0,0,0,0,0,ByteArray.empty,0⟩ k hlt);generalize l[k]=pu at *;have Ni:=Hq (λw1=>ai0 pu w1);obtain⟨mK,mF,mT,mI,mL,mk,mN⟩:=pu;dsimp only at q0 q1 q2 q3 q4 q5 q6;have hln:(l.take k++List.replicate (l.length - k) (⟨0,0,0,0,0,ByteArray.empty,0⟩:Mg)).length=l.length:=Aag
  open avw in exact agW
 .exact R6):P:=h
theorem ap7.AaT(h:P:=by
 by_cases hlt:k < l.length
 .obtain⟨g,cap',ev,hgl,hgw⟩:=HR.form Aaa;have ea:a=some ⟨g,0,none⟩:=by injection ev
  subst ea;have c0:∀(_:k < l.length),Hid True:=λ_=>trivial
  clear c0 ev;have hcl:_:=cK.cell (p:=⟨g,k,none⟩) hgw;have hce:=HR.cellAt k Aaa;have hck:w.cell? ⟨g,k,none⟩=some (.string l[k].k):=by rw [hce];simp[hlt]
  rw [hck] at hcl;clear hce hck;have TS:=Hq (Cr l ⟨ByteArray.empty,0,0,0⟩ k hlt);have hkk:=ah Ro l[k] (List.getElem_mem hlt);have hgk:=ah HG l[k] (List.getElem_mem hlt);have aki:=HH.below cK;generalize l[k]=pu at *;have Nq:=Hq (Le mp mb n _ G pu.k wr hkk aki.blk aki.map);rw [hgk] at Nq;have nS:=Hq (λw1=>EH pu w1 hkk);clear hkk hgk aki;obtain⟨pk,pm,pf,ps⟩:=pu;dsimp only at hcl;have hln:(l.take k++List.replicate (l.length - k) (⟨ByteArray.empty,0,0,0⟩:Pu)).length=l.length:=Aag
  go_wp2_with fail;refine Nq.mono ?_;rintro e w4 ⟨rfl,hb4⟩;have nR:=Hq (Kv HB hb4);have DJ:=Hq (cK.trans (hb4.mono cK.size));clear hb4 Nq;go_wp2_with fail;refine(nS _).mono ?_;rintro e w5 ⟨rfl,hb5⟩;have gY:=Hq (Kv nR hb5);have fG:=Hq (DJ.trans (hb5.mono DJ.size));clear hb5;exact axw
 .exact R6):P:=h
theorem aal(h:P:=by
 go_wp2_with fail;refine H.mono ?_;rintro e w1 ⟨v,rfl,hv,hown,hb⟩;have HV:=Hq hv;have HO:=Hq hown;have HB:=Hq hb;clear hown hb hv;go_wp2_with fail;exact Aa7):P:=h
theorem ap8.Aa7(h:P:=by
 exact bodyPost_ret (v:= .tuple #[v,.bool r.2]) (by simp[results,results148,go_sem]) rfl ⟨v,rfl,HV,HO,HB⟩):P:=h
theorem ap9.Aa7(h:P:=by
 exact bodyPost_ret (v:= .tuple #[v,.bool r.2]) (by simp[results,results147,go_sem]) rfl ⟨v,rfl,HV,HO,HB⟩):P:=h
theorem aqa.Aa7(h:P:=by
 exact bodyPost_ret (v:= .tuple #[v,.bool r.2]) (by simp[results,results152,go_sem]) rfl ⟨v,rfl,HV,HO,HB⟩):P:=h
theorem aqb.Aa7(h:P:=by
 exact bodyPost_ret (v:= .tuple #[v,.bool r.2]) (by simp[results,results184,go_sem]) rfl ⟨v,rfl,HV,HO,HB⟩):P:=h
theorem aqc.Aa7(h:P:=by
 exact bodyPost_ret (v:= .tuple #[v,.bool r.2]) (by simp[results,results106,go_sem]) rfl ⟨v,rfl,HV,HO,HB⟩):P:=h
theorem Gu(h:P:=by
 clear hr;go_in
 go_upto_region 11 with fail;refine wp_at (λV hV=>?_);exact AaQ):P:=h
theorem aqd.AaQ(h:P:=by
 have hblk:V.heap[w.heap.size]?=some (.cells (bV 2 F T I 0 ByteArray.empty 0) 98 (0,0)):=by rw [hV,Below.heap_alloc _ _ _ Aac];exact heap_alloc_new w _
 open aAc in exact Yk5):P:=h
theorem aqe.AaQ(h:P:=by
 have hblk:V.heap[w.heap.size]?=some (.cells (bV 2 F T I 0 ByteArray.empty N) 98 (0,0)):=by rw [hV,Below.heap_alloc _ _ _ Aac];exact heap_alloc_new w _
 open aAd in exact Yk5):P:=h
theorem aqf.AaQ(h:P:=by
 have hblk:V.heap[w.heap.size]?=some (.cells (bV 2 F T I L k N) 98 (0,0)):=by rw [hV,Below.heap_alloc _ _ _ Aac];exact heap_alloc_new w _
 open aAf in exact Yk5):P:=h
theorem aqg.AaQ(h:P:=by
 have hblk:V.heap[w.heap.size]?=some (.cells (bV 2 F T I L k N) 98 (0,0)):=by rw [hV,Below.heap_alloc _ _ _ Aac];exact heap_alloc_new w _
 open aof in exact Wq):P:=h
theorem aqh.AaQ(h:P:=by
 have hblk:V.heap[w.heap.size]?=some (.cells (bV 1 F T I L k N) 98 (0,0)):=by rw [hV,Below.heap_alloc _ _ _ Aac];exact heap_alloc_new w _
 open aog in exact Wq):P:=h
theorem aqi.AaQ(h:P:=by
 have hblk:V.heap[w.heap.size]?=some (.cells (bV 1 F T I L k N) 98 (0,0)):=by rw [hV,Below.heap_alloc _ _ _ Aac];exact heap_alloc_new w _
 open aoh in exact Wq):P:=h
theorem aqj.AaQ(h:P:=by
 have hblk:V.heap[w.heap.size]?=some (.cells (bV 0 F T 0 0 k N) 98 (0,0)):=by rw [hV,Below.heap_alloc _ _ _ Aac];exact heap_alloc_new w _
 open aAm in exact Yk9):P:=h
theorem aqk.AaQ(h:P:=by
 have hblk:V.heap[w.heap.size]?=some (.cells (bV 0 F T 0 L k N) 98 (0,0)):=by rw [hV,Below.heap_alloc _ _ _ Aac];exact heap_alloc_new w _
 open aAn in exact Yk9):P:=h
theorem aql.AaQ(h:P:=by
 have hblk:V.heap[w.heap.size]?=some (.cells (bV 0 F T I L k N) 98 (0,0)):=by rw [hV,Below.heap_alloc _ _ _ Aac];exact heap_alloc_new w _
 open aAo in exact Yk9):P:=h
theorem aqm.AaQ(h:P:=by
 have hblk:V.heap[w.heap.size]?=some (.cells (bV 0 F T I L k N) 98 (0,0)):=by rw [hV,Below.heap_alloc _ _ _ Aac];exact heap_alloc_new w _
 open aoi in exact Wq):P:=h
theorem awI(h:P:=by
 obtain⟨i,hi,hcmp⟩:=Option.map_eq_some_iff.1 Is.comp;obtain⟨j,hj,hjs⟩:=Option.map_eq_some_iff.1 Is.size;have h8:= @run_callFunc_extern prog 292 _ Extern.ReflectliteType.typeOf func292 Aab Aab Aab Aab;have h32:= @run_callFunc_extern prog 350 _ Is.cmp func350 Aab Aab Aab Aab;have tT:=Is.typeOf;have cT:=Is.comparable;have mR:=Is.methodComparable;exact Adx):P:=h
theorem aqn.Adx(h:P:=by
 have nE:=Is.noIs;have uE:=Is.noUnwrap;have vE:=Is.noUnwraps;have heq:=run_eql_iface_ptr_other (P:=prog) w underlying242 underlying372 hi hcmp hj (by rw [hjs];decide) hne ha hb;exact ah4):P:=h
theorem aqo.Adx(h:P:=by
 have heq:=run_eql_iface_ptr_same (P:=prog) w a underlying242 underlying372 hi hcmp hj;exact ah4):P:=h
theorem ajH(h:P:=by
 refine Cz 0 rfl Aab Aab Aab (λ_ _ _ _ h=>h) (λK hK=>?_);go_simp
 first
  |(refine hK _ ?_;clear hK K)
  |(apply Exists.intro
    refine⟨λ_=>rfl,hK _ ?_⟩
    clear hK K)
 exact AbR):P:=h
theorem aqp.AbR(h:P:=by
 refine qR 7 ?_;refine tk [1,2,3,4,5] ?_;iterate 5 (refine uR (λK hK=>?_);go_simp;refine hK _ ?_;clear hK K)
 refine jJ ?_;clear y9 z0 z1 z2 z3 z4 z5 z6;refine dU 6 rfl Aab Aad (λx hx=>?_);go_simp;refine⟨ay x _,?_⟩;have Jf:=Hq ((HSW.step hx).step (ay x (.cells (bV mK mF mT mI mL mk mN) 98)));have iH:=Hq (heap_alloc_new x (.cells (bV mK mF mT mI mL mk mN) 98));have hbs:w0.heap.size<=x.heap.size:=(HSW.step hx).keep.size;clear hx HSW HXW iR HS;generalize x.alloc (.cells (bV mK mF mT mI mL mk mN) 98)=y at *;refine bC Aab (λz hz=>?_);have uV:=Hq (Jf.step hz);have Gl:=Hq (au iH hz);clear hz Jf iH;refine aH 7 rfl Aab Aad ?_;refine og z (.tmp 12) (.tmp 14) 41 rfl w0.heap.size 98 i0 (.agg (bV 0 0 0 0 0 ByteArray.empty 0)) 7 64 underlying41 hi hz0 hz1 hz2 rfl Aae (.slice va L.length vc) L.length (GR.flat lK L) Aal uV.m ⟨x.heap.size,0,none⟩ 1 1 (lK ⟨mK,mF,mT,mI,mL,mk,mN⟩) Aal rfl (World.news_of_block Gl) (OI _) Aai Aaa uV.keep.size ?_;intro v6 w6 hown6 qx O3;obtain⟨va6,vc6,hv6,_⟩:=GR.own_at (enc:=lK) (sz:=7) (l:=L++[⟨mK,mF,mT,mI,mL,mk,mN⟩]) qE (by rw [List.length_append,jh];exact hown6);rw [List.length_append] at hv6;have hv7:v6= .slice va6 (L.length+1) vc6:=hv6;subst hv7;clear hv6;obtain⟨hb6,hS6⟩:=uV.app ⟨mK,mF,mT,mI,mL,mk,mN⟩ hown6 qx O3;have HS6:=Hq hS6;obtain⟨k0,k1,k2,k3,k4,k5,k6,k7,k8,k9⟩:=jE hb6;have kf:=aj hb6 9;clear hown6 qx O3 hb6 hS6 uV Gl;refine aH 8 rfl Aab Aad ?_;go_simp;refine aH 9 rfl Aab Aad ?_;go_simp;refine aH 10 rfl Aab Aad ?_;go_simp;refine wpAny_done Aab ?_;go_simp;go_wp2_with fail;exact bodyPost_end (v:= .tuple #[]) (by simp[results,results215,go_sem]) rfl ⟨rfl,_,_,HS6⟩):P:=h
theorem aqr.AbR(h:P:=by
 refine qR 9 ?_;refine tk [1,2,3,4,5,6,7] ?_;iterate 7 (refine uR (λK hK=>?_);go_simp;refine hK _ ?_;clear hK K)
 refine jJ ?_;clear y8 z0 z1 z2 z3;refine dU 8 rfl Aab Aad (λx hx=>?_);go_simp;refine⟨ay x _,?_⟩;have HX:=Hq ((HW1.step hx).step (ay x (.cells (fA q.no q.k q.n q.s) 95)));have HN:=Hq (heap_alloc_new x (.cells (fA q.no q.k q.n q.s) 95));have HRL:=Hq (show∀y,(Value.slice A.r n.reqs.length A.cr).ownBlock=some y->x.heap.size≠y from λy hy=>by have:=((HW1.step hx).no.r.lt y hy).2;omega);clear hx HW HW1 yO;generalize x.alloc (.cells (fA q.no q.k q.n q.s) 95)=x1 at *;refine bC Aab (λu hu=>?_);have HU:=Hq (HX.step hu);have HNU:=Hq (au HN hu);clear hu HX HN;refine aH 9 rfl Aab Aad ?_;go_simp;refine(akK w0.heap.size A.r A.cr i n.reqs q x.heap.size u Aaa hi HU.keep.size HU.no.r HNU HRL).mono ?_;rintro e w6 ⟨a6,c6,rfl,hown6,qx,O3⟩;obtain⟨hb6,YL⟩:=HU.reqPut hown6 qx O3;have UO:=Hq YL;obtain⟨k0,k1,k2,k3,k4,k5,k6,k7,k8,k9⟩:=jE hb6;have kf:=aj hb6 8;have hw6:=aA hb6;clear hown6 qx O3 hb6 YL HU HNU HRL;rw [hlen] at UO ⊢;refine aH 10 rfl Aab Aad ?_;go_simp;refine aH 11 rfl Aab Aad ?_;go_simp;refine aH 12 rfl Aab Aad ?_;go_simp;refine aH 13 rfl Aab Aad ?_;go_simp;refine wpAny_done Aab ?_;go_simp;go_upto_region 2 with fail;refine wp_at (λV hV=>?_);have HV:Hid (WK w0 V wb (eO n (pQ n.reqs i q)) ⟨A.k,A.p,A.o,A.s,a6,A.ck,A.cp,A.co,A.cs,c6⟩ G (newC u.heap.size 6 c) v L):=by rw [hV];exact UO
 clear hV UO k0 k1 k2 k3 k4 k5 k6 k7 k8 k9 kf hw6;have hl2:(eO n (pQ n.reqs i q)).reqs.length=n.reqs.length+1:=hlen;obtain⟨d0,d1,d2,d3,d4,d5,d6,d7,d8,d9⟩:=jE HV.blk;rw [hl2] at d8;have hVl:=aA HV.blk;by_cases aiP:30 < n.reqs.length+1
 case' neg=>
  have hm2:¬((30:Int) < (n.reqs.length:Int)+1):=Aaa
  have HK:=Hq (show Cj n q i=eO n (pQ n.reqs i q) by unfold Cj;rw [hlen,if_neg aiP]);go_wp2_with fail;exact bodyPost_end (v:= .tuple #[]) (by simp[results,results213,go_sem]) rfl ⟨rfl,_,_,_,by rw [ah HK];exact HV⟩
 have hm2:(30:Int) < (n.reqs.length:Int)+1:=Aaa
 obtain⟨g,hAr,hgw,hgl,⟨q0,_,_,_⟩,_⟩:=HV.reqRow 0 Aaa;dsimp only at hAr;subst hAr;have hz8:(0:Int) < (n.reqs.length:Int)+1:=Aaa
 have HK:=Hq (show Cj n q i=eO (nY n (eO n (pQ n.reqs i q)).reqs[0].no) ((pQ n.reqs i q).drop 1) by
  unfold Cj
  rw [hlen,if_pos aiP]
  congr 2
  show((pQ n.reqs i q).headD default).no=(pQ n.reqs i q)[0].no
  rw [List.headD_eq_head?_getD,List.head?_eq_getElem?,List.getElem?_eq_getElem Aaa]
  rfl)
 generalize (eO n (pQ n.reqs i q)).reqs[0].no=old at *;rw [Nat.zero_mul] at q0;have vf7:=aj HV.blk 7;have vf8:=aj HV.blk 8;have HO:=Hq (HV.oldPut old);go_upto_region 4 with fail;refine wp_at (λV2 hV2=>?_);have HV2:Hid (WK w0 V2 wb (nY (eO n (pQ n.reqs i q)) old) ⟨A.k,A.p,A.o,A.s,some ⟨g,0,none⟩,A.ck,A.cp,A.co,A.cs,c6⟩ G (newC u.heap.size 6 c) v L):=by rw [hV2];exact HO
 clear hV2 HO HV d0 d1 d2 d3 d4 d5 d6 d7 d8 d9 q0 vf7 vf8 hVl;have hl3:(nY (eO n (pQ n.reqs i q)) old).reqs.length=n.reqs.length+1:=hlen;obtain⟨d0,d1,d2,d3,d4,d5,d6,d7,d8,d9⟩:=jE HV2.blk;rw [hl3] at d8;have hVl:=aA HV2.blk;have HD:=Hq (aj6 w0.heap.size (some ⟨g,0,none⟩) c6 (pQ n.reqs i q) V2 Aaa Aaa HV2.no.r);rw [hlen] at HD;go_wp2_with fail;refine HD.mono ?_;rintro e w7 ⟨a7,c7,rfl,Ju,ayi,ayC⟩;obtain⟨uT,Vn⟩:=HV2.reqPut Ju (by rw [hl3];exact ayi) (by rw [hl3];exact ayC);have hl7:((pQ n.reqs i q).drop 1).length=n.reqs.length:=by rw [List.length_drop,hlen];omega
 rw [hl7] at Vn;have HW7:=Hq Vn;obtain⟨k0,k1,k2,k3,k4,k5,k6,k7,k8,k9⟩:=jE uT;have kf:=aj uT 8;have hw7:=aA uT;clear Ju ayi ayC uT Vn HV2 HD d0 d1 d2 d3 d4 d5 d6 d7 d8 d9;go_wp2_with fail;exact bodyPost_end (v:= .tuple #[]) (by simp[results,results213,go_sem]) rfl ⟨rfl,_,_,_,by rw [ah HK];exact HW7⟩):P:=h
theorem aqs.AbR(h:P:=by
 refine qR 8 ?_;refine tk [1,2,3,4,5] ?_;iterate 5 (refine uR (λK hK=>?_);go_simp;refine hK _ ?_;clear hK K)
 refine jJ ?_;clear y0;refine dU 6 rfl Aab Aad (λx hx=>?_);go_simp;refine(HO _ ((HH.keep1 (HF2.step hx).keep hfb hne))).mono ?_;rintro e y ⟨hcase,hby⟩;have HFX:=Hq (HF2.step hx);clear hx;rcases hcase with⟨hyes,rfl⟩|⟨hno,p,rfl⟩
 case' inr=>
  have HST:=Hq (HN hno);exact⟨rfl,.inr ⟨_,rfl⟩,HFX.found HS HST hby⟩
 have HST:=Hq (HY hyes);have HSN:=Hq (iH HST);obtain⟨hz5,hz6⟩:=ah HGT HST;clear hyes HY HN iH HGT HO HF2;refine⟨hby,?_⟩;have HFY:=Hq (HFX.step hby);clear hby HFX;refine dU 7 rfl Aab Aad (λx2 hx2=>?_);go_simp;refine⟨ay x2 _,?_⟩;have HFZ:=Hq ((HFY.step hx2).step (ay x2 (.cells (bZ K no k n mK mF mT mI mL mk mN) 100)));have Gl:=Hq (heap_alloc_new x2 (.cells (bZ K no k n mK mF mT mI mL mk mN) 100));clear hx2 HFY;generalize x2.alloc (.cells (bZ K no k n mK mF mT mI mL mk mN) 100)=y2 at *;refine bC Aab (λu hu=>?_);have HFU:=Hq (HFZ.step hu);have HNU:=Hq (aK Gl hu);clear hu HFZ Gl;have hLl:=ah HL;refine aH 8 rfl Aab Aad ?_;refine og u (.tmp 37) (.tmp 40) 56 rfl (w.heap.size+1) 100 i0 (.agg (bZ 0 0 ByteArray.empty 0 0 0 0 0 0 ByteArray.empty 0)) 11 104 underlying56 hi hz0 hz1 hz2 rfl Aae (.slice va L.length vc) L.length (GR.flat nI L) Aal HFU.own ⟨x2.heap.size,0,none⟩ 1 1 (nI ⟨K,no,k,n,⟨mK,mF,mT,mI,mL,mk,mN⟩⟩) Aal rfl (World.news_of_block HNU) (OJ _) Aai Aaa (by have:=HFU.gl;omega) ?_;intro v6 w6 hown6 qx _;obtain⟨va6,vc6,hv6,_⟩:=GR.own_at (enc:=nI) (sz:=11) (l:=L++[⟨K,no,k,n,⟨mK,mF,mT,mI,mL,mk,mN⟩⟩]) jP (by rw [List.length_append,xS];exact hown6);rw [List.length_append] at hv6;have hv7:v6= .slice va6 (L.length+1) vc6:=hv6;subst hv7;clear hv6;obtain⟨hb6,hF6⟩:=HFU.app ⟨K,no,k,n,⟨mK,mF,mT,mI,mL,mk,mN⟩⟩ hown6 qx;have HF6:=Hq (hF6 z);obtain⟨k0,k1⟩:=Yo hb6;have kf0:=aiM hb6 0;have kf1:=aiM hb6 1;clear hown6 qx hb6 hF6 HFU HNU;refine aH 9 rfl Aab Aad ?_;go_simp;refine aH 10 rfl Aab Aad ?_;go_simp;refine aH 11 rfl Aab Aad ?_;go_simp;refine wpAny_done Aab ?_;go_simp;go_wp2_with fail;go_roundw
 case rel=>exact⟨z,_,_,HF6,HSN⟩
 case measure=>
  have h1:=ah HEA;have h2:=HF6.endOf;rw [h1,h2];omega):P:=h
theorem awJ(h:P:=by
 clear hm hM;go_in
 go_wp2_with fail;refine(HN _).mono ?_;rintro e w1 ⟨rfl,hb1⟩;rw [hno];obtain⟨hA,hz,hbel⟩:=Fo.one_block hb1;obtain⟨⟨p0,p1,p2,p3⟩,_⟩:=fT hA;have hm1:w1.heap[mp]?=some (.cells #[v,.map (some mb)] 352 (0,0)):=by rw [hbel.block _ hmp];exact HM
 obtain⟨⟨m0,m1⟩,_⟩:=lW hm1;have hI1:iK w1.drew mb n G:=HI.kept (by rw [<-hbel.block _ hmb];rfl);exact Aet):P:=h
theorem aqt.Aet(h:P:=by
 obtain⟨w2,hrun,hI2,hK2⟩:=ah HST _ 0 hI1;have HI2:=Hq (hI2.mono (Nat.le_succ n));have sU:=Hq ((Keeps.of_below (g:=mb) hbel).trans (Keeps.trans (b:=w1.drew) (Keeps.of_below (Below.refl _ _).drew) hK2));clear hb1 hA hbel hm1 hI1 hI2 hK2 HST HN;go_wp2_with fail;go_region
 all_goals
  go_wp2_with fail
  exact bodyPost_ret (v:= .tuple #[]) (by simp[results,results301,go_sem]) rfl ⟨rfl,HI2,sU⟩):P:=h
theorem aqu.Aet(h:P:=by
 obtain⟨w2,hrun,hI2,hK2⟩:=ah HST _ hI1;have HI2:=Hq hI2;have sU:=Hq ((Keeps.of_below (g:=mb) hbel).trans (Keeps.trans (b:=w1.drew) (Keeps.of_below (Below.refl _ _).drew) hK2));clear hb1 hA hbel hm1 hI1 hI2 hK2 HST HN;go_wp2_with fail;go_region
 all_goals
  go_wp2_with fail
  exact bodyPost_end (v:= .tuple #[]) (by simp[results,results301,go_sem]) rfl ⟨rfl,HI2,sU⟩):P:=h
theorem awK(h:P:=by
 go_simp;refine(adD A2 x5 (HS.step HG).nl.at).mono ?_;rintro e y5 ⟨A3,ma,mc,rfl,hat,hmt,hb5⟩;refine⟨hb5.mono HG.size,?_⟩;have hxs:=HG.size;have HNL:=Hq (show NL x5.heap.size y5 A3 m' from λF W'' hk hF=>(hat W'' ⟨F,hk,hF⟩).at);have HG2:=Hq (Ge.trans HG hb5);exact AdX):P:=h
theorem aqv.AdX(h:P:=by
 have HQ2:=Hq (au HQ hb5);have hqd:qf < x5.heap.size\/y5.heap.size<=qf:= .inl (aA HQ);open atD in exact agm):P:=h
theorem aqw.AdX(h:P:=by
 open atC in exact agm):P:=h
theorem awL(h:P:=by
 rw [hlt1] at GN GL;refine Lib.wp_append_run x3 (.tmp 127) (.tmp 130) 22 22 rfl _ _ Aal Aal v3 y3 GN ?_;refine⟨(Below.refl _ _).grown zu Bg (λb hb=>(AO.lt b hb).1),?_⟩;go_simp;have VU:=Hq (yK.grown zu Bg (λb hb=>(AO.lt b hb).1));have RI:Hid (y3.ownsRow uH.heap.size 3 1 v3 (pos) (GR.flat aU ((aV s0 mL).take pos))):=Hq (by simpa [GR.flat_nil] using GL);exact Ac9):P:=h
theorem aqx.Ac9(h:P:=by
 have Rv:=Hq (show y3.heap[x2.heap.size]?=some (.cells #[.int .i64 mI] 3 (0,0)) from by rw [zu.block _ (aA (ah AJ)) (λhm=>ah J9 _ hm.symm rfl)];exact AJ);have Np:=Hq (show∀b,(v3).ownBlock=some b->b≠x2.heap.size from λb hb=>(GQ b hb).elim (λh=>J9 b h) (λh=>by have:=aA AJ;omega));open avL in exact agZ):P:=h
theorem aqy.Ac9(h:P:=by
 have Rv:=Hq (show y3.heap[x1.heap.size]?=some (.cells #[.int .i64 mI] 3 (0,0)) from by rw [zu.block _ (aA (ah AJ)) (λhm=>ah J9 _ hm.symm rfl)];exact AJ);have Np:=Hq (show∀b,(v3).ownBlock=some b->b≠x1.heap.size from λb hb=>(GQ b hb).elim (λh=>J9 b h) (λh=>by have:=aA AJ;omega));open avK in exact agZ):P:=h
theorem awM(h:P:=by
 go_wp2_with (at_builtin;refine wpList_append_own _ rfl _ _ 35 rfl w.heap.size 108 i0 (.agg (iW ByteArray.empty 0 0 0)) 4 40 underlying35 hi hz0 hz1 hz2 rfl Aae _ 0 [] rfl hlit x l.length cap (GR.flat gu l) rfl ?c0 ?c1 ?c2 ?c3 ?c4 ?c5 ?_)
 case c0=>exact GR.flat_length gu 4 aW l
 case c1=>exact HN
 case c2=>exact En l
 case c3=>unfold maxLen;omega
 case c4=>omega
 case c5=>simp
 exact Adw):P:=h
theorem aqz.Adw(h:P:=by
 intro v' w1 hown' hgrow _;open avt in exact agU):P:=h
theorem aqA.Adw(h:P:=by
 intro v' w1 hown' hgrow hnil;have HNN:=Hq (show v'≠ .slice none 0 0 from hnil);open avs in exact agU):P:=h
theorem adP(h:P:=by
 obtain⟨k,hk,rfl,hall,hblk,hbel⟩:=hrel;have kS:=Hq hall;have cK:=Hq hbel;have Gc:=Hq hblk;exact AbJ):P:=h
theorem aqB.AbJ(h:P:=by
 clear c0 c1 c2 c3 c4 c5 c6 c7 c8;obtain⟨c0,c1,c2,c3,c4,c5,c6,c7,c8⟩:=nine hblk;clear hall hbel hblk;by_cases hlt:k < reqs.length
 case' neg=>
  have hke:k=reqs.length:=Aaa
  subst hke;have aC0:decide ((reqs.length:Int) < (reqs.length:Int))=false:=Aac
  have HF:Hid (TT=true):=by
   have h:=ah kS;rw [List.take_length] at h;exact HOF.trans h
  go_wp2_with fail;go_ret;exact⟨aF HF.symm,cK⟩
 have HBAD:Hid (gU RQ RR (reqs.take (k+1))=false->TT=false):=λh=>HOF.trans (HDB _ h)
 obtain⟨g,off,e0,hgw,q0,q1,q2,q3⟩:=fU.four (HA.below cK).r k hlt;(try dsimp only at e0 q0 q1 q2 q3)
 have hks:=HZ.rk _ (List.getElem_mem hlt);(try dsimp only at hks)
 have Wj:Hid (∃pv:Bool,gU RQ RR (reqs.take (k+1))=(RQ reqs[k]&&pv)/\((k=0/\pv=true)\/∃(j:Nat) (y:Int),k=j+1/\pv=decide (y < (reqs[k]).no)/\wr.cell? ⟨g,off+j*4,none⟩=some (.int .i64 y))):=by
  cases k with
  |zero=>
   refine⟨true,?_,.inl ⟨rfl,rfl⟩⟩;rw [Bool.and_true];exact HDF hlt
  |succ j=>
   obtain⟨g',off',e2,_,p0,_⟩:=fU.four (HA.below cK).r j (show j < reqs.length by omega);(try dsimp only at e2 p0)
   rw [e0] at e2;injection e2 with e2
   injection e2 with e2 e3
   subst e2 e3;refine⟨_,?_,.inr ⟨j,_,rfl,rfl,p0⟩⟩;have h:=ah HDN j hlt;rw [ah kS] at h;exact h
 subst e0;have nS:=Hq (Nz reqs[k]);generalize reqs[k]=sk at *;generalize RQ sk=OB at *;obtain⟨si,sx,sn,st⟩:=sk;dsimp only at q0 q1 q2 q3 hks Wj nS;obtain⟨pv,hpv,hpk⟩:=ah Wj;have iH:=Hq hpv;have Rc:=Hq hpk;obtain⟨bb,hbb⟩:∃bb,(!(decide (old+1<=si/\si<=1000000000)&&keyOk sx.data.toList&&fF sn&&decide (0<=st/\st<=2)&&pv))=bb:=⟨_,rfl⟩;have eT:=Hq hbb;clear hpv hpk Wj hbb HDF HDN HDB;go_upto_region 13 with fail;refine wp_at (λW1 hW1=>?_);have HW1:Hid (W1.heap[wr.heap.size]?=some (.cells (fA si sx sn st) 95 (0,0))):=Ace
 open ana in exact adO):P:=h
theorem aqC.AbJ(h:P:=by
 obtain⟨c0,c1,c2,c3,c4,c5,c6,_⟩:=nine hblk;clear hall hbel hblk;by_cases hlt:k < seen.length
 case' neg=>
  have hke:k=seen.length:=Aaa
  subst hke;have hnlt:decide ((seen.length:Int) < (seen.length:Int))=false:=Aac
  exact ajZ
 have HBAD:Hid (gU PP RR (seen.take (k+1))=false->TT=false):=λh=>nS.trans (wT _ h)
 obtain⟨g,off,b,c,e0,hgw,q0,q1,q2,hI⟩:=gZ.below HS cK k hlt;have GK:(seen[k]).ids.length<=1048600:=ah qz _ (List.getElem_mem hlt);have HI:=Hq hI;have CQ:=Hq GK;clear hI GK
 have Wj:Hid (∃pv:Bool,gU PP RR (seen.take (k+1))=((NN (seen[k]).f&&uU seen[k])&&pv)/\((k=0/\pv=true)\/∃(j:Nat) (y:Int),k=j+1/\pv=decide (y < (seen[k]).f)/\wr.cell? ⟨g,off+j*3,none⟩=some (.int .i64 y))):=by
  cases k with
  |zero=>
   refine⟨true,?_,.inl ⟨rfl,rfl⟩⟩;have h:=ah Nn hlt;rw [Bool.and_true];exact h
  |succ j=>
   obtain⟨g',off',_,_,e2,_,p0,_⟩:=gZ.below HS cK j Aaa;exact ahd
 subst e0;generalize hsk:seen[k]=sk at *;clear hsk;obtain⟨fr,lo,ids⟩:=sk;dsimp only at q0 q1 q2 HI CQ Wj;obtain⟨pv,hpv,hpk⟩:=ah Wj;have iH:=Hq hpv;have Rc:=Hq hpk;obtain⟨bb,hbb⟩:∃bb,(!(NN fr&&pv&&fF lo&&decide (ids.length<=40)))=bb:=⟨_,rfl⟩;have eT:=Hq hbb;clear hpv hpk Wj hbb Nn DW wT;go_upto_region 10 with fail;open au4 in exact agN):P:=h
theorem aqD.AbJ(h:P:=by
 obtain⟨c0,c1,c2,c3,c4,c5,c6,c7,c8⟩:=nine hblk;clear hall hbel hblk;by_cases hlt:k < out.length
 case' pos=>
  have HBAD:Hid (gU OT RO (out.take (k+1))=false->TT=false):=λh=>by rw [ah HTT,ah wT _ h];rfl
  obtain⟨g,off,e0,hgw,q0,q1,q2,q3⟩:=SentAt.four (HA.below cK).o k hlt
  (try dsimp only at e0 q0 q1 q2 q3)
  have hks:=HZ.ok _ (List.getElem_mem hlt)
  (try dsimp only at hks)
  have Wj:Hid (∃pv:Bool,gU OT RO (out.take (k+1))=(OT out[k]&&pv)/\((k=0/\pv=true)\/∃(j:Nat) (y:Int),k=j+1/\pv=decide (y < (out[k]).i)/\wr.cell? ⟨g,off+j*4,none⟩=some (.int .i64 y))):=by
   cases k with
   |zero=>
    refine⟨true,?_,.inl ⟨rfl,rfl⟩⟩;rw [Bool.and_true];exact Nn hlt
   |succ j=>
    obtain⟨g',off',e2,_,p0,_⟩:=SentAt.four (HA.below cK).o j (show j < out.length by omega);(try dsimp only at e2 p0)
    exact ahd
  subst e0
  have nS:=Hq (HOT out[k])
  generalize out[k]=sk at *
  generalize OT sk=OB at *
  obtain⟨si,st,sx,sn⟩:=sk
  dsimp only at q0 q1 q2 q3 hks Wj nS
  obtain⟨pv,hpv,hpk⟩:=ah Wj
  have iH:=Hq hpv
  have Rc:=Hq hpk
  obtain⟨bb,hbb⟩:∃bb,(!(decide (1<=si/\si<=next - 1)&&NN st&&keyOk sx.data.toList&&fF sn&&pv))=bb:=⟨_,rfl⟩
  have eT:=Hq hbb
  clear hpv hpk Wj hbb Nn DW wT
  go_upto_region 7 with fail
  refine wp_at (λW1 hW1=>?_)
  have HW1:Hid (W1.heap[wr.heap.size]?=some (.cells (gJ si st sx sn) 91 (0,0))):=Ace
  have hbw:aI wr W1:=by rw [hW1];exact ay wr _
  have Av:=Hq (au Gc hbw)
  have wJ:=Hq (cK.trans (hbw.mono cK.size))
  have hgw1:=hbw.size
  have CV:Hid ((k=0/\pv=true)\/∃(j:Nat) (y:Int),k=j+1/\pv=decide (y < si)/\W1.cell? ⟨g,off+j*4,none⟩=some (.int .i64 y)):=by
   exact ahO
  clear hW1 hbw q0 q1 q2 q3 c0 c1 c2 c3 c4 c5 c6 c7 c8 Rc Gc
  obtain⟨d0,d1,d2,d3⟩:=iE HW1
  obtain⟨c0,c1,c2,c3,c4,c5,c6,c7,c8⟩:=nine Av
  have k0:=cell_grown' c0
  have k1:=cell_grown' c1
  have k2:=cell_grown' c2
  have k3:=cell_grown' c3
  have k4:=cell_grown' c4
  have k5:=cell_grown' c5
  have k6:=cell_grown' c6
  have k7:=cell_grown' c7
  have k8:=cell_grown' c8
  have m0:=cell_grown' d0
  have m1:=cell_grown' d1
  have m2:=cell_grown' d2
  have m3:=cell_grown' d3
  have en:IntKind.i64.wrap (next - 1)=next - 1:=IntWalk.i64_in _ ⟨Aaa,Aaa⟩
  go_cut [98] (λr wx=>r= .bool bb/\aI W1 wx)
  case first=>
   rcases CV with⟨rfl,rfl⟩|⟨j,y,rfl,rfl,q1⟩
   .have hgt:decide ((0:Int) < ((0:Nat):Int))=false:=rfl;open aAj in exact Yk7
   .have hgt:decide ((0:Int) < ((j+1:Nat):Int))=true:=decide_eq_true Aaa;have m9:=cell_grown' q1;open aAi in exact Yk7
  case rest=>
   obtain⟨rfl,hbx⟩:=hcut;open asJ in exact UY
 open apU in exact aak):P:=h
theorem aqE.AbJ(h:P:=by
 obtain⟨c0,c1,c2,_⟩:=nine hblk;clear hall hbel hblk;by_cases hlt:k < kids.length
 case' neg=>
  have hke:k=kids.length:=Aaa
  subst hke;have hnlt:decide ((kids.length:Int) < (kids.length:Int))=false:=Aac
  have HF:Hid (eD ⟨id,par,kids,next,pu,out,seen,old,reqs⟩=true):=by
   exact Vi
  go_wp2_with fail;go_ret;exact⟨aF HF.symm,cK⟩
 have HBAD:Hid (gU (jX id par) iM (kids.take (k+1))=false->eD ⟨id,par,kids,next,pu,out,seen,old,reqs⟩=false):=λh=>nS.trans (wT _ h)
 cases k with
 |zero=>
  obtain⟨g,off,rfl,hgw,q0⟩:=bX.one (GR.At.below HA cK) 0 hlt;rw [Nat.add_zero] at q0;have hgt:decide ((0:Int) < ((0:Nat):Int))=false:=rfl;have iH:Hid (gU (jX id par) iM (kids.take 1)=jX id par kids[0]):=ah Nn hlt;clear Nn DW wT;generalize kids[0]=x at *;open atJ in exact agn
 |succ j=>
  obtain⟨g,off,e1,hgw,q0⟩:=bX.one (GR.At.below HA cK) (j+1) hlt;obtain⟨g',off',e2,aDk,q1⟩:=bX.one (GR.At.below HA cK) j Aaa;open ava in exact agO):P:=h
theorem awN(h:P:=by
 rw [hlt1] at GN GL;refine Lib.wp_append_run x3 (.tmp 93) (.tmp 97) 38 38 rfl _ _ Aal Aal v3 y3 GN ?_;refine⟨(Below.refl _ _).grown zu Bg (λb hb=>(AO.lt b hb).1),?_⟩;go_simp;have VU:=Hq (yK.grown zu Bg (λb hb=>(AO.lt b hb).1));have RI:Hid (y3.ownsRow wc.heap.size 95 4 v3 (pos) (GR.flat aL (n.reqs.take pos))):=Hq (by simpa [GR.flat_nil] using GL);exact AdT):P:=h
theorem aqF.AdT(h:P:=by
 have Rv:=Hq (show y3.heap[x2.heap.size]?=some (.cells (fA no k nn st) 95 (0,0)) from by rw [zu.block _ (aA (ah AJ)) (λhm=>ah J9 _ hm.symm rfl)];exact AJ);have Np:=Hq (show∀b,(v3).ownBlock=some b->b≠x2.heap.size from λb hb=>(GQ b hb).elim (λh=>J9 b h) (λh=>by have:=aA AJ;omega));obtain⟨avR,cvR,Ce,_⟩:=GR.own_at (enc:=aL) (sz:=4) (l:=n.reqs.take pos) aR (by rw [hlt1];exact RI);rw [hlt1] at Ce;subst Ce;clear GN GL zu GQ;generalize x2.heap.size=rb at *;exact Zk0):P:=h
theorem aqG.AdT(h:P:=by
 have Rv:=Hq (show y3.heap[x1.heap.size]?=some (.cells (fA no k nn st) 95 (0,0)) from by rw [zu.block _ (aA (ah AJ)) (λhm=>ah J9 _ hm.symm rfl)];exact AJ);have Np:=Hq (show∀b,(v3).ownBlock=some b->b≠x1.heap.size from λb hb=>(GQ b hb).elim (λh=>J9 b h) (λh=>by have:=aA AJ;omega));obtain⟨avR,cvR,Ce,_⟩:=GR.own_at (enc:=aL) (sz:=4) (l:=n.reqs.take pos) aR (by rw [hlt1];exact RI);rw [hlt1] at Ce;subst Ce;clear GN GL zu GQ;generalize x1.heap.size=rb at *;exact Zk0):P:=h
theorem awO(h:P:=by
 rintro e W3 ⟨A1,ma,mc,rfl,hat,hmt,hb3,hap⟩;have lu:=Hq ((hap _ (aA jA) (by rw [bJ Aaa];omega)).trans jA);have YT:=Hq hat;have adq:=Hq hmt;have HB3:=Hq ((HB2.mono hB).trans hb3);have HK3:Hid (Apart c w W3):=λx hx hc=>(hap x (Nat.lt_of_lt_of_le hx HB2.size) (by rw [fq hx];exact hc)).trans (HB2.block x hx)
 have h23:=hb3.size;have h02:=HB2.size;have h2r:=aA jA;exact Adq):P:=h
theorem aqH.Adq(h:P:=by
 clear hat hmt hb3 hap c0 c1 c2 c3 c4 c5 c6 c7 c8 m0 m1 m2 m3 m4 m5 m6 hml hnl NJ jO yL jA Kg;open arG in exact afK):P:=h
theorem aqI.Adq(h:P:=by
 clear hat hmt hb3 hap c0 c1 c2 c3 c4 c5 c6 c7 c8 m0 m1 m2 m3 m4 m5 m6 hml hnl HGV jO yL jA Kg;obtain⟨A1,hA1⟩:∃A2,A2=A1:=⟨_,rfl⟩;subst hA1;have M8:=Hq (heap_alloc_new W3 (.cells (dG N1 A1) 40));have uO:=Hq (au lu (ay W3 (.cells (dG N1 A1) 40)));have uS:=Hq (HB3.trans ((ay W3 (.cells (dG N1 A1) 40)).mono (Nat.le_trans hB HB3.size)));have HKA:=Hq (HK3.step HB3.size (ay W3 (.cells (dG N1 A1) 40)));obtain⟨c0,c1,c2,c3,c4,c5,c6,c7,c8⟩:=nine M8;open amX in exact Wo):P:=h
theorem awP(h:P:=by
 obtain⟨e1,e2,e3,e4⟩:=fV w (.cells (dG n A) 40) (.cells (bZ K no k nn mK mF mT mI mL mk mN) 100) (.cells iF 40);have hsz:(((w.alloc (.cells (dG n A) 40)).alloc (.cells (bZ K no k nn mK mF mT mI mL mk mN) 100)).alloc (.cells iF 40)).heap.size=w.heap.size+3:=Aac
 generalize hW0:((w.alloc (.cells (dG n A) 40)).alloc (.cells (bZ K no k nn mK mF mT mI mL mk mN) 100)).alloc (.cells iF 40)=W0 at *;exact Aec):P:=h
theorem aqJ.Aec(h:P:=by
 open aAC in exact Kq):P:=h
theorem aqK.Aec(h:P:=by
 open aAB in exact Kq):P:=h
theorem afz(h:P:=by
 obtain⟨e1,e2,e3,e4⟩:=fV w (.cells (dG n A) 40) (.cells (bZ 4 no k nn mK mF mT mI mL mk mN) 100) (.cells iF 40);have hsz:(((w.alloc (.cells (dG n A) 40)).alloc (.cells (bZ 4 no k nn mK mF mT mI mL mk mN) 100)).alloc (.cells iF 40)).heap.size=w.heap.size+3:=Aac
 generalize hW0:((w.alloc (.cells (dG n A) 40)).alloc (.cells (bZ 4 no k nn mK mF mT mI mL mk mN) 100)).alloc (.cells iF 40)=W0 at *;exact Aer):P:=h
theorem aqL.Aer(h:P:=by
 exact awU):P:=h
theorem aqM.Aer(h:P:=by
 exact Zk9):P:=h
theorem afA(h:P:=by
 obtain⟨e1,e2,e3,e4⟩:=fV w (.cells (dG n A) 40) (.cells (bZ 3 no k nn mK mF mT mI mL mk mN) 100) (.cells iF 40);have hsz:(((w.alloc (.cells (dG n A) 40)).alloc (.cells (bZ 3 no k nn mK mF mT mI mL mk mN) 100)).alloc (.cells iF 40)).heap.size=w.heap.size+3:=Aac
 generalize hW0:((w.alloc (.cells (dG n A) 40)).alloc (.cells (bZ 3 no k nn mK mF mT mI mL mk mN) 100)).alloc (.cells iF 40)=W0 at *;exact AcO):P:=h
theorem aqN.AcO(h:P:=by
 open aAF in exact Kq):P:=h
theorem aqO.AcO(h:P:=by
 exact awU):P:=h
theorem afB(h:P:=by
 obtain⟨e1,e2,e3,e4⟩:=fV w (.cells (dG n A) 40) (.cells (bZ 0 no k nn mK mF mT mI mL mk mN) 100) (.cells iF 40);have hsz:(((w.alloc (.cells (dG n A) 40)).alloc (.cells (bZ 0 no k nn mK mF mT mI mL mk mN) 100)).alloc (.cells iF 40)).heap.size=w.heap.size+3:=Aac
 generalize hW0:((w.alloc (.cells (dG n A) 40)).alloc (.cells (bZ 0 no k nn mK mF mT mI mL mk mN) 100)).alloc (.cells iF 40)=W0 at *;exact Aek):P:=h
theorem aqP.Aek(h:P:=by
 open aAJ in exact Kq):P:=h
theorem aqQ.Aek(h:P:=by
 open aAD in exact Kq):P:=h
theorem Jh(h:P:=by
 obtain⟨k,z,hk,rfl,rfl,hz0,hz1,hall,hbel⟩:=hrel;have kS:=Hq hall;have cK:=Hq hbel;clear hall hbel;exact AaX):P:=h
theorem aqR.AaX(h:P:=by
 by_cases hlt:k < l.length
 .obtain⟨g,off,rfl,hgw,q0,q1,q2,q3⟩:=aG.four (GR.At.below HA cK) k hlt;open ao6 in exact Wt
 .exact adR):P:=h
theorem aqS.AaX(h:P:=by
 by_cases hlt:k < l.length
 .obtain⟨g,off,rfl,hgw,q0,q1,q2,q3⟩:=SentAt.four (GR.At.below HA cK) k hlt;open ao7 in exact Wt
 .exact adR):P:=h
theorem aqT.AaX(h:P:=by
 by_cases hlt:k < l.length
 .obtain⟨g,off,rfl,hgw,q0,q1,q2,q3⟩:=fU.four (GR.At.below HA cK) k hlt;open ao8 in exact Wt
 .exact adR):P:=h
theorem aqU.AaX(h:P:=by
 by_cases hlt:k < l.length
 .obtain⟨g,off,b,c,e0,hgw,q0,q1,q2,_⟩:=gZ.below HA cK k hlt;subst e0;open ao9 in exact Wt
 .exact adR):P:=h
theorem aqV.AaX(h:P:=by
 by_cases hlt:k < l.length
 .obtain⟨g,off,rfl,hgw,q0,q1,q2,q3,q4,q5,q6,q7,q8,q9,q10,q11⟩:=lG (GR.At.below HA cK) k hlt;open apa in exact Wt
 .exact ag8):P:=h
theorem aqW.AaX(h:P:=by
 by_cases hlt:k < l.length
 .obtain⟨g,off,rfl,hgw,q0,q1,q2,q3,q4,q5,q6⟩:=qC (GR.At.below HA cK) k hlt;open apb in exact Wt
 .exact ag8):P:=h
theorem afC(h:P:=by
 refine fI 3 rfl Aab Aad (λx hx=>?_);go_simp;refine⟨ay x _,?_⟩;have jN:=Hq (Ge.trans (Ge.trans vU hx) (ay x (.cells #[.int .u8 K] 5)));have hcx:(x.alloc (.cells #[.int .u8 K] 5)).cell? ⟨x.heap.size,0,none⟩=some (.int .u8 K):=Aac
 have hcv:=λd os=>HCV (Sort.grow (redrawn (x.alloc (.cells #[.int .u8 K] 5)) d) os) x.heap.size (cell_regrown hcx d os)
 exact AdZ):P:=h
theorem aqX.AdZ(h:P:=by
 obtain⟨a1,a2,a3,a4⟩:=ah HA;clear hx vU HCV HA hcx;generalize hy:x.alloc (.cells #[.int .u8 K] 5)=y at *;refine tk [4,8,12,16,21,22] ?_;iterate 6 (refine Ar (λK hK=>?_);go_simp;refine hK _ ?_;clear hK K)
 refine jJ ?_;refine eX Aab (λz hz=>?_);have sV:=Hq (Ge.trans jN hz);clear hz jN hcv a1 a2 a3 a4;go_simp;go_wp2_with fail;go_ret;exact⟨rfl,sV⟩):P:=h
theorem aqY.AdZ(h:P:=by
 obtain⟨a1,a2,a3,a4,a5,a6⟩:=ah HA;clear hx vU HCV HA hcx;generalize hy:x.alloc (.cells #[.int .u8 K] 5)=y at *;refine tk [4,8,12,16,20,24,28,29] ?_;iterate 8 (refine Ar (λK hK=>?_);go_simp;refine hK _ ?_;clear hK K)
 refine jJ ?_;refine eX Aab (λz hz=>?_);have sV:=Hq (Ge.trans jN hz);clear hz jN hcv a1 a2 a3 a4 a5 a6;go_simp;go_wp2_with fail;go_ret;exact⟨rfl,sV⟩):P:=h
theorem afD(h:P:=by
 open avU in exact ag1):P:=h
theorem aqZ.Ac2(h:P:=by
 exact axl):P:=h
theorem ara.Ac2(h:P:=by
 open at6 in exact NY):P:=h
theorem afE(h:P:=by
 generalize CZ s=RES at *;generalize jQ s=OK at *;generalize uo s (gI s 0)=N1 at *;generalize uo s (gI s 1)=N2 at *;generalize uo s (gI s 2)=N3 at *;generalize uo s (gI s 3)=N4 at *;generalize uo s (je s (gI s 4))=N5 at *;generalize jU s (gI s 4)=TX at *;generalize jS s (je s (gI s 4))=E6 at *;generalize je s (gI s 4)=E5 at *;generalize gI s 4=E4 at *;exact AdW):P:=h
theorem arb.AdW(h:P:=by
 go_in
 go_wp2_with fail;refine(HN _).mono ?_;rintro e w1 ⟨g,cap,rfl,hg1,hc1,hb1⟩;have hR1:=aK (heap_alloc_new w _) hb1;have hB1:=(ay w _).trans (hb1.mono Aac);have hC1:=Hq hc1;clear hb1 hc1;go_wp2_with fail;refine(HT _).mono ?_;rintro e w2 ⟨rfl,hb2⟩;have hR2:=aK hR1 hb2;have hB2:=hB1.trans (hb2.mono hB1.size);have hg2:=Nat.lt_of_lt_of_le hg1 hb2.size;have hC2:=Hq (show w2.cell? ⟨g,0,none⟩=some (.int .i64 N1)/\w2.cell? ⟨g,1,none⟩=some (.int .i64 N2)/\w2.cell? ⟨g,2,none⟩=some (.int .i64 N3)/\w2.cell? ⟨g,3,none⟩=some (.int .i64 N4) by simp only[(BX hb2).1 g _ hg1];exact hC1);clear hb2 hR1 hB1 hg1 hC1;go_wp2_with fail;refine(HG _).mono ?_;rintro e w3 ⟨rfl,hb3⟩;have hR3:=aK hR2 hb3;have hB3:=hB2.trans (hb3.mono hB2.size);have hg3:=Nat.lt_of_lt_of_le hg2 hb3.size;have hC3:w3.cell? ⟨g,0,none⟩=some (.int .i64 N1)/\w3.cell? ⟨g,1,none⟩=some (.int .i64 N2)/\w3.cell? ⟨g,2,none⟩=some (.int .i64 N3)/\w3.cell? ⟨g,3,none⟩=some (.int .i64 N4):=by simp only[(BX hb3).1 g _ hg2];exact hC2
 obtain⟨c0,c1,c2,c3⟩:=hC3;clear hb3 hR2 hB2 hg2 hC2;have HR3:=Hq hR3;have HB3:=Hq hB3;clear hR3 hB3;open asj in exact UW):P:=h
theorem ard.AdW(h:P:=by
 generalize gI s 3=E3 at *;generalize gI s 2=E2 at *;generalize gI s 1=E1 at *;rw [ez] at IW;clear ez hs;have HH:=Hq hH;clear hH;go_in
 go_upto_region 4 with fail;refine wp_at (λV0 hV=>?_)
 have hM0:V0.heap[w.heap.size+1]?=some (.cells (bV (s[0].toNat:Int) 0 0 0 0 ⟨#[]⟩ 0) 98 (0,0)):=by
  rw [hV];have h:=heap_alloc_new (w.alloc (.cells (bV 0 0 0 0 0 ⟨#[]⟩ 0) 98)) (.cells (bV (s[0].toNat:Int) 0 0 0 0 ⟨#[]⟩ 0) 98);rwa [show(w.alloc (.cells (bV 0 0 0 0 0 ⟨#[]⟩ 0) 98)).heap.size=w.heap.size+1 by simp] at h
 have hR0:V0.heap[w.heap.size]?=some (.cells (bV 0 0 0 0 0 ⟨#[]⟩ 0) 98 (0,0)):=by rw [hV,Below.heap_alloc _ _ _ Aac];exact heap_alloc_new w _
 have hB0:aI w V0:=by rw [hV];exact((Below.refl _ _).alloc (Nat.le_refl _) _).alloc Aac _
 clear hV hw64 hb0;have HM0:=Hq hM0;have HR0:=Hq hR0;have HB0:=Hq hB0;clear hM0 hR0 hB0;go_wp2_with fail;refine(IW _ (HH.below HB0)).mono ?_;rintro e x1 ⟨rfl,hb1⟩;have gM1:=aK HM0 hb1;have gR1:=aK HR0 hb1;have gB1:=HB0.trans (hb1.mono HB0.size);obtain⟨⟨c0,c1,c2,c3,c4,c5,c6⟩,f0,f1,f2,f3,f4,f5,f6⟩:=eF gM1;have hz1:=dD gM1;have GM1:=Hq gM1;have GR1:=Hq gR1;have GB1:=Hq gB1;clear hb1 HM0 HR0 HB0 gM1 gR1 gB1 IW;go_upto_region 5 with fail;refine wp_at (λV1 hV=>?_);have hM1:V1.heap[w.heap.size+1]?=some (.cells (bV (s[0].toNat:Int) N1 0 0 0 ⟨#[]⟩ 0) 98 (0,0)):=by rw [hV];exact blk_set GM1 1 (.int .i64 N1)
 have hR1:V1.heap[w.heap.size]?=some (.cells (bV 0 0 0 0 0 ⟨#[]⟩ 0) 98 (0,0)):=by rw [hV];exact one_other GR1 Aaa
 have hB1:aI w V1:=by rw [hV];exact GB1.setCell (p:=⟨w.heap.size+1,1,none⟩) (Nat.le_succ _) (.int .i64 N1)
 clear hV GM1 GR1 GB1 c0 c1 c2 c3 c4 c5 c6 f0 f1 f2 f3 f4 f5 f6 hz1;have HM1:=Hq hM1;have HR1:=Hq hR1;have HB1:=Hq hB1;clear hM1 hR1 hB1;go_wp2_with fail;refine(HG2 _ (HH.below HB1)).mono ?_;rintro e x2 ⟨rfl,hb2⟩;have gM2:=aK HM1 hb2;have gR2:=aK HR1 hb2;have gB2:=HB1.trans (hb2.mono HB1.size);obtain⟨⟨c0,c1,c2,c3,c4,c5,c6⟩,f0,f1,f2,f3,f4,f5,f6⟩:=eF gM2;have hz2:=dD gM2;have GM2:=Hq gM2;have GR2:=Hq gR2;have GB2:=Hq gB2;clear hb2 HM1 HR1 HB1 gM2 gR2 gB2 HG2;go_upto_region 6 with fail;refine wp_at (λV2 hV=>?_);have hM2:V2.heap[w.heap.size+1]?=some (.cells (bV (s[0].toNat:Int) N1 N2 0 0 ⟨#[]⟩ 0) 98 (0,0)):=by rw [hV];exact blk_set GM2 2 (.int .i64 N2)
 have hR2:V2.heap[w.heap.size]?=some (.cells (bV 0 0 0 0 0 ⟨#[]⟩ 0) 98 (0,0)):=by rw [hV];exact one_other GR2 Aaa
 have hB2:aI w V2:=by rw [hV];exact GB2.setCell (p:=⟨w.heap.size+1,2,none⟩) (Nat.le_succ _) (.int .i64 N2)
 clear hV GM2 GR2 GB2 c0 c1 c2 c3 c4 c5 c6 f0 f1 f2 f3 f4 f5 f6 hz2;have HM2:=Hq hM2;have HR2:=Hq hR2;have HB2:=Hq hB2;clear hM2 hR2 hB2;go_wp2_with fail;refine(DY _ (HH.below HB2)).mono ?_;rintro e x3 ⟨rfl,hb3⟩;have gM3:=aK HM2 hb3;have gR3:=aK HR2 hb3;have gB3:=HB2.trans (hb3.mono HB2.size);obtain⟨⟨c0,c1,c2,c3,c4,c5,c6⟩,f0,f1,f2,f3,f4,f5,f6⟩:=eF gM3;have hz3:=dD gM3;have GM3:=Hq gM3;have GR3:=Hq gR3;have GB3:=Hq gB3;clear hb3 HM2 HR2 HB2 gM3 gR3 gB3 DY;go_upto_region 7 with fail;refine wp_at (λV3 hV=>?_);have hM3:V3.heap[w.heap.size+1]?=some (.cells (bV (s[0].toNat:Int) N1 N2 N3 0 ⟨#[]⟩ 0) 98 (0,0)):=by rw [hV];exact blk_set GM3 3 (.int .i64 N3)
 have hR3:V3.heap[w.heap.size]?=some (.cells (bV 0 0 0 0 0 ⟨#[]⟩ 0) 98 (0,0)):=by rw [hV];exact one_other GR3 Aaa
 have hB3:aI w V3:=by rw [hV];exact GB3.setCell (p:=⟨w.heap.size+1,3,none⟩) (Nat.le_succ _) (.int .i64 N3)
 clear hV GM3 GR3 GB3 c0 c1 c2 c3 c4 c5 c6 f0 f1 f2 f3 f4 f5 f6 hz3;have HM3:=Hq hM3;have HR3:=Hq hR3;have HB3:=Hq hB3;clear hM3 hR3 hB3;go_wp2_with fail;refine(HG4 _ (HH.below HB3)).mono ?_;rintro e x4 ⟨rfl,hb4⟩;have gM4:=aK HM3 hb4;have gR4:=aK HR3 hb4;have gB4:=HB3.trans (hb4.mono HB3.size);obtain⟨⟨c0,c1,c2,c3,c4,c5,c6⟩,f0,f1,f2,f3,f4,f5,f6⟩:=eF gM4;have xU:=dD gM4;have GM4:=Hq gM4;have GR4:=Hq gR4;have GB4:=Hq gB4;clear hb4 HM3 HR3 HB3 gM4 gR4 gB4 HG4;go_upto_region 8 with fail;refine wp_at (λV4 hV=>?_);have hM4:V4.heap[w.heap.size+1]?=some (.cells (bV (s[0].toNat:Int) N1 N2 N3 N4 ⟨#[]⟩ 0) 98 (0,0)):=by rw [hV];exact blk_set GM4 4 (.int .i64 N4)
 have hR4:V4.heap[w.heap.size]?=some (.cells (bV 0 0 0 0 0 ⟨#[]⟩ 0) 98 (0,0)):=by rw [hV];exact one_other GR4 Aaa
 have hB4:aI w V4:=by rw [hV];exact GB4.setCell (p:=⟨w.heap.size+1,4,none⟩) (Nat.le_succ _) (.int .i64 N4)
 clear hV GM4 GR4 GB4 c0 c1 c2 c3 c4 c5 c6 f0 f1 f2 f3 f4 f5 f6 xU;have HM4:=Hq hM4;have HR4:=Hq hR4;have nR:=Hq hB4;clear hM4 hR4 hB4;go_wp2_with fail;refine(vV _ (HH.below nR)).mono ?_;rintro e x5 ⟨rfl,hb5⟩;have gM5:=aK HM4 hb5;have gR5:=aK HR4 hb5;have gB5:=nR.trans (hb5.mono nR.size);obtain⟨⟨c0,c1,c2,c3,c4,c5,c6⟩,f0,f1,f2,f3,f4,f5,f6⟩:=eF gM5;have hz5:=dD gM5;have GM5:=Hq gM5;have GR5:=Hq gR5;have GB5:=Hq gB5;clear hb5 HM4 HR4 nR gM5 gR5 gB5 vV;go_upto_region 9 with fail;refine wp_at (λV5 hV=>?_);have hM5:V5.heap[w.heap.size+1]?=some (.cells (bV (s[0].toNat:Int) N1 N2 N3 N4 TX 0) 98 (0,0)):=by rw [hV];exact blk_set GM5 5 (.string TX)
 have SH:V5.heap[w.heap.size]?=some (.cells (bV 0 0 0 0 0 ⟨#[]⟩ 0) 98 (0,0)):=by rw [hV];exact one_other GR5 Aaa
 have hB5:aI w V5:=by rw [hV];exact GB5.setCell (p:=⟨w.heap.size+1,5,none⟩) (Nat.le_succ _) (.string TX)
 clear hV GM5 GR5 GB5 c0 c1 c2 c3 c4 c5 c6 f0 f1 f2 f3 f4 f5 f6 hz5;have HM5:=Hq hM5;have Rw:=Hq SH;have gY:=Hq hB5;clear hM5 SH hB5;go_wp2_with fail;refine(HG6 _ (HH.below gY)).mono ?_;rintro e x6 ⟨rfl,hb6⟩;have gM6:=aK HM5 hb6;have gR6:=aK Rw hb6;have gB6:=gY.trans (hb6.mono gY.size);obtain⟨⟨c0,c1,c2,c3,c4,c5,c6⟩,f0,f1,f2,f3,f4,f5,f6⟩:=eF gM6;have hz6:=dD gM6;have GM6:=Hq gM6;have GR6:=Hq gR6;have GB6:=Hq gB6;clear hb6 HM5 Rw gY gM6 gR6 gB6 HG6;go_upto_region 10 with fail;refine wp_at (λV6 hV=>?_);have hM6:V6.heap[w.heap.size+1]?=some (.cells (bV (s[0].toNat:Int) N1 N2 N3 N4 TX N5) 98 (0,0)):=by rw [hV];exact blk_set GM6 6 (.int .i64 N5)
 have hR6:V6.heap[w.heap.size]?=some (.cells (bV 0 0 0 0 0 ⟨#[]⟩ 0) 98 (0,0)):=by rw [hV];exact one_other GR6 Aaa
 have hB6:aI w V6:=by rw [hV];exact GB6.setCell (p:=⟨w.heap.size+1,6,none⟩) (Nat.le_succ _) (.int .i64 N5)
 clear hV GM6 GR6 GB6 c0 c1 c2 c3 c4 c5 c6 f0 f1 f2 f3 f4 f5 f6 hz6;have hzM:=dD hM6;have hzR:=dD hR6;by_cases hE:E6=(s.size:Int)
 case' neg=>
  have hO:OK=false:=by rw [ah HO,decide_eq_false hE];rfl
  have wQ:=Hq (HZ hO)
  have hq:(E6 != (s.size:Int))=true:=Abl
  obtain⟨⟨d0,d1,d2,d3,d4,d5,d6⟩,f0,f1,f2,f3,f4,f5,f6⟩:=eF hR6
  have HR:=Hq hR6
  have HB:=Hq hB6
  have HE:=Hq hE
  clear hO HO HZ HM HP hM6 hR6 hB6 hE
  open asx in exact afZ
 have hq:(E6 != (s.size:Int))=false:=Abl
 obtain⟨q0,q1,q2,q3,q4,q5,q6⟩:=tC hM6;have HR:=Hq hR6;have HB:=Hq hB6;have HMB:=Hq hM6;have HE:=Hq hE;clear hR6 hB6 hM6 hE;open aru in exact afH):P:=h
theorem afF(h:P:=by
 have hc:s[k].toNat < 256:=s[k].toNat_lt;have aDG:=hv2 hj;have HU:=Hq (hu2 hj);clear hv2 hu2 hv5 hu;obtain⟨hp0,hp1⟩:=aeR s[k].toNat v;exact Ac6):P:=h
theorem arf.Ac6(h:P:=by
 by_cases hb:128<=s[k].toNat
 .have HR:=Hq (Mth.get_more s k _ m _ _ hlt hj hb HG);clear HG;go_wp2
  go_round
  case rel=>exact⟨_,_,_,k+1,HU,JJ m _ v hm,Aah,Aah,Aah,by have:=ah HK;omega,HR⟩
  case measure=>simp[intOf];omega
 .by_cases hbig:(4000000000:Int) < (m:Int)+(s[k].toNat:Int) % 128*(v:Int)
  .have HR:=Hq (Mth.get_bad s k _ m _ _ hlt hj hb (.inl (P7 m _ v hb hbig)) HG);clear HG;exact adT
  .by_cases hz:(s[k].toNat:Int)<=0
   .by_cases hj0:0 < j
    .have HR:=Hq (Mth.get_bad s k _ m _ _ hlt hj hb (.inr ⟨Aaa,hj0⟩) HG);have hik:i < k:=by have:=ah HK;omega
     clear HG;exact adT
    .have HR:=Hq (Mth.get_hit s k _ m _ _ hlt hj hb (yw m _ v hb hbig) (.inr Aaa) HG);have hik:k<=i:=by have:=ah HK;omega
     clear HG;go_wp2
     go_ret3
     exact⟨Qk HR (P8 m _ v hz) (by have:=ah HK;omega),rfl⟩
   .have HR:=Hq (Mth.get_hit s k _ m _ _ hlt hj hb (yw m _ v hb hbig) (.inl Aaa) HG);have hz':0 < (s[k].toNat:Int):=Aaa
    clear HG;go_wp2
    go_ret3
    exact⟨Qk HR (P9 m _ v hb) (by have:=ah HK;omega),rfl⟩):P:=h
theorem arh.Ac6(h:P:=by
 by_cases hb:128<=s[k].toNat
 .have HR:=Hq (Mth.get_more s k _ m _ _ hlt hj hb HG);have HN:=Hq (XJ s i j k m v HK hlt HU0 hb Dr);clear HG;go_wp2
  go_round
  case rel=>exact⟨_,_,_,k+1,HU,JJ m _ v hm,Aah,Aah,Aah,by have:=ah HK;omega,HN,HR⟩
  case measure=>simp[intOf];omega
 .go_wp2_with fail;generalize hx:((m:Int)+(s[k].toNat:Int) % 128*(v:Int))=x;have hx0:0<=x:=Aaa
  have hx1:x<=34359738368:=Aaa
  have HX:=Hq hx;clear hx hp0 hp1;have hA:(0:Int)<=(k:Int)+1:=Aaa
  have hB:(k:Int)+1<=(s.size:Int):=Aaa
  have hC:(i:Int)<=(k:Int)+1:=Aaa
  have hW:IntKind.i64.wrap ((k:Int)+1)=(k:Int)+1:=IntWalk.i64_in _ ⟨Aaa,Aaa⟩;by_cases hbig:4000000000 < x
  .have HR:=Hq (Mth.get_bad s k _ m _ _ hlt hj hb (.inl (P7 m _ v hb (by rw [ah HX];exact hbig))) HG);have hne:(([]:List UInt8) == (s.extract i (k+1)).toList)=false:=JB (by rw [zl s i j k (ah HK) hlt];simp);go_region_with (go_at_call 139;refine(uL _ _ (.inr hbig)).mono ?_;rintro e w' ⟨rfl,rfl⟩)
   all_goals
    go_wp2
    go_ret2
    exact⟨get_none HR,(Below.refl _ _).drew⟩
  .have hsm:x<=4000000000:=Aaa
   have HV:Hid (x.toNat=m+s[k].toNat*v):=by have h1:=P9 m s[k].toNat v hb;rw [ah HX] at h1;rw [h1];rfl
   by_cases hbad:s[k].toNat=0/\0 < j
   .have HR:=Hq (Mth.get_bad s k _ m _ _ hlt hj hb (.inr hbad) HG);have hne:(Mth.put x.toNat == (s.extract i (k+1)).toList)=false:=JB (by rw [ah HV];exact aj5 s i j k m v HK hlt HU0 hj Dr hbad.1 hbad.2);clear hbad;go_region_with (go_at_call 139;refine(vN _ _ hx0 hsm).mono ?_;rintro e w' ⟨rfl,hbel⟩)
    all_goals
     go_wp2
     go_ret2
     exact⟨get_none HR,by first|exact hbel|exact((Below.refl _ _).drew).trans hbel⟩
   .have HR:=Hq (Mth.get_hit s k _ m _ _ hlt hj hb (yw m _ v hb (by rw [ah HX];omega)) Aaa HG);have heq:(Mth.put x.toNat == (s.extract i (k+1)).toList)=true:=Wy (by rw [ah HV];exact aec s i j k m v HK hlt HU0 hj hb Dr (by omega));clear hbad;go_region_with (go_at_call 139;refine(vN _ _ hx0 hsm).mono ?_;rintro e w' ⟨rfl,hbel⟩)
    all_goals
     go_wp2
     go_ret2
     exact⟨get_some HR (by have:=ah HV;omega) (by have:=ah HK;omega),by first|exact hbel|exact((Below.refl _ _).drew).trans hbel⟩):P:=h
theorem ZL(h:P:=by
 have hwl:=aA h.blk;obtain⟨K,no,k,nn,⟨mK,mF,mT,mI,mL,mk,mN⟩⟩:=o;dsimp only at *;subst hK;have HW0:=Hq h;clear h;go_in
 go_upto_region 2 with fail;refine wp_at (λW hW=>?_);exact AcC):P:=h
theorem ari.AcC(h:P:=by
 obtain⟨_,e2,e3⟩:=ig w (.cells (bZ K no k nn 2 mF mT mI mL mk mN) 100) (.cells (bV 2 mF mT mI mL mk mN) 98);open apI in exact ajF):P:=h
theorem arj.AcC(h:P:=by
 obtain⟨_,e2,e3⟩:=ig w (.cells (bZ K no k nn 1 mF mT mI mL mk mN) 100) (.cells (bV 1 mF mT mI mL mk mN) 98);open apJ in exact ajF):P:=h
theorem ark.AcC(h:P:=by
 obtain⟨_,e2,e3⟩:=ig w (.cells (bZ K no k nn 0 mF mT mI mL mk mN) 100) (.cells (bV 0 mF mT mI mL mk mN) 98);open apK in exact ajF):P:=h
theorem afG(h:P:=by
 obtain⟨⟨p0,p1,p2,p3,p4,p5,p6,p7,p8,p9,nT⟩,_⟩:=aM HO;obtain⟨c0,c1,c2,c3,c4,c5,c6,c7,c8⟩:=nine HN;have hol:=aA HO;have hnl:=aA HN;go_wp2_with fail;refine(Nz W0 M7.at.r).mono ?_;rintro e W1 ⟨rfl,hb1⟩;have kD:=Hq (au HN hb1);have Wh:=Hq (au HO hb1);have oW:=Hq (au HR hb1);have HB1:=Hq (HB0.trans (hb1.mono HB0.size));exact Ad0):P:=h
theorem arl.Ad0(h:P:=by
 clear hb1 c0 c1 c2 c3 c4 c5 c6 c7 c8 p0 p1 p2 p3 p4 p5 p6 p7 p8 p9 nT hnl hol Nz HN HO HR M7 HB0;obtain⟨⟨p0,p1,p2,p3,p4,p5,p6,p7,p8,p9,nT⟩,_⟩:=aM Wh;obtain⟨c0,c1,c2,c3,c4,c5,c6,c7,c8⟩:=nine kD;have hol:=aA Wh;have hnl:=aA kD;have hrl:=aA oW;go_upto_region 9 with fail;refine wp_at (λW2 hW2=>?_);have hbw2:=ay W1 (.cells (fA no k nn 1) 95);have hq2:=heap_alloc_new W1 (.cells (fA no k nn 1) 95);rw [<-hW2] at hbw2 hq2;have jO:=Hq (au kD hbw2);have Gp:=Hq (au Wh hbw2);have jA:=Hq (au oW hbw2);have aji:=Hq hq2;have HB2:=Hq (HB1.trans (hbw2.mono HB1.size));have hqb:w.heap.size+2 < W1.heap.size:=hrl;clear hW2 hbw2 hq2 c0 c1 c2 c3 c4 c5 c6 c7 c8 p0 p1 p2 p3 p4 p5 p6 p7 p8 p9 nT kD Wh oW HB1 hnl hol hrl;obtain⟨⟨p0,p1,p2,p3,p4,p5,p6,p7,p8,p9,nT⟩,_⟩:=aM Gp;obtain⟨c0,c1,c2,c3,c4,c5,c6,c7,c8⟩:=nine jO;have hol:=aA Gp;have hnl:=aA jO;have hql:=aA aji;go_wp2_with fail;refine(Rf W2 (l7.kc (k:=9) (KC.of_below HB2) Aaa).at.p).mono ?_;rintro e W3 ⟨v3,rfl,akr,hrow3,hb3⟩;obtain⟨av,cv,rfl,_⟩:=GR.own_at (enc:=gu) (sz:=4) aW hrow3;have HRW:=Hq (LO.own (en:=gu) hrow3);have lH:=Hq (au jO hb3);have Ki:=Hq (au Gp hb3);have lu:=Hq (au jA hb3);have Wl:=Hq (au aji hb3);have HB3:=Hq (HB2.trans (hb3.mono HB2.size));clear hb3 akr hrow3 Rf jO Gp jA aji HB2 c0 c1 c2 c3 c4 c5 c6 c7 c8 p0 p1 p2 p3 p4 p5 p6 p7 p8 p9 nT hnl hol;obtain⟨c0,c1,c2,c3,c4,c5,c6,c7,c8⟩:=nine lH;obtain⟨q0,q1,q2,q3⟩:=iE Wl;have cf:=aj lH 4;have qf:=aj Wl 3;have hnl:=aA lH;have aDy:=aA Wl;go_upto_if 71 with fail;have hne1:w.heap.size≠W1.heap.size:=Aaa
 go_cut [5] (λz wx=>z= .int .i64 0/\∃pa pc,wx.heap[w.heap.size]?=some (.cells (iD n.id n.par a_k n.kids.length aY n.next pa PL.length pc fH n.out.length bE gG n.seen.length aZ n.old (some ⟨gr,0,none⟩) n.reqs.length bg) 40 (0,0))/\wx.heap[W1.heap.size]?=some (.cells (fA no k nn st) 95 (0,0))/\wx.heap[w.heap.size+1]?=some (.cells (bZ K no k nn mK mF mT mI mL mk mN) 100 (0,0))/\wx.heap[w.heap.size+2]?=some (.cells iF 40 (0,0))/\aI w wx/\PD gp n.pu (w.heap.size+3) wx pa pc PL)
 case first=>
  cases ok
  case' false=>
   simp at hPL hst
   subst hPL hst
   go_wp2_with fail
   go_meet
   case rel=>exact⟨rfl,_,_,lH,Wl,Ki,lu,HB3,.inr ⟨rfl,rfl⟩⟩
  simp at hPL hst;subst hPL hst;go_wp2_with fail;go_meet
  case rel=>
   have hk:aC [w.heap.size,W1.heap.size] W3 ((W3.setCell ⟨w.heap.size,4,none⟩ (.slice av RL.length cv)).setCell ⟨W1.heap.size,3,none⟩ (.int .i64 0)):=((aC.set _).mono Aac).trans ((aC.set _).mono Aac);exact⟨rfl,_,_,lS _ hne1 (aN lH 4 _),aN (lS _ hne1.symm Wl) 3 _,hk.obj Ki Aag,hk.obj lu Aag,(HB3.setCell (p:=⟨w.heap.size,4,none⟩) (Nat.le_refl _) _).setCell (p:=⟨W1.heap.size,3,none⟩) Aag _,.inl ((HRW.keeps hk (λx hx=>Aak)).lower Aaa)⟩
 case rest=>
 obtain⟨rfl,pa,pc,hN4,hQ4,hO4,hR4,hB4,hP4⟩:=hcut;clear c0 c1 c2 c3 c4 c5 c6 c7 c8 q0 q1 q2 q3 cf qf lH Ki lu Wl HB3 HRW hPL hst;obtain⟨W4,hW4⟩:∃x:World,x=wc:=⟨_,rfl⟩;subst hW4;have CS:=Hq hN4;have alR:=Hq hQ4;have aje:=Hq hO4;have Rx:=Hq hR4;have nR:=Hq hB4;have Wi:=Hq hP4;clear hN4 hQ4 hO4 hR4 hB4 hP4;have HA4:=Hq (l7.kc (k:=9) (KC.of_below nR) Aaa).at.r;obtain⟨c0,c1,c2,c3,c4,c5,c6,c7,c8⟩:=nine CS;obtain⟨⟨p0,p1,p2,p3,p4,p5,p6,p7,p8,p9,nT⟩,_⟩:=aM aje;have hnl:=aA CS;have hol:=aA aje;have hile:=wE n.reqs no;go_upto_block 0 with fail;go_cut [10] from 11 (λi wx=>i= .int .i64 (dX n.reqs no:Nat)/\Ge W4 wx)
 case first=>
  go_wp2_with fail;go_loopw [10] (λi wr=>∃j q:Nat,j<=n.reqs.length/\i= .int .i64 j/\(∀x (hx:x < n.reqs.length),x < j->n.reqs[x].no < no)/\wr=W4.drewN q) (λi _=>n.reqs.length - (intOf i).toNat)
  case atStart=>exact⟨0,0,Nat.zero_le _,rfl,λx hx h=>Aaa,rfl⟩
  case round=>
   obtain⟨j,q,hj,rfl,hlo,rfl⟩:=hrel;have Zc:=Hq hlo;clear hlo;by_cases hlt:j < n.reqs.length
   .obtain⟨g',off',e0,hg',y0,_,_,_⟩:=fU.four HA4 j hlt;cases e0
    rw [Nat.zero_add] at y0
    have HUP:=Hq (fun(h:no<=n.reqs[j].no)=>Me (l:=n.reqs) (no:=no) Gg (i:=j) hj Zc (λx hx hjx=>by
     rcases Nat.lt_or_eq_of_le hjx with h1|h1
     .have:=List.pairwise_iff_getElem.1 Gg j x hlt hx h1;omega
     .subst h1;exact h))
    have Ze:=Hq (fun(h:n.reqs[j].no < no)=>show∀x (hx:x < n.reqs.length),x < j+1->n.reqs[x].no < no from λx hx h2=>by
     by_cases e:x=j
     .subst e;exact h
     .exact Zc x hx Aaa)
    generalize n.reqs[j].no=rn at *;by_cases hcmp:rn < no
    .go_wp2_with fail;go_quiet (fail);go_wp2_with fail;go_roundw
     case rel=>exact⟨j+1,_,Aaa,Aah,Ze hcmp,rfl⟩
     case measure=>simp[intOf];omega
    .have abg:decide (rn < no)=false:=decide_eq_false hcmp;have HJ:=Hq (HUP Aaa);exact ahC
   .have hje:j=n.reqs.length:=Aaa
    subst hje;have HJ:=Hq (Me (l:=n.reqs) (no:=no) Gg (i:=n.reqs.length) (Nat.le_refl _) Zc (λx hx hjx=>Aaa));have abg:decide ((n.reqs.length:Int) < (n.reqs.length:Int))=false:=Aac
    exact ahC
 case rest=>
  obtain⟨rfl,hge⟩:=hcut;have Gn:=Hq (au CS hge);have D8:=Hq (au Rx hge);have adA:=Hq (au alR hge);have gY:=Hq (nR.trans (hge.mono nR.size));have HA5:=Hq (GR.At.below HA4 hge);have Nf:=Hq (Wi.below hge);clear Wi;clear hge c0 c1 c2 c3 c4 c5 c6 c7 c8 p0 p1 p2 p3 p4 p5 p6 p7 p8 p9 nT hnl hol CS aje Rx alR nR HA4;obtain⟨c0,c1,c2,c3,c4,c5,c6,c7,c8⟩:=nine Gn;obtain⟨q0,q1,q2,q3⟩:=iE adA;have hnl:=aA Gn;have Xe:=aA adA;have HIQ:=Hq (show vD n.reqs ⟨no,k,nn,st⟩=n.reqs.take (dX n.reqs no)++⟨no,k,nn,st⟩::n.reqs.drop (dX n.reqs no) from rfl);generalize dX n.reqs no=pos at *;obtain⟨IQ,akg⟩:∃IQ,vD n.reqs ⟨no,k,nn,st⟩=IQ:=⟨_,rfl⟩;rw [akg] at HIQ;have HIN:=Hq akg;clear akg;go_upto_region 16 with fail;go_cut [10] from 11 (λi wx=>i= .int .i64 pos/\∃va vc,(∃g,va=some ⟨g,0,none⟩)/\n.reqs.length+1<=vc/\wx.heap[w.heap.size]?=some (.cells (iD n.id n.par a_k n.kids.length aY n.next pa PL.length pc fH n.out.length bE gG n.seen.length aZ n.old va (n.reqs.length+1) vc) 40 (0,0))/\wx.heap[w.heap.size+2]?=some (.cells iF 40 (0,0))/\wx.heap[W1.heap.size]?=some (.cells (fA no k nn st) 95 (0,0))/\LO 95 aL 4 (w.heap.size+3) wx va vc IQ/\PD gp n.pu (w.heap.size+3) wx pa pc PL/\aI w wx)
  case first=>
   have hwb:wc.heap.size<=wc.heap.size:=Nat.le_refl _;have y8:=dA hnl c8;have z0:=dA Xe q0;have z1:=dA Xe q1;have z2:=dA Xe q2;have z3:=dA Xe q3;clear c0 c1 c2 c3 c4 c5 c6 c7 c8 q0 q1 q2 q3;have hpc:pos<=bg:=Aaa
   have Eb:=Hq (show fU wc (some ⟨gr,0,none⟩) (n.reqs.take pos) from GR.At.take HA5 pos)
   obtain⟨AD,hAD,hDR⟩:∃AD,(if bg=pos then some (⟨gr,0,none⟩:Addr) else some ⟨gr,pos*4,none⟩)=AD/\fU wc AD (n.reqs.drop pos):=by
    by_cases hcz:bg=pos
    .refine⟨_,rfl,?_⟩;rw [show n.reqs.drop pos=[] by apply List.drop_eq_nil_of_le;omega];exact GR.at_nil _ _
    .refine⟨_,rfl,?_⟩;rw [if_neg hcz];exact GR.At.drop HA5 pos
   have HDR:=Hq hDR;clear hDR;refine lZ 15 wc.heap.size Aab ?_;show jf _ _ _ _ _ _ 16 (Array.replicate 16 false) _ _
   refine tk [1,2,3,4,6,9,10,11,12] ?_;iterate 9 (refine tkB hwb (λK hK=>?_);go_simp;first|refine hK _ ?_|(apply Exists.intro;refine⟨λ_=>?_,hK _ ?_⟩;rfl);clear hK K)
   refine jJ ?_;clear y8 z0 z1 z2 z3;have hlt1:(n.reqs.take pos).length=pos:=Abj
   have abk:(n.reqs.drop pos).length=n.reqs.length - pos:=by rw [List.length_drop]
   have hL1:(n.reqs.take pos++[(⟨no,k,nn,st⟩:Rq)]).length=pos+1:=by rw [List.length_append,hlt1];rfl
   have hL2:(n.reqs.take pos++[(⟨no,k,nn,st⟩:Rq)]++n.reqs.drop pos).length=pos+1+(n.reqs.length - pos):=by rw [List.length_append,hL1,abk]
   obtain⟨i0,hi,hz0,hz1,hz2⟩:=info_parts zB;have HG0:=Hq (Below.refl wc.heap.size wc);refine mW 0 7 rfl rfl Aab Aad Aad Aae Aae (λx1 hx1=>?_) (λx1 hx1=>?_)
   .open apD in exact awz
   .open apC in exact awz
  case rest=>
   clear c0 c1 c2 c3 c4 c5 c6 c7 c8 q0 q1 q2 q3 hnl Xe Gn D8 adA gY HA5 Nf;obtain⟨rfl,va,vc,⟨gv,rfl⟩,hvc,hN6,hR6,hQ6,hL6,hP6,hB6⟩:=hcut;have HLQ:=Hq (show IQ.length=n.reqs.length+1 by rw [ah HIQ];simp;omega);have nD:=Hq hN6;have lI:=Hq hR6;have adB:=Hq hQ6;have HL6:=Hq hL6;have Zi:=Hq hP6;have yH:=Hq hB6;clear hN6 hR6 hQ6 hL6 hP6 hB6;rename_i wo _ _ _
   by_cases h30:30 < n.reqs.length+1
   .have HK:=Hq (show qH (setPu n PL) ⟨no,k,nn,st⟩=eO (nY (setPu n PL) (IQ.headD default).no) IQ.tail by unfold qH;rw [show((setPu n PL)).reqs=n.reqs from rfl,ah HIN,ah HLQ,if_pos h30])
    obtain⟨IH,IT,hIQ⟩:∃IH IT,IQ=IH::IT:=by
     cases hq:IQ with
     |nil=>have:=ah HLQ;rw [hq] at this;simp at this
     |cons a b=>exact⟨a,b,rfl⟩
    subst hIQ;have hIT:IT.length=n.reqs.length:=by have:=ah HLQ;simp at this;omega
    have y0:wc.cell? ⟨gv,0,none⟩=some (.int .i64 IH.no):=by
     obtain⟨g',off',e0,_,h0,_⟩:=fU.four (HL6.lies aR).1 0 Aac;cases e0
     simpa using h0
    have HTA:=Hq (show fU wc (some ⟨gv,1*4,none⟩) IT from GR.At.drop (HL6.lies aR).1 1);have aCk:=(HL6.lies aR).2 gv 0 rfl;obtain⟨c0,c1,c2,c3,c4,c5,c6,c7,c8⟩:=nine nD;have cf:=aj nD 7;have hnl:=aA nD;have aBJ:decide ((30:Int) < ((n.reqs.length+1:Nat):Int))=true:=decide_eq_true Aaa;go_upto_region 19 with fail;refine wp_at (λW7 Vn=>?_);have aDH:¬vc=1:=Aaa
    have aDI:1<=vc:=Aaa
    have qV:Hid (W7.heap[w.heap.size]?=some (.cells (iD n.id n.par a_k n.kids.length aY n.next pa PL.length pc fH n.out.length bE gG n.seen.length aZ IH.no (some ⟨gv,0,none⟩) (n.reqs.length+1) vc) 40 (0,0))):=by rw [Vn];exact aN nD 7 _
    have nU:Hid (W7.heap[w.heap.size+2]?=some (.cells iF 40 (0,0))):=by rw [Vn];exact lS _ Aaa lI
    have ajj:Hid (W7.heap[W1.heap.size]?=some (.cells (fA no k nn st) 95 (0,0))):=by rw [Vn];exact lS _ Aaa adB
    have Gb:Hid (aI w W7):=by rw [Vn];exact yH.setCell (p:=⟨w.heap.size,7,none⟩) (Nat.le_refl _) _
    have alX:Hid (fU W7 (some ⟨gv,1*4,none⟩) IT):=by
     rw [Vn];exact((show yT aL 4 (w.heap.size+3) wc (some ⟨gv,1*4,none⟩) IT from⟨HTA,λg off e=>by cases e;exact aCk⟩).keeps (aC.set _) (λx hx=>Aak)).1
    have HP7:Hid (PD gp n.pu (w.heap.size+3) W7 pa pc PL):=by rw [Vn];exact Zi.keeps (aC.set _) (λx hx=>by simp at hx;omega)
    clear Vn HTA y0 cf c0 c1 c2 c3 c4 c5 c6 c7 c8 hnl nD lI adB yH HL6 Zi;obtain⟨c0,c1,c2,c3,c4,c5,c6,c7,c8⟩:=nine qV;have cf:=aj qV 8;have hnl:=aA qV;obtain⟨i0,hi,hz0,hz1,hz2⟩:=info_parts zB;obtain⟨a8,c8',W8,hrun,OX,GH,⟨g8,rfl⟩,hc8⟩:=run_copy_row (P:=prog) aR Aaa W7 38 95 i0 (.agg (fA 0 ByteArray.empty 0 0)) 40 underlying38 hi hz0 hz1 hz2 rfl (some ⟨gv,1*4,none⟩) IT (vc - 1) alX (jc _) Aai Aaa;rw [hIT,Nat.one_mul] at hrun;have Zk:=Hq hrun;have uN:=Hq (au qV GH);have Gs:=Hq (au nU GH);have alS:=Hq (au ajj GH);have Yz:=Hq (Gb.trans (GH.mono Gb.size));have HL8:=Hq (LO.own (en:=aL) OX);have hz7:w.heap.size+3<=W7.heap.size:=by have:=aA ajj;omega
    have HP8:=Hq (HP7.below GH);have k8:=(nine uN).2.2.2.2.2.2.2.2;have kf8:=aj uN 8;clear hrun GH OX;go_upto_region 20 with(at_builtin;refine fZ rfl (.tmp 118) (.tmp 121) 38 rfl _ _ rfl rfl _ _ (Zk _) ?_)
    refine wp_at (λW9 hW9=>?_);have CU:Hid (W9.heap[w.heap.size]?=some (.cells (iD n.id n.par a_k n.kids.length aY n.next pa PL.length pc fH n.out.length bE gG n.seen.length aZ IH.no (some ⟨g8,0,none⟩) n.reqs.length c8') 40 (0,0))):=by rw [hW9];exact aN uN 8 _
    have oZ:Hid (W9.heap[w.heap.size+2]?=some (.cells iF 40 (0,0))):=by rw [hW9];exact lS _ Aaa Gs
    have alT:Hid (W9.heap[W1.heap.size]?=some (.cells (fA no k nn st) 95 (0,0))):=by rw [hW9];exact lS _ Aaa alS
    have HB9:Hid (aI w W9):=by rw [hW9];exact Yz.setCell (p:=⟨w.heap.size,8,none⟩) (Nat.le_refl _) _
    have HL9:Hid (LO 95 aL 4 (w.heap.size+3) W9 (some ⟨g8,0,none⟩) c8' IT):=by rw [hW9];exact((HL8.lower hz7).keeps (aC.set _) (λx hx=>Aak))
    have HP9:Hid (PD gp n.pu (w.heap.size+3) W9 pa pc PL):=by rw [hW9];exact HP8.keeps (aC.set _) (λx hx=>by simp at hx;omega)
    clear hW9 k8 kf8 uN Gs alS Yz HL8 qV nU ajj Gb alX Zk c0 c1 c2 c3 c4 c5 c6 c7 c8 cf hnl HP8 HP7;have akh:IT.length=n.reqs.length:=hIT;clear hIT;obtain⟨c0,c1,c2,c3,c4,c5,c6,c7,c8⟩:=nine CU;have hnl:=aA CU;have hnr:=aA oZ;have hnq:=aA alT;clear c0 c1 c2 c3 c4 c5 c6 c7 c8;refine vT 4 (w.heap.size+2) Aab ?_;show jF _ _ _ _ _ _ 5 (Array.replicate 5 false) _ _
    refine F6 0 20 rfl Aab Aab Aab Aab Aab (λ_ _ _ _ h=>h) Aad 40 _ rfl w.heap.size 0 rfl (iD n.id n.par a_k n.kids.length aY n.next pa PL.length pc fH n.out.length bE gG n.seen.length aZ IH.no (some ⟨g8,0,none⟩) n.reqs.length c8').toList _ (Fh CU) ⟨hnl,Aaa⟩ underlying40 rfl Aab ?_;open apM in exact awE
   .have HK:=Hq (show qH (setPu n PL) ⟨no,k,nn,st⟩=eO (setPu n PL) IQ by unfold qH;rw [show((setPu n PL)).reqs=n.reqs from rfl,ah HIN,ah HLQ,if_neg h30]);obtain⟨c0,c1,c2,c3,c4,c5,c6,c7,c8⟩:=nine nD;have hnl:=aA nD;have aBJ:decide ((30:Int) < ((n.reqs.length+1:Nat):Int))=false:=decide_eq_false Aaa;have hIT:IQ.length=n.reqs.length+1:=ah HLQ;clear HLQ;have akh:=Hq hIT;clear hIT;go_upto_region 20 with fail;clear c0 c1 c2 c3 c4 c5 c6 c7 c8 hnl;obtain⟨c0,c1,c2,c3,c4,c5,c6,c7,c8⟩:=nine nD;have hnl:=aA nD;have hnr:=aA lI;have hnq:=aA adB;clear c0 c1 c2 c3 c4 c5 c6 c7 c8;refine vT 4 (w.heap.size+2) Aab ?_;show jF _ _ _ _ _ _ 5 (Array.replicate 5 false) _ _
    refine F6 0 20 rfl Aab Aab Aab Aab Aab (λ_ _ _ _ h=>h) Aad 40 _ rfl w.heap.size 0 rfl (iD n.id n.par a_k n.kids.length aY n.next pa PL.length pc fH n.out.length bE gG n.seen.length aZ n.old (some ⟨gv,0,none⟩) (n.reqs.length+1) vc).toList _ (Fh nD) ⟨hnl,Aaa⟩ underlying40 rfl Aab ?_;open apL in exact awE):P:=h
theorem arn.Ad0(h:P:=by
 have yM:=Hq (M7.kc (k:=9) (KC.of_below hb1) Aaa);clear hb1 c0 c1 c2 c3 c4 c5 c6 c7 c8 p0 p1 p2 p3 p4 p5 p6 p7 p8 p9 nT hnl hol Nz HN HO HR M7 HB0;obtain⟨g,off,e0,hg,q0,q1,q2,q3⟩:=fU.four yM.at.r i hi;rw [ah alU] at q0 q1 q2 q3;clear alU;obtain⟨rno,rk,rn,rs⟩:=rq;exact Kk4):P:=h
theorem UQ(h:P:=by
 clear HNk HYk;go_wp2_with fail;refine(HCk wr HB).mono ?_;rintro e w1 ⟨rfl,hb1⟩;have HB1:=Hq (HB.trans (hb1.mono HB.size));rw [hq];exact AbB):P:=h
theorem aro.AbB(h:P:=by
 clear hb1 q0 q1 q2;exact ah6):P:=h
theorem arp.AbB(h:P:=by
 clear hb1 q0 q1 q2;exact aaF):P:=h
theorem arq.AbB(h:P:=by
 clear hb1 q0 q1 q2 q3;exact ah6):P:=h
theorem ars.AbB(h:P:=by
 clear hb1 q0 q1 q2 q3;go_wp2_with fail;go_ret;exact⟨Aac,HB1⟩):P:=h
theorem afH(h:P:=by
 go_wp2_with fail;refine(HP _).mono ?_;rintro e w5 ⟨rfl,hb5⟩;have SH:=aK HR hb5;have hM5:=aK HMB hb5;have hB5:=HB.trans (hb5.mono HB.size);have aDM:=dD hM5;have aDO:=dD SH;obtain⟨⟨d0,d1,d2,d3,d4,d5,d6⟩,f0,f1,f2,f3,f4,f5,f6⟩:=eF SH;have Rw:=Hq SH;have gY:=Hq hB5;clear hb5 HR HMB HB q0 q1 q2 q3 q4 q5 q6 HP hzM hzR;exact AeO):P:=h
theorem aru.AeO(h:P:=by
 cases hp:cZ ⟨s[0].toNat,N1,N2,N3,N4,TX,N5⟩
 case' false=>
  have hO:OK=false:=by rw [ah HO,hp];simp
  have wQ:=Hq (HZ hO)
  clear hO HO HZ HM hM5 SH hB5 hp
  open aso in exact afW
 have hO:OK=true:=by rw [ah HO,decide_eq_true (ah HE),hp];rfl
 have wQ:=Hq (HM hO);obtain⟨q0,q1,q2,q3,q4,q5,q6⟩:=tC hM5;clear hO HO HZ HM hM5 SH hB5 hp;open asg in exact afV):P:=h
theorem arv.AeO(h:P:=by
 by_cases hp:jC ⟨s[0].toNat,N1,N2,N3,N4,TX,N5⟩=s
 case' neg=>
  have hO:OK=false:=by rw [ah HO,decide_eq_false hp];simp
  have wQ:=Hq (HZ hO)
  have hq:((jC ⟨s[0].toNat,N1,N2,N3,N4,TX,N5⟩).toList == s.toList)=false:=by
   exact ahU
  clear hO HO HZ HM hM5 SH hB5
  generalize jC ⟨s[0].toNat,N1,N2,N3,N4,TX,N5⟩=pm at *
  have HP:=Hq hp
  clear hp
  open asn in exact afW
 have hO:OK=true:=by rw [ah HO,decide_eq_true hE,decide_eq_true hp];rfl
 have wQ:=Hq (HM hO);have hq:((jC ⟨s[0].toNat,N1,N2,N3,N4,TX,N5⟩).toList == s.toList)=true:=by rw [hp];simp
 obtain⟨q0,q1,q2,q3,q4,q5,q6⟩:=tC hM5;clear hO HO HZ HM hM5 SH hB5;have HP:=Hq hp;clear hp;generalize jC ⟨s[0].toNat,N1,N2,N3,N4,TX,N5⟩=pm at *;open asf in exact afV):P:=h
theorem NW(h:P:=by
 have hd:((l.length:Int) != (m.length:Int))=true:=Aag
 have HP:=Hq (show¬l=m from λh=>hn (congrArg List.length h));exact Aa5):P:=h
theorem arw.Aa5(h:P:=by
 clear hn ha hb;go_in
 exact Oc):P:=h
theorem arx.Aa5(h:P:=by
 clear hn ha hb;go_in
 exact Oc):P:=h
theorem arz.Aa5(h:P:=by
 clear hn ha hb;go_in
 exact Oc):P:=h
theorem arA.Aa5(h:P:=by
 clear hn ha hb;go_in
 exact Oc):P:=h
theorem arB.Aa5(h:P:=by
 clear hn ha hb hi;go_in
 exact Oc):P:=h
theorem afI(h:P:=by
 obtain⟨d0,d1,d2,d3,d4,d5,d6,d7,d8⟩:=nine xI;have f0:=aj xI 0;have f1:=aj xI 1;have f2:=aj xI 2;have f3:=aj xI 3;have f4:=aj xI 4;have f5:=aj xI 5;have f6:=aj xI 6;have f7:=aj xI 7;have f8:=aj xI 8;have hrl:=aA xI;exact AdR):P:=h
theorem arC.AdR(h:P:=by
 go_simp;refine aH 4 rfl Aab Aad ?_;go_simp;refine aH 6 rfl Aab Aad ?_;go_simp;refine aH 7 rfl Aab Aad ?_;go_simp;refine wpAny_done Aab ?_;go_simp;clear d0 d1 d2 d3 d4 d5 d6 d7 d8 f0 f1 f2 f3 f4 f5 f6 f7 f8;go_wp2_with fail;refine aO (λW' hW'=>?_)
 obtain⟨SW,hSW,hsz,hk0,e3⟩:∃SW:World,W'=SW.alloc (.cells (bV qK qF qT qI qL qk qN) 98)/\SW.heap.size=z.heap.size/\aC [w.heap.size+1] z SW/\SW.heap[w.heap.size+1]?=some (.cells (iD n.id n.par a_k n.kids.length aY (n.next+1) av RL.length cv a6 (n.out.length+1) c6 gG n.seen.length aZ n.old gM n.reqs.length bg) 40 (0,0)):=
  ⟨GR.setW z (w.heap.size+1) 0 (iD n.id n.par a_k n.kids.length aY (n.next+1) av RL.length cv a6 (n.out.length+1) c6 gG n.seen.length aZ n.old gM n.reqs.length bg).toList,hW',by simp[GR.setW],aT (iD n.id n.par a_k n.kids.length aY (n.next+1) av RL.length cv a6 (n.out.length+1) c6 gG n.seen.length aZ n.old gM n.reqs.length bg).toList z 0,GR.setW_blk (iD n.id n.par a_k n.kids.length aY (n.next+1) av RL.length cv a6 (n.out.length+1) c6 gG n.seen.length aZ n.old gM n.reqs.length bg).toList (o:=0) (xs:=iF.toList) xI⟩
 have e4:W'.heap[w.heap.size+1]?=some (.cells (iD n.id n.par a_k n.kids.length aY (n.next+1) av RL.length cv a6 (n.out.length+1) c6 gG n.seen.length aZ n.old gM n.reqs.length bg) 40 (0,0)):=by rw [hSW];exact au e3 (ay SW _)
 have fP:aC [w.heap.size+1] z W':=by rw [hSW];exact hk0.trans (aC.of_below (ay SW _))
 have hm:W'.heap[z.heap.size]?=some (.cells (bV qK qF qT qI qL qk qN) 98 (0,0)):=by rw [hSW,<-hsz];exact heap_alloc_new SW _
 have HFI:=Hq (DX W' z.heap.size ((aC.of_below HZ).trans fP) hm (by have:=aA xI;omega));obtain⟨x0,x1,x2,x3,x4,x5,x6,x7,x8⟩:=nine e4;clear hW' e4 fP hm hSW hsz hk0 e3;exact axA):P:=h
theorem arD.AdR(h:P:=by
 refine aH 5 rfl Aab Aad ?_;go_simp;refine aH 6 rfl Aab Aad ?_;go_simp;refine aH 7 rfl Aab Aad ?_;go_simp;refine wpAny_done Aab ?_;go_simp;clear d0 d1 d2 d3 d4 d5 d6 d7 d8 f0 f1 f2 f3 f4 f5 f6 f7 f8 hrl;go_wp2_with fail;refine aO (λW' hW'=>?_)
 have e4:W'.heap[w.heap.size+1]?=some (.cells (iD n.id n.par a_k n.kids.length aY (n.next+1) av RL.length cv a6 (n.out.length+1) c6 gG n.seen.length aZ n.old gM n.reqs.length bg) 40 (0,0)):=by
  rw [hW'];exact GR.setW_blk (iD n.id n.par a_k n.kids.length aY (n.next+1) av RL.length cv a6 (n.out.length+1) c6 gG n.seen.length aZ n.old gM n.reqs.length bg).toList (o:=0) (xs:=iF.toList) xI
 have fP:aC [w.heap.size+1] z2 W':=by
  rw [hW'];exact aT (iD n.id n.par a_k n.kids.length aY (n.next+1) av RL.length cv a6 (n.out.length+1) c6 gG n.seen.length aZ n.old gM n.reqs.length bg).toList z2 0
 have HFI:=Hq (DX W' z.heap.size ((aC.of_below HZ2).trans fP) (fP.obj HM2 (λhm=>by have:z.heap.size=w.heap.size+1:=Aba;omega)) Aaa);obtain⟨x0,x1,x2,x3,x4,x5,x6,x7,x8⟩:=nine e4;clear hW' e4 fP;exact axA):P:=h
theorem afJ(h:P:=by
 have hnl:=aA HN;have hol:=aA HO;go_wp2_with fail;refine(nS W1 HB1).mono ?_;rintro e W2 ⟨rfl,hb2⟩;have jO:=Hq (au HN hb2);have Gp:=Hq (au HO hb2);have jA:=Hq (au HR hb2);have HB2:=Hq (HB1.trans (hb2.mono HB1.size));clear hb2 c0 c1 c2 c3 c4 c5 c6 c7 c8 p0 p1 p2 p3 p4 p5 p6 p7 p8 p9 nT hnl hol nS HN HO HR HB1;exact Aed):P:=h
theorem arE.Aed(h:P:=by
 obtain⟨⟨p0,p1,p2,p3,p4,p5,p6,p7,p8,p9,nT⟩,_⟩:=aM Gp;have hol:=aA Gp;go_wp2_with fail;refine(D7 W2).mono ?_;rintro e W4 ⟨rfl,hb4⟩;have Gn:=Hq (au jO hb4);have ajf:=Hq (au Gp hb4);have D8:=Hq (au jA hb4);have gY:=Hq (HB2.trans (hb4.mono HB2.size));clear hb4 p0 p1 p2 p3 p4 p5 p6 p7 p8 p9 nT hol D7 jO Gp jA HB2;obtain⟨c0,c1,c2,c3,c4,c5,c6,c7,c8⟩:=nine Gn;have hnl:=aA Gn;go_wp2_with fail;refine(M4 W4 gY).mono ?_;exact Adn):P:=h
theorem arF.Aed(h:P:=by
 obtain⟨c0,c1,c2,c3,c4,c5,c6,c7,c8⟩:=nine jO;have hnl:=aA jO;go_wp2_with fail;refine(M4 W2 HB2).mono ?_;rintro e W3 ⟨A1,G1,cc,rfl,YK,hb3,_,_⟩;have lu:=Hq (au jA hb3);have HB3:=Hq (HB2.trans (hb3.mono HB2.size));have l7:=Hq YK;have hrs:=aA jA;clear hb3 YK c0 c1 c2 c3 c4 c5 c6 c7 c8 hnl M4 jO Gp jA;exact axf):P:=h
theorem afK(h:P:=by
 obtain⟨d0,d1,d2,d3,d4,d5,d6,d7,d8⟩:=nine lu;have f0:=aj lu 0;have f1:=aj lu 1;have f2:=aj lu 2;have f3:=aj lu 3;have f4:=aj lu 4;have f5:=aj lu 5;have f6:=aj lu 6;have f7:=aj lu 7;have f8:=aj lu 8;have hrl:=aA lu;go_wp2_with fail;refine aO (λW' hW'=>?_);exact AcW):P:=h
theorem arG.AcW(h:P:=by
 have e4:W'.heap[w.heap.size+2]?=some (.cells (dG N1 A1) 40 (0,0)):=by
  rw [hW'];exact GR.setW_blk (dG N1 A1).toList (o:=0) (xs:=iF.toList) lu
 have fP:aC [w.heap.size+2] W3 W':=by
  rw [hW'];exact aT (dG N1 A1).toList W3 0
 have HAT:=Hq (λW'' (ho:Out c w W' W'')=>(show RM W'' A1 N1 from(by
  obtain⟨F,hk,hF⟩:=ho
  exact YT _ ⟨(w.heap.size+2)::F,aC.trans (b:=W') (fP.mono (λx hx=>Aaz)) (hk.mono (λx hx=>Aaj)),λy hy=>by
   rcases List.mem_cons.1 hy with h1|h1
   .exact Vh
   .exact⟨Nat.lt_of_lt_of_le (hF y h1).1 h02,by rw [fq (hF y h1).1];exact(hF y h1).2⟩⟩)))
 have HMT:=Hq (λW'' (ho:Out c w W' W'')=>(show GR.At lK 7 W'' ma L1 from(by
  obtain⟨F,hk,hF⟩:=ho
  exact adq _ ⟨(w.heap.size+2)::F,aC.trans (b:=W') (fP.mono (λx hx=>Aaz)) (hk.mono (λx hx=>Aaj)),λy hy=>by
   rcases List.mem_cons.1 hy with h1|h1
   .exact Vh
   .exact⟨Nat.lt_of_lt_of_le (hF y h1).1 h02,by rw [fq (hF y h1).1];exact(hF y h1).2⟩⟩)))
 have oh:Hid (Below B w W'):=HB3.trans (fP.below (λx hx=>by have:x=w.heap.size+2:=Aaf;omega) (Nat.le_trans hB HB3.size));have sZ:=Hq (Apart.keeps (c:=c) HK3 HB3.size fP (λx hx=>by have:x=w.heap.size+2:=Aaf;omega));obtain⟨x0,x1,x2,x3,x4,x5,x6,x7,x8⟩:=nine e4;clear hW' e4 fP;exact bodyPost_ret (v:= .tuple #[(gB N1 A1),.slice ma L1.length mc,.int .i64 BZ]) Abq rfl ⟨A1,ma,mc,rfl,HAT,HMT,oh,sZ⟩):P:=h
theorem arH.AcW(h:P:=by
 have e4:W'.heap[w.heap.size+2]?=some (.cells (dG n A1) 40 (0,0)):=by
  rw [hW'];exact GR.setW_blk (dG n A1).toList (o:=0) (xs:=iF.toList) lu
 have hkc:KC cc 0 W3 W':=by
  rw [hW'];exact KC.setW (o:=0) (dG n A1).toList (l7.lo _ hrs)
 have HAT:=Hq (λW'' (ho:Dp w W' W'')=>((l7.kc0 hkc).kc0 (ho.kc (λx hx=>l7.lo x Aaa))).rm)
 have oh:Hid (aI w W'):=by
  rw [hW'];exact GR.setW_below Aaa (dG n A1).toList (o:=0) HB3
 obtain⟨x0,x1,x2,x3,x4,x5,x6,x7,x8⟩:=nine e4;clear hW' e4 hkc;exact bodyPost_ret (v:= .tuple #[(gB n A1),.slice (some ⟨W0.heap.size,0,none⟩) 0 0,.int .i64 3]) Aay rfl ⟨A1,some ⟨W0.heap.size,0,none⟩,0,rfl,HAT,λW'' _ i hi=>Aas,oh⟩):P:=h
theorem afL(h:P:=by
 obtain⟨d0,d1,d2,d3,d4,d5,d6,d7,d8⟩:=nine lI;have f0:=aj lI 0;have f1:=aj lI 1;have f2:=aj lI 2;have f3:=aj lI 3;have f4:=aj lI 4;have f5:=aj lI 5;have f6:=aj lI 6;have f7:=aj lI 7;have f8:=aj lI 8;have hrl:=aA lI;go_wp2_with fail;refine aO (λW' hW'=>?_);exact Adt):P:=h
theorem arI.Adt(h:P:=by
 have e4:W'.heap[w.heap.size+2]?=some (.cells (dG n A1) 40 (0,0)):=by
  rw [hW'];exact GR.setW_blk (dG n A1).toList (o:=0) (xs:=iF.toList) lI
 have fP:aC [w.heap.size+2] W5 W':=by
  rw [hW'];exact aT (dG n A1).toList W5 0
 have HAT:=Hq (λW'' (ho:Dp w W' W'')=>((Rs.kc (k:=9) (KC.keeps fP (λx hx=>by have:x=w.heap.size+2:=Aaf;rw [this];exact Gj)) Aaa).kc (k:=9) (ho.kc (λx hx=>YZ x Aaa)) Aaa).rm);open avS in exact ag0):P:=h
theorem arJ.Adt(h:P:=by
 have e4:W'.heap[w.heap.size+2]?=some (.cells (dG N1 A2) 40 (0,0)):=by
  rw [hW'];exact GR.setW_blk (dG N1 A2).toList (o:=0) (xs:=iF.toList) lI
 have fP:aC [w.heap.size+2] W5 W':=by
  rw [hW'];exact aT (dG N1 A2).toList W5 0
 have HAT:=Hq (λW'' (ho:Dp w W' W'')=>YT W'' (ho.out (c:=c) (fP) hrx YZ));have HMT:=Hq (λW'' (ho:Dp w W' W'')=>adq W'' (ho.out (c:=c) (fP) hrx YZ));open avQ in exact ag0):P:=h
theorem afM(h:P:=by
 obtain⟨g,off,rfl,hgw,c0,c1,c2,c3⟩:=aG.four (GR.At.below HA cK) 0 hlt;simp only[Nat.zero_mul,Nat.add_zero] at c0 c1 c2 c3;have hgt:decide ((0:Int) < ((0:Nat):Int))=false:=rfl;have nG:=Hq hat;have iH:=Hq (pJ (nL l) 0);clear hat;generalize l[0]=pu at *;exact AeJ):P:=h
theorem arK.AeJ(h:P:=by
 cases hpo:iy pu
 .have HO:=Hq (λw1=>oU pu false w1 hpo);have HBAD:=Hq (nM hlt (show nL l 0=false by rw [ah nG,hpo];rfl));clear nG iH hpo;obtain⟨pk,pm,pf,ps⟩:=pu;dsimp only at c0 c1 c2 c3;open amw in exact aag
 .have HO:=Hq (λw1=>oU pu true w1 hpo);have DZ:=Hq (show nL l 0=true by rw [ah nG,hpo];rfl);clear nG hpo;obtain⟨pk,pm,pf,ps⟩:=pu;dsimp only at c0 c1 c2 c3;open amv in exact aag):P:=h
theorem arL.AeJ(h:P:=by
 obtain⟨pk,pm,pf,ps⟩:=pu;dsimp only at c0 c1 c2 c3 hks;cases hkb:keyOk pk.data.toList
 .have HB:=Hq hkb;have HBAD:=Hq (nM hlt (show nL l 0=false by rw [ah nG];simp[iy,ah HB]));clear nG iH;have hkb':=ah HB;exact Zk1
 have hkb':=hkb;by_cases h1:0<=pm/\pm<=1000000000
 case' neg=>
  have hA:qw pm=false:=decide_eq_false h1;have g1:decide (xJ pm 0 1000000000)=false:=decide_eq_false h1;exact adW
 have g1:decide (xJ pm 0 1000000000)=true:=decide_eq_true h1;have hA1:qw pm=true:=decide_eq_true h1;by_cases h2:0<=pf/\pf<=1000000000
 case' neg=>
  have hA:qw pf=false:=decide_eq_false h2;have g2:decide (xJ pf 0 1000000000)=false:=decide_eq_false h2;exact adW
 have g2:decide (xJ pf 0 1000000000)=true:=decide_eq_true h2;have hA2:qw pf=true:=decide_eq_true h2;by_cases h3:0<=ps/\ps<=1000000000
 case' neg=>
  have hA:qw ps=false:=decide_eq_false h3;have g3:decide (xJ ps 0 1000000000)=false:=decide_eq_false h3;exact adW
 open avu in exact agV):P:=h
theorem afN(h:P:=by
 obtain⟨d0,d1,d2,d3,d4,d5,d6,d7,d8⟩:=nine Nh;have f0:=aj Nh 0;have f1:=aj Nh 1;have f2:=aj Nh 2;have f3:=aj Nh 3;have f4:=aj Nh 4;have f5:=aj Nh 5;have f6:=aj Nh 6;have f7:=aj Nh 7;have f8:=aj Nh 8;have hrl:=aA Nh;go_simp;exact AdA):P:=h
theorem arM.AdA(h:P:=by
 have hkx:aC [w.heap.size+2] x (GR.setW x (w.heap.size+2) 0 (dG n A1).toList):=aT (dG n A1).toList x 0;refine⟨hkx.below (λx hx=>by have:x=w.heap.size+2:=Aaf;omega) (by have:=aA Nh;omega),?_⟩;have Rn:=Hq ((aC.of_below hx).trans hkx);have HR1:=Hq (GR.setW_blk (dG n A1).toList (o:=0) (xs:=iF.toList) Nh);clear hx hkx d0 d1 d2 d3 d4 d5 d6 d7 d8 f0 f1 f2 f3 f4 f5 f6 f7 f8 hrl Nh;refine gF 10 rfl Aab Aad Aae (λy hy=>?_);go_simp;have sU:=Hq (Rn.trans (aC.of_below hy));have HR2:=Hq (au HR1 hy);clear hy Rn HR1;refine⟨(ay y _).mono (by have:=aA HR2;omega),?_⟩;refine oI Aab (λz hz=>?_);have Je:=Hq (au (au HR2 (ay y (.cells (bV 0 n.id n.par 0 0 k nn) 98))) hz);have fP:aC [w.heap.size+2] X z:=sU.trans ((aC.of_below (ay y (.cells (bV 0 n.id n.par 0 0 k nn) 98))).trans (aC.of_below hz));have HMZ:=Hq (au (heap_alloc_new y (.cells (bV 0 n.id n.par 0 0 k nn) 98)) hz);have hmb:w.heap.size<=y.heap.size:=by have:=aA HR2;omega
 clear hz sU HR2;open anZ in exact awk):P:=h
theorem arN.AdA(h:P:=by
 have fP:aC [w.heap.size+2] y (GR.setW y (w.heap.size+2) 0 (dG n A1).toList):=aT (dG n A1).toList y 0;refine⟨fP.below (λx hx=>by have:x=w.heap.size+2:=Aaf;omega) (by have:=aA Nh;omega),?_⟩;clear fP d0 d1 d2 d3 d4 d5 d6 d7 d8 f0 f1 f2 f3 f4 f5 f6 f7 f8 hrl;refine oI Aab (λz hz=>?_);have Je:=Hq (au (GR.setW_blk (dG n A1).toList (o:=0) (xs:=iF.toList) Nh) hz);have fP:aC [w.heap.size+2] X z:=(aC.of_below HY).trans ((aT (dG n A1).toList y 0).trans (aC.of_below hz));have HMZ:=Hq (au ((aT (dG n A1).toList y 0).obj HMY (λhm=>by have:x.heap.size=w.heap.size+2:=Aba;omega)) hz);clear hz HY Nh HMY;have hmb:w.heap.size<=x.heap.size:=Aaa
 open an0 in exact awk):P:=h
theorem afO(h:P:=by
 clear hr hc2 hc3;go_in
 go_wp2_with (first|(go_at_call_of 100 F;refine(H1 _).mono ?_;rintro e w1 ⟨rfl,rfl⟩)|(go_at_call_of 100 T;refine(H2 _).mono ?_;rintro e w1 ⟨rfl,rfl⟩)|(go_at_call_of 52 k;refine(Gj _).mono ?_;rintro e w1 ⟨rfl,rfl⟩)|(go_at_call_of 49 N;refine(HC3 _).mono ?_;rintro e w1 ⟨rfl,rfl⟩))
 exact AeW):P:=h
theorem arO.AeW(h:P:=by
 go_ret;exact⟨aF (by first|exact HP.symm|exact he.trans HP.symm),ay w _⟩):P:=h
theorem arP.AeW(h:P:=by
 exact wM):P:=h
theorem afP(h:P:=by
 obtain⟨c0,c1,c2,c3,c4,c5,c6,c7,c8⟩:=nine Av;have k0:=cell_grown' c0;have k1:=cell_grown' c1;have k2:=cell_grown' c2;have k3:=cell_grown' c3;have k4:=cell_grown' c4;have k5:=cell_grown' c5;have k6:=cell_grown' c6;have k7:=cell_grown' c7;have k8:=cell_grown' c8;have m0:=cell_grown' d0;have m1:=cell_grown' d1;have m2:=cell_grown' d2;exact Ad3):P:=h
theorem arQ.Ad3(h:P:=by
 have m3:=cell_grown' d3;have en:IntKind.i64.wrap (old+1)=old+1:=IntWalk.i64_in _ ⟨Aaa,Aaa⟩;go_cut [151] (λr wx=>r= .bool bb/\aI W1 wx)
 case first=>
  rcases CV with⟨rfl,rfl⟩|⟨j,y,rfl,rfl,q1⟩
  .have hgt:decide ((0:Int) < ((0:Nat):Int))=false:=rfl;open aAh in exact Yk6
  .have hgt:decide ((0:Int) < ((j+1:Nat):Int))=true:=decide_eq_true Aaa;have m9:=cell_grown' q1;open aAg in exact Yk6
 case rest=>
  obtain⟨rfl,hbx⟩:=hcut;open asI in exact UY):P:=h
theorem arR.Ad3(h:P:=by
 go_cut [64] (λr wx=>r= .bool bb/\aI W1 wx)
 case first=>
  rcases CV with⟨rfl,rfl⟩|⟨j,y,rfl,rfl,q1⟩
  .have hgt:decide ((0:Int) < ((0:Nat):Int))=false:=rfl;open aoU in exact awp
  .have hgt:decide ((0:Int) < ((j+1:Nat):Int))=true:=decide_eq_true Aaa;have m3:=cell_grown' q1;open aoT in exact awp
 case rest=>
  obtain⟨rfl,hbx⟩:=hcut;have HW2:=Hq (au HW1 hbx);open asH in exact UY):P:=h
theorem afQ(h:P:=by
 clear HR;clear ho hk hn;go_in
 go_wp2_with (first|(go_at_call_of 169 no;refine(HO _).mono ?_;rintro e w1 ⟨rfl,rfl⟩)|(go_at_call_of 204 k;refine(HK _).mono ?_;rintro e w1 ⟨rfl,rfl⟩)|(go_at_call_of 169 n;refine(HN _).mono ?_;rintro e w1 ⟨rfl,rfl⟩))
 exact AeL):P:=h
theorem arS.AeL(h:P:=by
 go_region
 go_upto_region 23 with fail;open atx in exact U9):P:=h
theorem arT.AeL(h:P:=by
 go_ret;exact⟨aF (by rw [ah HP];simp),by first|exact jv w _ _|exact Below.setNew (jv w _ _) Aaa⟩):P:=h
theorem UR(h:P:=by
 have hlo:=h.o.lt;have l7:=Hq (h.nine hB);clear h;go_in
 go_upto_region 1 with fail;refine wp_at (λW0 hW=>?_);exact AbE):P:=h
theorem arU.AbE(h:P:=by
 obtain⟨e1,e2,e3⟩:=ig w (.cells (dG n A) 40) (.cells iF 40);open amL in exact ajw):P:=h
theorem arV.AbE(h:P:=by
 obtain⟨e1,e2,e3⟩:=ig w (.cells (dG n A) 40) (.cells iF 40);open auf in exact agu):P:=h
theorem arW.AbE(h:P:=by
 obtain⟨e1,e2,e3⟩:=ig w (.cells (dG n (⟨a_k,(some ⟨gp,0,none⟩),fH,gG,gM,aY,dH,bE,aZ,bg⟩:bQ)) 40) (.cells iF 40);open amM in exact ajw):P:=h
theorem arX.AbE(h:P:=by
 obtain⟨e1,e2,e3⟩:=ig w (.cells (dG n (⟨a_k,jH,fH,gG,gM,aY,dH,bE,aZ,bg⟩:bQ)) 40) (.cells iF 40);open amN in exact ajw):P:=h
theorem afR(h:P:=by
 have hp0:w1.cell? ⟨w.heap.size,0,none⟩=some (.string pk):=by rw [cell_of_row w1 _ _ _ _ (0,0) (ah yO)];rfl
 exact AcT):P:=h
end Go.Proofs.YtohmklmkjmlpjaaGreatDoor
