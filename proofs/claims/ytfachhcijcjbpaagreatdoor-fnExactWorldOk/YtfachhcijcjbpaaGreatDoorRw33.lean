/- Parts. -/
import Derived.Test.YtfachhcijcjbpaaGreatDoorRw31
import Derived.Test.YtfachhcijcjbpaaGreatDoorRw32
namespace Go.Proofs.YtfachhcijcjbpaaGreatDoor
open Go.Proofs.Tryz
set_option maxHeartbeats 8000000
set_option maxRecDepth 100000
open Go.RowKit
open Mth
abbrev hkG (k:Kp) (A:KA) (st:Int) (l r:Bool):Array Value:=#[.int .i64 k.node.id,.int .i64 k.node.par,.slice A.n.k k.node.kids.length A.n.ck,.int .i64 k.node.next,.slice A.n.p k.node.pu.length A.n.cp,.slice A.n.o k.node.out.length A.n.co,.slice A.n.s k.node.seen.length A.n.cs,.int .i64 k.node.old,.slice A.n.r k.node.reqs.length A.n.cr,.int .i32 st,.int .u32 0,.int .i64 k.base.id,.int .i64 k.base.par,.slice A.b.k k.base.kids.length A.b.ck,.int .i64 k.base.next,.slice A.b.p k.base.pu.length A.b.cp,.slice A.b.o k.base.out.length A.b.co,.slice A.b.s k.base.seen.length A.b.cs,.int .i64 k.base.old,.slice A.b.r k.base.reqs.length A.b.cr,.string k.log,.int .i64 k.safe,.slice A.wa k.wait.length A.wc,.slice A.aa k.asked.length A.ac,.bool l,.bool r]
structure KH (lo m1 m2 m3 g:Nat) (w:World) (A:KA) (k:Kp):Prop where
 n:∃G,rT w A.n G k.node/\(G.all k.node).Nodup/\∀x∈G.all k.node,lo<=x/\x < m1
 b:∃G,rT w A.b G k.base/\(G.all k.base).Nodup/\∀x∈G.all k.base,m1<=x/\x < m2
 wt:w.ownsRow m2 104 7 (.slice A.wa k.wait.length A.wc) k.wait.length (GR.flat iE k.wait)/\∀x,(Value.slice A.wa k.wait.length A.wc).ownBlock=some x->x < m3
 sk:w.ownsRow m3 108 12 (.slice A.aa k.asked.length A.ac) k.asked.length (GR.flat gM k.asked)/\∀x,(Value.slice A.aa k.asked.length A.ac).ownBlock=some x->x < g
 le:lo<=m1/\m1<=m2/\m2<=m3/\m3<=g/\g<=w.heap.size
theorem KH.keeps {lo m1 m2 m3 g:Nat} {w w':World} {A:KA} {k:Kp} {F:List Nat} (h:KH lo m1 m2 m3 g w A k) (hk:aC F w w') (hF:∀x∈F,g<=x\/x < lo):KH lo m1 m2 m3 g w' A k:=by
 obtain⟨⟨G1,n1,d1,r1⟩,⟨G2,n2,d2,r2⟩,⟨hw,bw⟩,⟨ha,ba⟩,l1,l2,l3,l4,l5⟩:=h;have hs:=hk.size;refine⟨⟨G1,n1.keeps hk (λx hx hm=>?_),d1,r1⟩,⟨G2,n2.keeps hk (λx hx hm=>?_),d2,r2⟩,⟨jf hw (λx hx=>hk.block x (Cn hw hx) (λhm=>?_)),bw⟩,⟨jf ha (λx hx=>hk.block x (Cn ha hx) (λhm=>?_)),ba⟩,l1,l2,l3,l4,Aaa⟩
 .have:=r1 x hx;have:=hF x hm;omega
 .have:=r2 x hx;have:=hF x hm;omega
 .have:=bw x hx;have:=uM hw hx;have:=hF x hm;omega
 .have:=ba x hx;have:=uM ha hx;have:=hF x hm;omega
theorem KH.below {lo m1 m2 m3 g:Nat} {w w':World} {A:KA} {k:Kp} (h:KH lo m1 m2 m3 g w A k) (hb:aG w w'):KH lo m1 m2 m3 g w' A k:=h.keeps (F:=[]) (aC.of_below hb) (λ_ hx=>Aay)
theorem KH.at {lo m1 m2 m3 g:Nat} {w:World} {A:KA} {k:Kp} (h:KH lo m1 m2 m3 g w A k):oL w A k:=by
 obtain⟨⟨_,n1,_⟩,⟨_,n2,_⟩,⟨hw,_⟩,⟨ha,_⟩,_⟩:=h;obtain⟨_,_,e1,h1⟩:=GR.own_at (enc:=iE) (sz:=7) dM hw;obtain⟨_,_,e2,h2⟩:=GR.own_at (enc:=gM) (sz:=12) bY ha;injection e1 with e1 _ _
 injection e2 with e2 _ _
 exact⟨n2.at,n1.at,by rw [e1];exact h1,by rw [e2];exact h2⟩
theorem wT {w:World} {b:Nat} {cs:Array Value} {t:TypeId} {o:Nat} {vs:List Value} (h:w.heap[b]?=some (.cells cs t (0,0))) (hv:∀j v,vs[j]?=some v->cs[o+j]?=some v):w.rangeAt b o vs:=λj v hj=>by
 rw [aEz w b (o+j) _ t (0,0) h];exact hv j v hj
theorem yU {j:Nat} (h:j < 9):j=0\/j=1\/j=2\/j=3\/j=4\/j=5\/j=6\/j=7\/j=8:=Aaa
theorem rZ {w:World} {g:Nat} {k:Kp} {A:KA} {t:TypeId} (h:w.heap[g]?=some (.cells (yN k A).toArray t (0,0))):w.rangeAt g 0 (dR k.base A.b).toList/\w.rangeAt g 9 (dR k.node A.n).toList:=by
 refine⟨wT h (λj v hj=>?_),wT h (λj v hj=>?_)⟩
 .have hj9:j < 9:=(aFh.1 hj).1;rcases yU hj9 with rfl|rfl|rfl|rfl|rfl|rfl|rfl|rfl|rfl<;>exact hj
 .have hj9:j < 9:=(aFh.1 hj).1;rcases yU hj9 with rfl|rfl|rfl|rfl|rfl|rfl|rfl|rfl|rfl<;>exact hj
theorem acp (k:Kp) (A:KA) (w:World) (hz:mO k 1048576) (ha:oL w A k):
 Calls prog 46 #[kpv k A] w λe w'=>∃A' m1 m2 m3 g,e= .returned (.pointer (some ⟨g,0,none⟩))/\w'.heap[g]?=some (.cells (hkG k A' 0 false false) 162 (0,0))/\KH w.heap.size m1 m2 m3 g w' A' k/\aG w w':=by
 have Iq:=Hq (λW (h:aG w W)=>uz k.base A.b W hz.b (ha.below h).kb);have Tf:=Hq (λW (h:aG w W)=>uz k.node A.n W hz.n (ha.below h).kn);have HCW:=Hq (λW (h:aG w W)=>ME A.wa A.wc k.wait W hz.w hz.wk (ha.below h).kw);have HCA:=Hq (λW (h:aG w W)=>DX A.aa A.ac k.asked W hz.a hz.ak (ha.below h).ka);have hlg:=hz.l;clear hz ha;go_in
 go_upto_region 1 with fail;refine wp_at (λW0 hW=>?_);have e1:W0.heap[w.heap.size]?=some (.cells (yN k A).toArray 57 (0,0)):=by rw [hW];exact aEu w _
 have e2:aG w W0:=by rw [hW];exact au _ _
 have HK:=Hq e1;have HB0:=Hq e2;have hl0:=ay e1;clear hW e1 e2;refine Ip 20 ?_;have y18:=aEv (show W0.cell? ⟨w.heap.size,18,none⟩=some (.string k.log) from aEz W0 w.heap.size 18 _ 57 (0,0) HK);have y19:=aEv (show W0.cell? ⟨w.heap.size,19,none⟩=some (.int .i64 k.safe) from aEz W0 w.heap.size 19 _ 57 (0,0) HK);have y20:=aEv (show W0.cell? ⟨w.heap.size,20,none⟩=some (.slice A.wa k.wait.length A.wc) from aEz W0 w.heap.size 20 _ 57 (0,0) HK);have y21:=aEv (show W0.cell? ⟨w.heap.size,21,none⟩=some (.slice A.aa k.asked.length A.ac) from aEz W0 w.heap.size 21 _ 57 (0,0) HK);obtain⟨hr0,hr1⟩:=rZ HK;refine tk [0] ?_;(refine iy (λK hK=>?_);go_simp;(first|refine hK _ ?_|(apply Exists.intro;refine⟨λ_=>?_,hK _ ?_⟩;rfl));clear hK K)
 refine jm ?_;refine jc 1 rfl Aab Aab Aab (λ_ _ _ _ h=>h) Aah 53 _ rfl w.heap.size 9 rfl (dR k.node A.n).toList _ hr1 hl0 underlying53 rfl Aab ?_;refine tk [3] ?_;(refine iy (λK hK=>?_);go_simp;(first|refine hK _ ?_|(apply Exists.intro;refine⟨λ_=>?_,hK _ ?_⟩;rfl));clear hK K)
 refine jm ?_;refine jc 4 rfl Aab Aab Aab (λ_ _ _ _ h=>h) Aah 53 _ rfl w.heap.size 0 rfl (dR k.base A.b).toList _ hr0 hl0 underlying53 rfl Aab ?_;refine tk [6,7,9,10,11,12,14,15] ?_;iterate 8 (refine iy (λK hK=>?_);go_simp;(first|refine hK _ ?_|(apply Exists.intro;refine⟨λ_=>?_,hK _ ?_⟩;rfl));clear hK K)
 refine jm ?_;clear y18 y19 y20 y21 HK hl0 hr0 hr1;refine eu 2 rfl Aab Aah (λx2 hx2=>?_);go_simp;have g2:aG w x2:=Ge.trans HB0 hx2;refine(Tf x2 g2).mono ?_;rintro e z2 ⟨A1,G1,cc1,rfl,hN1,hy2⟩;refine⟨hy2,?_⟩;have HG2:=Hq (show aG w z2 from Ge.trans g2 hy2);obtain⟨H1,hN,hS,_⟩:=hN1.full;have vL:=Hq hN;have HD1:=Hq hS.nodup;have HR1:=Hq (show∀x∈H1.all k.node,w.heap.size<=x/\x < z2.heap.size from λx hx=>by have:=hS.rng x hx;have:=g2.size;omega);clear hN1 hN hS hx2 hy2 g2 HB0 Tf;refine eu 5 rfl Aab Aah (λx5 hx5=>?_);go_simp;have g5:aG w x5:=Ge.trans HG2 hx5;refine(Iq x5 g5).mono ?_;rintro e z5 ⟨A2,G2,Pz,rfl,hN2,hy5⟩;refine⟨hy5,?_⟩;have tQ:=Hq (show aG w z5 from Ge.trans g5 hy5);obtain⟨H2,hN,hS,_⟩:=hN2.full;have Dw:=Hq hN;have HD2:=Hq hS.nodup;have HR2:=Hq (show∀x∈H2.all k.base,z2.heap.size<=x/\x < z5.heap.size from λx hx=>by have:=hS.rng x hx;have:=hx5.size;omega);have HL2:=Hq (show w.heap.size<=z2.heap.size from HG2.size);have HU2:=Hq (show aG z2 z5 from Ge.trans hx5 hy5);clear hN2 hN hS hx5 hy5 g5 HG2 Iq;refine eu 8 rfl Aab Aah (λx8 hx8=>?_);go_simp;refine(clone k.log _ Aaa).mono ?_;rintro e z8 ⟨rfl,hy8⟩;refine⟨hy8,?_⟩;have HG8:=Hq (show aG w z8 from Ge.trans (Ge.trans tQ hx8) hy8);have HU8:=Hq (show aG z5 z8 from Ge.trans hx8 hy8);clear hx8 hy8 tQ;refine eu 13 rfl Aab Aah (λx13 Qc=>?_);go_simp;have g13:aG w x13:=Ge.trans HG8 Qc;refine(HCW x13 g13).mono ?_;rintro e z13 ⟨v,rfl,hwt,Qd⟩;refine⟨Qd,?_⟩;have amo:=Hq (show aG w z13 from Ge.trans g13 Qd);obtain⟨wa,wc,rfl,_⟩:=GR.own_at (enc:=iE) (sz:=7) dM hwt;have HWT:=Hq (kX (B':=z5.heap.size) hwt (show z5.heap.size<=x13.heap.size from(Ge.trans HU8 Qc).size));have HWL:=Hq (λx hx=>Cn hwt (x:=x) hx);have amN:=Hq (show aG z5 z13 from Ge.trans (Ge.trans HU8 Qc) Qd);clear hwt Qc Qd g13 HG8 HU8 HCW;refine eu 16 rfl Aab Aah (λx16 hx16=>?_);go_simp;have g16:aG w x16:=Ge.trans amo hx16;refine(HCA x16 g16).mono ?_;rintro e z16 ⟨v,rfl,hat,afo⟩;refine⟨afo,?_⟩;have azJ:=Hq (show aG w z16 from Ge.trans g16 afo);obtain⟨aa,ac,rfl,_⟩:=GR.own_at (enc:=gM) (sz:=12) bY hat;have HAT:=Hq (kX (B':=z13.heap.size) hat (show z13.heap.size<=x16.heap.size from hx16.size));have HAL:=Hq (λx hx=>Cn hat (x:=x) hx);have amO:=Hq (show aG z13 z16 from Ge.trans hx16 afo);clear hat hx16 afo g16 amo HCA;refine tk [17] ?_;(refine iy (λK hK=>?_);go_simp;(first|refine hK _ ?_|(apply Exists.intro;refine⟨λ_=>?_,hK _ ?_⟩;rfl));clear hK K)
 refine jm ?_;refine eu 18 rfl Aab Aah (λx18 Yw=>?_);go_simp;refine⟨au _ _,?_⟩;have amU:=Hq (show aG z16 x18 from Yw);clear Yw;refine eu 19 rfl Aab Aah (λx19 ayH=>?_);go_simp;refine⟨aEK _ _,?_⟩;refine dJ Aab (λz hz=>?_);have HZ:=Hq (show Below (x18.alloc (.cells (hkG k ⟨A2,A1,wa,wc,aa,ac⟩ 0 false false) 162)).heap.size (x18.alloc (.cells (hkG k ⟨A2,A1,wa,wc,aa,ac⟩ 0 false false) 162)) z from Ge.trans ayH hz);clear ayH hz;go_wp2_with fail;have u16:aG z16 z:=Ge.trans amU (Ge.trans (au x18 _) HZ);have u13:aG z13 z:=Ge.trans amO u16;have u5:aG z5 z:=Ge.trans amN u13;have u2:aG z2 z:=Ge.trans HU2 u5;have s1:=(ah HL2);have s2:=HU2.size;have s3:=amN.size;have s4:=amO.size;have s5:=amU.size;have hg:=aj (aEu x18 (.cells (hkG k ⟨A2,A1,wa,wc,aa,ac⟩ 0 false false) 162)) HZ;have hgl:=ay hg
 exact aEE (v:= .pointer (some ⟨x18.heap.size,0,none⟩)) (by simp[results,results46,go_sem]) rfl ⟨⟨A2,A1,wa,wc,aa,ac⟩,z2.heap.size,z5.heap.size,z13.heap.size,x18.heap.size,rfl,hg,
  ⟨⟨H1,vL.below u2,HD1,HR1⟩,⟨H2,Dw.below u5,HD2,HR2⟩,⟨GR.own_below HWT u13,λx hx=>HWL x hx⟩,⟨GR.own_below HAT u16,λx hx=>aEH (HAL x hx) s5⟩,s1,s2,s3,aEA s4 s5,Nat.le_of_lt hgl⟩,Ge.trans azJ u16⟩
theorem dx {w:World} {g:Nat} {k:Kp} {A:KA} {st:Int} {lk rt:Bool} {t:TypeId} (h:w.heap[g]?=some (.cells (hkG k A st lk rt) t (0,0))) (i:Nat):w.cell? ⟨g,i,none⟩=(hkG k A st lk rt)[i]?:=aEz w g i _ t (0,0) h
theorem Yu {w:World} {g:Nat} {k:Kp} {A:KA} {st:Int} {lk rt:Bool} {t:TypeId} (h:w.heap[g]?=some (.cells (hkG k A st lk rt) t (0,0))):w.rangeAt g 0 (dR k.node A.n).toList/\w.rangeAt g 11 (dR k.base A.b).toList:=by
 refine⟨wT h (λj v hj=>?_),wT h (λj v hj=>?_)⟩
 .exact aiF
 .exact aiF
abbrev hkB (w:World) (g:Nat) (k:Kp) (A:KA) (st:Int) (lk rt:Bool):Prop:=w.heap[g]?=some (.cells (hkG k A st lk rt) 162 (0,0))
theorem hkB.lock {w:World} {g:Nat} {k:Kp} {A:KA} {st:Int} {lk rt:Bool} (h:hkB w g k A st lk rt) (st':Int):hkB (w.setCell ⟨g,9,none⟩ (.int .i32 st')) g k A st' lk rt:=aT h 9 _
theorem zN {w0 w w':World} {B g:Nat} (h:Below B w0 w) (hk:aC [g] w w') (hg:B<=g) (hB:B<=w.heap.size):Below B w0 w':=
 h.trans (hk.below (λx hx=>by rw [aEM.1 hx];exact hg) hB)
def sW (l:List Rq) (no:Int):Int:=if nW l no=true then(dV l no:Int) else -1
theorem Bd (n:Nd) (A:bg) (no:Int) (w:World) (hl:n.reqs.length<=1000) (hp:n.reqs.Pairwise (λs t=>s.no < t.no)) (ha:fJ w A.r n.reqs):
 Calls prog 138 #[gP n A,.int .i64 no] w (dK w (.int .i64 (sW n.reqs no))):=by
 have HA:=Hq ha;have HP:=Hq hp;have HB0:=Hq (au w (.cells (dR n A) 53));have Oo:=Hq (aEu w (.cells (dR n A) 53));obtain⟨R,hR⟩:∃R,sW n.reqs no=R:=⟨_,rfl⟩;have HR:=Hq hR;rw [hR];clear ha hp hR;go_in
 go_wp2_with fail;go_loopw [5] (λi wr=>∃k:Nat,k<=n.reqs.length/\i= .int .i64 k/\(∀j (hj:j < n.reqs.length),j < k->n.reqs[j].no≠no)/\Below (w.alloc (.cells (dR n A) 53)).heap.size (w.alloc (.cells (dR n A) 53)) wr) (λi _=>n.reqs.length - (intOf i).toNat)
 case atStart=>exact⟨0,aEN _,rfl,λj _ h=>Aaa,aEK _ _⟩
 case round=>
  obtain⟨k,hk,rfl,hno,hbw⟩:=hrel;have jD:=Hq hno;have SK:=Hq (aj Oo hbw);have HBr:=Hq (HB0.trans (hbw.mono HB0.size));have gK:=Hq hbw;obtain⟨c0,c1,c2,c3,c4,c5,c6,c7,c8⟩:=nine SK;have hnl:=ay SK;clear hno hbw;by_cases hlt:k < n.reqs.length
  .have P7:(k:Int) < (n.reqs.length:Int):=Aaa
   obtain⟨g,off,e0,hg,q0,q1,q2,q3⟩:=fJ.four (GR.At.below HA HBr) k hlt;rw [e0] at c8;clear e0;by_cases he:n.reqs[k].no=no
   .have HF:=Hq (Rc HP hlt he)
    have hRk:R=k:=by
     rw [<-ah HR];unfold sW;rw [aER (ah HF).2,(ah HF).1]
    subst hRk;rw [he] at q0;have hq:(no == no)=true:=Aac
    go_wp2_with fail;go_ret;exact⟨rfl,HBr⟩
   .have hq:(n.reqs[k].no == no)=false:=by simpa using he
    have HE:=Hq he;clear he;generalize hx:n.reqs[k].no=x0 at *;have HX:=Hq hx;clear hx;go_wp2_with fail;go_roundw
    case rel=>exact⟨k+1,Aaa,Aaf,λj hj hjk=>by
     by_cases e:j=k
     .subst e;rw [ah HX];exact HE
     .exact jD j hj Aaa,gK⟩
    case measure=>simp[intOf];omega
  .have hke:k=n.reqs.length:=Aaa
   subst hke;have hnlt:decide ((n.reqs.length:Int) < (n.reqs.length:Int))=false:=Aac
   have hRk:R= -1:=by
    rw [<-ah HR];unfold sW;rw [aEG (by rw [Zh (λq hq=>by obtain⟨j,hj,rfl⟩:=aFE.1 hq;exact ah jD j hj hj)];simp)]
   subst hRk;go_wp2_with fail;go_ret;exact⟨rfl,HBr⟩
theorem GR.own_ati {α:Type} {enc:α->List Value} {sz:Nat} {w:World} {B:Nat} {t:TypeId} {a:Option Addr} {c:Nat} {l:List α} (hs:∀x,(enc x).length=sz) (h:w.ownsRow B t sz (.slice a l.length c) l.length (GR.flat enc l)):GR.At enc sz w a l:=by
 obtain⟨a',c',e,h'⟩:=GR.own_at hs h;simp only[aFz] at e;rw [e.1];exact h'
def Apart (c:Nat->Nat) (w w':World):Prop:=∀x,x < w.heap.size->6 < c x->w'.heap[x]?=w.heap[x]?
theorem Apart.of_below {c:Nat->Nat} {w w':World} (h:aG w w'):Apart c w w':=λx hx _=>h.block x hx
theorem Apart.keeps {c:Nat->Nat} {w X W':World} {F:List Nat} (h:Apart c w X) (hs:w.heap.size<=X.heap.size) (hk:aC F X W') (hF:∀x∈F,w.heap.size<=x\/c x<=6):Apart c w W':=λx hx hc=>(hk.block x Aaa (λhm=>by have:=hF x hm;omega)).trans (h x hx hc)
theorem Apart.step {c:Nat->Nat} {w X W':World} (h:Apart c w X) (hs:w.heap.size<=X.heap.size) (hb:aG X W'):Apart c w W':=λx hx hc=>(hb.block x Aaa).trans (h x hx hc)
theorem Apart.grown {c:Nat->Nat} {w X W':World} {row:Option Nat} (h:Apart c w X) (hs:w.heap.size<=X.heap.size) (hg:X.grownBy W' row) (hr:∀x,row=some x->x < w.heap.size->c x<=6):Apart c w W':=λx hx hc=>(hg.block x Aaa (λhm=>by have:=hr x hm.symm hx;omega)).trans (h x hx hc)
def Out (c:Nat->Nat) (w W' W'':World):Prop:=∃F,aC F W' W''/\∀x∈F,x < w.heap.size/\6 < c x
theorem Out.refl {c:Nat->Nat} {w W':World}:Out c w W' W':=⟨[],aC.refl _ _,λx hx=>Aay⟩
theorem KC.out {c:Nat->Nat} {w W' W'':World} (h9:∀x,6 < c x->c x=9) (h:Out c w W' W''):KC (newC w.heap.size 9 c) 9 W' W'':=by
 obtain⟨F,hk,hF⟩:=h;exact KC.keeps hk (λx hx=>by rw [eY (hF x hx).1];exact h9 x (hF x hx).2)
def iO (w:World) (B:Nat) (c:Nat->Nat) (R:Nd×Int) (e:Ending) (w':World):Prop:=∃A',e= .returned (.tuple #[gP R.1 A',.int .i64 R.2])/\(∀W'',Out c w w' W''->RM W'' A' R.1)/\Below B w w'/\Apart c w w'
theorem NQ.nine {w:World} {B:Nat} {n:Nd} {A:bg} {G:aR} {c:Nat->Nat} (h:NQ w B n A G c) (hB:B<=w.heap.size):NQ w B n A G (newC w.heap.size 9 c):=h.recol hB (λ_ hx=>eY hx)
theorem JG (n:Nd) (A:bg) (G:aR) (c:Nat->Nat) (no:Int) (w:World) (B:Nat) (hB:B<=w.heap.size) (h9:∀x,6 < c x->c x=9) (hs:no<=n.old) (h:NQ w B n A G c):Calls prog 99 #[gP n A,.int .i64 no] w (iO w B c (aQ n no)):=by
 have hR:aQ n no=(n,2):=aER hs;rw [hR];clear hR;unfold iO;have H9:=Hq h9;clear h9;have hbw0:=au w (.cells (dR n A) 53);open asf in exact Wp
theorem NK (n:Nd) (A:bg) (G:aR) (c:Nat->Nat) (no:Int) (w:World) (B:Nat) (hB:B<=w.heap.size) (h9:∀x,6 < c x->c x=9) (hok:gQ n=true) (hs:¬no<=n.old) (hf:nW n.reqs no=false) (h:NQ w B n A G c):Calls prog 99 #[gP n A,.int .i64 no] w (iO w B c (aQ n no)):=by
 have hR:aQ n no=(n,1):=by unfold aQ;rw [aEG hs,aER hf]
 have hJ:sW n.reqs no= -1:=by unfold sW;rw [aEG Abf]
 rw [hR];clear hR hf;have hp:=iL hok;have OO:=Hq (λW1 (ha:fJ W1 A.r n.reqs)=>Bd n A no W1 Aaa hp.1 ha);rw [hJ] at OO;clear hp hok;unfold iO;have H9:=Hq h9;clear h9;have hbw0:=au w (.cells (dR n A) 53);open ase in exact Wp
theorem RZ (n:Nd) (a_k qV iV iM jd:Option Addr) (cZ fD dW dw dG:Nat) (G:aR) (c:Nat->Nat) (no:Int) (w:World) (B:Nat) (hB:B<=w.heap.size) (h9:∀x,6 < c x->c x=9) (i:Nat) (hi:i < n.reqs.length) (hok:gQ n=true) (hs:¬no<=n.old) (hJ:sW n.reqs no=i) (hR:aQ n no=(n,1)) (hst:n.reqs[i].s=1) (h:NQ w B n (⟨a_k,qV,iV,iM,jd,cZ,fD,dW,dw,dG⟩:bg) G c):Calls prog 99 #[gP n (⟨a_k,qV,iV,iM,jd,cZ,fD,dW,dw,dG⟩:bg),.int .i64 no] w (iO w B c (aQ n no)):=by
 exact aw3
theorem JF (n:Nd) (a_k qV iV iM jd:Option Addr) (cZ fD dW dw dG:Nat) (G:aR) (c:Nat->Nat) (no:Int) (w:World) (B:Nat) (hB:B<=w.heap.size) (h9:∀x,6 < c x->c x=9) (i:Nat) (hi:i < n.reqs.length) (hok:gQ n=true) (hs:¬no<=n.old) (hJ:sW n.reqs no=i) (hR:aQ n no=(n,0)) (hst:n.reqs[i].s=2) (h:NQ w B n (⟨a_k,qV,iV,iM,jd,cZ,fD,dW,dw,dG⟩:bg) G c):Calls prog 99 #[gP n (⟨a_k,qV,iV,iM,jd,cZ,fD,dW,dw,dG⟩:bg),.int .i64 no] w (iO w B c (aQ n no)):=by
 exact aw3
theorem Bc (n:Nd) (a_k qV iV iM jd:Option Addr) (cZ fD dW dw dG:Nat) (G:aR) (c:Nat->Nat) (no:Int) (w:World) (B:Nat) (hB:B<=w.heap.size) (h9:∀x,6 < c x->c x=9) (i:Nat) (hi:i < n.reqs.length) (hz:eH n 1048576) (hP:∃g,qV=some ⟨g,0,none⟩) (yI:n.pu.length<=fD) (hok:gQ n=true) (hs:¬no<=n.old) (hJ:sW n.reqs no=i) (RL:List Pu) (hR:aQ n no=(n,1)) (hst:n.reqs[i].s=0) (hu:cK n.pu n.reqs[i].k 0 1 (-1) n.reqs[i].n=(RL,false)) (h:NQ w B n (⟨a_k,qV,iV,iM,jd,cZ,fD,dW,dw,dG⟩:bg) G c):Calls prog 99 #[gP n (⟨a_k,qV,iV,iM,jd,cZ,fD,dW,dw,dG⟩:bg),.int .i64 no] w (iO w B c (aQ n no)):=by
 rw [hR];obtain⟨gp,hgp⟩:=hP;subst hgp;open aAs in exact Yk8
theorem CG (n:Nd) (a_k qV iV iM jd:Option Addr) (cZ fD dW dw dG:Nat) (G:aR) (c:Nat->Nat) (no:Int) (w:World) (B:Nat) (hB:B<=w.heap.size) (h9:∀x,6 < c x->c x=9) (i:Nat) (hi:i < n.reqs.length) (hz:eH n 1048576) (hP:∃g,qV=some ⟨g,0,none⟩) (yI:n.pu.length<=fD) (hok:gQ n=true) (hs:¬no<=n.old) (hJ:sW n.reqs no=i) (RL:List Pu) (hR:aQ n no=(eD (setPu n RL) (n.reqs.set i (pz n.reqs[i])),0)) (hst:n.reqs[i].s=0) (hu:cK n.pu n.reqs[i].k 0 1 (-1) n.reqs[i].n=(RL,true)) (h:NQ w B n (⟨a_k,qV,iV,iM,jd,cZ,fD,dW,dw,dG⟩:bg) G c):Calls prog 99 #[gP n (⟨a_k,qV,iV,iM,jd,cZ,fD,dW,dw,dG⟩:bg),.int .i64 no] w (iO w B c (aQ n no)):=by
 rw [hR];obtain⟨gp,hgp⟩:=hP;subst hgp;open aAr in exact Yk8
theorem R4 (n:Nd) (A:bg) (G:aR) (c:Nat->Nat) (no:Int) (w:World) (B:Nat) (hB:B<=w.heap.size) (h9:∀x,6 < c x->c x=9) (hz:eH n 1048576) (hP:∃g,A.p=some ⟨g,0,none⟩) (yI:n.pu.length<=A.cp) (hok:gQ n=true) (h:NQ w B n A G c):Calls prog 99 #[gP n A,.int .i64 no] w (iO w B c (aQ n no)):=by
 by_cases hs:no<=n.old
 .exact JG n A G c no w B hB h9 hs h
 cases hf:nW n.reqs no with
 |false=>exact NK n A G c no w B hB h9 hok hs hf h
 |true=>
  have hil:=((nX n.reqs no).1 hf).1;have hgd:n.reqs.getD (dV n.reqs no) default=n.reqs[dV n.reqs no]:=by rw [aE7,aEB hil];rfl
  have hJ:sW n.reqs no=(dV n.reqs no:Nat):=by unfold sW;rw [aER hf]
  obtain⟨_,_,_,_,b1,b2⟩:=jS ((iL hok).2.2.1 _ (aEL hil));obtain⟨ak,ap,ao,az,ar,ck,cp,co,cs,cr⟩:=A;by_cases s1:n.reqs[dV n.reqs no].s=1
  .exact RZ n ak ap ao az ar ck cp co cs cr G c no w B hB h9 _ hil hok hs hJ (by unfold aQ;rw [aEG hs,aEG Abf,hgd,aER s1]) s1 h
  by_cases s2:n.reqs[dV n.reqs no].s=2
  .exact JF n ak ap ao az ar ck cp co cs cr G c no w B hB h9 _ hil hok hs hJ (by unfold aQ;rw [aEG hs,aEG Abf,hgd,aEG s1,aER s2]) s2 h
  obtain⟨R,hR⟩:∃R,cK n.pu n.reqs[dV n.reqs no].k 0 1 (-1) n.reqs[dV n.reqs no].n=R:=⟨_,rfl⟩;obtain⟨RL,b⟩:=R
  have hrel:aQ n no=if b=true then(eD (setPu n RL) (n.reqs.set (dV n.reqs no) (pz n.reqs[dV n.reqs no])),0) else(n,1):=by
   unfold aQ;rw [aEG hs,aEG Abf,hgd,aEG s1,aEG s2,hR]
  cases b with
  |false=>exact Bc n ak ap ao az ar ck cp co cs cr G c no w B hB h9 _ hil hz hP yI hok hs hJ RL (by rw [hrel];simp) Aaa hR h
  |true=>exact CG n ak ap ao az ar ck cp co cs cr G c no w B hB h9 _ hil hz hP yI hok hs hJ RL (by rw [hrel];simp) Aaa hR h
abbrev zw5:List Value:=[.slice none 0 0,.slice none 0 0,.slice none 0 0,.slice none 0 0,.slice none 0 0]
theorem af9 (W:Wd) (A:WA) (w:World) (hz:xD W 1048576) (ha:rG w A W):
 Calls prog 6 #[wdv W A] w λe w'=>∃A',e= .returned (wdv W A')/\rG w' A' W/\aG w w':=by
 have H1:=Hq (λw1 (h:aG w w1)=>toTree A.u A.uc W.up w1 hz.u (ha.below h).up)
 have H2:Hid (∀w1,aG w w1->Calls prog 18 #[.slice A.k W.ks.length A.kc] w1 λe w'=>e= .returned (.slice (some ⟨w1.heap.size,0,none⟩) W.ks.length W.ks.length)/\∃M:List JW,M.map (λx=>x.1)=W.ks/\GR.Blk mE 57 w' w1.heap.size M/\(∀x∈M,vF (w1.heap.size+1) w' x.2 x.1)/\aG w1 w'):=λw1 h=>by
  have hx:=ZO A.k A.kc A.L w1 (by rw [ha.len];exact hz.k) (hz.row ha) (ha.below h).ks
  rw [ha.len,ha.ke] at hx
  exact hx
 have H3:=Hq (λw1 (h:aG w w1)=>ZR A.n A.nc W.net w1 hz.n (ha.below h).net);have H4:=Hq (λw1 (h:aG w w1)=>af8 A.t A.tc W.told w1 hz.t (ha.below h).told);have H5:=Hq (λw1 (h:aG w w1)=>adN A.b A.bc W.back w1 hz.b (ha.below h).back);clear ha hz;obtain⟨up,ks,net,td,bk⟩:=W;obtain⟨u,uc,k,kc,KL,n,nc,t,tc,b,bc⟩:=A;dsimp only at H1 H2 H3 H4 H5 ⊢;obtain⟨hP0,hR0,hO0,hB0⟩:=Pq w (.cells #[.slice u up.length uc,.slice k ks.length kc,.slice n net.length nc,.slice t td.length tc,.slice b bk.length bc] 30) (.cells zw5.toArray 38) (.cells zw5.toArray 38);go_in
 go_upto_region 2 with fail;refine wp_at (λW0 hW=>?_);have EL:Hid (TO 30 38 [.slice u up.length uc,.slice k ks.length kc,.slice n net.length nc,.slice t td.length tc,.slice b bk.length bc] zw5 w (λ_=>True) zw5 W0):=by rw [hW];exact⟨hP0,hR0,hO0,hB0,λ_ _=>trivial⟩
 clear hW hP0 hR0 hO0 hB0;have c0:W0.cell? ⟨w.heap.size,0,none⟩=some (.slice u up.length uc):=EL.cell 0;go_wp2_with fail;refine(H1 _ EL.b).mono ?_;rintro e x0 ⟨ug,rfl,hug,hN,hb⟩;have hs0:=EL.s;have qR:=Hq (EL.step hb (λW'=>aK W' (some ⟨ug,0,none⟩) up) (λW' hk=>GR.Blk.at (show GR.Blk aW 3 W' ug up from hk.obj hN (λhm=>Aaz)) aU));clear hN hb EL H1 c0 hs0 hug;have f0:=aA qR.o 0;have o0:World.cell? _ ⟨w.heap.size+1+1,0,none⟩=some (.slice none 0 0):=aEz _ _ 0 _ _ (0,0) qR.o;go_upto_region 3 with fail;refine wp_at (λW1 hW=>?_);have zC:=Hq (hW.symm▸(ah qR).one 0 (.slice (some ⟨ug,0,none⟩) up.length up.length));clear hW f0 o0 qR;have c1:W1.cell? ⟨w.heap.size,1,none⟩=some (.slice k ks.length kc):=zC.cell 1;go_wp2_with fail;refine(H2 _ zC.b).mono ?_;rintro e x1 ⟨rfl,M,hMm,hK1,hK2,hb⟩;have hs1:=zC.s;have qR:=Hq (zC.step hb (λW'=>uX W' (some ⟨W1.heap.size,0,none⟩) M) (λW' hk=>⟨GR.Blk.at (show GR.Blk mE 57 W' W1.heap.size M from hk.obj hK1 (λhm=>Aaz)) jN,λx hx=>(hK2 x hx).keeps hk (λy hy=>by simp at hy;omega) |>.at⟩));have HM:=Hq hMm;clear hK1 hK2 hMm hb zC H2 c1 hs1;generalize W1.heap.size=g1 at *;have f1:=aA qR.o 1;have o1:World.cell? _ ⟨w.heap.size+1+1,1,none⟩=some (.slice none 0 0):=aEz _ _ 1 _ _ (0,0) qR.o;go_upto_region 4 with fail;refine wp_at (λW2 hW=>?_);have HS2:=Hq (hW.symm▸(ah qR).one 1 (.slice (some ⟨g1,0,none⟩) ks.length ks.length));clear hW f1 o1 qR;have c2:W2.cell? ⟨w.heap.size,2,none⟩=some (.slice n net.length nc):=HS2.cell 2;go_wp2_with fail;refine(H3 _ HS2.b).mono ?_;rintro e x2 ⟨rfl,hN,hb⟩;have hs2:=HS2.s;have qR:=Hq (HS2.step hb (λW'=>mP W' (some ⟨W2.heap.size,0,none⟩) net) (λW' hk=>GR.Blk.at (show GR.Blk encStr 9 W' W2.heap.size net from hk.obj hN (λhm=>Aaz)) kV));clear hN hb HS2 H3 c2 hs2;generalize W2.heap.size=g2 at *;have f2:=aA qR.o 2;have o2:World.cell? _ ⟨w.heap.size+1+1,2,none⟩=some (.slice none 0 0):=aEz _ _ 2 _ _ (0,0) qR.o;go_upto_region 5 with fail;refine wp_at (λW3 hW=>?_);have zD:=Hq (hW.symm▸(ah qR).one 2 (.slice (some ⟨g2,0,none⟩) net.length net.length));clear hW f2 o2 qR;have c3:W3.cell? ⟨w.heap.size,3,none⟩=some (.slice t td.length tc):=zD.cell 3;go_wp2_with fail;refine(H4 _ zD.b).mono ?_;rintro e x3 ⟨rfl,hN,hb⟩;have hs3:=zD.s;have qR:=Hq (zD.step hb (λW'=>GR.At nR 13 W' (some ⟨W3.heap.size,0,none⟩) td) (λW' hk=>GR.Blk.at (show GR.Blk nR 110 W' W3.heap.size td from hk.obj hN (λhm=>Aaz)) dP));clear hN hb zD H4 c3 hs3;generalize W3.heap.size=g3 at *;have f3:=aA qR.o 3;have o3:World.cell? _ ⟨w.heap.size+1+1,3,none⟩=some (.slice none 0 0):=aEz _ _ 3 _ _ (0,0) qR.o;go_upto_region 6 with fail;refine wp_at (λW4 hW=>?_);have OY:=Hq (hW.symm▸(ah qR).one 3 (.slice (some ⟨g3,0,none⟩) td.length td.length));clear hW f3 o3 qR;have c4:W4.cell? ⟨w.heap.size,4,none⟩=some (.slice b bk.length bc):=OY.cell 4;go_wp2_with fail;refine(H5 _ OY.b).mono ?_;rintro e x4 ⟨rfl,hN,hb⟩;have hs4:=OY.s;have qR:=Hq (OY.step hb (λW'=>GR.At oI 2 W' (some ⟨W4.heap.size,0,none⟩) bk) (λW' hk=>GR.Blk.at (show GR.Blk oI 113 W' W4.heap.size bk from hk.obj hN (λhm=>Aaz)) jX));clear hN hb OY H5 c4 hs4;generalize W4.heap.size=g4 at *;have f4:=aA qR.o 4;have o4:World.cell? _ ⟨w.heap.size+1+1,4,none⟩=some (.slice none 0 0):=aEz _ _ 4 _ _ (0,0) qR.o;go_upto_region 7 with fail;refine wp_at (λW5 hW=>?_);have IE:=Hq (hW.symm▸(ah qR).one 4 (.slice (some ⟨g4,0,none⟩) bk.length bk.length));clear hW f4 o4 qR;obtain⟨o0,o1,o2,o3,o4⟩:=xI IE.o;obtain⟨r0,r1,r2,r3,r4⟩:=xI IE.r;have f0:=aA IE.r 0;have f1:=aA IE.r 1;have f2:=aA IE.r 2;have f3:=aA IE.r 3;have f4:=aA IE.r 4;have hrl:=ay IE.r;go_wp2_with fail;refine fQ (λW' hW'=>?_);have hX:W'.heap[w.heap.size+1]?=some (.cells #[.slice (some ⟨ug,0,none⟩) up.length up.length,.slice (some ⟨g1,0,none⟩) ks.length ks.length,.slice (some ⟨g2,0,none⟩) net.length net.length,.slice (some ⟨g3,0,none⟩) td.length td.length,.slice (some ⟨g4,0,none⟩) bk.length bk.length] 38 (0,0)):=by rw [hW'];exact GR.setW_blk [.slice (some ⟨ug,0,none⟩) up.length up.length,.slice (some ⟨g1,0,none⟩) ks.length ks.length,.slice (some ⟨g2,0,none⟩) net.length net.length,.slice (some ⟨g3,0,none⟩) td.length td.length,.slice (some ⟨g4,0,none⟩) bk.length bk.length] (o:=0) (xs:=zw5) IE.r
 obtain⟨⟨⟨⟨⟨⟨_,q0⟩,q1⟩,q2⟩,q3⟩,q4⟩,hB⟩:=IE.ends;have hWe:W'=W5.setCells (w.heap.size+1) 0 [.slice (some ⟨ug,0,none⟩) up.length up.length,.slice (some ⟨g1,0,none⟩) ks.length ks.length,.slice (some ⟨g2,0,none⟩) net.length net.length,.slice (some ⟨g3,0,none⟩) td.length td.length,.slice (some ⟨g4,0,none⟩) bk.length bk.length]:=hW';clear hW';subst hWe;exact aEE (v:= .agg #[.slice (some ⟨ug,0,none⟩) up.length up.length,.slice (some ⟨g1,0,none⟩) ks.length ks.length,.slice (some ⟨g2,0,none⟩) net.length net.length,.slice (some ⟨g3,0,none⟩) td.length td.length,.slice (some ⟨g4,0,none⟩) bk.length bk.length]) (rM rfl _ _ (w.heap.size+1) [_,_,_,_,_] _ rfl (KR.blk (V:=[_,_,_,_,_]) hX).r underlying38 rfl Aab) rfl ⟨⟨some ⟨ug,0,none⟩,up.length,some ⟨g1,0,none⟩,ks.length,M,some ⟨g2,0,none⟩,net.length,some ⟨g3,0,none⟩,td.length,some ⟨g4,0,none⟩,bk.length⟩,rfl,⟨q0,HM,q1,q2,q3,q4⟩,hB⟩
open Go.WideShapes
open Go.ChangeShapes
theorem Hu:prog.cellsOf 86=7:=Aab
theorem Ll:prog.cellsOf 88=11:=Aab
theorem Z0:prog.cellsOf 90=12:=Aab
theorem azz:prog.cellsOf 80=1:=Aab
theorem azw:prog.cellsOf 81=1:=Aab
section
variable {H:Type} {enc:TypeId×Value->H} {W:World}
theorem YX {fuel:Nat} {cs:List Value} {x:DataW H×List MemPlace} (h:DataW.trod enc prog W 0 (λ_=>true) true fuel 80 cs=some x):
 ∃(a:Option Addr) (cap:Nat) (l:List Mg),cs=[.slice a l.length cap]/\l.length<=maxLen/\(∀y∈l,y.k.size<=maxLen)/\GR.At iE 7 W a l:=
 iY (en:=iE) (sz:=7) (ok:=λy=>y.k.size<=maxLen) underlying80 Aab Aaa dM (λfuel cs' x hlen h=>by
  match cs',hlen with
  |[v0,v1,v2,v3,v4,v5,v6],_=>
   obtain⟨xs1,kk1,_,_,_,Ur,xL⟩:=aFc underlying86 h
   match xs1,Ur with
   |[al4,al5,aD9,aEa,aEb,aEc,aEd],_=>
    have Fj:=xL 0 _ rfl
    have Fp:=xL 1 _ rfl
    have axR:=xL 2 _ rfl
    have axS:=xL 3 _ rfl
    have axT:=xL 4 _ rfl
    have axU:=xL 5 _ rfl
    have axV:=xL 6 _ rfl
    simp[fA,iP] at Fj Fp axR axS axT axU axV
    obtain⟨acX,Q0,_⟩:=aEP underlying3 Fj
    obtain⟨acY,Q5,_⟩:=aEP underlying3 Fp
    obtain⟨aCB,ayR,_⟩:=aEP underlying3 axR
    obtain⟨aCC,ayS,_⟩:=aEP underlying3 axS
    obtain⟨aCD,ayT,_⟩:=aEP underlying3 axT
    obtain⟨aCY,ayU,_,ayv⟩:=aFJ underlying9 axU
    obtain⟨aCE,ayV,_⟩:=aEP underlying3 axV
    simp at Q0 Q5 ayR ayS ayT ayU ayV
    subst Q0 Q5 ayR ayS ayT ayU ayV
    exact⟨⟨acX,acY,aCB,aCC,aCD,aCY,aCE⟩,ayv,rfl⟩) h
theorem Nf {fuel:Nat} {cs:List Value} {x:DataW H×List MemPlace} (h:DataW.trod enc prog W 0 (λ_=>true) true fuel 81 cs=some x):
 ∃(a:Option Addr) (cap:Nat) (l:List An),cs=[.slice a l.length cap]/\l.length<=maxLen/\(∀y∈l,y.o.k.size<=maxLen/\y.o.m.k.size<=maxLen)/\GR.At gM 12 W a l:=
 iY (en:=gM) (sz:=12) (ok:=λy=>y.o.k.size<=maxLen/\y.o.m.k.size<=maxLen) underlying81 Aab Aaa bY (λfuel cs' x hlen h=>by
  match cs',hlen with
  |[v0,v1,v2,v3,v4,v5,v6,v7,v8,v9,v10,v11],_=>
   obtain⟨xs1,kk1,_,_,_,Ur,xL⟩:=aFc underlying90 h
   match xs1,Ur with
   |[al4,al5],_=>
    have Fj:=xL 0 _ rfl
    have Fp:=xL 1 _ rfl
    simp[fA,Ll] at Fj Fp
    obtain⟨xs2,kk2,_,_,_,ak7,P5⟩:=aFc underlying88 Fj
    match xs2,ak7 with
    |[aC7,aC8,aEe,aEf,aEg],_=>
     have abO:=P5 0 _ rfl
     have abP:=P5 1 _ rfl
     have axW:=P5 2 _ rfl
     have axX:=P5 3 _ rfl
     have axY:=P5 4 _ rfl
     simp[fA,iP,Hu] at abO abP axW axX axY
     obtain⟨aCF,ayW,_⟩:=aEP underlying3 abO
     obtain⟨alq,adj,_⟩:=aEP underlying3 abP
     obtain⟨aCZ,ayX,_,ayx⟩:=aFJ underlying9 axW
     obtain⟨aCG,ayY,_⟩:=aEP underlying3 axX
     obtain⟨xs3,kk3,_,_,_,ak8,BZ⟩:=aFc underlying86 axY
     match xs3,ak8 with
     |[aC9,aDa,aDb,aDc,aDd,aEh,aEi],_=>
      have abQ:=BZ 0 _ rfl
      have abR:=BZ 1 _ rfl
      have abS:=BZ 2 _ rfl
      have abT:=BZ 3 _ rfl
      have abU:=BZ 4 _ rfl
      have axZ:=BZ 5 _ rfl
      have ax0:=BZ 6 _ rfl
      simp[fA,iP] at abQ abR abS abT abU axZ ax0
      obtain⟨alr,adk,_⟩:=aEP underlying3 abQ
      obtain⟨als,adl,_⟩:=aEP underlying3 abR
      obtain⟨aCH,adn,_⟩:=aEP underlying3 abS
      obtain⟨alu,ado,_⟩:=aEP underlying3 abT
      obtain⟨aCI,ayZ,_⟩:=aEP underlying3 abU
      obtain⟨aC1,aza,_,ayz⟩:=aFJ underlying9 axZ
      obtain⟨aCJ,azb,_⟩:=aEP underlying3 ax0
      obtain⟨acY,Q5,_⟩:=aEP underlying3 Fp
      simp at ayW adj ayX ayY adk adl adn ado ayZ aza azb Q5
      subst ayW adj ayX ayY adk adl adn ado ayZ aza azb Q5
      exact⟨⟨⟨aCF,alq,aCZ,aCG,⟨alr,als,aCH,alu,aCI,aC1,aCJ⟩⟩,acY⟩,⟨ayx,ayz⟩,rfl⟩) h
theorem Ga {fuel:Nat} {v0 v1 v2 v3 v4 v5 v6 v7 v8:Value} {x:DataW H×List MemPlace} (h:DataW.trod enc prog W 0 (λ_=>true) true fuel 79 [v0,v1,v2,v3,v4,v5,v6,v7,v8]=some x):
 ∃(n:Nd) (A:bg),[v0,v1,v2,v3,v4,v5,v6,v7,v8]=(dR n A).toList/\eH n maxLen/\bX W A n:=by
 obtain⟨xs,k,_,_,_,hxl,hfl⟩:=aFc underlying79 h;match xs,hxl with
 |[y0,y1,y2,y3,y4,y5,y6,y7,y8],_=>
  have g0:=hfl 0 _ rfl
  have g1:=hfl 1 _ rfl
  have g2:=hfl 2 _ rfl
  have g3:=hfl 3 _ rfl
  have g4:=hfl 4 _ rfl
  have g5:=hfl 5 _ rfl
  have g6:=hfl 6 _ rfl
  have g7:=hfl 7 _ rfl
  have g8:=hfl 8 _ rfl
  simp[fA,yT,ayL,ayM,ayN,ayO] at g0 g1 g2 g3 g4 g5 g6 g7 g8
  obtain⟨n0,q0,_⟩:=aEP underlying3 g0
  obtain⟨n1,q1,_⟩:=aEP underlying3 g1
  obtain⟨b2,c2,l2,q2,z2,t2⟩:=open_ints' g2
  obtain⟨n3,q3,_⟩:=aEP underlying3 g3
  obtain⟨b4,c4,l4,q4,z4,s4,t4⟩:=Nh g4
  obtain⟨b5,c5,l5,q5,z5,s5,t5⟩:=UW g5
  obtain⟨b6,c6,l6,q6,z6,s6,t6⟩:=Y6 g6
  obtain⟨n7,q7,_⟩:=aEP underlying3 g7
  obtain⟨b8,c8,l8,q8,z8,s8,t8⟩:=YZ g8
  simp at q0 q1 q2 q3 q4 q5 q6 q7 q8
  subst q0 q1 q2 q3 q4 q5 q6 q7 q8
  exact⟨⟨n0,n1,l2,n3,l4,l5,l6,n7,l8⟩,⟨b2,b4,b5,b6,b8,c2,c4,c5,c6,c8⟩,rfl,⟨z2,z4,z5,z6,z8,s4,s5,s6,s8⟩,⟨t2,t4,t5,t6,t8⟩⟩
end
theorem Z4:prog.cellsOf 24=1:=Aab
theorem azy:prog.cellsOf 25=1:=Aab
theorem azA:prog.cellsOf 26=1:=Aab
theorem azB:prog.cellsOf 27=1:=Aab
theorem azx:prog.cellsOf 28=1:=Aab
theorem aga:prog.cellsOf 30=5:=Aab
section
variable {H:Type} {enc:TypeId×Value->H} {W:World}
theorem open_strs {fuel:Nat} {cs:List Value} {x:DataW H×List MemPlace} (h:DataW.trod enc prog W 0 (λ_=>true) true fuel 26 cs=some x):
 ∃(a:Option Addr) (cap:Nat) (l:List ByteArray),cs=[.slice a l.length cap]/\l.length<=maxLen/\(∀y∈l,y.size<=maxLen)/\mP W a l:=
 iY (en:=encStr) (sz:=1) (ok:=λy=>y.size<=maxLen) underlying26 iP Aaa kV (λfuel cs' x _ h=>by
  obtain⟨s,q,_,hs⟩:=aFJ underlying9 h
  exact⟨s,hs,q⟩) h
theorem UY {fuel:Nat} {cs:List Value} {x:DataW H×List MemPlace} (h:DataW.trod enc prog W 0 (λ_=>true) true fuel 27 cs=some x):
 ∃(a:Option Addr) (cap:Nat) (l:List Td),cs=[.slice a l.length cap]/\l.length<=maxLen/\(∀y∈l,y.n.o.k.size<=maxLen/\y.n.o.m.k.size<=maxLen)/\GR.At nR 13 W a l:=
 iY (en:=nR) (sz:=13) (ok:=λy=>y.n.o.k.size<=maxLen/\y.n.o.m.k.size<=maxLen) underlying27 Aab Aaa dP (λfuel cs' x hlen h=>by
  match cs',hlen with
  |[v0,v1,v2,v3,v4,v5,v6,v7,v8,v9,v10,v11,v12],_=>
   obtain⟨xs1,kk1,_,_,_,Ur,xL⟩:=aFc underlying92 h
   match xs1,Ur with
   |[al4,al5],_=>
    have Fj:=xL 0 _ rfl
    have Fp:=xL 1 _ rfl
    simp[fA,Z0] at Fj Fp
    obtain⟨acX,Q0,_⟩:=aEP underlying3 Fj
    obtain⟨xs2,kk2,_,_,_,ak7,P5⟩:=aFc underlying90 Fp
    match xs2,ak7 with
    |[aC7,aC8],_=>
     have abO:=P5 0 _ rfl
     have abP:=P5 1 _ rfl
     simp[fA,Ll] at abO abP
     obtain⟨xs3,kk3,_,_,_,ak8,BZ⟩:=aFc underlying88 abO
     match xs3,ak8 with
     |[aC9,aDa,aDb,aDc,aDd],_=>
      have abQ:=BZ 0 _ rfl
      have abR:=BZ 1 _ rfl
      have abS:=BZ 2 _ rfl
      have abT:=BZ 3 _ rfl
      have abU:=BZ 4 _ rfl
      simp[fA,iP,Hu] at abQ abR abS abT abU
      obtain⟨alr,adk,_⟩:=aEP underlying3 abQ
      obtain⟨als,adl,_⟩:=aEP underlying3 abR
      obtain⟨aC0,adn,_,ayy⟩:=aFJ underlying9 abS
      obtain⟨alu,ado,_⟩:=aEP underlying3 abT
      obtain⟨xs4,kk4,_,_,_,aCy,Um⟩:=aFc underlying86 abU
      match xs4,aCy with
      |[aEj,aEk,aEl,aEm,aEn,aEo,aEp],_=>
       have ax1:=Um 0 _ rfl
       have ax2:=Um 1 _ rfl
       have ax3:=Um 2 _ rfl
       have ax4:=Um 3 _ rfl
       have ax5:=Um 4 _ rfl
       have ax6:=Um 5 _ rfl
       have ax7:=Um 6 _ rfl
       simp[fA,iP] at ax1 ax2 ax3 ax4 ax5 ax6 ax7
       obtain⟨aCK,azd,_⟩:=aEP underlying3 ax1
       obtain⟨aCL,aze,_⟩:=aEP underlying3 ax2
       obtain⟨aCM,azf,_⟩:=aEP underlying3 ax3
       obtain⟨aCN,azg,_⟩:=aEP underlying3 ax4
       obtain⟨aCO,azh,_⟩:=aEP underlying3 ax5
       obtain⟨aC2,azi,_,ayA⟩:=aFJ underlying9 ax6
       obtain⟨aCP,azj,_⟩:=aEP underlying3 ax7
       obtain⟨alq,adj,_⟩:=aEP underlying3 abP
       simp at Q0 adk adl adn ado azd aze azf azg azh azi azj adj
       subst Q0 adk adl adn ado azd aze azf azg azh azi azj adj
       exact⟨⟨acX,⟨⟨alr,als,aC0,alu,⟨aCK,aCL,aCM,aCN,aCO,aC2,aCP⟩⟩,alq⟩⟩,⟨ayy,ayA⟩,rfl⟩) h
theorem QM {fuel:Nat} {cs:List Value} {x:DataW H×List MemPlace} (h:DataW.trod enc prog W 0 (λ_=>true) true fuel 28 cs=some x):
 ∃(a:Option Addr) (cap:Nat) (l:List Gv),cs=[.slice a l.length cap]/\l.length<=maxLen/\(∀y∈l,True)/\GR.At oI 2 W a l:=
 iY (en:=oI) (sz:=2) (ok:=λy=>True) underlying28 Aab Aaa jX (λfuel cs' x hlen h=>by
  match cs',hlen with
  |[v0,v1],_=>
   obtain⟨xs1,kk1,_,_,_,Ur,xL⟩:=aFc underlying115 h
   match xs1,Ur with
   |[al4,al5],_=>
    have Fj:=xL 0 _ rfl
    have Fp:=xL 1 _ rfl
    simp[fA] at Fj Fp
    obtain⟨acX,Q0,_⟩:=aEP underlying3 Fj
    obtain⟨acY,Q5,_⟩:=aEP underlying3 Fp
    simp at Q0 Q5
    subst Q0 Q5
    exact⟨⟨acX,acY⟩,trivial,rfl⟩) h
theorem Ng {fuel:Nat} {cs:List Value} {x:DataW H×List MemPlace} (h:DataW.trod enc prog W 0 (λ_=>true) true fuel 25 cs=some x):
 ∃(a:Option Addr) (cap:Nat) (l:List JW),cs=[.slice a l.length cap]/\l.length<=maxLen/\(∀y∈l,mO y.1 maxLen)/\uX W a l:=by
 obtain⟨a,cap,l,h1,h2,h3,h4⟩:=iY (en:=mE) (sz:=22) (ok:=λy=>mO y.1 maxLen/\oL W y.2 y.1) underlying25 Aab Aaa jN (λfuel cs' x hlen h=>by
  match cs',hlen with
  |[v0,v1,v2,v3,v4,v5,v6,v7,v8,v9,v10,v11,v12,v13,v14,v15,v16,v17,v18,v19,v20,v21],_=>
   obtain⟨xs,kk,_,_,_,hxl,hfl⟩:=aFc underlying83 h
   match xs,hxl with
   |[y0,y1,y2,y3,y4,y5],_=>
    have g0:=hfl 0 _ rfl
    have g1:=hfl 1 _ rfl
    have g2:=hfl 2 _ rfl
    have g3:=hfl 3 _ rfl
    have g4:=hfl 4 _ rfl
    have g5:=hfl 5 _ rfl
    simp[fA,iP,afF,azz,azw] at g0 g1 g2 g3 g4 g5
    obtain⟨B0,AB,q0,z0,t0⟩:=Ga g0
    obtain⟨N0,AN,q1,z1,t1⟩:=Ga g1
    obtain⟨lg,q2,_,z2⟩:=aFJ underlying9 g2
    obtain⟨sf,q3,_⟩:=aEP underlying3 g3
    obtain⟨wa,wc,wt,q4,z4,s4,t4⟩:=YX g4
    obtain⟨aa,ac,sk,q5,z5,s5,t5⟩:=Nf g5
    simp at q0 q1 q2 q3 q4 q5
    obtain⟨rfl,rfl,rfl,rfl,rfl,rfl,rfl,rfl,rfl⟩:=q0
    obtain⟨rfl,rfl,rfl,rfl,rfl,rfl,rfl,rfl,rfl⟩:=q1
    subst q2 q3 q4 q5
    exact⟨(⟨B0,N0,lg,sf,wt,sk⟩,⟨AB,AN,wa,wc,aa,ac⟩),⟨⟨z0,z1,z2,z4,z5,s4,s5⟩,⟨t0,t1,t4,t5⟩⟩,rfl⟩) h
 exact⟨a,cap,l,h1,h2,λy hy=>(h3 y hy).1,⟨h4,λy hy=>(h3 y hy).2⟩⟩
theorem TM {α:Type} {cs:Array α} (h:cs.size=5):∃a b c d e,cs=#[a,b,c,d,e]:=by
 obtain⟨l⟩:=cs;match l,h with
 |[a,b,c,d,e],_=>exact⟨a,b,c,d,e,rfl⟩
theorem UZ {r:Reach} {base:Nat} {v:Value} {d:DataW H} {p:List MemPlace} (hv:Value.okWide prog W r base 30 v) (h:DataW.Trod enc prog W 0 (λ_=>true) true 30 v d p):
 ∃(X:Wd) (A:WA),v=wdv X A/\xD X maxLen/\rG W A X:=by
 simp only[Value.okWide,underlying30] at hv;obtain⟨cs,rfl,hsz,ts,hts,_,hall⟩:=hv;obtain⟨fuel,hf⟩:=h;obtain⟨a0,a1,a2,a3,a4,rfl⟩:=TM (hsz.trans aga);obtain⟨xs,k,_,_,_,hxl,hfl⟩:=aFc underlying30 hf;match xs,hxl with
 |[y0,y1,y2,y3,y4],_=>
  have g0:=hfl 0 _ rfl
  have g1:=hfl 1 _ rfl
  have g2:=hfl 2 _ rfl
  have g3:=hfl 3 _ rfl
  have g4:=hfl 4 _ rfl
  simp[Z4,azy,azA,azB,azx,Value.cells] at g0 g1 g2 g3 g4
  obtain⟨xt,kt,_,_,_,hxt,hft⟩:=aFc underlying24 g0
  match xt,hxt with
  |[z0],_=>
   have u0:=hft 0 _ rfl
   simp[yT] at u0
   obtain⟨b0,c0,l0,q0,e0,t0⟩:=open_ints' u0
   obtain⟨b1,c1,l1,q1,e1,s1,t1⟩:=Ng g1
   obtain⟨b2,c2,l2,q2,e2,s2,t2⟩:=open_strs g2
   obtain⟨b3,c3,l3,q3,e3,s3,t3⟩:=UY g3
   obtain⟨b4,c4,l4,q4,e4,s4,t4⟩:=QM g4
   simp at q0 q1 q2 q3 q4
   subst q0 q1 q2 q3 q4
   exact⟨⟨l0,l1.map (λx=>x.1),l2,l3,l4⟩,⟨b0,c0,b1,c1,l1,b2,c2,b3,c3,b4,c4⟩,Aac,⟨e0,by simpa using e1,λx hx=>by obtain⟨y,hy,rfl⟩:=aFS.1 hx;exact s1 y hy,e2,s2,e3,s3,e4⟩,⟨t0,rfl,t1,t2,t3,t4⟩⟩
end
end Go.Proofs.YtfachhcijcjbpaaGreatDoor
