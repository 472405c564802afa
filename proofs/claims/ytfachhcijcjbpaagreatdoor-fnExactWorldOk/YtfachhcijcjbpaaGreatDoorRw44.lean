/- Parts. -/
import Derived.Test.YtfachhcijcjbpaaGreatDoorRw43
import Derived.Test.YtfachhcijcjbpaaGreatDoorRw30
import Derived.Test.YtfachhcijcjbpaaGreatDoorRw18
namespace Go.Proofs.YtfachhcijcjbpaaGreatDoor
open Go.Proofs.Tryz
set_option maxHeartbeats 8000000
set_option maxRecDepth 100000
open Go.RowKit
open Mth
variable {A:bg} {m:Nd} {B:Nat} {x y w:World} {v:Value} {L:List gD}
theorem afU (n:Nd) (A:bg) (o:gD) (w:World) (hz:eH n 1048576) (hk:o.k.size<=1048576) (hmk:o.m.k.size<=1048576) (ha:bX w A n):
 Calls prog 68 #[gP n A,jF o] w (jJ w (doN n o)):=by
 obtain⟨K,no,k,nn,⟨mK,mF,mT,mI,mL,mk,mN⟩⟩:=o;exact Vn n A K no k nn mK mF mT mI mL mk mN w hz hk hmk ha
def NL (B:Nat) (x:World) (A:bg) (m:Nd):Prop:=∀F W'',aC F x W''->(∀f∈F,f < B)->bX W'' A m
theorem NL.at (h:NL B x A m):bX x A m:=h [] x (aC.refl _ _) (λ_ h=>by simp at h)
theorem NL.step (h:NL B x A m) (hb:aG x y):NL B y A m:=λF W'' hk hF=>h F W'' ((aC.of_below hb).trans hk) hF
theorem NL.keeps {G:List Nat} (h:NL B x A m) (hg:aC G x y) (hG:∀f∈G,f < B):NL B y A m:=λF W'' hk hF=>
 h (G++F) W'' ((hg.mono (λ_ h=>aFg _ h)).trans (hk.mono (λ_ h=>aFG _ h))) (λf hf=>by
   rcases aE0.1 hf with h|h
   .exact hG f h
   .exact hF f h)
theorem NL.mono {B':Nat} (h:NL B x A m) (hB:B'<=B):NL B' x A m:=λF W'' hk hF=>h F W'' hk (λf hf=>aEH (hF f hf) hB)
theorem NL.or {q:Nat} {z:World} (h:NL B y A m) (hq:q < B\/y.heap.size<=q) (hk:aC [q] y z):NL B z A m:=by
 rcases hq with h'|h'
 .exact h.keeps hk (λf hf=>by rw [aEM.1 hf];exact h')
 .exact h.step (hk.below (λf hf=>by rw [aEM.1 hf];exact h') (aEx _))
theorem NL.aft (h:NL (w.heap.size+2) x A m):∀W'',Ee w x W''->bX W'' A m:=λW'' ⟨F,hk,hF⟩=>h F W'' hk (λf hf=>by have:=hF f hf;omega)
structure RsS (w:World) (B:Nat) (v:Value) (L:List gD) (m:Nd) (A:bg) (x:World):Prop where
 bel:aG w x
 siz:w.heap.size+2<=x.heap.size
 res:x.heap[w.heap.size+1]?=some (.cells kH 53 (0,0))
 blk:x.heap[w.heap.size]?=some (.cells (dR m A) 53 (0,0))
 nl:NL (w.heap.size+2) x A m
 own:x.ownsRow B 106 11 v L.length (GR.flat nQ L)
theorem RsS.step (h:RsS w B v L m A x) (hb:aG x y):RsS w B v L m A y:=
 ⟨h.bel.trans (hb.mono h.bel.size),aEA h.siz hb.size,aj h.res hb,aj h.blk hb,h.nl.step hb,GR.own_below h.own hb⟩
theorem RsS.put {m':Nd} {A':bg} (h:RsS w B v L m A x) (hB:w.heap.size+2<=B) (hn:NL (w.heap.size+2) x A' m'):RsS w B v L m' A' (((((((((x.setCell ⟨w.heap.size,0,none⟩ (.int .i64 m'.id)).setCell ⟨w.heap.size,1,none⟩ (.int .i64 m'.par)).setCell ⟨w.heap.size,2,none⟩ (.slice A'.k m'.kids.length A'.ck)).setCell ⟨w.heap.size,3,none⟩ (.int .i64 m'.next)).setCell ⟨w.heap.size,4,none⟩ (.slice A'.p m'.pu.length A'.cp)).setCell ⟨w.heap.size,5,none⟩ (.slice A'.o m'.out.length A'.co)).setCell ⟨w.heap.size,6,none⟩ (.slice A'.s m'.seen.length A'.cs)).setCell ⟨w.heap.size,7,none⟩ (.int .i64 m'.old)).setCell ⟨w.heap.size,8,none⟩ (.slice A'.r m'.reqs.length A'.cr)):=by
 have hk:=yM (X:=x) (g:=w.heap.size) (b0:= .int .i64 m'.id) (b1:= .int .i64 m'.par) (b2:= .slice A'.k m'.kids.length A'.ck) (b3:= .int .i64 m'.next) (b4:= .slice A'.p m'.pu.length A'.cp) (b5:= .slice A'.o m'.out.length A'.co) (b6:= .slice A'.s m'.seen.length A'.cs) (b7:= .int .i64 m'.old) (b8:= .slice A'.r m'.reqs.length A'.cr);exact⟨E8 h.bel (aEx _),aEA h.siz hk.size,hk.obj h.res Aac,EW h.blk,hn.keeps hk (λf hf=>Aco),dA h.own hk (λf hf=>Aco)⟩
def Lu (w:World) (n:Nd) (e:Ending) (w':World):Prop:=∃A',e= .returned (gP n A')/\(∀W'',Ee w w' W''->bX W'' A' n)/\aG w w'
theorem Vo (n:Nd) (A:bg) (s:ByteArray) (w:World) (hs:s.size<=maxLen) (hz:eH n 1048576) (ha:bX w A n):
 Calls prog 37 #[gP n A,.string s] w (Lu w (gH n (fT s).1)):=by
 have Ol:=Hq (λW (h:aG w W)=>uS n A W hz (ha.below h));have Eh:=Hq (λW=>RY s hs W);obtain⟨L,hL⟩:∃L,(fT s).1=L:=⟨_,rfl⟩;have hLl:L.length<=60000:=by rw [<-hL];exact KN s
 have hok:∀o∈L,o.k.size<=1048576/\o.m.k.size<=1048576:=λo h=>Xk (Q6 s o (by rw [hL];exact h))
 unfold kZ at Eh;rw [hL] at Eh;rw [hL];have HSD:=Hq (fun(k:Nat) (hk1:k < L.length) A W (ha:bX W A (gH n (L.take k)))=>afU (gH n (L.take k)) A L[k] W (Nk hz _) (hok _ (aEL hk1)).1 (hok _ (aEL hk1)).2 ha);have HPS:=Hq (fun(k:Nat) (hk1:k < L.length)=>KG (n:=n) hk1);have HPE:=Hq (show gH n (L.take L.length)=gH n L by rw [aEW]);unfold Lu;clear hz ha hs hok hL;generalize (fT s).2=fin at *;go_in
 go_upto_region 1 with fail;refine wp_at (λW0 hW=>?_);obtain⟨e1,e3,e4⟩:=gU w (.cells (dR n A) 53) (.cells kH 53);have hs0:W0.heap.size=w.heap.size+2:=by rw [hW];simp
 rw [<-hW] at e1 e3 e4;have HN:=Hq e1;have HR:=Hq e3;have HB:=Hq e4;clear hW e1 e3 e4;obtain⟨c0,c1,c2,c3,c4,c5,c6,c7,c8⟩:=nine HN;go_wp2_with fail;refine(Ol W0 HB).mono ?_;rintro e y ⟨A1,G1,cc1,rfl,hNQ,hby,_⟩;have hN2:=aj HN hby;have HR2:=Hq (aj HR hby);have Eu:=Hq (HB.trans (hby.mono HB.size));have hys:=hby.size;have Ou:=Hq (show NL (w.heap.size+2) y A1 n from λF W'' hk hF=>(hNQ.toNO.kc0 (KC.keeps hk (λx hx=>hNQ.lo x (by rw [hs0];exact hF x hx)))).at);have Dw:=Hq hN2;clear hNQ hby c0 c1 c2 c3 c4 c5 c6 c7 c8 Ol HN HR HB;obtain⟨⟨d0,d1,d2,d3,d4,d5,d6,d7,d8⟩,f0,f1,f2,f3,f4,f5,f6,f7,f8⟩:=iG hN2;clear hN2;go_upto_region 2 with fail;refine wp_at (λW hW=>?_);have hkp:aC [w.heap.size] y W:=by rw [hW];exact yM
 have hblk:W.heap[w.heap.size]?=some (.cells (dR n A1) 53 (0,0)):=by rw [hW];exact EW Dw
 have H7:=Hq hblk;have gK:=Hq (Eu.trans (hkp.below (B:=w.heap.size) (λf hf=>by rw [aEM.1 hf];exact aEx _) Aaa));have HRW:=Hq (hkp.obj HR2 Aac);have HNW:=Hq (Ou.keeps hkp (λf hf=>Aco));have hsw:w.heap.size+2<=W.heap.size:=by have:=hkp.size;omega
 clear hW hkp hblk Dw HR2 Eu Ou d0 d1 d2 d3 d4 d5 d6 d7 d8 f0 f1 f2 f3 f4 f5 f6 f7 f8 hys hs0;go_wp2_with fail;refine(Eh W).mono ?_;rintro e W1 ⟨v,rfl,hown,hb1⟩;obtain⟨a1,cp1,hv,_⟩:=GR.own_at (enc:=nQ) (sz:=11) jO hown;subst hv;have HS:=Hq (show∃A,RsS w W.heap.size (.slice a1 L.length cp1) L (gH n (L.take 0)) A W1 from⟨A1,gK.trans (hb1.mono gK.size),aEA hsw hb1.size,aj HRW hb1,aj H7 hb1,HNW.step hb1,hown⟩);clear hown hb1 gK HRW HNW H7 Eh;generalize W.heap.size=B at *;go_wp2_with fail;go_loopw [7] (λi wr=>∃k:Nat,k<=L.length/\i= .int .i64 k/\∃A,RsS w B (.slice a1 L.length cp1) L (gH n (L.take k)) A wr) (λi _=>L.length - (intOf i).toNat)
 case atStart=>exact⟨0,aEN _,rfl,HS⟩
 case round=>
  clear HS;obtain⟨k,hkl,rfl,A2,hS⟩:=hrel;have HS:=Hq hS;clear hS;by_cases hlt:k < L.length
  .obtain⟨g1,o1,ea,hg1,t0,t1,t2,t3,t4,t5,t6,t7,t8,t9,t10⟩:=JX.eleven (GR.own_ati jO HS.own) k hlt;cases ea
   have aew:=Hq (HSD k hlt);have HPk:=Hq (HPS k hlt);have hki:(k:Int) < (L.length:Int):=Aaa
   generalize doN (gH n (L.take k)) L[k]=RR at *;generalize gH n (L.take k)=m at *;generalize L[k]=oo at *;obtain⟨K,no,kk,nn,⟨mK,mF,mT,mI,mL,mk,mN⟩⟩:=oo;dsimp only at t0 t1 t2 t3 t4 t5 t6 t7 t8 t9 t10;obtain⟨m',Ms,code⟩:=RR;dsimp only at HPk;unfold jJ at aew;dsimp only at aew;have hsz:=HS.siz;obtain⟨c0,c1,c2,c3,c4,c5,c6,c7,c8⟩:=nine HS.blk;have hbl:=ay HS.blk;have u0:=bZ (b:=wr.heap.size) hbl c0;have u1:=bZ (b:=wr.heap.size) hbl c1;have u2:=bZ (b:=wr.heap.size) hbl c2;have u3:=bZ (b:=wr.heap.size) hbl c3;have u4:=bZ (b:=wr.heap.size) hbl c4;have u5:=bZ (b:=wr.heap.size) hbl c5;have u6:=bZ (b:=wr.heap.size) hbl c6;have u7:=bZ (b:=wr.heap.size) hbl c7;have u8:=bZ (b:=wr.heap.size) hbl c8;have x0:=bZ (b:=wr.heap.size) hg1 t0;have x1:=bZ (b:=wr.heap.size) hg1 t1;have x2:=bZ (b:=wr.heap.size) hg1 t2;have x3:=bZ (b:=wr.heap.size) hg1 t3;have x4:=bZ (b:=wr.heap.size) hg1 t4;have x5:=bZ (b:=wr.heap.size) hg1 t5;have x6:=bZ (b:=wr.heap.size) hg1 t6;have x7:=bZ (b:=wr.heap.size) hg1 t7;have x8:=bZ (b:=wr.heap.size) hg1 t8;have x9:=bZ (b:=wr.heap.size) hg1 t9;have x10:=bZ (b:=wr.heap.size) hg1 t10;clear c0 c1 c2 c3 c4 c5 c6 c7 c8 t0 t1 t2 t3 t4 t5 t6 t7 t8 t9 t10;go_upto_region 6 with fail;go_cut [8] (λq wx=>∃qf A3,q= .pointer (some ⟨qf,0,none⟩)/\wx.heap[qf]?=some (.cells (dR m' A3) 53 (0,0))/\NL (w.heap.size+2) wx A3 m'/\aG wr wx)
   case first=>
    have hwb:wr.heap.size<=wr.heap.size:=aEx _;refine rg 13 (RB wr.heap.size) 14 ?_;refine tk [1,2,3,0,4] ?_;iterate 5 (refine tkB 20 (Rb _) (λK hK=>?_);go_simp;(first|refine hK _ ?_|(apply Exists.intro;refine⟨λ_=>?_,hK _ ?_⟩;rfl));clear hK K)
    refine jm ?_;clear hwb u0 u1 u2 u3 u4 u5 u6 u7 u8 x0 x1 x2 x3 x4 x5 x6 x7 x8 x9 x10;have HG0:=Hq (aEK wr.heap.size wr);refine uT 5 10 rfl rfl Aab Aah Aah Aag Aag (λx5 hx5=>?_) (λx10 Mv=>?_)
    .have HG:=Hq (Ge.trans HG0 hx5);open aqL in exact awD
    .have JM:=Hq (Ge.trans HG0 Mv);go_simp;refine⟨(au x10 _).mono JM.size,?_⟩;have hqV:wr.heap.size<=x10.heap.size:=JM.size;have azI:=Hq (Ge.trans JM (au x10 (.cells kH 53)));have HQ1:=Hq (aEu x10 (.cells kH 53));clear Mv;generalize x10.heap.size=qf at *;refine iT 5 rfl Aab Aah Aag (λx5 hx5=>?_);have HG:=Hq (Ge.trans azI hx5);have HQ:=Hq (aj HQ1 hx5);open aqK in exact awD
   case rest=>
    obtain⟨qf,A3,rfl,hblk,hNL,hbx⟩:=hcut;have HS2:=Hq (HS.step hbx);have Ou:=Hq hNL;have hB:w.heap.size+2<=B:=hsw;obtain⟨c0,c1,c2,c3,c4,c5,c6,c7,c8⟩:=nine hblk;have hql:=ay hblk;clear hblk hNL hbx HS aew u0 u1 u2 u3 u4 u5 u6 u7 u8 x0 x1 x2 x3 x4 x5 x6 x7 x8 x9 x10;obtain⟨⟨d0,d1,d2,d3,d4,d5,d6,d7,d8⟩,f0,f1,f2,f3,f4,f5,f6,f7,f8⟩:=iG HS2.blk;have hnl:=ay HS2.blk;go_wp2_with fail;go_roundw
    case rel=>exact⟨k+1,Aaa,Aaf,A3,by rw [ah HPk];exact HS2.put hB Ou⟩
    case measure=>simp[intOf];omega
  .have hke:k=L.length:=Aaa
   subst hke;have hnlt:decide ((L.length:Int) < (L.length:Int))=false:=Aac
   rw [ah HPE] at HS;obtain⟨m,hm⟩:∃m,gH n L=m:=⟨_,rfl⟩;rw [hm] at HS;have HM:=Hq hm;clear HSD HPS HPE hlt hm hLl;obtain⟨c0,c1,c2,c3,c4,c5,c6,c7,c8⟩:=nine HS.blk;obtain⟨d0,d1,d2,d3,d4,d5,d6,d7,d8⟩:=nine HS.res;have hnl:=ay HS.blk;have hrl:=ay HS.res;obtain⟨f0,f1,f2,f3,f4,f5,f6,f7,f8⟩:=mX (HS.res);go_wp2_with fail;refine fQ (λW' hW'=>?_);have e9:W'.heap[w.heap.size+1]?=some (.cells (dR m A2) 53 (0,0)):=by rw [hW'];exact EW HS.res
   obtain⟨r0,r1,r2,r3,r4,r5,r6,r7,r8⟩:=nine e9;have pU:NL (w.heap.size+2) W' A2 m:=by rw [hW'];exact HS.nl.keeps yM (λf hf=>by rw [aEM.1 hf];omega)
   have hBB:aG w W':=by rw [hW'];exact E8 HS.bel Aaa
   exact aEE (v:=gP m A2) (by simp[results,results37,go_sem,r0,r1,r2,r3,r4,r5,r6,r7,r8]) rfl ⟨A2,by rw [ah HM],by rw [ah HM];exact pU.aft,hBB⟩
end Go.Proofs.YtfachhcijcjbpaaGreatDoor
