/- Parts. -/
import Derived.Test.YtohmklmkjmlpjaaGreatDoorRc35
import Derived.Test.YtohmklmkjmlpjaaGreatDoorRc34
import Derived.Test.YtohmklmkjmlpjaaGreatDoorRc28
import Derived.Test.YtohmklmkjmlpjaaGreatDoorRc17
namespace Go.Proofs.YtohmklmkjmlpjaaGreatDoor
open Go.Proofs.Tryz
set_option maxHeartbeats 8000000
set_option maxRecDepth 100000
open Go.RowKit
open Mth
variable {A:bV} {m:Nd} {B:Nat} {x y w:World} {v:Value} {L:List gW}
theorem Rl (n:Nd) (A:bV) (K no:Int) (k:ByteArray) (nn mK mF mT mI mL:Int) (mk:ByteArray) (mN:Int) (w:World) (hz:eG n 1048576) (hk:k.size<=1048576) (hmk:mk.size<=1048576) (hok:eH n=true) (hop:cK ⟨K,no,k,nn,⟨mK,mF,mT,mI,mL,mk,mN⟩⟩=true) (hK:K=6) (ha:dD w A n):Calls prog 58 #[gP n A,.agg (cu K no k nn mK mF mT mI mL mk mN)] w (kE w (CZ n ⟨mK,mF,mT,mI,mL,mk,mN⟩)):=by
 subst hK;open apL in exact DW
theorem Rp (n:Nd) (A:bV) (K no:Int) (k:ByteArray) (nn mK mF mT mI mL:Int) (mk:ByteArray) (mN:Int) (w:World) (hz:eG n 1048576) (hk:k.size<=1048576) (hmk:mk.size<=1048576) (hok:eH n=true) (hop:cK ⟨K,no,k,nn,⟨mK,mF,mT,mI,mL,mk,mN⟩⟩=true) (hK:K=3) (hpar:n.par≠ -1) (ha:dD w A n):Calls prog 58 #[gP n A,.agg (cu K no k nn mK mF mT mI mL mk mN)] w (kE w (n,[⟨0,n.id,n.par,0,0,k,nn⟩],0)):=by
 subst hK;have oN:=Hq (λW (h:aI w W)=>zl n A W (hz.mono Aaa) (ha.below h));rw [hok] at oN
 have hpz:(decide (n.par < 0))=false:=by
  exact ai9
 have Hz:=Hq (λW=>jO ⟨3,no,k,nn,⟨mK,mF,mT,mI,mL,mk,mN⟩⟩ W Aal Aal);open anC in exact EY
theorem al2 {o:gW} (h:cK o=true):o.K=0\/o.K=1\/o.K=2\/o.K=3\/o.K=4\/o.K=5\/o.K=6:=by
 unfold cK at h;by_cases h0:o.K=0\/o.K=3\/o.K=4
 .omega
 rw [aGr h0] at h;by_cases h1:o.K=1
 .omega
 rw [aGr h1] at h;by_cases h2:o.K=2
 .omega
 rw [aGr h2] at h;by_cases h5:o.K=5
 .omega
 rw [aGr h5] at h;by_cases h6:o.K=6
 .omega
 rw [aGr h6] at h;exact absurd h Aac
theorem Vo (n:Nd) (A:bV) (K no:Int) (k:ByteArray) (nn mK mF mT mI mL:Int) (mk:ByteArray) (mN:Int) (w:World) (hz:eG n 1048576) (hk:k.size<=1048576) (hmk:mk.size<=1048576) (ha:dD w A n):
 Calls prog 58 #[gP n A,.agg (cu K no k nn mK mF mT mI mL mk mN)] w (kE w (doN n ⟨K,no,k,nn,⟨mK,mF,mT,mI,mL,mk,mN⟩⟩)):=by
 cases hok:eH n
 .rw [Md hok];exact Rj n A K no k nn mK mF mT mI mL mk mN w hz hok ha
 rw [TY hok];cases hop:cK ⟨K,no,k,nn,⟨mK,mF,mT,mI,mL,mk,mN⟩⟩
 .rw [show nR n ⟨K,no,k,nn,⟨mK,mF,mT,mI,mL,mk,mN⟩⟩=(n,[],3) from aGr (by rw [hop];simp)];exact Rk n A K no k nn mK mF mT mI mL mk mN w hz hk hmk hok hop ha
 by_cases h6:K=6
 .have e:nR n ⟨K,no,k,nn,⟨mK,mF,mT,mI,mL,mk,mN⟩⟩=CZ n ⟨mK,mF,mT,mI,mL,mk,mN⟩:=by
   unfold nR CZ yh fG;rw [hop,h6];dsimp only;by_cases hc:mT=n.id/\eD n mF=true
   .rw [aGC hc,aGC (by rw [hc.2,aGk hc.1];rfl),aGr Aaa,aGr Aaa,aGr Aaa,aGr Aaa,aGr Aaa,aGr Aaa]
   .rw [aGr hc,aGr (by simp only[decide_true,Bool.not_true,Bool.false_or,Bool.true_and,aGl,aGy];exact hc)]
  rw [e];exact Rl n A K no k nn mK mF mT mI mL mk mN w hz hk hmk hok hop h6 ha
 rw [show nR n ⟨K,no,k,nn,⟨mK,mF,mT,mI,mL,mk,mN⟩⟩=fG n ⟨K,no,k,nn,⟨mK,mF,mT,mI,mL,mk,mN⟩⟩ from aGC (by rw [hop];unfold yh;rw [aGi h6];rfl)];have hK:=al2 hop;dsimp only at hK;by_cases h0:K=0
 .rw [show fG n ⟨K,no,k,nn,⟨mK,mF,mT,mI,mL,mk,mN⟩⟩=_ from aGC h0];dsimp only;cases hu:dK n.pu k 1 1 0 nn with
  |mk RL ok=>
   by_cases hp:n.par= -1
   .cases ok
    .rw [aGr (λh=>absurd h.2 Aac)];exact Jd n A K no k nn mK mF mT mI mL mk mN w hz hk hmk hok hop h0 RL hu hp ha
    .rw [aGC ⟨hp,rfl⟩];exact Gu n A K no k nn mK mF mT mI mL mk mN w hz hk hmk hok hop h0 RL hu hp ha
   .rw [aGr (λh=>hp h.1)];exact Je n A K no k nn mK mF mT mI mL mk mN w hz hk hmk hok hop h0 RL ok hu hp ha
 by_cases h1:K=1
 .rw [show fG n ⟨K,no,k,nn,⟨mK,mF,mT,mI,mL,mk,mN⟩⟩=_ from(aGr h0).trans (aGC h1)];exact NC n A K no k nn mK mF mT mI mL mk mN w hz hk hmk hok hop h1 ha
 by_cases h2:K=2
 .rw [show fG n ⟨K,no,k,nn,⟨mK,mF,mT,mI,mL,mk,mN⟩⟩=_ from(aGr h0).trans ((aGr h1).trans (aGC h2))];exact Vk n A K no k nn mK mF mT mI mL mk mN w hz hk hmk hok hop h2 ha
 by_cases h3:K=3
 .rw [show fG n ⟨K,no,k,nn,⟨mK,mF,mT,mI,mL,mk,mN⟩⟩=_ from(aGr h0).trans ((aGr h1).trans ((aGr h2).trans (aGC h3)))];by_cases hp:n.par= -1
  .rw [aGC hp];exact Rm n A K no k nn mK mF mT mI mL mk mN w hz hk hmk hok hop h3 hp ha
  .rw [aGr hp];exact Rp n A K no k nn mK mF mT mI mL mk mN w hz hk hmk hok hop h3 hp ha
 by_cases h4:K=4
 .rw [show fG n ⟨K,no,k,nn,⟨mK,mF,mT,mI,mL,mk,mN⟩⟩=_ from(aGr h0).trans ((aGr h1).trans ((aGr h2).trans ((aGr h3).trans (aGC h4))))];by_cases hp:n.par= -1
  .rw [aGC hp];exact Rn n A K no k nn mK mF mT mI mL mk mN w hz hk hmk hok hop h4 hp ha
  .rw [aGr hp];exact Ri n A K no k nn mK mF mT mI mL mk mN w hz hk hmk hok hop h4 hp ha
 have h5:K=5:=Aaa
 rw [show fG n ⟨K,no,k,nn,⟨mK,mF,mT,mI,mL,mk,mN⟩⟩=_ from(aGr h0).trans ((aGr h1).trans ((aGr h2).trans ((aGr h3).trans ((aGr h4).trans (aGC h5)))))];exact Ro n A K no k nn mK mF mT mI mL mk mN w hz hk hmk hok hop h5 ha
theorem af4 (n:Nd) (A:bV) (o:gW) (w:World) (hz:eG n 1048576) (hk:o.k.size<=1048576) (hmk:o.m.k.size<=1048576) (ha:dD w A n):
 Calls prog 58 #[gP n A,jY o] w (kE w (doN n o)):=by
 obtain⟨K,no,k,nn,⟨mK,mF,mT,mI,mL,mk,mN⟩⟩:=o;exact Vo n A K no k nn mK mF mT mI mL mk mN w hz hk hmk ha
def NL (B:Nat) (x:World) (A:bV) (m:Nd):Prop:=∀F W'',aC F x W''->(∀f∈F,f < B)->dD W'' A m
theorem NL.at (h:NL B x A m):dD x A m:=h [] x (aC.refl _ _) (λ_ h=>by simp at h)
theorem NL.step (h:NL B x A m) (hb:aI x y):NL B y A m:=λF W'' hk hF=>h F W'' ((aC.of_below hb).trans hk) hF
theorem NL.keeps {G:List Nat} (h:NL B x A m) (hg:aC G x y) (hG:∀f∈G,f < B):NL B y A m:=λF W'' hk hF=>
 h (G++F) W'' ((hg.mono (λ_ h=>aG5 _ h)).trans (hk.mono (λ_ h=>aHC _ h))) (λf hf=>by
   rcases aGE.1 hf with h|h
   .exact hG f h
   .exact hF f h)
theorem NL.mono {B':Nat} (h:NL B x A m) (hB:B'<=B):NL B' x A m:=λF W'' hk hF=>h F W'' hk (λf hf=>aGq (hF f hf) hB)
theorem NL.or {q:Nat} {z:World} (h:NL B y A m) (hq:q < B\/y.heap.size<=q) (hk:aC [q] y z):NL B z A m:=by
 rcases hq with h'|h'
 .exact h.keeps hk (λf hf=>by rw [aGA.1 hf];exact h')
 .exact h.step (hk.below (λf hf=>by rw [aGA.1 hf];exact h') (aGh _))
theorem NL.aft (h:NL (w.heap.size+2) x A m):∀W'',Ez w x W''->dD W'' A m:=λW'' ⟨F,hk,hF⟩=>h F W'' hk (λf hf=>by have:=hF f hf;omega)
structure RsS (w:World) (B:Nat) (v:Value) (L:List gW) (m:Nd) (A:bV) (x:World):Prop where
 bel:aI w x
 siz:w.heap.size+2<=x.heap.size
 res:x.heap[w.heap.size+1]?=some (.cells iP 40 (0,0))
 blk:x.heap[w.heap.size]?=some (.cells (dG m A) 40 (0,0))
 nl:NL (w.heap.size+2) x A m
 own:x.ownsRow B 100 11 v L.length (GR.flat ou L)
theorem RsS.step (h:RsS w B v L m A x) (hb:aI x y):RsS w B v L m A y:=
 ⟨h.bel.trans (hb.mono h.bel.size),aGm h.siz hb.size,au h.res hb,au h.blk hb,h.nl.step hb,GR.own_below h.own hb⟩
theorem RsS.put {m':Nd} {A':bV} (h:RsS w B v L m A x) (hB:w.heap.size+2<=B) (hn:NL (w.heap.size+2) x A' m'):RsS w B v L m' A' (((((((((x.setCell ⟨w.heap.size,0,none⟩ (.int .i64 m'.id)).setCell ⟨w.heap.size,1,none⟩ (.int .i64 m'.par)).setCell ⟨w.heap.size,2,none⟩ (.slice A'.k m'.kids.length A'.ck)).setCell ⟨w.heap.size,3,none⟩ (.int .i64 m'.next)).setCell ⟨w.heap.size,4,none⟩ (.slice A'.p m'.pu.length A'.cp)).setCell ⟨w.heap.size,5,none⟩ (.slice A'.o m'.out.length A'.co)).setCell ⟨w.heap.size,6,none⟩ (.slice A'.s m'.seen.length A'.cs)).setCell ⟨w.heap.size,7,none⟩ (.int .i64 m'.old)).setCell ⟨w.heap.size,8,none⟩ (.slice A'.r m'.reqs.length A'.cr)):=by
 have hk:=qG (X:=x) (g:=w.heap.size) (b0:= .int .i64 m'.id) (b1:= .int .i64 m'.par) (b2:= .slice A'.k m'.kids.length A'.ck) (b3:= .int .i64 m'.next) (b4:= .slice A'.p m'.pu.length A'.cp) (b5:= .slice A'.o m'.out.length A'.co) (b6:= .slice A'.s m'.seen.length A'.cs) (b7:= .int .i64 m'.old) (b8:= .slice A'.r m'.reqs.length A'.cr);exact⟨uF h.bel (aGh _),aGm h.siz hk.size,hk.obj h.res Aac,wC h.blk,hn.keeps hk (λf hf=>Adg),dU h.own hk (λf hf=>Adg)⟩
def Ll (w:World) (n:Nd) (e:Ending) (w':World):Prop:=∃A',e= .returned (gP n A')/\(∀W'',Ez w w' W''->dD W'' A' n)/\aI w w'
theorem Vp (n:Nd) (A:bV) (s:ByteArray) (w:World) (hs:s.size<=maxLen) (hz:eG n 1048576) (ha:dD w A n):
 Calls prog 21 #[gP n A,.string s] w (Ll w (gD n (dR s).1)):=by
 have Oj:=Hq (λW (h:aI w W)=>qb n A W hz (ha.below h));have Sv:=Hq (λW=>Rz s hs W);obtain⟨L,hL⟩:∃L,(dR s).1=L:=⟨_,rfl⟩;have hLl:L.length<=60000:=by rw [<-hL];exact KN s
 have hok:∀o∈L,o.k.size<=1048576/\o.m.k.size<=1048576:=λo h=>Xh (QW s o (by rw [hL];exact h))
 unfold lM at Sv;rw [hL] at Sv;rw [hL];have HSD:=Hq (fun(k:Nat) (hk1:k < L.length) A W (ha:dD W A (gD n (L.take k)))=>af4 (gD n (L.take k)) A L[k] W (Nk hz _) (hok _ (aGz hk1)).1 (hok _ (aGz hk1)).2 ha);have HPS:=Hq (fun(k:Nat) (hk1:k < L.length)=>KG (n:=n) hk1);have HPE:=Hq (show gD n (L.take L.length)=gD n L by rw [aGL]);unfold Ll;clear hz ha hs hok hL;generalize (dR s).2=fin at *;go_in
 go_upto_region 1 with fail;refine wp_at (λW0 hW=>?_);obtain⟨e1,e3,e4⟩:=gQ w (.cells (dG n A) 40) (.cells iP 40);have hs0:W0.heap.size=w.heap.size+2:=by rw [hW];simp
 rw [<-hW] at e1 e3 e4;have HN:=Hq e1;have HR:=Hq e3;have HB:=Hq e4;clear hW e1 e3 e4;obtain⟨c0,c1,c2,c3,c4,c5,c6,c7,c8⟩:=nine HN;go_wp2_with fail;refine(Oj W0 HB).mono ?_;rintro e y ⟨A1,G1,cc1,rfl,hNQ,hby,_⟩;have Iw:=au HN hby;have HR2:=Hq (au HR hby);have JC:=Hq (HB.trans (hby.mono HB.size));have hys:=hby.size;have HNL:=Hq (show NL (w.heap.size+2) y A1 n from λF W'' hk hF=>(hNQ.toNO.kc0 (KC.keeps hk (λx hx=>hNQ.lo x (by rw [hs0];exact hF x hx)))).at);have Bq:=Hq Iw;clear hNQ hby c0 c1 c2 c3 c4 c5 c6 c7 c8 Oj HN HR HB;obtain⟨d0,d1,d2,d3,d4,d5,d6,d7,d8⟩:=nine Iw;have f0:=aj Iw 0;have f1:=aj Iw 1;have f2:=aj Iw 2;have f3:=aj Iw 3;have f4:=aj Iw 4;have f5:=aj Iw 5;have f6:=aj Iw 6;have f7:=aj Iw 7;have f8:=aj Iw 8;clear Iw;go_upto_region 2 with fail;refine wp_at (λW hW=>?_);have hkp:aC [w.heap.size] y W:=by rw [hW];exact qG
 have hblk:W.heap[w.heap.size]?=some (.cells (dG n A1) 40 (0,0)):=by rw [hW];exact wC Bq
 have Hu:=Hq hblk;have jl:=Hq (JC.trans (hkp.below (B:=w.heap.size) (λf hf=>by rw [aGA.1 hf];exact aGh _) Aaa));have HRW:=Hq (hkp.obj HR2 Aac);have XD:=Hq (HNL.keeps hkp (λf hf=>Adg));have hsw:w.heap.size+2<=W.heap.size:=by have:=hkp.size;omega
 clear hW hkp hblk Bq HR2 JC HNL d0 d1 d2 d3 d4 d5 d6 d7 d8 f0 f1 f2 f3 f4 f5 f6 f7 f8 hys hs0;go_wp2_with fail;refine(Sv W).mono ?_;rintro e W1 ⟨v,rfl,hown,hb1⟩;obtain⟨a1,cp1,hv,_⟩:=GR.own_at (enc:=ou) (sz:=11) jF hown;subst hv;have HS:=Hq (show∃A,RsS w W.heap.size (.slice a1 L.length cp1) L (gD n (L.take 0)) A W1 from⟨A1,jl.trans (hb1.mono jl.size),aGm hsw hb1.size,au HRW hb1,au Hu hb1,XD.step hb1,hown⟩);clear hown hb1 jl HRW XD Hu Sv;generalize W.heap.size=B at *;go_wp2_with fail;go_loopw [7] (λi wr=>∃k:Nat,k<=L.length/\i= .int .i64 k/\∃A,RsS w B (.slice a1 L.length cp1) L (gD n (L.take k)) A wr) (λi _=>L.length - (intOf i).toNat)
 case atStart=>exact⟨0,aGB _,rfl,HS⟩
 case round=>
  clear HS;obtain⟨k,hkl,rfl,A2,hS⟩:=hrel;have HS:=Hq hS;clear hS;by_cases hlt:k < L.length
  .obtain⟨g1,o1,ea,hg1,t0,t1,t2,t3,t4,t5,t6,t7,t8,t9,t10⟩:=EW.eleven (GR.own_ati jF HS.own) k hlt;cases ea
   have aeF:=Hq (HSD k hlt);have HPk:=Hq (HPS k hlt);have hki:(k:Int) < (L.length:Int):=Aaa
   generalize doN (gD n (L.take k)) L[k]=RR at *;generalize gD n (L.take k)=m at *;generalize L[k]=oo at *;obtain⟨K,no,kk,nn,⟨mK,mF,mT,mI,mL,mk,mN⟩⟩:=oo;dsimp only at t0 t1 t2 t3 t4 t5 t6 t7 t8 t9 t10;obtain⟨m',Ms,code⟩:=RR;dsimp only at HPk;unfold kE at aeF;dsimp only at aeF;have hsz:=HS.siz;obtain⟨c0,c1,c2,c3,c4,c5,c6,c7,c8⟩:=nine HS.blk;have hbl:=aA HS.blk;have u0:=dz (b:=wr.heap.size) hbl c0;have u1:=dz (b:=wr.heap.size) hbl c1;have u2:=dz (b:=wr.heap.size) hbl c2;have u3:=dz (b:=wr.heap.size) hbl c3;have u4:=dz (b:=wr.heap.size) hbl c4;have u5:=dz (b:=wr.heap.size) hbl c5;have u6:=dz (b:=wr.heap.size) hbl c6;have u7:=dz (b:=wr.heap.size) hbl c7;have u8:=dz (b:=wr.heap.size) hbl c8;have x0:=dz (b:=wr.heap.size) hg1 t0;have x1:=dz (b:=wr.heap.size) hg1 t1;have x2:=dz (b:=wr.heap.size) hg1 t2;have x3:=dz (b:=wr.heap.size) hg1 t3;have x4:=dz (b:=wr.heap.size) hg1 t4;have x5:=dz (b:=wr.heap.size) hg1 t5;have x6:=dz (b:=wr.heap.size) hg1 t6;have x7:=dz (b:=wr.heap.size) hg1 t7;have x8:=dz (b:=wr.heap.size) hg1 t8;have x9:=dz (b:=wr.heap.size) hg1 t9;have x10:=dz (b:=wr.heap.size) hg1 t10;clear c0 c1 c2 c3 c4 c5 c6 c7 c8 t0 t1 t2 t3 t4 t5 t6 t7 t8 t9 t10;go_upto_region 6 with fail;go_cut [8] (λq wx=>∃qf A3,q= .pointer (some ⟨qf,0,none⟩)/\wx.heap[qf]?=some (.cells (dG m' A3) 40 (0,0))/\NL (w.heap.size+2) wx A3 m'/\aI wr wx)
   case first=>
    have hwb:wr.heap.size<=wr.heap.size:=aGh _;refine mY 13 wr.heap.size Aab ?_;show jv _ _ _ _ _ _ 14 (Array.replicate 14 false) _ _
    refine tk [1,2,3,0,4] ?_;iterate 5 (refine tkB hwb (λK hK=>?_);go_simp;first|refine hK _ ?_|(apply Exists.intro;refine⟨λ_=>?_,hK _ ?_⟩;rfl);clear hK K)
    refine kD ?_;clear hwb u0 u1 u2 u3 u4 u5 u6 u7 u8 x0 x1 x2 x3 x4 x5 x6 x7 x8 x9 x10;have HG0:=Hq (aGs wr.heap.size wr);refine nS 5 10 rfl rfl Aab Aad Aad Aae Aae (λx5 hx5=>?_) (λx10 FH=>?_)
    .have HG:=Hq (Ge.trans HG0 hx5);open asl in exact ayU
    .have Dz:=Hq (Ge.trans HG0 FH);go_simp;refine⟨(ay x10 _).mono Dz.size,?_⟩;have hqV:wr.heap.size<=x10.heap.size:=Dz.size;have aBC:=Hq (Ge.trans Dz (ay x10 (.cells iP 40)));have HQ1:=Hq (aGg x10 (.cells iP 40));clear FH;generalize x10.heap.size=qf at *;refine gL 5 rfl Aab Aad Aae (λx5 hx5=>?_);have HG:=Hq (Ge.trans aBC hx5);have HQ:=Hq (au HQ1 hx5);open asj in exact ayU
   case rest=>
    obtain⟨qf,A3,rfl,hblk,hNL,hbx⟩:=hcut;have HS2:=Hq (HS.step hbx);have HNL:=Hq hNL;have hB:w.heap.size+2<=B:=hsw;obtain⟨c0,c1,c2,c3,c4,c5,c6,c7,c8⟩:=nine hblk;have hql:=aA hblk;clear hblk hNL hbx HS aeF u0 u1 u2 u3 u4 u5 u6 u7 u8 x0 x1 x2 x3 x4 x5 x6 x7 x8 x9 x10;obtain⟨d0,d1,d2,d3,d4,d5,d6,d7,d8⟩:=nine HS2.blk;have f0:=aj HS2.blk 0;have f1:=aj HS2.blk 1;have f2:=aj HS2.blk 2;have f3:=aj HS2.blk 3;have f4:=aj HS2.blk 4;have f5:=aj HS2.blk 5;have f6:=aj HS2.blk 6;have f7:=aj HS2.blk 7;have f8:=aj HS2.blk 8;have hnl:=aA HS2.blk;go_wp2_with fail;go_roundw
    case rel=>exact⟨k+1,Aaa,Aaf,A3,by rw [ah HPk];exact HS2.put hB HNL⟩
    case measure=>simp[intOf];omega
  .have hke:k=L.length:=Aaa
   subst hke;have hnlt:decide ((L.length:Int) < (L.length:Int))=false:=Aac
   rw [ah HPE] at HS;obtain⟨m,hm⟩:∃m,gD n L=m:=⟨_,rfl⟩;rw [hm] at HS;have HM:=Hq hm;clear HSD HPS HPE hlt hm hLl;obtain⟨c0,c1,c2,c3,c4,c5,c6,c7,c8⟩:=nine HS.blk;obtain⟨d0,d1,d2,d3,d4,d5,d6,d7,d8⟩:=nine HS.res;have hnl:=aA HS.blk;have hrl:=aA HS.res;have f0:=aj HS.res 0;have f1:=aj HS.res 1;have f2:=aj HS.res 2;have f3:=aj HS.res 3;have f4:=aj HS.res 4;have f5:=aj HS.res 5;have f6:=aj HS.res 6;have f7:=aj HS.res 7;have f8:=aj HS.res 8;go_wp2_with fail;refine aP (λW' hW'=>?_);have e9:W'.heap[w.heap.size+1]?=some (.cells (dG m A2) 40 (0,0)):=by rw [hW'];exact wC HS.res
   obtain⟨r0,r1,r2,r3,r4,r5,r6,r7,r8⟩:=nine e9;have ql:NL (w.heap.size+2) W' A2 m:=by rw [hW'];exact HS.nl.keeps qG (λf hf=>by rw [aGA.1 hf];omega)
   have hBB:aI w W':=by rw [hW'];exact uF HS.bel Aaa
   exact aGn (v:=gP m A2) (by simp[results,results21,go_sem,r0,r1,r2,r3,r4,r5,r6,r7,r8]) rfl ⟨A2,Abx,by rw [ah HM];exact ql.aft,hBB⟩
end Go.Proofs.YtohmklmkjmlpjaaGreatDoor
