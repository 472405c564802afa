/- Parts. -/
import Derived.Test.YtohmklmkjmlpjaaGreatDoorRk35
import Derived.Test.YtohmklmkjmlpjaaGreatDoorRk34
import Derived.Test.YtohmklmkjmlpjaaGreatDoorRk29
import Derived.Test.YtohmklmkjmlpjaaGreatDoorRk18
namespace Go.Proofs.YtohmklmkjmlpjaaGreatDoor
open Go.Proofs.Tryz
set_option maxHeartbeats 8000000
set_option maxRecDepth 100000
open Go.RowKit
open Mth
variable {A:bV} {m:Nd} {B:Nat} {x y w:World} {v:Value} {L:List gQ}
theorem QH (n:Nd) (A:bV) (K no:Int) (k:ByteArray) (nn mK mF mT mI mL:Int) (mk:ByteArray) (mN:Int) (w:World) (hz:eX n 1048576) (hk:k.size<=1048576) (hmk:mk.size<=1048576) (hok:dY n=true) (hop:cK ⟨K,no,k,nn,⟨mK,mF,mT,mI,mL,mk,mN⟩⟩=true) (hK:K=6) (ha:dx w A n):Calls prog 58 #[fQ n A,.agg (bY K no k nn mK mF mT mI mL mk mN)] w (jN w (Ck n ⟨mK,mF,mT,mI,mL,mk,mN⟩)):=by
 subst hK;open aqd in exact Da
theorem QM (n:Nd) (A:bV) (K no:Int) (k:ByteArray) (nn mK mF mT mI mL:Int) (mk:ByteArray) (mN:Int) (w:World) (hz:eX n 1048576) (hk:k.size<=1048576) (hmk:mk.size<=1048576) (hok:dY n=true) (hop:cK ⟨K,no,k,nn,⟨mK,mF,mT,mI,mL,mk,mN⟩⟩=true) (hK:K=3) (hpar:n.par≠ -1) (ha:dx w A n):Calls prog 58 #[fQ n A,.agg (bY K no k nn mK mF mT mI mL mk mN)] w (jN w (n,[⟨0,n.id,n.par,0,0,k,nn⟩],0)):=by
 subst hK;have nW:=Hq (λW (h:aI w W)=>qj n A W (hz.mono Aaa) (ha.below h));rw [hok] at nW
 have hpz:(decide (n.par < 0))=false:=by
  exact ajh
 have Ec:=Hq (λW=>jv ⟨3,no,k,nn,⟨mK,mF,mT,mI,mL,mk,mN⟩⟩ W Aam Aam);open anR in exact Em
theorem al0 {o:gQ} (h:cK o=true):o.K=0\/o.K=1\/o.K=2\/o.K=3\/o.K=4\/o.K=5\/o.K=6:=by
 unfold cK at h;by_cases h0:o.K=0\/o.K=3\/o.K=4
 .omega
 rw [if_neg h0] at h;by_cases h1:o.K=1
 .omega
 rw [if_neg h1] at h;by_cases h2:o.K=2
 .omega
 rw [if_neg h2] at h;by_cases h5:o.K=5
 .omega
 rw [if_neg h5] at h;by_cases h6:o.K=6
 .omega
 rw [if_neg h6] at h;exact absurd h Aac
theorem Uo (n:Nd) (A:bV) (K no:Int) (k:ByteArray) (nn mK mF mT mI mL:Int) (mk:ByteArray) (mN:Int) (w:World) (hz:eX n 1048576) (hk:k.size<=1048576) (hmk:mk.size<=1048576) (ha:dx w A n):
 Calls prog 58 #[fQ n A,.agg (bY K no k nn mK mF mT mI mL mk mN)] w (jN w (Zo n ⟨K,no,k,nn,⟨mK,mF,mT,mI,mL,mk,mN⟩⟩)):=by
 cases hok:dY n
 .rw [KF hok];exact QF n A K no k nn mK mF mT mI mL mk mN w hz hok ha
 rw [SH hok];cases hop:cK ⟨K,no,k,nn,⟨mK,mF,mT,mI,mL,mk,mN⟩⟩
 .rw [show nD n ⟨K,no,k,nn,⟨mK,mF,mT,mI,mL,mk,mN⟩⟩=(n,[],3) from if_neg (by rw [hop];simp)];exact QG n A K no k nn mK mF mT mI mL mk mN w hz hk hmk hok hop ha
 by_cases h6:K=6
 .have e:nD n ⟨K,no,k,nn,⟨mK,mF,mT,mI,mL,mk,mN⟩⟩=Ck n ⟨mK,mF,mT,mI,mL,mk,mN⟩:=by
   unfold nD Ck xu fF;rw [hop,h6];dsimp only;by_cases hc:mT=n.id/\eF n mF=true
   .rw [if_pos hc,if_pos (by rw [hc.2,decide_eq_true hc.1];rfl),if_neg Aaa,if_neg Aaa,if_neg Aaa,if_neg Aaa,if_neg Aaa,if_neg Aaa]
   .rw [if_neg hc,if_neg (by simp only[decide_true,Bool.not_true,Bool.false_or,Bool.true_and,Bool.and_eq_true,decide_eq_true_eq];exact hc)]
  rw [e];exact QH n A K no k nn mK mF mT mI mL mk mN w hz hk hmk hok hop h6 ha
 rw [show nD n ⟨K,no,k,nn,⟨mK,mF,mT,mI,mL,mk,mN⟩⟩=fF n ⟨K,no,k,nn,⟨mK,mF,mT,mI,mL,mk,mN⟩⟩ from if_pos (by rw [hop];unfold xu;rw [decide_eq_false h6];rfl)];have hK:=al0 hop;dsimp only at hK;by_cases h0:K=0
 .rw [show fF n ⟨K,no,k,nn,⟨mK,mF,mT,mI,mL,mk,mN⟩⟩=_ from if_pos h0];dsimp only;cases hu:dJ n.pu k 1 1 0 nn with
  |mk RL ok=>
   by_cases hp:n.par= -1
   .cases ok
    .rw [if_neg (λh=>absurd h.2 Aac)];exact Hw n A K no k nn mK mF mT mI mL mk mN w hz hk hmk hok hop h0 RL hu hp ha
    .rw [if_pos ⟨hp,rfl⟩];exact FM n A K no k nn mK mF mT mI mL mk mN w hz hk hmk hok hop h0 RL hu hp ha
   .rw [if_neg (λh=>hp h.1)];exact Hy n A K no k nn mK mF mT mI mL mk mN w hz hk hmk hok hop h0 RL ok hu hp ha
 by_cases h1:K=1
 .rw [show fF n ⟨K,no,k,nn,⟨mK,mF,mT,mI,mL,mk,mN⟩⟩=_ from(if_neg h0).trans (if_pos h1)];exact Mq n A K no k nn mK mF mT mI mL mk mN w hz hk hmk hok hop h1 ha
 by_cases h2:K=2
 .rw [show fF n ⟨K,no,k,nn,⟨mK,mF,mT,mI,mL,mk,mN⟩⟩=_ from(if_neg h0).trans ((if_neg h1).trans (if_pos h2))];exact Ul n A K no k nn mK mF mT mI mL mk mN w hz hk hmk hok hop h2 ha
 by_cases h3:K=3
 .rw [show fF n ⟨K,no,k,nn,⟨mK,mF,mT,mI,mL,mk,mN⟩⟩=_ from(if_neg h0).trans ((if_neg h1).trans ((if_neg h2).trans (if_pos h3)))];by_cases hp:n.par= -1
  .rw [if_pos hp];exact QI n A K no k nn mK mF mT mI mL mk mN w hz hk hmk hok hop h3 hp ha
  .rw [if_neg hp];exact QM n A K no k nn mK mF mT mI mL mk mN w hz hk hmk hok hop h3 hp ha
 by_cases h4:K=4
 .rw [show fF n ⟨K,no,k,nn,⟨mK,mF,mT,mI,mL,mk,mN⟩⟩=_ from(if_neg h0).trans ((if_neg h1).trans ((if_neg h2).trans ((if_neg h3).trans (if_pos h4))))];by_cases hp:n.par= -1
  .rw [if_pos hp];exact QJ n A K no k nn mK mF mT mI mL mk mN w hz hk hmk hok hop h4 hp ha
  .rw [if_neg hp];exact QE n A K no k nn mK mF mT mI mL mk mN w hz hk hmk hok hop h4 hp ha
 have h5:K=5:=Aaa
 rw [show fF n ⟨K,no,k,nn,⟨mK,mF,mT,mI,mL,mk,mN⟩⟩=_ from(if_neg h0).trans ((if_neg h1).trans ((if_neg h2).trans ((if_neg h3).trans ((if_neg h4).trans (if_pos h5)))))];exact QK n A K no k nn mK mF mT mI mL mk mN w hz hk hmk hok hop h5 ha
theorem afG (n:Nd) (A:bV) (o:gQ) (w:World) (hz:eX n 1048576) (hk:o.k.size<=1048576) (hmk:o.m.k.size<=1048576) (ha:dx w A n):
 Calls prog 58 #[fQ n A,jJ o] w (jN w (Zo n o)):=by
 obtain⟨K,no,k,nn,⟨mK,mF,mT,mI,mL,mk,mN⟩⟩:=o;exact Uo n A K no k nn mK mF mT mI mL mk mN w hz hk hmk ha
def NL (B:Nat) (x:World) (A:bV) (m:Nd):Prop:=∀F W'',aC F x W''->(∀f∈F,f < B)->dx W'' A m
theorem NL.at (h:NL B x A m):dx x A m:=h [] x (aC.refl _ _) (λ_ h=>by simp at h)
theorem NL.step (h:NL B x A m) (hb:aI x y):NL B y A m:=λF W'' hk hF=>h F W'' ((aC.of_below hb).trans hk) hF
theorem NL.keeps {G:List Nat} (h:NL B x A m) (hg:aC G x y) (hG:∀f∈G,f < B):NL B y A m:=λF W'' hk hF=>
 h (G++F) W'' ((hg.mono (λ_ h=>List.mem_append_left _ h)).trans (hk.mono (λ_ h=>List.mem_append_right _ h))) (λf hf=>by
   rcases List.mem_append.1 hf with h|h
   .exact hG f h
   .exact hF f h)
theorem NL.mono {B':Nat} (h:NL B x A m) (hB:B'<=B):NL B' x A m:=λF W'' hk hF=>h F W'' hk (λf hf=>Nat.lt_of_lt_of_le (hF f hf) hB)
theorem NL.or {q:Nat} {z:World} (h:NL B y A m) (hq:q < B\/y.heap.size<=q) (hk:aC [q] y z):NL B z A m:=by
 rcases hq with h'|h'
 .exact h.keeps hk (λf hf=>by rw [List.mem_singleton.1 hf];exact h')
 .exact h.step (hk.below (λf hf=>by rw [List.mem_singleton.1 hf];exact h') (Nat.le_refl _))
theorem NL.aft (h:NL (w.heap.size+2) x A m):∀W'',Dw w x W''->dx W'' A m:=λW'' ⟨F,hk,hF⟩=>h F W'' hk (λf hf=>by have:=hF f hf;omega)
structure RsS (w:World) (B:Nat) (v:Value) (L:List gQ) (m:Nd) (A:bV) (x:World):Prop where
 bel:aI w x
 siz:w.heap.size+2<=x.heap.size
 res:x.heap[w.heap.size+1]?=some (.cells gN 40 (0,0))
 blk:x.heap[w.heap.size]?=some (.cells (dH m A) 40 (0,0))
 nl:NL (w.heap.size+2) x A m
 own:x.ownsRow B 100 11 v L.length (GR.flat nO L)
theorem RsS.step (h:RsS w B v L m A x) (hb:aI x y):RsS w B v L m A y:=
 ⟨h.bel.trans (hb.mono h.bel.size),Nat.le_trans h.siz hb.size,au h.res hb,au h.blk hb,h.nl.step hb,GR.own_below h.own hb⟩
theorem RsS.put {m':Nd} {A':bV} (h:RsS w B v L m A x) (hB:w.heap.size+2<=B) (hn:NL (w.heap.size+2) x A' m'):RsS w B v L m' A' (((((((((x.setCell ⟨w.heap.size,0,none⟩ (.int .i64 m'.id)).setCell ⟨w.heap.size,1,none⟩ (.int .i64 m'.par)).setCell ⟨w.heap.size,2,none⟩ (.slice A'.k m'.kids.length A'.ck)).setCell ⟨w.heap.size,3,none⟩ (.int .i64 m'.next)).setCell ⟨w.heap.size,4,none⟩ (.slice A'.p m'.pu.length A'.cp)).setCell ⟨w.heap.size,5,none⟩ (.slice A'.o m'.out.length A'.co)).setCell ⟨w.heap.size,6,none⟩ (.slice A'.s m'.seen.length A'.cs)).setCell ⟨w.heap.size,7,none⟩ (.int .i64 m'.old)).setCell ⟨w.heap.size,8,none⟩ (.slice A'.r m'.reqs.length A'.cr)):=by
 have hk:=pV (X:=x) (g:=w.heap.size) (b0:= .int .i64 m'.id) (b1:= .int .i64 m'.par) (b2:= .slice A'.k m'.kids.length A'.ck) (b3:= .int .i64 m'.next) (b4:= .slice A'.p m'.pu.length A'.cp) (b5:= .slice A'.o m'.out.length A'.co) (b6:= .slice A'.s m'.seen.length A'.cs) (b7:= .int .i64 m'.old) (b8:= .slice A'.r m'.reqs.length A'.cr);exact⟨tC h.bel (Nat.le_refl _),Nat.le_trans h.siz hk.size,hk.obj h.res Aac,uY h.blk,hn.keeps hk (λf hf=>Adi),dM h.own hk (λf hf=>Adi)⟩
def J6 (w:World) (n:Nd) (e:Ending) (w':World):Prop:=∃A',e= .returned (fQ n A')/\(∀W'',Dw w w' W''->dx W'' A' n)/\aI w w'
theorem Uq (n:Nd) (A:bV) (s:ByteArray) (w:World) (hs:s.size<=maxLen) (hz:eX n 1048576) (ha:dx w A n):
 Calls prog 21 #[fQ n A,.string s] w (J6 w (iw n (gM s).1)):=by
 have Ng:=Hq (λW (h:aI w W)=>uF n A W hz (ha.below h));have DC:=Hq (λW=>QX s hs W);obtain⟨L,hL⟩:∃L,(gM s).1=L:=⟨_,rfl⟩;have hLl:L.length<=60000:=by rw [<-hL];exact JL s
 have hok:∀o∈L,o.k.size<=1048576/\o.m.k.size<=1048576:=λo h=>VY (Qq s o (by rw [hL];exact h))
 unfold kU at DC;rw [hL] at DC;rw [hL];have HSD:=Hq (fun(k:Nat) (hk1:k < L.length) A W (ha:dx W A (iw n (L.take k)))=>afG (iw n (L.take k)) A L[k] W (LY hz _) (hok _ (List.getElem_mem hk1)).1 (hok _ (List.getElem_mem hk1)).2 ha);have HPS:=Hq (fun(k:Nat) (hk1:k < L.length)=>JH (n:=n) hk1);have HPE:=Hq (show iw n (L.take L.length)=iw n L by rw [List.take_length]);unfold J6;clear hz ha hs hok hL;generalize (gM s).2=fin at *;go_in
 go_upto_region 1 with fail;refine wp_at (λW0 hW=>?_);obtain⟨e1,e3,e4⟩:=iA w (.cells (dH n A) 40) (.cells gN 40);have hs0:W0.heap.size=w.heap.size+2:=by rw [hW];simp
 rw [<-hW] at e1 e3 e4;have HN:=Hq e1;have HR:=Hq e3;have HB:=Hq e4;clear hW e1 e3 e4;obtain⟨c0,c1,c2,c3,c4,c5,c6,c7,c8⟩:=nine HN;go_wp2_with fail;refine(Ng W0 HB).mono ?_;rintro e y ⟨A1,G1,cc1,rfl,hNQ,hby,_⟩;have Te:=au HN hby;have HR2:=Hq (au HR hby);have IK:=Hq (HB.trans (hby.mono HB.size));have hys:=hby.size;have HNL:=Hq (show NL (w.heap.size+2) y A1 n from λF W'' hk hF=>(hNQ.toNO.kc0 (KC.keeps hk (λx hx=>hNQ.lo x (by rw [hs0];exact hF x hx)))).at);have Ke:=Hq Te;clear hNQ hby c0 c1 c2 c3 c4 c5 c6 c7 c8 Ng HN HR HB;obtain⟨d0,d1,d2,d3,d4,d5,d6,d7,d8⟩:=nine Te;have f0:=aj Te 0;have f1:=aj Te 1;have f2:=aj Te 2;have f3:=aj Te 3;have f4:=aj Te 4;have f5:=aj Te 5;have f6:=aj Te 6;have f7:=aj Te 7;have f8:=aj Te 8;clear Te;go_upto_region 2 with fail;refine wp_at (λW hW=>?_);have hkp:aC [w.heap.size] y W:=by rw [hW];exact pV
 have hblk:W.heap[w.heap.size]?=some (.cells (dH n A1) 40 (0,0)):=by rw [hW];exact uY Ke
 have Gf:=Hq hblk;have iR:=Hq (IK.trans (hkp.below (B:=w.heap.size) (λf hf=>by rw [List.mem_singleton.1 hf];exact Nat.le_refl _) Aaa));have HRW:=Hq (hkp.obj HR2 Aac);have WE:=Hq (HNL.keeps hkp (λf hf=>Adi));have hsw:w.heap.size+2<=W.heap.size:=by have:=hkp.size;omega
 clear hW hkp hblk Ke HR2 IK HNL d0 d1 d2 d3 d4 d5 d6 d7 d8 f0 f1 f2 f3 f4 f5 f6 f7 f8 hys hs0;go_wp2_with fail;refine(DC W).mono ?_;rintro e W1 ⟨v,rfl,hown,hb1⟩;obtain⟨a1,cp1,hv,_⟩:=GR.own_at (enc:=nO) (sz:=11) jR hown;subst hv;have HS:=Hq (show∃A,RsS w W.heap.size (.slice a1 L.length cp1) L (iw n (L.take 0)) A W1 from⟨A1,iR.trans (hb1.mono iR.size),Nat.le_trans hsw hb1.size,au HRW hb1,au Gf hb1,WE.step hb1,hown⟩);clear hown hb1 iR HRW WE Gf DC;generalize W.heap.size=B at *;go_wp2_with fail;go_loopw [7] (λi wr=>∃k:Nat,k<=L.length/\i= .int .i64 k/\∃A,RsS w B (.slice a1 L.length cp1) L (iw n (L.take k)) A wr) (λi _=>L.length - (intOf i).toNat)
 case atStart=>exact⟨0,Nat.zero_le _,rfl,HS⟩
 case round=>
  clear HS;obtain⟨k,hkl,rfl,A2,hS⟩:=hrel;have HS:=Hq hS;clear hS;by_cases hlt:k < L.length
  .obtain⟨g1,o1,ea,hg1,t0,t1,t2,t3,t4,t5,t6,t7,t8,t9,t10⟩:=Je.eleven (GR.own_ati jR HS.own) k hlt;cases ea
   have aea:=Hq (HSD k hlt);have HPk:=Hq (HPS k hlt);have hki:(k:Int) < (L.length:Int):=Aaa
   generalize Zo (iw n (L.take k)) L[k]=RR at *;open avn in exact agT
  .open azy in exact ah4
end Go.Proofs.YtohmklmkjmlpjaaGreatDoor
