/- Parts. -/
import Derived.Test.YtacgbldlonoaaaaGreatDoorRw41
import Derived.Test.YtacgbldlonoaaaaGreatDoorRw44
namespace Go.Proofs.YtacgbldlonoaaaaGreatDoor
open Go.Proofs.Tryz
set_option maxHeartbeats 16000000
set_option maxRecDepth 100000
open Go.RowKit
open Mth
variable {A A':bC} {m m':Nd} {x y w:World} {B:Nat} {v:Value} {L:List fP}
theorem aeN (n:Nd) (A:bC) (o:fP) (w:World) (hz:eY n 1048576) (hk:o.k.size<=1048576) (hmk:o.m.k.size<=1048576) (ha:bQ w A n):
 Calls prog 9 #[fT n A,jX o] w (j6 w (O3 n o)):=by
 obtain⟨K,no,k,nn,⟨mK,mF,mT,mI,mL,mk,mN⟩⟩:=o;exact yS n A K no k nn mK mF mT mI mL mk mN w hz hk hmk ha
def NL (B:Nat) (x:World) (A:bC) (m:Nd):Prop:=∀F W'',aC F x W''->(∀f∈F,f < B)->bQ W'' A m
theorem NL.at (h:NL B x A m):bQ x A m:=h [] x (aC.refl _ _) (λ_ h=>by simp at h)
theorem NL.step (h:NL B x A m) (hb:aY x y):NL B y A m:=λF W'' hk hF=>h F W'' ((aC.of_below hb).trans hk) hF
theorem NL.keeps {G:List Nat} (h:NL B x A m) (hg:aC G x y) (hG:∀f∈G,f < B):NL B y A m:=λF W'' hk hF=>
 h (G++F) W'' ((hg.mono (λ_ h=>List.mem_append_left _ h)).trans (hk.mono (λ_ h=>List.mem_append_right _ h))) (λf hf=>by
   rcases List.mem_append.1 hf with h|h
   .exact hG f h
   .exact hF f h)
theorem NL.mono {B':Nat} (h:NL B x A m) (hB:B'<=B):NL B' x A m:=λF W'' hk hF=>h F W'' hk (λf hf=>Nat.lt_of_lt_of_le (hF f hf) hB)
theorem NL.or {q:Nat} {z:World} (h:NL B y A m) (hq:q < B\/y.heap.size<=q) (hk:aC [q] y z):NL B z A m:=by
 rcases hq with h'|h'
 .exact h.keeps hk (λf hf=>by rw [List.mem_singleton.1 hf];exact h')
 .exact h.step (hk.below (λf hf=>by rw [List.mem_singleton.1 hf];exact h') (Nat.le_refl _))
theorem NL.aft (h:NL (w.heap.size+2) x A m):∀W'',Dr w x W''->bQ W'' A m:=λW'' ⟨F,hk,hF⟩=>h F W'' hk (λf hf=>by have:=hF f hf;omega)
structure RsS (w:World) (B:Nat) (v:Value) (L:List fP) (m:Nd) (A:bC) (x:World):Prop where
 bel:aY w x
 siz:w.heap.size+2<=x.heap.size
 res:x.heap[w.heap.size+1]?=some (.cells fU 30 (0,0))
 blk:x.heap[w.heap.size]?=some (.cells (dD m A) 30 (0,0))
 nl:NL (w.heap.size+2) x A m
 own:x.ownsRow B 34 11 v L.length (GR.flat nV L)
theorem RsS.step (h:RsS w B v L m A x) (hb:aY x y):RsS w B v L m A y:=
 ⟨h.bel.trans (hb.mono h.bel.size),Nat.le_trans h.siz hb.size,ay h.res hb,ay h.blk hb,h.nl.step hb,GR.own_below h.own hb⟩
theorem RsS.put (h:RsS w B v L m A x) (hB:w.heap.size+2<=B) (hn:NL (w.heap.size+2) x A' m'):RsS w B v L m' A' (((((((((x.setCell ⟨w.heap.size,0,none⟩ (.int .i64 m'.id)).setCell ⟨w.heap.size,1,none⟩ (.int .i64 m'.par)).setCell ⟨w.heap.size,2,none⟩ (.slice A'.k m'.kids.length A'.ck)).setCell ⟨w.heap.size,3,none⟩ (.int .i64 m'.next)).setCell ⟨w.heap.size,4,none⟩ (.slice A'.p m'.pu.length A'.cp)).setCell ⟨w.heap.size,5,none⟩ (.slice A'.o m'.out.length A'.co)).setCell ⟨w.heap.size,6,none⟩ (.slice A'.s m'.seen.length A'.cs)).setCell ⟨w.heap.size,7,none⟩ (.int .i64 m'.old)).setCell ⟨w.heap.size,8,none⟩ (.slice A'.r m'.reqs.length A'.cr)):=by
 have hk:=kD (X:=x) (g:=w.heap.size) (b0:= .int .i64 m'.id) (b1:= .int .i64 m'.par) (b2:= .slice A'.k m'.kids.length A'.ck) (b3:= .int .i64 m'.next) (b4:= .slice A'.p m'.pu.length A'.cp) (b5:= .slice A'.o m'.out.length A'.co) (b6:= .slice A'.s m'.seen.length A'.cs) (b7:= .int .i64 m'.old) (b8:= .slice A'.r m'.reqs.length A'.cr);exact⟨nU h.bel (Nat.le_refl _),Nat.le_trans h.siz hk.size,hk.obj h.res Aac,oL h.blk,hn.keeps hk (λf hf=>Adi),dG h.own hk (λf hf=>Adi)⟩
def KH (w:World) (n:Nd) (e:Ending) (w':World):Prop:=∃A',e= .returned (fT n A')/\(∀W'',Dr w w' W''->bQ W'' A' n)/\aY w w'
theorem Uo (n:Nd) (A:bC) (s:ByteArray) (w:World) (hs:s.size<=maxLen) (hz:eY n 1048576) (ha:bQ w A n):
 Calls prog 24 #[fT n A,.string s] w (KH w (fJ n (dW s).1)):=by
 have Du:=Hq (λW (h:aY w W)=>uT n A W hz (ha.below h));have Ru:=Hq (λW=>acS s hs W);obtain⟨L,hL⟩:∃L,(dW s).1=L:=⟨_,rfl⟩;have hLl:L.length<=60000:=by rw [<-hL];exact Cu s
 have hok:∀o∈L,o.k.size<=1048576/\o.m.k.size<=1048576:=λo h=>Eu (Ao s o (by rw [hL];exact h))
 unfold lT at Ru;rw [hL] at Ru;rw [hL];have HSD:=Hq (fun(k:Nat) (hk1:k < L.length) A W (ha:bQ W A (fJ n (L.take k)))=>aeN (fJ n (L.take k)) A L[k] W (Aj hz _) (hok _ (List.getElem_mem hk1)).1 (hok _ (List.getElem_mem hk1)).2 ha);have Zw:=Hq (fun(k:Nat) (hk1:k < L.length)=>Cr (n:=n) hk1);have HPE:=Hq (show fJ n (L.take L.length)=fJ n L by rw [List.take_length]);unfold KH;clear hz ha hs hok hL;generalize (dW s).2=fin at *;go_in
 go_upto_region 1 with fail;refine wp_at (λW0 hW=>?_);obtain⟨e1,e3,e4⟩:=iO w (.cells (dD n A) 30) (.cells fU 30);have hs0:W0.heap.size=w.heap.size+2:=by rw [hW];simp
 rw [<-hW] at e1 e3 e4;have HN:=Hq e1;have HR:=Hq e3;have HB:=Hq e4;clear hW e1 e3 e4;obtain⟨c0,c1,c2,c3,c4,c5,c6,c7,c8⟩:=nine HN;go_wp2_with fail;refine(Du W0 HB).mono ?_;rintro e y ⟨A1,G1,cc1,rfl,hNQ,hby,_⟩;have Y8:=ay HN hby;have HR2:=Hq (ay HR hby);have yX:=Hq (HB.trans (hby.mono HB.size));have hys:=hby.size;have UL:=Hq (show NL (w.heap.size+2) y A1 n from λF W'' hk hF=>(hNQ.toNO.kc0 (KC.keeps hk (λx hx=>hNQ.lo x (by rw [hs0];exact hF x hx)))).at);have NW:=Hq Y8;clear hNQ hby c0 c1 c2 c3 c4 c5 c6 c7 c8 Du HN HR HB;obtain⟨d0,d1,d2,d3,d4,d5,d6,d7,d8⟩:=nine Y8;have f0:=aj Y8 0;have f1:=aj Y8 1;have f2:=aj Y8 2;have f3:=aj Y8 3;have f4:=aj Y8 4;have f5:=aj Y8 5;have f6:=aj Y8 6;have f7:=aj Y8 7;have f8:=aj Y8 8;clear Y8;go_upto_region 2 with fail;refine wp_at (λW hW=>?_);have hkp:aC [w.heap.size] y W:=by rw [hW];exact kD
 have hblk:W.heap[w.heap.size]?=some (.cells (dD n A1) 30 (0,0)):=by rw [hW];exact oL NW
 have GL:=Hq hblk;have iA:=Hq (yX.trans (hkp.below (B:=w.heap.size) (λf hf=>by rw [List.mem_singleton.1 hf];exact Nat.le_refl _) Aaa));have HRW:=Hq (hkp.obj HR2 Aac);have GZ:=Hq (UL.keeps hkp (λf hf=>Adi));have hsw:w.heap.size+2<=W.heap.size:=by have:=hkp.size;omega
 clear hW hkp hblk NW HR2 yX UL d0 d1 d2 d3 d4 d5 d6 d7 d8 f0 f1 f2 f3 f4 f5 f6 f7 f8 hys hs0;go_wp2_with fail;refine(Ru W).mono ?_;rintro e W1 ⟨v,rfl,hown,hb1⟩;obtain⟨a1,cp1,hv,_⟩:=GR.own_at (enc:=nV) (sz:=11) jh hown;subst hv;have HS:=Hq (show∃A,RsS w W.heap.size (.slice a1 L.length cp1) L (fJ n (L.take 0)) A W1 from⟨A1,iA.trans (hb1.mono iA.size),Nat.le_trans hsw hb1.size,ay HRW hb1,ay GL hb1,GZ.step hb1,hown⟩);clear hown hb1 iA HRW GZ GL Ru;generalize W.heap.size=B at *;go_wp2_with fail;go_loopw [7] (λi wr=>∃k:Nat,k<=L.length/\i= .int .i64 k/\∃A,RsS w B (.slice a1 L.length cp1) L (fJ n (L.take k)) A wr) (λi _=>L.length - (intOf i).toNat)
 case atStart=>exact⟨0,Nat.zero_le _,rfl,HS⟩
 case round=>
  clear HS;obtain⟨k,hkl,rfl,A2,hS⟩:=hrel;have HS:=Hq hS;clear hS;by_cases hlt:k < L.length
  .obtain⟨g1,o1,ea,hg1,t0,t1,t2,t3,t4,t5,t6,t7,t8,t9,t10⟩:=CR.eleven (GR.own_ati jh HS.own) k hlt;cases ea
   have Oo:=Hq (HSD k hlt);open aqZ in exact afw
  .open as8 in exact aad
structure RyS (w:World) (m:Nd) (A:bC) (x:World):Prop where
 bel:aY w x
 blk:x.heap[w.heap.size]?=some (.cells (dD m A) 30 (0,0))
 nod:bQ x A m
theorem RyS.step (h:RyS w m A x) (hb:aY x y):RyS w m A y:=⟨h.bel.trans (hb.mono h.bel.size),ay h.blk hb,h.nod.below hb⟩
theorem RyS.put (h:RyS w m A x) (hn:NL (w.heap.size+1) x A' m'):RyS w m' A' (((((((((x.setCell ⟨w.heap.size,0,none⟩ (.int .i64 m'.id)).setCell ⟨w.heap.size,1,none⟩ (.int .i64 m'.par)).setCell ⟨w.heap.size,2,none⟩ (.slice A'.k m'.kids.length A'.ck)).setCell ⟨w.heap.size,3,none⟩ (.int .i64 m'.next)).setCell ⟨w.heap.size,4,none⟩ (.slice A'.p m'.pu.length A'.cp)).setCell ⟨w.heap.size,5,none⟩ (.slice A'.o m'.out.length A'.co)).setCell ⟨w.heap.size,6,none⟩ (.slice A'.s m'.seen.length A'.cs)).setCell ⟨w.heap.size,7,none⟩ (.int .i64 m'.old)).setCell ⟨w.heap.size,8,none⟩ (.slice A'.r m'.reqs.length A'.cr)):=
 ⟨nU h.bel (Nat.le_refl _),oL h.blk,(hn.keeps kD (λf hf=>Adi)).at⟩
theorem Pd (a:Option Addr) (len cap:Nat) (E:Nat->Addr) (w:World) (hcode:xW w a len) (he:iH w E) (hH:Handle w):Calls prog 4 #[.slice a len cap] w (fF w (.bool true)):=by
 have hl:=hcode.1;have HC:=Hq hcode;have HE:=Hq (λW (hb:aY w W)=>he.below hb);have HH:=Hq (λW (hb:aY w W)=>hH.below hb);clear hcode he hH;go_in
 go_wp2_with fail;refine(axV a len cap _ hl).mono ?_;rintro e w0 ⟨rfl,rfl⟩;go_wp2_with fail;refine(SS a len cap _ HC).mono ?_;rintro e w1 ⟨n,A,t,rfl,hz,hat,ht,hb1⟩;have hmx:t.size<=maxLen:=Aah
 obtain⟨hcut,hend⟩:=aj2 (s:=t) Aaa;have qb:=Hq ((Rw.start hb1).addN hat);have HR1:=Hq (λW (hb:aY w W) (ha:bQ W A n)=>yA n A t E W hmx hz ha (HE W hb) (HH W hb));have HR2:=Hq (λW (ha:bQ W A n)=>Uo n A t W hmx hz ha);have HR3:=Hq (λW (hb:aY w W) (ha:bQ W A n)=>yA n A (t.extract 0 (dW t).2) E W (Nat.le_trans Acf hmx) hz ha (HE W hb) (HH W hb));rw [hcut] at HR3;have HR4:=Hq (λA' W (hb:aY w W) (ha:bQ W A' (fJ n (dW t).1))=>yA (fJ n (dW t).1) A' ⟨#[]⟩ E W Aae (Aj hz _) ha (HE W hb) (HH W hb));rw [show fJ (fJ n (dW t).1) (dW ⟨#[]⟩).1=fJ n (dW t).1 by rw [aj3];rfl] at HR4;have Ru:=Hq (λW (hb:aY w W)=>PG t hmx W (HH W hb));unfold lT at Ru;have RY:=Hq (fun(k:Nat) (hk:k < (dW t).1.length) A' W (hb:aY w W) (ha:bQ W A' (fJ n ((dW t).1.take k)))=>TB (fJ n ((dW t).1.take k)) A' (dW t).1[k] E W (Aj hz _) (Eu (Ao t _ (List.getElem_mem hk))).1 (Eu (Ao t _ (List.getElem_mem hk))).2 ha (HE W hb));have UU:=Hq (λA' B' W (ha:bQ W A' (fJ n (dW t).1)) (hb:bQ W B' (fJ n (dW t).1))=>Yl (fJ n (dW t).1) A' B' W (Aj hz _) ha hb);have hLl:=Cu t;clear hz hat hb1 HE HH HC hmx hcut;generalize (dW t).2=fin at *;generalize (dW t).1=L at *;have Zw:=Hq (fun(k:Nat) (hk:k < L.length)=>Cr (n:=n) hk);have HPE:=Hq (show fJ n (L.take L.length)=fJ n L by rw [List.take_length]);obtain⟨m,hm⟩:∃m,fJ n L=m:=⟨_,rfl⟩;rw [hm] at HR1 HR2 HR3 HR4 UU HPE;clear hm;unfold za at HR1 HR3 HR4;unfold KH at HR2;go_upto_region 4 with fail;refine wp_at (λW1 hW1=>?_);have HS2:=Hq (qb.addB hW1);clear hW1 qb;generalize w1.heap.size=gn at *;obtain⟨c0,c1,c2,c3,c4,c5,c6,c7,c8⟩:=nine (HS2.at 0 rfl);go_wp2_with fail;refine(HR1 W1 HS2.bel (HS2.nd 0 rfl)).mono ?_;rintro e w2 ⟨Am,Gm,cm,rfl,hN,hb2⟩;have JC:=Hq ((HS2.step hb2).addN hN.at);clear hN hb2 HS2 HR1 c0 c1 c2 c3 c4 c5 c6 c7 c8;go_upto_region 5 with fail;refine wp_at (λW2 hW2=>?_);have oJ:=Hq (JC.addB hW2);clear hW2 JC;generalize w2.heap.size=gm at *;obtain⟨c0,c1,c2,c3,c4,c5,c6,c7,c8⟩:=nine (oJ.at 0 rfl);obtain⟨d0,d1,d2,d3,d4,d5,d6,d7,d8⟩:=nine (oJ.at 1 rfl);have x0:=cell_regrown c0;have y0:=cell_regrown d0;have x1:=cell_regrown c1;have y1:=cell_regrown d1;have x2:=cell_regrown c2;have y2:=cell_regrown d2;have x3:=cell_regrown c3;have y3:=cell_regrown d3;have x4:=cell_regrown c4;have y4:=cell_regrown d4;have x5:=cell_regrown c5;have y5:=cell_regrown d5;have x6:=cell_regrown c6;have y6:=cell_regrown d6;have x7:=cell_regrown c7;have y7:=cell_regrown d7;have x8:=cell_regrown c8;have y8:=cell_regrown d8;refine dz Aab ?_;show iL _ _ _ _ 6 (Array.replicate 6 false) _ _
 refine tk [0,1,2] ?_;iterate 3 (refine vJ (λK hK=>?_);go_simp;refine hK _ ?_;clear hK K)
 refine jc ?_;clear c0 c1 c2 c3 c4 c5 c6 c7 c8 d0 d1 d2 d3 d4 d5 d6 d7 d8 x0 x1 x2 x3 x4 x5 x6 x7 x8 y0 y1 y2 y3 y4 y5 y6 y7 y8;refine xw 3 rfl Aab Aad (λw3 hx3=>?_);go_simp;have rY:=Hq (oJ.step hx3);clear hx3 oJ;refine(HR2 w3 (rY.nd 1 rfl)).mono ?_;rintro e w4 ⟨Aw,rfl,hN,hb4⟩;refine⟨hb4,?_⟩;have KU:=Hq ((rY.step hb4).addN (hN _ ⟨[],aC.refl _ _,λ_ h=>by simp at h⟩));clear hN hb4 rY HR2;go_simp;have N1:=Hq (λq:Regrown=>UU Am Aw (Gr w4 q) ((KU.step (below_regrown w4 q.d q.os)).nd 1 rfl) ((KU.step (below_regrown w4 q.d q.os)).nd 0 rfl));refine dP 4 rfl Aab Aab Aab (λ_ _ _ _ h=>h) (λK hK=>?_);go_simp
 first
  |(refine hK _ ?_;clear hK K)
  |(apply Exists.intro
    refine⟨λ_=>?_,hK _ ?_⟩
    (exact N1 _)
    clear hK K)
 refine tk [5] ?_;(refine vJ (λK hK=>?_);go_simp;refine hK _ ?_;clear hK K)
 refine jc ?_;refine fE Aab (λz hz=>?_);have Wu:=Hq (KU.step hz);clear hz KU N1;go_wp2_with fail;refine(Ru z Wu.bel).mono ?_;rintro e w5 ⟨v,rfl,hown,hb5⟩;obtain⟨a1,cp1,hv,_⟩:=GR.own_at (enc:=nV) (sz:=11) jh hown;subst hv;have Om:=Hq (Wu.step hb5);have xA:=Hq (show CR w5 a1 L from GR.own_ati jh hown);clear hown hb5 Wu Ru;obtain⟨c0,c1,c2,c3,c4,c5,c6,c7,c8⟩:=nine (Om.at 1 rfl);go_upto_region 9 with fail;refine wp_at (λW5 hW5=>?_);have HL:=Hq (show∃A',RyS w5 (fJ n (L.take 0)) A' W5 from⟨A,by rw [hW5];exact au w5 _,by rw [hW5];exact heap_alloc_new _ _,by rw [hW5];exact(Om.nd 2 rfl).below (au w5 _)⟩);clear hW5 c0 c1 c2 c3 c4 c5 c6 c7 c8;go_wp2_with fail;go_loopw [9] (λi wr=>∃k:Nat,k<=L.length/\i= .int .i64 k/\∃A',RyS w5 (fJ n (L.take k)) A' wr) (λi _=>L.length - (intOf i).toNat)
 case atStart=>exact⟨0,Nat.zero_le _,rfl,HL⟩
 case round=>
  clear HL;obtain⟨k,hkl,rfl,A2,hS⟩:=hrel;have HS:=Hq hS;clear hS;by_cases hlt:k < L.length
  .obtain⟨g1,o1,ea,hg1,t0,t1,t2,t3,t4,t5,t6,t7,t8,t9,t10⟩:=CR.eleven (GR.At.below xA HS.bel) k hlt;cases ea
   have Oo:=Hq (RY k hlt);open ara in exact afw
  .open as9 in exact aad
theorem Lg (a:Option Addr) (len cap:Nat) (zs:List Int) (E:Nat->Addr) (w:World) (hz:ZQ .u8 w a len cap zs) (he:iH w E) (hH:Handle w):
 Calls prog 4 #[.slice a len cap] w (fF w (.bool true)):=by
 by_cases hl:len<=1048576
 .exact Pd a len cap E w (ad1 hz hl) he hH
 .have hl':1048576 < len:=Aaa
  clear hz he hH;go_in
  go_wp2_with (go_at_call 6;refine(ajf a len cap _ hl').mono ?_;rintro e w0 ⟨rfl,rfl⟩)
  go_ret;exact⟨rfl,Below.refl _ _⟩
end Go.Proofs.YtacgbldlonoaaaaGreatDoor
