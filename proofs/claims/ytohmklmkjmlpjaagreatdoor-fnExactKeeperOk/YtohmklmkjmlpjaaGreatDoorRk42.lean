/- Parts. -/
import Derived.Test.YtohmklmkjmlpjaaGreatDoorRk38
import Derived.Test.YtohmklmkjmlpjaaGreatDoorRk25
import Derived.Test.YtohmklmkjmlpjaaGreatDoorRk41
namespace Go.Proofs.YtohmklmkjmlpjaaGreatDoor
open Go.Proofs.Tryz
set_option maxHeartbeats 8000000
set_option maxRecDepth 100000
open Go.RowKit
open Mth
variable {A:bQ} {m:Nd} {B:Nat} {x y w:World} {v:Value} {L:List gK}
theorem ae2 (n:Nd) (A:bQ) (o:gK) (w:World) (hz:eU n 1048576) (hk:o.k.size<=1048576) (hmk:o.m.k.size<=1048576) (ha:dw w A n):
 Calls prog 58 #[gB n A,jG o] w (jL w (YJ n o)):=by
 obtain⟨K,no,k,nn,⟨mK,mF,mT,mI,mL,mk,mN⟩⟩:=o;exact Ug n A K no k nn mK mF mT mI mL mk mN w hz hk hmk ha
def NL (B:Nat) (x:World) (A:bQ) (m:Nd):Prop:=∀F W'',aC F x W''->(∀f∈F,f < B)->dw W'' A m
theorem NL.at (h:NL B x A m):dw x A m:=h [] x (aC.refl _ _) (λ_ h=>by simp at h)
theorem NL.step (h:NL B x A m) (hb:aI x y):NL B y A m:=λF W'' hk hF=>h F W'' ((aC.of_below hb).trans hk) hF
theorem NL.keeps {G:List Nat} (h:NL B x A m) (hg:aC G x y) (hG:∀f∈G,f < B):NL B y A m:=λF W'' hk hF=>
 h (G++F) W'' ((hg.mono (λ_ h=>List.mem_append_left _ h)).trans (hk.mono (λ_ h=>List.mem_append_right _ h))) (λf hf=>by
   rcases List.mem_append.1 hf with h|h
   .exact hG f h
   .exact hF f h)
theorem NL.mono {B':Nat} (h:NL B x A m) (hB:B'<=B):NL B' x A m:=λF W'' hk hF=>h F W'' hk (λf hf=>Nat.lt_of_lt_of_le (hF f hf) hB)
theorem NL.or {q:Nat} {z:World} (h:NL B y A m) (hq:q < B\/y.heap.size<=q) (hk:aC [q] y z):NL B z A m:=by
 rcases hq with h'|h'
 .exact h.keeps hk (λf hf=>by rw [List.mem_singleton.1 hf];exact h')
 .exact h.step (hk.below (λf hf=>by rw [List.mem_singleton.1 hf];exact h') (Nat.le_refl _))
theorem NL.aft (h:NL (w.heap.size+2) x A m):∀W'',Dp w x W''->dw W'' A m:=λW'' ⟨F,hk,hF⟩=>h F W'' hk (λf hf=>by have:=hF f hf;omega)
structure RsS (w:World) (B:Nat) (v:Value) (L:List gK) (m:Nd) (A:bQ) (x:World):Prop where
 bel:aI w x
 siz:w.heap.size+2<=x.heap.size
 res:x.heap[w.heap.size+1]?=some (.cells iF 40 (0,0))
 blk:x.heap[w.heap.size]?=some (.cells (dG m A) 40 (0,0))
 nl:NL (w.heap.size+2) x A m
 own:x.ownsRow B 100 11 v L.length (GR.flat nI L)
theorem RsS.step (h:RsS w B v L m A x) (hb:aI x y):RsS w B v L m A y:=
 ⟨h.bel.trans (hb.mono h.bel.size),Nat.le_trans h.siz hb.size,au h.res hb,au h.blk hb,h.nl.step hb,GR.own_below h.own hb⟩
theorem RsS.put {m':Nd} {A':bQ} (h:RsS w B v L m A x) (hB:w.heap.size+2<=B) (hn:NL (w.heap.size+2) x A' m'):RsS w B v L m' A' (((((((((x.setCell ⟨w.heap.size,0,none⟩ (.int .i64 m'.id)).setCell ⟨w.heap.size,1,none⟩ (.int .i64 m'.par)).setCell ⟨w.heap.size,2,none⟩ (.slice A'.k m'.kids.length A'.ck)).setCell ⟨w.heap.size,3,none⟩ (.int .i64 m'.next)).setCell ⟨w.heap.size,4,none⟩ (.slice A'.p m'.pu.length A'.cp)).setCell ⟨w.heap.size,5,none⟩ (.slice A'.o m'.out.length A'.co)).setCell ⟨w.heap.size,6,none⟩ (.slice A'.s m'.seen.length A'.cs)).setCell ⟨w.heap.size,7,none⟩ (.int .i64 m'.old)).setCell ⟨w.heap.size,8,none⟩ (.slice A'.r m'.reqs.length A'.cr)):=by
 have hk:=pR (X:=x) (g:=w.heap.size) (b0:= .int .i64 m'.id) (b1:= .int .i64 m'.par) (b2:= .slice A'.k m'.kids.length A'.ck) (b3:= .int .i64 m'.next) (b4:= .slice A'.p m'.pu.length A'.cp) (b5:= .slice A'.o m'.out.length A'.co) (b6:= .slice A'.s m'.seen.length A'.cs) (b7:= .int .i64 m'.old) (b8:= .slice A'.r m'.reqs.length A'.cr);exact⟨tu h.bel (Nat.le_refl _),Nat.le_trans h.siz hk.size,hk.obj h.res Aac,uW h.blk,hn.keeps hk (λf hf=>Adc),dQ h.own hk (λf hf=>Adc)⟩
def J8 (w:World) (n:Nd) (e:Ending) (w':World):Prop:=∃A',e= .returned (gB n A')/\(∀W'',Dp w w' W''->dw W'' A' n)/\aI w w'
theorem Uh (n:Nd) (A:bQ) (s:ByteArray) (w:World) (hs:s.size<=maxLen) (hz:eU n 1048576) (ha:dw w A n):
 Calls prog 21 #[gB n A,.string s] w (J8 w (gQ n (gH s).1)):=by
 have M4:=Hq (λW (h:aI w W)=>uz n A W hz (ha.below h));have Dr:=Hq (λW=>QI s hs W);obtain⟨L,hL⟩:∃L,(gH s).1=L:=⟨_,rfl⟩;have hLl:L.length<=60000:=by rw [<-hL];exact JN s
 have hok:∀o∈L,o.k.size<=1048576/\o.m.k.size<=1048576:=λo h=>Vy (Qe s o (by rw [hL];exact h))
 unfold kN at Dr;rw [hL] at Dr;rw [hL];have HSD:=Hq (fun(k:Nat) (hk1:k < L.length) A W (ha:dw W A (gQ n (L.take k)))=>ae2 (gQ n (L.take k)) A L[k] W (LY hz _) (hok _ (List.getElem_mem hk1)).1 (hok _ (List.getElem_mem hk1)).2 ha);have HPS:=Hq (fun(k:Nat) (hk1:k < L.length)=>JK (n:=n) hk1);have HPE:=Hq (show gQ n (L.take L.length)=gQ n L by rw [List.take_length]);unfold J8;clear hz ha hs hok hL;generalize (gH s).2=fin at *;go_in
 go_upto_region 1 with fail;refine wp_at (λW0 hW=>?_);obtain⟨e1,e3,e4⟩:=ig w (.cells (dG n A) 40) (.cells iF 40);have hs0:W0.heap.size=w.heap.size+2:=by rw [hW];simp
 rw [<-hW] at e1 e3 e4;have HN:=Hq e1;have HR:=Hq e3;have HB:=Hq e4;clear hW e1 e3 e4;obtain⟨c0,c1,c2,c3,c4,c5,c6,c7,c8⟩:=nine HN;go_wp2_with fail;refine(M4 W0 HB).mono ?_;rintro e y ⟨A1,G1,cc1,rfl,hNQ,hby,_⟩;have SG:=au HN hby;have HR2:=Hq (au HR hby);have IU:=Hq (HB.trans (hby.mono HB.size));have hys:=hby.size;have HNL:=Hq (show NL (w.heap.size+2) y A1 n from λF W'' hk hF=>(hNQ.toNO.kc0 (KC.keeps hk (λx hx=>hNQ.lo x (by rw [hs0];exact hF x hx)))).at);have Kg:=Hq SG;clear hNQ hby c0 c1 c2 c3 c4 c5 c6 c7 c8 M4 HN HR HB;obtain⟨d0,d1,d2,d3,d4,d5,d6,d7,d8⟩:=nine SG;have f0:=aj SG 0;have f1:=aj SG 1;have f2:=aj SG 2;have f3:=aj SG 3;have f4:=aj SG 4;have f5:=aj SG 5;have f6:=aj SG 6;have f7:=aj SG 7;have f8:=aj SG 8;clear SG;go_upto_region 2 with fail;refine wp_at (λW hW=>?_);have hkp:aC [w.heap.size] y W:=by rw [hW];exact pR
 have hblk:W.heap[w.heap.size]?=some (.cells (dG n A1) 40 (0,0)):=by rw [hW];exact uW Kg
 have Gc:=Hq hblk;have iR:=Hq (IU.trans (hkp.below (B:=w.heap.size) (λf hf=>by rw [List.mem_singleton.1 hf];exact Nat.le_refl _) Aaa));have HRW:=Hq (hkp.obj HR2 Aac);have VZ:=Hq (HNL.keeps hkp (λf hf=>Adc));have hsw:w.heap.size+2<=W.heap.size:=by have:=hkp.size;omega
 clear hW hkp hblk Kg HR2 IU HNL d0 d1 d2 d3 d4 d5 d6 d7 d8 f0 f1 f2 f3 f4 f5 f6 f7 f8 hys hs0;go_wp2_with fail;refine(Dr W).mono ?_;rintro e W1 ⟨v,rfl,hown,hb1⟩;obtain⟨a1,cp1,hv,_⟩:=GR.own_at (enc:=nI) (sz:=11) jP hown;subst hv;have HS:=Hq (show∃A,RsS w W.heap.size (.slice a1 L.length cp1) L (gQ n (L.take 0)) A W1 from⟨A1,iR.trans (hb1.mono iR.size),Nat.le_trans hsw hb1.size,au HRW hb1,au Gc hb1,VZ.step hb1,hown⟩);clear hown hb1 iR HRW VZ Gc Dr;generalize W.heap.size=B at *;go_wp2_with fail;go_loopw [7] (λi wr=>∃k:Nat,k<=L.length/\i= .int .i64 k/\∃A,RsS w B (.slice a1 L.length cp1) L (gQ n (L.take k)) A wr) (λi _=>L.length - (intOf i).toNat)
 case atStart=>exact⟨0,Nat.zero_le _,rfl,HS⟩
 case round=>
  clear HS;obtain⟨k,hkl,rfl,A2,hS⟩:=hrel;have HS:=Hq hS;clear hS;by_cases hlt:k < L.length
  .obtain⟨g1,o1,ea,hg1,t0,t1,t2,t3,t4,t5,t6,t7,t8,t9,t10⟩:=Jg.eleven (GR.own_ati jP HS.own) k hlt;cases ea
   have adD:=Hq (HSD k hlt);have HPk:=Hq (HPS k hlt);have hki:(k:Int) < (L.length:Int):=Aaa
   generalize YJ (gQ n (L.take k)) L[k]=RR at *;generalize gQ n (L.take k)=m at *;generalize L[k]=oo at *;obtain⟨K,no,kk,nn,⟨mK,mF,mT,mI,mL,mk,mN⟩⟩:=oo;dsimp only at t0 t1 t2 t3 t4 t5 t6 t7 t8 t9 t10;obtain⟨m',Ms,code⟩:=RR;dsimp only at HPk;unfold jL at adD;dsimp only at adD;have hsz:=HS.siz;obtain⟨c0,c1,c2,c3,c4,c5,c6,c7,c8⟩:=nine HS.blk;have hbl:=aA HS.blk;have u0:=dA (b:=wr.heap.size) hbl c0;have u1:=dA (b:=wr.heap.size) hbl c1;have u2:=dA (b:=wr.heap.size) hbl c2;have u3:=dA (b:=wr.heap.size) hbl c3;have u4:=dA (b:=wr.heap.size) hbl c4;have u5:=dA (b:=wr.heap.size) hbl c5;have u6:=dA (b:=wr.heap.size) hbl c6;have u7:=dA (b:=wr.heap.size) hbl c7;have u8:=dA (b:=wr.heap.size) hbl c8;have x0:=dA (b:=wr.heap.size) hg1 t0;have x1:=dA (b:=wr.heap.size) hg1 t1;have x2:=dA (b:=wr.heap.size) hg1 t2;have x3:=dA (b:=wr.heap.size) hg1 t3;have x4:=dA (b:=wr.heap.size) hg1 t4;have x5:=dA (b:=wr.heap.size) hg1 t5;have x6:=dA (b:=wr.heap.size) hg1 t6;have x7:=dA (b:=wr.heap.size) hg1 t7;have x8:=dA (b:=wr.heap.size) hg1 t8;have x9:=dA (b:=wr.heap.size) hg1 t9;have x10:=dA (b:=wr.heap.size) hg1 t10;clear c0 c1 c2 c3 c4 c5 c6 c7 c8 t0 t1 t2 t3 t4 t5 t6 t7 t8 t9 t10;go_upto_region 6 with fail;go_cut [8] (λq wx=>∃qf A3,q= .pointer (some ⟨qf,0,none⟩)/\wx.heap[qf]?=some (.cells (dG m' A3) 40 (0,0))/\NL (w.heap.size+2) wx A3 m'/\aI wr wx)
   case first=>
    have hwb:wr.heap.size<=wr.heap.size:=Nat.le_refl _;refine lZ 13 wr.heap.size Aab ?_;show jf _ _ _ _ _ _ 14 (Array.replicate 14 false) _ _
    refine tk [1,2,3,0,4] ?_;iterate 5 (refine tkB hwb (λK hK=>?_);go_simp;first|refine hK _ ?_|(apply Exists.intro;refine⟨λ_=>?_,hK _ ?_⟩;rfl);clear hK K)
    refine jJ ?_;clear hwb u0 u1 u2 u3 u4 u5 u6 u7 u8 x0 x1 x2 x3 x4 x5 x6 x7 x8 x9 x10;have HG0:=Hq (Below.refl wr.heap.size wr);refine mW 5 10 rfl rfl Aab Aad Aad Aae Aae (λx5 hx5=>?_) (λx10 KY=>?_)
    .have HG:=Hq (Ge.trans HG0 hx5);open aqw in exact awK
    .have IW:=Hq (Ge.trans HG0 KY);go_simp;refine⟨(ay x10 _).mono IW.size,?_⟩;have hqV:wr.heap.size<=x10.heap.size:=IW.size;have azz:=Hq (Ge.trans IW (ay x10 (.cells iF 40)));have HQ1:=Hq (heap_alloc_new x10 (.cells iF 40));clear KY;generalize x10.heap.size=qf at *;refine gF 5 rfl Aab Aad Aae (λx5 hx5=>?_);have HG:=Hq (Ge.trans azz hx5);have HQ:=Hq (au HQ1 hx5);open aqv in exact awK
   case rest=>
    obtain⟨qf,A3,rfl,hblk,hNL,hbx⟩:=hcut;have HS2:=Hq (HS.step hbx);have HNL:=Hq hNL;have hB:w.heap.size+2<=B:=hsw;obtain⟨c0,c1,c2,c3,c4,c5,c6,c7,c8⟩:=nine hblk;have hql:=aA hblk;clear hblk hNL hbx HS adD u0 u1 u2 u3 u4 u5 u6 u7 u8 x0 x1 x2 x3 x4 x5 x6 x7 x8 x9 x10;obtain⟨d0,d1,d2,d3,d4,d5,d6,d7,d8⟩:=nine HS2.blk;have f0:=aj HS2.blk 0;have f1:=aj HS2.blk 1;have f2:=aj HS2.blk 2;have f3:=aj HS2.blk 3;have f4:=aj HS2.blk 4;have f5:=aj HS2.blk 5;have f6:=aj HS2.blk 6;have f7:=aj HS2.blk 7;have f8:=aj HS2.blk 8;have hnl:=aA HS2.blk;go_wp2_with fail;go_roundw
    case rel=>exact⟨k+1,Aaa,Aah,A3,by rw [ah HPk];exact HS2.put hB HNL⟩
    case measure=>simp[intOf];omega
  .have hke:k=L.length:=Aaa
   subst hke;have hnlt:decide ((L.length:Int) < (L.length:Int))=false:=Aac
   rw [ah HPE] at HS;obtain⟨m,hm⟩:∃m,gQ n L=m:=⟨_,rfl⟩;rw [hm] at HS;have HM:=Hq hm;clear HSD HPS HPE hlt hm hLl;obtain⟨c0,c1,c2,c3,c4,c5,c6,c7,c8⟩:=nine HS.blk;obtain⟨d0,d1,d2,d3,d4,d5,d6,d7,d8⟩:=nine HS.res;have hnl:=aA HS.blk;have hrl:=aA HS.res;have f0:=aj HS.res 0;have f1:=aj HS.res 1;have f2:=aj HS.res 2;have f3:=aj HS.res 3;have f4:=aj HS.res 4;have f5:=aj HS.res 5;have f6:=aj HS.res 6;have f7:=aj HS.res 7;have f8:=aj HS.res 8;go_wp2_with fail;refine aO (λW' hW'=>?_);have e9:W'.heap[w.heap.size+1]?=some (.cells (dG m A2) 40 (0,0)):=by rw [hW'];exact uW HS.res
   obtain⟨r0,r1,r2,r3,r4,r5,r6,r7,r8⟩:=nine e9;have oN:NL (w.heap.size+2) W' A2 m:=by rw [hW'];exact HS.nl.keeps pR (λf hf=>by rw [List.mem_singleton.1 hf];omega)
   have hBB:aI w W':=by rw [hW'];exact tu HS.bel Aaa
   exact bodyPost_ret (v:=gB m A2) (by simp[results,results21,go_sem,r0,r1,r2,r3,r4,r5,r6,r7,r8]) rfl ⟨A2,by rw [ah HM],by rw [ah HM];exact oN.aft,hBB⟩
end Go.Proofs.YtohmklmkjmlpjaaGreatDoor
