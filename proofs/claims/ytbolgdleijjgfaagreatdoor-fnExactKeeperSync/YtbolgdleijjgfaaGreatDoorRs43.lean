/- Parts. -/
import Derived.Test.YtbolgdleijjgfaaGreatDoorRs42
import Derived.Test.YtbolgdleijjgfaaGreatDoorRs32
import Derived.Test.YtbolgdleijjgfaaGreatDoorRs34
namespace Go.Proofs.YtbolgdleijjgfaaGreatDoor
open Go.Proofs.Tryz
set_option maxHeartbeats 8000000
set_option maxRecDepth 100000
open Go.RowKit
open Mth
theorem afT (n:Nd) (A:bq) (o:gJ) (w:World) (hz:eF n 1048576) (hk:o.k.size<=1048576) (hmk:o.m.k.size<=1048576) (ha:bY w A n):
 Calls prog 99 #[gM n A,jP o] w (jR w (doN n o)):=by
 obtain⟨K,no,k,nn,⟨mK,mF,mT,mI,mL,mk,mN⟩⟩:=o;exact UQ n A K no k nn mK mF mT mI mL mk mN w hz hk hmk ha
def NL (B:Nat) (x:World) (A:bq) (m:Nd):Prop:=∀F W'',aA F x W''->(∀f∈F,f < B)->bY W'' A m
theorem NL.at {B:Nat} {x:World} {A:bq} {m:Nd} (h:NL B x A m):bY x A m:=h [] x (aA.refl _ _) (λ_ h=>by simp at h)
theorem NL.step {B:Nat} {x y:World} {A:bq} {m:Nd} (h:NL B x A m) (hb:aH x y):NL B y A m:=λF W'' hk hF=>h F W'' ((aA.of_below hb).trans hk) hF
theorem NL.keeps {B:Nat} {x y:World} {A:bq} {m:Nd} {G:List Nat} (h:NL B x A m) (hg:aA G x y) (hG:∀f∈G,f < B):NL B y A m:=λF W'' hk hF=>
 h (G++F) W'' ((hg.mono (λ_ h=>aFc _ h)).trans (hk.mono (λ_ h=>aFh _ h))) (λf hf=>by
   rcases aE6.1 hf with h|h
   .exact hG f h
   .exact hF f h)
theorem NL.mono {B B':Nat} {x:World} {A:bq} {m:Nd} (h:NL B x A m) (hB:B'<=B):NL B' x A m:=λF W'' hk hF=>h F W'' hk (λf hf=>aEU (hF f hf) hB)
theorem NL.or {B q:Nat} {y z:World} {A:bq} {m:Nd} (h:NL B y A m) (hq:q < B\/y.heap.size<=q) (hk:aA [q] y z):NL B z A m:=by
 rcases hq with h'|h'
 .exact h.keeps hk (λf hf=>by rw [aE3.1 hf];exact h')
 .exact h.step (hk.below (λf hf=>by rw [aE3.1 hf];exact h') (aEM _))
theorem NL.aft {w x:World} {A:bq} {m:Nd} (h:NL (w.heap.size+2) x A m):∀W'',yh w x W''->bY W'' A m:=λW'' ⟨F,hk,hF⟩=>h F W'' hk (λf hf=>by have:=hF f hf;omega)
structure RsS (w:World) (B:Nat) (v:Value) (L:List gJ) (m:Nd) (A:bq) (x:World):Prop where
 bel:aH w x
 siz:w.heap.size+2<=x.heap.size
 res:x.heap[w.heap.size+1]?=some (.cells kR 39 (0,0))
 blk:x.heap[w.heap.size]?=some (.cells (dH m A) 39 (0,0))
 nl:NL (w.heap.size+2) x A m
 own:x.ownsRow B 73 11 v L.length (GR.flat nW L)
theorem RsS.step {w x y:World} {B:Nat} {v:Value} {L:List gJ} {m:Nd} {A:bq} (h:RsS w B v L m A x) (hb:aH x y):RsS w B v L m A y:=
 ⟨h.bel.trans (hb.mono h.bel.size),aEP h.siz hb.size,aj h.res hb,aj h.blk hb,h.nl.step hb,GR.own_below h.own hb⟩
theorem RsS.put {w x:World} {B:Nat} {v:Value} {L:List gJ} {m m':Nd} {A A':bq} (h:RsS w B v L m A x) (hB:w.heap.size+2<=B) (hn:NL (w.heap.size+2) x A' m'):RsS w B v L m' A' (((((((((x.setCell ⟨w.heap.size,0,none⟩ (.int .i64 m'.id)).setCell ⟨w.heap.size,1,none⟩ (.int .i64 m'.par)).setCell ⟨w.heap.size,2,none⟩ (.slice A'.k m'.kids.length A'.ck)).setCell ⟨w.heap.size,3,none⟩ (.int .i64 m'.next)).setCell ⟨w.heap.size,4,none⟩ (.slice A'.p m'.pu.length A'.cp)).setCell ⟨w.heap.size,5,none⟩ (.slice A'.o m'.out.length A'.co)).setCell ⟨w.heap.size,6,none⟩ (.slice A'.s m'.seen.length A'.cs)).setCell ⟨w.heap.size,7,none⟩ (.int .i64 m'.old)).setCell ⟨w.heap.size,8,none⟩ (.slice A'.r m'.reqs.length A'.cr)):=by
 have hk:=yS (X:=x) (g:=w.heap.size) (b0:= .int .i64 m'.id) (b1:= .int .i64 m'.par) (b2:= .slice A'.k m'.kids.length A'.ck) (b3:= .int .i64 m'.next) (b4:= .slice A'.p m'.pu.length A'.cp) (b5:= .slice A'.o m'.out.length A'.co) (b6:= .slice A'.s m'.seen.length A'.cs) (b7:= .int .i64 m'.old) (b8:= .slice A'.r m'.reqs.length A'.cr);exact⟨EZ h.bel (aEM _),aEP h.siz hk.size,hk.obj h.res Aac,EW h.blk,hn.keeps hk (λf hf=>Acz),dD h.own hk (λf hf=>Acz)⟩
def Ld (w:World) (n:Nd) (e:Ending) (w':World):Prop:=∃A',e= .returned (gM n A')/\(∀W'',yh w w' W''->bY W'' A' n)/\aH w w'
theorem UR (n:Nd) (A:bq) (s:ByteArray) (w:World) (hs:s.size<=maxLen) (hz:eF n 1048576) (ha:bY w A n):
 Calls prog 50 #[gM n A,.string s] w (Ld w (gN n (gF s).1)):=by
 have NY:=Hq (λW (h:aH w W)=>mG n A W hz (ha.below h));have El:=Hq (λW=>Rs s hs W);obtain⟨L,hL⟩:∃L,(gF s).1=L:=⟨_,rfl⟩;have hLl:L.length<=60000:=by rw [<-hL];exact Kw s
 have hok:∀o∈L,o.k.size<=1048576/\o.m.k.size<=1048576:=λo h=>Xa (QJ s o (by rw [hL];exact h))
 unfold lC at El;rw [hL] at El;rw [hL];have HSD:=Hq (fun(k:Nat) (hk1:k < L.length) A W (ha:bY W A (gN n (L.take k)))=>afT (gN n (L.take k)) A L[k] W (M0 hz _) (hok _ (aE2 hk1)).1 (hok _ (aE2 hk1)).2 ha);have HPS:=Hq (fun(k:Nat) (hk1:k < L.length)=>Kt (n:=n) hk1);have HPE:=Hq (show gN n (L.take L.length)=gN n L by rw [aFd]);unfold Ld;clear hz ha hs hok hL;generalize (gF s).2=fin at *;go_in
 go_upto_region 1 with fail;refine wp_at (λW0 hW=>?_);obtain⟨e1,e3,e4⟩:=fU w (.cells (dH n A) 39) (.cells kR 39);have hs0:W0.heap.size=w.heap.size+2:=by rw [hW];simp
 rw [<-hW] at e1 e3 e4;have HN:=Hq e1;have HR:=Hq e3;have HB:=Hq e4;clear hW e1 e3 e4;obtain⟨c0,c1,c2,c3,c4,c5,c6,c7,c8⟩:=nine HN;go_wp2_with fail;refine(NY W0 HB).mono ?_;rintro e y ⟨A1,G1,cc1,rfl,hNQ,hby,_⟩;have hN2:=aj HN hby;have HR2:=Hq (aj HR hby);have JF:=Hq (HB.trans (hby.mono HB.size));have hys:=hby.size;have HNL:=Hq (show NL (w.heap.size+2) y A1 n from λF W'' hk hF=>(hNQ.toNO.kc0 (KC.keeps hk (λx hx=>hNQ.lo x (by rw [hs0];exact hF x hx)))).at);have Hy:=Hq hN2;clear hNQ hby c0 c1 c2 c3 c4 c5 c6 c7 c8 NY HN HR HB;obtain⟨⟨d0,d1,d2,d3,d4,d5,d6,d7,d8⟩,f0,f1,f2,f3,f4,f5,f6,f7,f8⟩:=iM hN2;clear hN2;go_upto_region 2 with fail;refine wp_at (λW hW=>?_);have hkp:aA [w.heap.size] y W:=by rw [hW];exact yS
 have hblk:W.heap[w.heap.size]?=some (.cells (dH n A1) 39 (0,0)):=by rw [hW];exact EW Hy
 have Hu:=Hq hblk;have iK:=Hq (JF.trans (hkp.below (B:=w.heap.size) (λf hf=>by rw [aE3.1 hf];exact aEM _) Aaa));have HRW:=Hq (hkp.obj HR2 Aac);have HNW:=Hq (HNL.keeps hkp (λf hf=>Acz));have hsw:w.heap.size+2<=W.heap.size:=by have:=hkp.size;omega
 clear hW hkp hblk Hy HR2 JF HNL d0 d1 d2 d3 d4 d5 d6 d7 d8 f0 f1 f2 f3 f4 f5 f6 f7 f8 hys hs0;go_wp2_with fail;refine(El W).mono ?_;rintro e W1 ⟨v,rfl,hown,hb1⟩;obtain⟨a1,cp1,hv,_⟩:=GR.own_at (enc:=nW) (sz:=11) jU hown;subst hv;have HS:=Hq (show∃A,RsS w W.heap.size (.slice a1 L.length cp1) L (gN n (L.take 0)) A W1 from⟨A1,iK.trans (hb1.mono iK.size),aEP hsw hb1.size,aj HRW hb1,aj Hu hb1,HNW.step hb1,hown⟩);clear hown hb1 iK HRW HNW Hu El;generalize W.heap.size=B at *;go_wp2_with fail;go_loopw [7] (λi wr=>∃k:Nat,k<=L.length/\i= .int .i64 k/\∃A,RsS w B (.slice a1 L.length cp1) L (gN n (L.take k)) A wr) (λi _=>L.length - (intOf i).toNat)
 case atStart=>exact⟨0,aE1 _,rfl,HS⟩
 case round=>
  clear HS;obtain⟨k,hkl,rfl,A2,hS⟩:=hrel;have HS:=Hq hS;clear hS;by_cases hlt:k < L.length
  .obtain⟨g1,o1,ea,hg1,t0,t1,t2,t3,t4,t5,t6,t7,t8,t9,t10⟩:=JO.eleven (GR.own_ati jU HS.own) k hlt;cases ea
   have aeo:=Hq (HSD k hlt);have HPk:=Hq (HPS k hlt);have hki:(k:Int) < (L.length:Int):=Aaa
   generalize doN (gN n (L.take k)) L[k]=RR at *;generalize gN n (L.take k)=m at *;generalize L[k]=oo at *;obtain⟨K,no,kk,nn,⟨mK,mF,mT,mI,mL,mk,mN⟩⟩:=oo;dsimp only at t0 t1 t2 t3 t4 t5 t6 t7 t8 t9 t10;obtain⟨m',Ms,code⟩:=RR;dsimp only at HPk;unfold jR at aeo;dsimp only at aeo;have hsz:=HS.siz;obtain⟨c0,c1,c2,c3,c4,c5,c6,c7,c8⟩:=nine HS.blk;have hbl:=ay HS.blk;have u0:=bZ (b:=wr.heap.size) hbl c0;have u1:=bZ (b:=wr.heap.size) hbl c1;have u2:=bZ (b:=wr.heap.size) hbl c2;have u3:=bZ (b:=wr.heap.size) hbl c3;have u4:=bZ (b:=wr.heap.size) hbl c4;have u5:=bZ (b:=wr.heap.size) hbl c5;have u6:=bZ (b:=wr.heap.size) hbl c6;have u7:=bZ (b:=wr.heap.size) hbl c7;have u8:=bZ (b:=wr.heap.size) hbl c8;have x0:=bZ (b:=wr.heap.size) hg1 t0;have x1:=bZ (b:=wr.heap.size) hg1 t1;have x2:=bZ (b:=wr.heap.size) hg1 t2;have x3:=bZ (b:=wr.heap.size) hg1 t3;have x4:=bZ (b:=wr.heap.size) hg1 t4;have x5:=bZ (b:=wr.heap.size) hg1 t5;have x6:=bZ (b:=wr.heap.size) hg1 t6;have x7:=bZ (b:=wr.heap.size) hg1 t7;have x8:=bZ (b:=wr.heap.size) hg1 t8;have x9:=bZ (b:=wr.heap.size) hg1 t9;have x10:=bZ (b:=wr.heap.size) hg1 t10;clear c0 c1 c2 c3 c4 c5 c6 c7 c8 t0 t1 t2 t3 t4 t5 t6 t7 t8 t9 t10;go_upto_region 6 with fail;go_cut [8] (λq wx=>∃qf A3,q= .pointer (some ⟨qf,0,none⟩)/\wx.heap[qf]?=some (.cells (dH m' A3) 39 (0,0))/\NL (w.heap.size+2) wx A3 m'/\aH wr wx)
   case first=>
    have hwb:wr.heap.size<=wr.heap.size:=aEM _;refine rg 13 (RB wr.heap.size) 14 ?_;refine tk [1,2,3,0,4] ?_;iterate 5 (refine JD 20 (QS _) (λK hK=>?_);go_simp;first|refine hK _ ?_|(apply Exists.intro;refine⟨λ_=>?_,hK _ ?_⟩;rfl);clear hK K)
    refine jf ?_;clear hwb u0 u1 u2 u3 u4 u5 u6 u7 u8 x0 x1 x2 x3 x4 x5 x6 x7 x8 x9 x10;have HG0:=Hq (aEY wr.heap.size wr);refine vH 5 10 rfl rfl Aab Aad Aad Aae Aae (λx5 hx5=>?_) (λx10 Me=>?_)
    .have HG:=Hq (Ge.trans HG0 hx5);open aqJ in exact aw2
    .have zI:=Hq (Ge.trans HG0 Me);go_simp;refine⟨(au x10 _).mono zI.size,?_⟩;have hqV:wr.heap.size<=x10.heap.size:=zI.size;have azV:=Hq (Ge.trans zI (au x10 (.cells kR 39)));have HQ1:=Hq (aEK x10 (.cells kR 39));clear Me;generalize x10.heap.size=qf at *;refine jc 5 rfl Aab Aad Aae (λx5 hx5=>?_);have HG:=Hq (Ge.trans azV hx5);have HQ:=Hq (aj HQ1 hx5);open aqI in exact aw2
   case rest=>
    obtain⟨qf,A3,rfl,hblk,hNL,hbx⟩:=hcut;have HS2:=Hq (HS.step hbx);have HNL:=Hq hNL;have hB:w.heap.size+2<=B:=hsw;obtain⟨c0,c1,c2,c3,c4,c5,c6,c7,c8⟩:=nine hblk;have hql:=ay hblk;clear hblk hNL hbx HS aeo u0 u1 u2 u3 u4 u5 u6 u7 u8 x0 x1 x2 x3 x4 x5 x6 x7 x8 x9 x10;obtain⟨⟨d0,d1,d2,d3,d4,d5,d6,d7,d8⟩,f0,f1,f2,f3,f4,f5,f6,f7,f8⟩:=iM HS2.blk;have hnl:=ay HS2.blk;go_wp2_with fail;go_roundw
    case rel=>exact⟨k+1,Aaa,Aaf,A3,by rw [ah HPk];exact HS2.put hB HNL⟩
    case measure=>simp[intOf];omega
  .have hke:k=L.length:=Aaa
   subst hke;have hnlt:decide ((L.length:Int) < (L.length:Int))=false:=Aac
   rw [ah HPE] at HS;obtain⟨m,hm⟩:∃m,gN n L=m:=⟨_,rfl⟩;rw [hm] at HS;have HM:=Hq hm;clear HSD HPS HPE hlt hm hLl;obtain⟨c0,c1,c2,c3,c4,c5,c6,c7,c8⟩:=nine HS.blk;obtain⟨d0,d1,d2,d3,d4,d5,d6,d7,d8⟩:=nine HS.res;have hnl:=ay HS.blk;have hrl:=ay HS.res;obtain⟨f0,f1,f2,f3,f4,f5,f6,f7,f8⟩:=oJ (HS.res);go_wp2_with fail;refine iy (λW' hW'=>?_);have e9:W'.heap[w.heap.size+1]?=some (.cells (dH m A2) 39 (0,0)):=by rw [hW'];exact EW HS.res
   obtain⟨r0,r1,r2,r3,r4,r5,r6,r7,r8⟩:=nine e9;have qj:NL (w.heap.size+2) W' A2 m:=by rw [hW'];exact HS.nl.keeps yS (λf hf=>by rw [aE3.1 hf];omega)
   have hBB:aH w W':=by rw [hW'];exact EZ HS.bel Aaa
   exact aET (v:=gM m A2) (by simp[results,results50,go_sem,r0,r1,r2,r3,r4,r5,r6,r7,r8]) rfl ⟨A2,Abf,by rw [ah HM];exact qj.aft,hBB⟩
section
variable {P:Program} {ops:Array Oper} {Q:Exit->Act->World->Prop} {md:Region.Mode} {E r:Nat}
theorem Vj {J:Nat->Array Bool->Act->World->Prop} (hg:∀f L a w x,J f L a w->Ge w x->J f L a x)
 (hs:∀f L a x,J f L a x->lK P md ops Q E r f L a x\/(∃f',f=f'+1/\Region.ready md ops L≠[]/\∀i∈Region.ready md ops L,i≠E/\wpOp P ops Q i (λa' y=>Ge x y/\J f' (L.setIfInBounds i true) a' y) a x)):
 ∀f L a x,J f L a x->lK P md ops Q E r f L a x:=by
 intro f;induction f with
 |zero=>
  intro L a x h;rcases hs 0 L a x h with h|⟨f',hf,_⟩
  .exact h
  .cases hf
 |succ f ih=>
  intro L a x h y hy;rcases hs _ L a y (hg _ _ _ _ _ h hy) with h1|⟨f',hf,hne,hall⟩
  .exact h1 y (aEY _ _)
  .cases hf
   exact⟨λh0=>absurd h0 hne,λi hi=>⟨λe=>absurd e (hall i hi).1,λ_=>wpOp_mono (λa' z hz=>⟨aA.of_below hz.1,ih _ a' z hz.2⟩) (hall i hi).2⟩⟩
end
theorem wS {P:Program} {α:Type} {enc:α->List Value} {sz:Nat} (hs:∀x,(enc x).length=sz) (hz:0 < sz) (w:World) (t e:TypeId) (i:TypeInfo) (z:Value) (bytes:Nat) (ht:P.underlying t=some (.slice e)) (hi:P.info? e=some i) (hz0:i.zero=some z)
 (hsize:i.size=sz) (hby:i.bytes=bytes) (hzs:z.cells.size=sz) (b:Nat) (a:Option Addr) (l:List α) (c:Nat) (ha:GR.At enc sz w a l) (h1:∀u∈GR.flat enc l,u.oneCell'=true) (h63:l.length<=maxLen) (hbytes:l.length*bytes<=140737488355328):
 ∃a' c' w',(∀ty,(Builtin.append_ #[t,t] ty #[.slice (some ⟨b,0,none⟩) 0 0,.slice a l.length c]).run P w= .ok (.slice a' l.length c') w')/\aH w w'/\(∀F y,aA F w' y->(∀x∈F,x < w.heap.size)->GR.At enc sz y a' l):=by
 by_cases hl0:l.length=0
 .have hn:l=[]:=aFg hl0;subst hn;refine⟨some ⟨b,0,none⟩,0,w,λty=>?_,aEY _ _,λ_ _ _ _=>GR.at_nil _ _⟩;cases a<;>simp[Builtin.append_,run_underlying ht,sizeOf,typeInfo,hi,Builtin.lenOf,Builtin.firstCells,loadCells,loadCellsFrom,storeCells]
 .obtain⟨g,off,rfl,_⟩:=ha 0 Aaa;subst hsize;subst hby;have hr:=λty=>run_append_grow (P:=P) w t ty e i z ht hi hz0 ⟨b,0,none⟩ 0 0 [] Aac Aac ⟨g,off,none⟩ l.length c (GR.flat enc l) (GR.flat_length enc i.size hs l) (F9 hs hz ha) Aaa (by simp only[maxLen] at h63;omega) (growslice_fits Aaa (by rw [aFz];exact hbytes))
  rw [aFz] at hr;refine⟨_,_,_,hr,⟨rfl,rfl,rfl,Aac,λk hk=>heap_alloc_old _ _ hk⟩,λF y hk hF q hq=>⟨w.heap.size,0,rfl,?_,λj hj=>?_⟩⟩
  .exact aEU Aac hk.size
  .have hb:=hk.obj (g:=w.heap.size) (aEK w.drew _) (λhm=>by have h:=hF _ hm;exact absurd h (Nat.lt_irrefl _));rw [aEW y _ _ _ _ (0,0) hb]
   have hlt:q*i.size+j < (GR.flat enc l).length:=by
    rw [GR.flat_length enc i.size hs l];have:=aGe i.size (show q+1<=l.length from hq);rw [aGx] at this;omega
   rw [aFz,<-GR.flat_at enc i.size hs l q hq j hj];simp only[List.append_toArray,aF0];rw [Array.getElem?_append_left (by simpa using hlt)];simp
def LN (w x:World) (v:Value) (n:Nd):Prop:=∃A,v=gM n A/\∀y,yh w x y->bY y A n
def LR {α:Type} (enc:α->List Value) (sz:Nat) (w x:World) (v:Value) (l:List α):Prop:=∃a c,v= .slice a l.length c/\∀y,yh w x y->GR.At enc sz y a l
def LE (v:Value):Prop:=∃g,v= .slice (some ⟨g,0,none⟩) 0 0
theorem yh.ge {w x x' y:World} (h:yh w x' y) (hx:Ge x x'):yh w x y:=by
 obtain⟨F,hk,hF⟩:=h;exact⟨F,(aA.of_below hx).trans hk,hF⟩
theorem LN.ge {w x y:World} {v:Value} {n:Nd} (h:LN w x v n) (hy:Ge x y):LN w y v n:=by
 obtain⟨A,e,h⟩:=h;exact⟨A,e,λz hz=>h z (hz.ge hy)⟩
theorem LR.ge {α:Type} {enc:α->List Value} {sz:Nat} {w x y:World} {v:Value} {l:List α} (h:LR enc sz w x v l) (hy:Ge x y):LR enc sz w y v l:=by
 obtain⟨a,c,e,h⟩:=h;exact⟨a,c,e,λz hz=>h z (hz.ge hy)⟩
structure CkS (w:World) (k:Kp) (b2 b5 b10 b13 b14 b17:Bool) (t5 t8 Xn t16 t17 t20:Value) (x:World):Prop where
 bel:aH w x
 v2:b2=true->LN w x t5 k.base
 v5:b5=true->LN w x t8 k.node
 v10:b10=true->LE Xn
 v13:b13=true->LR gD 7 w x t16 k.wait
 v14:b14=true->LE t17
 v17:b17=true->LR dQ 12 w x t20 k.asked
 o13:b13=true->b10=true
 o17:b17=true->b14=true
theorem CkS.ge {w x y:World} {k:Kp} {b2 b5 b10 b13 b14 b17:Bool} {t5 t8 Xn t16 t17 t20:Value} (h:CkS w k b2 b5 b10 b13 b14 b17 t5 t8 Xn t16 t17 t20 x) (hy:Ge x y):CkS w k b2 b5 b10 b13 b14 b17 t5 t8 Xn t16 t17 t20 y:=
 ⟨Ge.trans h.bel hy,λe=>(h.v2 e).ge hy,λe=>(h.v5 e).ge hy,h.v10,λe=>(h.v13 e).ge hy,h.v14,λe=>(h.v17 e).ge hy,h.o13,h.o17⟩
def Pg (b2 b5 b10 b13 b14 b17:Bool):Nat:=(!b2).toNat+(!b5).toNat+(!b10).toNat+(!b13).toNat+(!b14).toNat+(!b17).toNat
def CkJ (w:World) (k:Kp) (A:KA) (V:List Value) (p r f:Nat) (L:Array Bool) (a:Act) (x:World):Prop:=
 ∃b2 b5 b10 b13 b14 b17 t5 t8 Xn t16 t17 t20,f=2+Pg b2 b5 b10 b13 b14 b17/\L=#[true,true,b2,true,true,b5,true,true,true,true,b10,true,true,b13,b14,true,true,b17,false,false]/\a={tmps:=#[.agg V.toArray,.pointer (some ⟨p,0,none⟩),.pointer (some ⟨r,0,none⟩),.pointer (some ⟨p,0,none⟩),gM k.base A.b,t5,.pointer (some ⟨p,9,none⟩),gM k.node A.n,t8,.pointer (some ⟨p,18,none⟩),.string k.log,.pointer (some ⟨p,19,none⟩),.int .i64 k.safe,Xn,.pointer (some ⟨p,20,none⟩),.slice A.wa k.wait.length A.wc,t16,t17,.pointer (some ⟨p,21,none⟩),.slice A.aa k.asked.length A.ac,t20,undef],defers:=[]}/\CkS w k b2 b5 b10 b13 b14 b17 t5 t8 Xn t16 t17 t20 x
def K7 (w:World) (c:Kp) (e:Ending) (w':World):Prop:=∃A,e= .returned (I8 c A)/\(∀y,yh w w' y->jo y A c)/\aH w w'
theorem UJ (k:Kp) (A:KA) (w:World) (hz:oI k 1048576) (ha:jo w A k):
 Calls prog 23 #[I8 k A] w (K7 w k):=by
 have NW:=Hq (λW (h:aH w W)=>mG k.base A.b W hz.b (ha.below h).kb);have CY:=Hq (λW (h:aH w W)=>mG k.node A.n W hz.n (ha.below h).kn);obtain⟨i1,m1,m2,m3,m4⟩:=aFm FM;obtain⟨i2,n1,n2,n3,n4⟩:=aFm wJ;have HW:=Hq (λW (h:aH w W) b=>wS (P:=prog) (enc:=gD) cZ Aaa W 40 70 i1 _ _ underlying40 m1 m2 m3 m4 rfl b A.wa k.wait A.wc (ha.below h).kw (flat_one (λ_=>rfl) _) (by have:=hz.w;unfold maxLen;omega) (by have:=hz.w;omega));have HA:=Hq (λW (h:aH w W) b=>wS (P:=prog) (enc:=dQ) aQ Aaa W 41 75 i2 _ _ underlying41 n1 n2 n3 n4 rfl b A.aa k.asked A.ac (ha.below h).ka (flat_one (λ_=>rfl) _) (by have:=hz.a;unfold maxLen;omega) (by have:=hz.a;omega));clear m1 m2 m3 m4 n1 n2 n3 n4;obtain⟨V,hV⟩:∃V,BN V k A:=⟨_,rfl⟩;rw [hV.agg];obtain⟨Wv,hR0,hB0⟩:=fU w (.cells V.toArray 43) (.cells Sl 43);have hK:(AA k A).toArray=V.toArray:=by rw [show V=_ from hV]
 go_in
 go_upto_region 1 with fail;refine wp_at (λW0 hW=>?_);have HP:=Hq (show W0.heap[w.heap.size]?=some (.cells (AA k A).toArray 43 (0,0)) from by rw [hW,hK];exact Wv);have HR:=Hq (show W0.heap[w.heap.size+1]?=some (.cells Sl 43 (0,0)) from by rw [hW];exact hR0);have HB:=Hq (show Below (w.heap.size) w W0 from by rw [hW];exact hB0);have hs0:W0.heap.size=w.heap.size+1+1:=by rw [hW];simp
 have HD1:=Hq (λX (h:Ge W0 X)=>NW X (Ge.trans HB h));have HD2:=Hq (λX (h:Ge W0 X)=>CY X (Ge.trans HB h));have HAW:=Hq (λX (h:Ge W0 X) b=>HW X (Ge.trans HB h) b);have HAA:=Hq (λX (h:Ge W0 X) b=>HA X (Ge.trans HB h) b);clear hW Wv hR0 hB0 hK ha hz HW HA hV NW CY;generalize hp:w.heap.size=p at *;generalize hr:p+1=r at *;have hpl:p < W0.heap.size:=Aaa
 have hrl:r < W0.heap.size:=Aaa
 have hpr:p≠r:=Aaa
 obtain⟨hr0,hr1⟩:=sU HP;have y18:=kZ (r:=r) (show W0.cell? ⟨p,18,none⟩=some (.string k.log) from aEW W0 p 18 _ 43 (0,0) HP) hpr;have y19:=kZ (r:=r) (show W0.cell? ⟨p,19,none⟩=some (.int .i64 k.safe) from aEW W0 p 19 _ 43 (0,0) HP) hpr;have y20:=kZ (r:=r) (show W0.cell? ⟨p,20,none⟩=some (.slice A.wa k.wait.length A.wc) from aEW W0 p 20 _ 43 (0,0) HP) hpr;have y21:=kZ (r:=r) (show W0.cell? ⟨p,21,none⟩=some (.slice A.aa k.asked.length A.ac) from aEW W0 p 21 _ 43 (0,0) HP) hpr;refine rg 19 (aA [r]) 20 ?_;refine tk [0] ?_;(refine JD 40 (yg _) (λK hK=>?_);go_simp;first|refine hK _ ?_|(apply Exists.intro;refine⟨λ_=>?_,hK _ ?_⟩;rfl);clear hK K)
 refine jf ?_;refine nO 1 40 rfl Aab Aab Aab Aab Aab (λ_ _ _ _ h=>h) Aad 39 _ rfl p 0 rfl (dH k.base A.b).toList _ hr0 ⟨hpl,hpr⟩ underlying39 rfl Aab ?_;refine tk [3] ?_;(refine JD 40 (yg _) (λK hK=>?_);go_simp;first|refine hK _ ?_|(apply Exists.intro;refine⟨λ_=>?_,hK _ ?_⟩;rfl);clear hK K)
 refine jf ?_;refine nO 4 40 rfl Aab Aab Aab Aab Aab (λ_ _ _ _ h=>h) Aad 39 _ rfl p 9 rfl (dH k.node A.n).toList _ hr1 ⟨hpl,hpr⟩ underlying39 rfl Aab ?_;refine tk [6,7,8,9,11,12,15,16] ?_;iterate 8 (refine JD 40 (yg _) (λK hK=>?_);go_simp;first|refine hK _ ?_|(apply Exists.intro;refine⟨λ_=>?_,hK _ ?_⟩;rfl);clear hK K)
 refine jf ?_;clear y18 y19 y20 y21 hr0 hr1 HP hpl hpr;refine Vj (J:=CkJ W0 k A V p r) (λf L a x y hJ hy=>?grow) ?hs _ _ _ _ ⟨false,false,false,false,false,false,undef,undef,undef,undef,undef,undef,rfl,rfl,rfl,⟨aEY _ _,Aac,Aac,Aac,Aac,Aac,Aac,Aac,Aac⟩⟩
 case grow=>
  obtain⟨b2,b5,b10,b13,b14,b17,t5,t8,Xn,t16,t17,t20,e1,e2,e3,hS⟩:=hJ;exact⟨b2,b5,b10,b13,b14,b17,t5,t8,Xn,t16,t17,t20,e1,e2,e3,hS.ge hy⟩
 rintro f L a x ⟨b2,b5,b10,b13,b14,b17,t5,t8,Xn,t16,t17,t20,rfl,rfl,rfl,hS⟩;have HS:=Hq hS;clear hS;by_cases hall:(b2&&b5&&b10&&b13&&b14&&b17)=true
 .left
  simp only[aES] at hall;obtain⟨⟨⟨⟨⟨rfl,rfl⟩,rfl⟩,rfl⟩,rfl⟩,rfl⟩:=hall;obtain⟨A1,rfl,h1⟩:=HS.v2 rfl;obtain⟨A2,rfl,h2⟩:=HS.v5 rfl;obtain⟨wa,wc,rfl,h3⟩:=HS.v13 rfl;obtain⟨aa,ac,rfl,h4⟩:=HS.v17 rfl;have HAT:=Hq (show∀y,yh W0 x y->jo y ⟨A1,A2,wa,wc,aa,ac⟩ k from λy hy=>⟨h1 y hy,h2 y hy,h3 y hy,h4 y hy⟩);have jI:=Hq HS.bel;clear h1 h2 h3 h4 HS HD1 HD2 HAW HAA;show lK _ _ _ _ _ _ 2 _ _ _
  refine tk [18] ?_;(refine JD 40 (yg _) (λK hK=>?_);go_simp;first|refine hK _ ?_|(apply Exists.intro;refine⟨λ_=>?_,hK _ ?_⟩;rfl);clear hK K)
  refine jf ?_;refine qc Aab (λy hy=>?_);have HRy:=Hq (aj HR (Ge.trans (show Ge W0 x from jI) hy));have HBy:=Hq (show Below p w y from HB.trans ((Ge.trans (show Ge W0 x from jI) hy).mono Aaa));have HAY:=Hq (show∀z,yh W0 y z->jo z ⟨A1,A2,wa,wc,aa,ac⟩ k from λz hz=>HAT z (hz.ge hy));clear hy HAT jI HR HB;obtain⟨VC,TP⟩:∃V,BN V k ⟨A1,A2,wa,wc,aa,ac⟩:=⟨_,rfl⟩;have hth:y.there r 0 VC.length:=λj hj=>⟨by rw [aEW y _ _ _ _ (0,0) (ah HRy)];simp[TP.len] at hj ⊢;omega,aC HRy _⟩
  refine KY 19 rfl Aab Aad (wp_store_mid 43 (.tmp 2) (.tmp 21) rfl r 0 VC.toArray rfl (by rw [show VC=_ from TP];rfl) (by simpa using hth) (by simp only[aFH,TP.len];kernel_rfl) TP.one ?_);have hrg:=World.rangeAt_setCells_same y r 0 VC hth;have hkp:=eB r VC y 0;have hb:=eU (B:=p) (g:=r) Aaa VC w y 0 HBy
  have Xz:=Hq (show K7 w k (Ending.returned (Value.agg VC.toArray)) (y.setCells r 0 VC) from⟨⟨A1,A2,wa,wc,aa,ac⟩,by rw [<-TP.agg],λz ⟨F,hk,hF⟩=>HAY z ⟨r::F,(hkp.mono (λq hq=>by simp at hq;simp[hq])).trans (hk.mono (λq hq=>by simp[hq])),λq hq=>by
   rcases aE8.1 hq with rfl|hq
   .exact hrl
   .have:=hF q hq;omega⟩,by show Below (w.heap.size) w _;rw [hp];exact hb⟩)
  have HRG:=Hq hrg;have HVL:=Hq TP.len;clear hth hrg hkp hb TP HRy HBy HAY;generalize y.setCells r 0 VC=W4 at *;refine ad ?_;go_wp2_with fail;exact aET (v:= .agg VC.toArray) (rZ rfl _ _ r VC _ rfl HRG underlying43 rfl (by rw [ah HVL];kernel_rfl)) rfl Xz
 .right
  clear HR HB hrl;refine⟨1+Pg b2 b5 b10 b13 b14 b17,Aaa,?_,?_⟩
  .cases b2
   .exact tJ (j:=2) rfl rfl Aab
   cases b5
   .exact tJ (j:=5) rfl rfl Aab
   cases b10
   .exact tJ (j:=10) rfl rfl Aab
   cases b13
   .exact tJ (j:=13) rfl rfl Aab
   cases b14
   .exact tJ (j:=14) rfl rfl Aab
   cases b17
   .exact tJ (j:=17) rfl rfl Aab
   exact absurd rfl hall
  .intro i hi;obtain⟨h1,o,ho,h2⟩:=mem_ready.1 hi;have hlt:i < 20:=(Array.getElem?_eq_some_iff.1 ho).1;have hcase:i=2\/i=5\/i=10\/i=13\/i=14\/i=17\/i=18\/i=19\/i=0\/i=1\/i=3\/i=4\/i=6\/i=7\/i=8\/i=9\/i=11\/i=12\/i=15\/i=16:=Aaa
   clear hi hlt;rcases hcase with rfl|rfl|rfl|rfl|rfl|rfl|rfl|rfl|rfl|rfl|rfl|rfl|rfl|rfl|rfl|rfl|rfl|rfl|rfl|rfl
   .obtain rfl:b2=false:=h1;clear ho h2 hall;refine⟨Aae,um rfl Aad ?_⟩;go_simp;refine(HD1 x HS.bel).mono ?_;rintro e y ⟨A',G',c',rfl,hN,hy,_⟩;obtain⟨G2,q,S2,_⟩:=hN.full;have hsz:=HS.bel.size;refine⟨hy,?_⟩;exact⟨true,b5,b10,b13,b14,b17,_,t8,Xn,t16,t17,t20,Abx,rfl,rfl,{HS.ge hy with v2:=λ_=>⟨A',rfl,λz ⟨F,hk,hF⟩=>(q.keeps hk (λu hu hm=>by have:=S2.rng u hu;have:=hF u hm;omega)).at⟩}⟩
   .obtain rfl:b5=false:=h1;clear ho h2 hall;refine⟨Aae,um rfl Aad ?_⟩;go_simp;refine(HD2 x HS.bel).mono ?_;rintro e y ⟨A',G',c',rfl,hN,hy,_⟩;obtain⟨G2,q,S2,_⟩:=hN.full;have hsz:=HS.bel.size;refine⟨hy,?_⟩;exact⟨b2,true,b10,b13,b14,b17,t5,_,Xn,t16,t17,t20,Abx,rfl,rfl,{HS.ge hy with v5:=λ_=>⟨A',rfl,λz ⟨F,hk,hF⟩=>(q.keeps hk (λu hu hm=>by have:=S2.rng u hu;have:=hF u hm;omega)).at⟩}⟩
   .obtain rfl:b10=false:=h1;clear ho h2 hall;refine⟨Aae,um rfl Aad ?_⟩;go_simp;refine⟨au _ _,?_⟩;exact⟨b2,b5,true,b13,b14,b17,t5,t8,_,t16,t17,t20,Abx,rfl,rfl,{HS.ge (au _ _) with v10:=λ_=>⟨_,rfl⟩,o13:=λ_=>rfl}⟩
   .obtain rfl:b13=false:=h1;change some _=some o at ho
    cases ho
    obtain rfl:b10=true:=h2 ⟨10,.data⟩ Aac rfl;clear h2 hall;obtain⟨b,rfl⟩:=HS.v10 rfl;obtain⟨a',c',y,hrun,hy,hat⟩:=ah HAW x HS.bel b;have hsz:=HS.bel.size;refine⟨Aae,um rfl Aad (aGJ x (.tmp 13) (.tmp 15) 40 40 rfl _ _ rfl rfl _ y (hrun _) ⟨hy,?_⟩)⟩;exact⟨b2,b5,true,true,b14,b17,t5,t8,_,_,t17,t20,Abx,rfl,rfl,{HS.ge hy with v13:=λ_=>⟨a',c',rfl,λz ⟨F,hk,hF⟩=>hat F z hk (λu hu=>by have:=hF u hu;omega)⟩,o13:=λ_=>rfl}⟩
   .obtain rfl:b14=false:=h1;clear ho h2 hall;refine⟨Aae,um rfl Aad ?_⟩;go_simp;refine⟨au _ _,?_⟩;exact⟨b2,b5,b10,b13,true,b17,t5,t8,Xn,t16,_,t20,Abx,rfl,rfl,{HS.ge (au _ _) with v14:=λ_=>⟨_,rfl⟩,o17:=λ_=>rfl}⟩
   .obtain rfl:b17=false:=h1;change some _=some o at ho
    cases ho
    obtain rfl:b14=true:=h2 ⟨14,.data⟩ Aac rfl;clear h2 hall;obtain⟨b,rfl⟩:=HS.v14 rfl;obtain⟨a',c',y,hrun,hy,hat⟩:=ah HAA x HS.bel b;have hsz:=HS.bel.size;refine⟨Aae,um rfl Aad (aGJ x (.tmp 17) (.tmp 19) 41 41 rfl _ _ rfl rfl _ y (hrun _) ⟨hy,?_⟩)⟩;exact⟨b2,b5,b10,b13,true,true,t5,t8,Xn,t16,_,_,Abx,rfl,rfl,{HS.ge hy with v17:=λ_=>⟨a',c',rfl,λz ⟨F,hk,hF⟩=>hat F z hk (λu hu=>by have:=hF u hu;omega)⟩,o17:=λ_=>rfl}⟩
   .change some _=some o at ho
    cases ho
    obtain rfl:b2=true:=h2 ⟨2,.data⟩ Aac rfl;obtain rfl:b5=true:=h2 ⟨5,.data⟩ Aac rfl;obtain rfl:b13=true:=h2 ⟨13,.data⟩ Aac rfl;obtain rfl:b17=true:=h2 ⟨17,.data⟩ Aac rfl;obtain rfl:b10=true:=HS.o13 rfl;obtain rfl:b14=true:=HS.o17 rfl;exact absurd rfl hall
   .change some _=some o at ho
    cases ho
    cases (show false=true from h2 ⟨18,.data⟩ Aac rfl)
   all_goals cases (show true=false from h1)
end Go.Proofs.YtbolgdleijjgfaaGreatDoor
