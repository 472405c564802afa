/- Parts. -/
import Derived.Test.YtohmklmkjmlpjaaGreatDoorRc26
import Derived.Test.YtohmklmkjmlpjaaGreatDoorRc25
import Derived.Test.YtohmklmkjmlpjaaGreatDoorRc14
namespace Go.Proofs.YtohmklmkjmlpjaaGreatDoor
open Go.Proofs.Tryz
open Go.RowKit
open Mth
theorem WK.setPu {w0 w w':World} {wb:Nat} {n:Nd} {A:bV} {G:aR} {c:Nat->Nat} {v:Value} {L:List Mg} {a:Option Addr} {cp g:Nat} {l:List Pu} (h:WK w0 w wb n A G c v L) (hb:aI w w') (hw:GR.W fD 4 w' a g l) (hg:∀x∈fp g l,w.heap.size<=x):
 WK w0 (w'.setCell ⟨wb,4,none⟩ (.slice a l.length cp)) wb (setPu n l) ⟨A.k,a,A.o,A.s,A.r,A.ck,cp,A.co,A.cs,A.cr⟩ ⟨G.k,g,G.o,G.s,G.r,G.i⟩ (newC w.heap.size 2 c) v L:=by
 have hwb:=aA h.blk;have h1:=(h.recol (c':=newC w.heap.size 2 c) (λx hx=>fE hx)).step hb;have hk:KC (newC w.heap.size 2 c) 8 w' (w'.setCell ⟨wb,4,none⟩ (.slice a l.length cp)):=KC.set h1.cw;have h2:=h1.no.kc hk Aaa;have hcp:∀x∈fp g l,newC w.heap.size 2 c x=2:=λx hx=>bQ (hg x hx)
 refine⟨hk.below h1.keep h1.no.lo Aaa h1.keep.size,?_,⟨h2.k,hk.w hw hcp (show(2:Nat)≠8 by omega),h2.o,h2.s,h2.r,h2.lo,h2.ck,hcp,h2.co,h2.c4,h2.ci,h2.cr,h2.ni⟩,hk.own h1.m h1.cm Aaa,h1.cm,h1.cw⟩;exact aT h1.blk 4 (.slice a l.length cp)
end Go.Proofs.YtohmklmkjmlpjaaGreatDoor

namespace Go.Proofs.YtohmklmkjmlpjaaGreatDoor
open Go.Proofs.Tryz
set_option maxHeartbeats 4000000
set_option maxRecDepth 100000
open Go.RowKit
open Mth
variable (s:ByteArray) {n:Nd} {o:gW} {a:Nat}
theorem WK.app {w0 w w6:World} {wb:Nat} {A:bV} {G:aR} {c:Nat->Nat} {v v':Value} {L:List Mg} (h:WK w0 w wb n A G c v L) (m:Mg) (hown:w6.ownsRow w0.heap.size 98 7 v' (L.length+1) (GR.flat mE L++mE m)) (hg:w.grownBy w6 v.ownBlock) (hv:∀x,v'.ownBlock=some x->v.ownBlock=some x\/w.heap.size<=x):
 w6.heap[wb]?=some (.cells (Xx n A v) 192 (0,0))/\WK w0 (w6.setCell ⟨wb,9,none⟩ v') wb n A G (newC w.heap.size 7 c) v' (L++[m]):=by
 have h1:=h.recol (c':=newC w.heap.size 7 c) (λx hx=>fE hx);have hk1:KC (newC w.heap.size 7 c) 7 w w6:=KC.grown hg h1.cm;have hblk:=hk1.obj h1.blk (by rw [h1.cw];omega);have hno:=h1.no.kc hk1 Aaa;have hkeep:=hk1.below h1.keep h1.no.lo Aaa h1.keep.size;have hk2:KC (newC w.heap.size 7 c) 8 w6 (w6.setCell ⟨wb,9,none⟩ v'):=KC.set h1.cw
 have hcm:∀x,v'.ownBlock=some x->newC w.heap.size 7 c x=7:=λx hx=>by
  rcases hv x hx with hx'|hx'
  .exact h1.cm x hx'
  .exact bQ hx'
 refine⟨hblk,hk2.below hkeep h1.no.lo Aaa hkeep.size,aT hblk 9 v',hno.kc hk2 Aaa,?_,hcm,h1.cw⟩;rw [aGp,jB];exact hk2.own hown hcm Aaa
theorem Xw (w0 w:World) (wb:Nat) (n:Nd) (A:bV) (G:aR) (c:Nat->Nat) (v:Value) (L:List Mg) (m:Mg) (hk:m.k.size<=1048600) (hL:L.length<=2097200) (h:WK w0 w wb n A G c v L):
 Calls prog 215 #[.pointer (some ⟨wb,0,none⟩),oz m] w λe w'=>e= .returned (.tuple #[])/\∃c' v',WK w0 w' wb n A G c' v' (L++[m]):=by
 obtain⟨i0,hi,hz0,hz1,hz2⟩:=aGV WV;have HS:=Hq h;clear h;obtain⟨va,vc,hv,_⟩:=GR.own_at (enc:=mE) (sz:=7) (l:=L) rH HS.m;subst hv;obtain⟨mK,mF,mT,mI,mL,mk,mN⟩:=m;dsimp only at hk;have HX0:=Hq (aGg w (.cells (bX mK mF mT mI mL mk mN) 98));go_in
 go_wp2_with fail;refine(clone mk _ Aaa).mono ?_;rintro e w1 ⟨rfl,hb1⟩;have zx:=Hq (au HX0 hb1);have HB1:=Hq ((ay w _).trans (hb1.mono Aac));clear hb1 HX0;have Yt:=aj zx 5;obtain⟨x0,x1,x2,x3,x4,x5,x6⟩:=jV zx;go_upto_region 2 with fail;refine wp_at (λW hW=>?_);have HXW:Hid (W.heap[w.heap.size]?=some (.cells (bX mK mF mT mI mL mk mN) 98 (0,0))):=by rw [hW];exact aT zx 5 (.string mk)
 have jl:Hid (aI w W):=by rw [hW];exact HB1.setCell (p:=⟨w.heap.size,5,none⟩) (aGh _) _
 clear hW HB1 zx Yt x0 x1 x2 x3 x4 x5 x6;have HSW:=Hq (HS.step jl);have hwl:=aA HS.blk;have hne:wb≠w.heap.size:=Aaa
 have hlW:=aA HXW;obtain⟨x0,x1,x2,x3,x4,x5,x6⟩:=jV HXW;obtain⟨c0,c1,c2,c3,c4,c5,c6,c7,c8,c9⟩:=jW HSW.blk;have y9:=aGj c9;have z0:=aGj x0;have z1:=aGj x1;have z2:=aGj x2;have z3:=aGj x3;have z4:=aGj x4;have z5:=aGj x5;have z6:=aGj x6;clear x0 x1 x2 x3 x4 x5 x6 c0 c1 c2 c3 c4 c5 c6 c7 c8 c9;refine mX Aab ?_;show wV _ _ _ _ 11 (Array.replicate 11 false) _ _
 open ar7 in exact akP
theorem qH {s:ByteArray} (hs:keyOk s.data.toList=true):s.size<=1048576:=by
 rcases Classical.em (1<=s.data.toList.length/\s.data.toList.length<=10) with h|h
 .have e:s.size=s.data.toList.length:=by rw [aG2];rfl
  omega
 .rw [keyOk_len _ h] at hs;cases hs
theorem afR (hok:eH n=true):eG n 1048576:=by
 obtain⟨h1,h2,h3,h4,h5,h6⟩:=bZ hok;have hq:=jk h6;have ho:=tF h5;have hn:=wN h1;have hpl:=h1;unfold eO at hpl;simp only[aGl,aGy] at hpl;have htl:=h3;unfold oL at htl;rw [aGl,aGy] at htl;have hps:=(kQ n.pu).1 h2;refine⟨Aaa,Aaa,Aaa,by split at htl<;>omega,Aaa,λx hx=>?_,λx hx=>?_,λx hx=>?_,λx hx=>?_⟩
 .have:=hps.1 x hx;unfold iI at this;simp only[aGl] at this;exact qH (by first|exact this.1|exact this.1.1|exact this.1.1.1|exact this.1.1.1.1)
 .have:=ho.2.2 x hx;unfold vW at this;simp only[aGl] at this;exact qH this.1.2
 .have:=AV hok x hx;unfold wu at this;simp only[aGl,aGy] at this;omega
 .exact qH (kS (hq.2.2.1 x hx)).2.2.1
theorem az5 (hz:eG n 1048576):eG (doN n o).1 1048576:=by
 cases hok:eH n
 .rw [Md hok];exact hz
 .exact afR (Xg hok)
namespace Mth
def gD (n:Nd) (L:List gW):Nd:=L.foldl (λm o=>(doN m o).1) n
theorem KG {L:List gW} {k:Nat} (hk:k < L.length):gD n (L.take (k+1))=(doN (gD n (L.take k)) L[k]).1:=by
 unfold gD;rw [aGt hk,List.foldl_append];rfl
theorem adC {n:Nd} (h:eH n=false) (L:List gW):gD n L=n:=by
 induction L with
 |nil=>rfl
 |cons o L ih=>
  have e:gD n (o::L)=gD (doN n o).1 L:=rfl;rw [e,Md h];exact ih
theorem Xj {n:Nd} (h:eH n=true) (L:List gW):eH (gD n L)=true:=by
 induction L generalizing n with
 |nil=>exact h
 |cons o L ih=>exact ih (Xg h)
theorem Nk {n:Nd} (h:eG n 1048576) (L:List gW):eG (gD n L) 1048576:=by
 induction L generalizing n with
 |nil=>exact h
 |cons o L ih=>exact ih (az5 h)
theorem aBq {s:ByteArray} (h:zn s a=true):cK (opC (Ep s a))=true:=by
 have hg:=(jE h).2.2.2.2.2.1;unfold lH at hg;simp only[aGl] at hg;exact hg.2
theorem KU (s:ByteArray):∀(f a:Nat),a<=s.size->(jZ s f a).1.length+a<=s.size
 |0,a,h=>by simpa [jZ] using h
 |f+1,a,h=>by
  unfold jZ
  split
  .rename_i hs
   obtain⟨p1,_,_,p2,p3,_⟩:=jE hs;have:=KU s f (Bv s a).toNat Aaa;rw [aHt];omega
  .simpa using h
theorem Q0 (s:ByteArray):∀(f a:Nat),∀o∈(jZ s f a).1,cK o=true
 |0,_,o,h=>by simp[jZ] at h
 |f+1,a,o,h=>by
  unfold jZ at h
  split at h
  .rename_i hs
   rcases aGF.1 h with rfl|h
   .exact aBq hs
   .exact Q0 s f _ o h
  .simp at h
theorem UQ {s:ByteArray} (h:s.toList=[]):s.size<=1048576:=by
 have e:s=ByteArray.empty:=toList_inj (h.trans (by decide+kernel));rw [e];decide
theorem Xh (h:cK o=true):o.k.size<=1048576/\o.m.k.size<=1048576:=by
 have zm:lY o.m=true->o.m.k.size<=1048576:=λh=>by
  unfold lY at h
  exact UQ (aGw h).2.2.2.2.2.1
 unfold cK at h;split at h
 .simp only[aGl] at h;exact⟨qH h.1.1.1,zm h.2⟩
 split at h
 .simp only[aGl] at h;exact⟨qH h.1.1.1,zm h.2⟩
 split at h
 .exact ajJ
 split at h
 .exact ajJ
 split at h
 .simp only[aGl] at h;refine⟨UQ (aGw h.1.1.1),?_⟩;have hm:=h.2;unfold cZ at hm;simp only[aGl] at hm;have h2:=hm.2;split at h2
  .simp only[aGl] at h2;exact qH h2.1.1.1
  split at h2
  .simp only[aGl] at h2;exact qH h2.1.1.1
  split at h2
  .simp only[aGl,aGy] at h2;omega
  .cases h2
 .cases h
theorem QW:∀o∈(dR s).1,cK o=true:=by
 unfold dR;split
 .exact Q0 s _ _
 .intro o h;simp at h
theorem KN:(dR s).1.length<=60000:=by
 unfold dR;split
 .rename_i h
  have:=KU s (s.size+1) 0 (aGB _);omega
 .simp
theorem KT (s:ByteArray):∀(f a:Nat),a<=s.size->(jZ s f a).2<=s.size
 |0,a,h=>by simpa [jZ] using h
 |f+1,a,h=>by
  unfold jZ
  split
  .rename_i hs
   obtain⟨p1,_,_,p2,p3,_⟩:=jE hs;exact KT s f (Bv s a).toNat Aaa
  .exact h
theorem AQ:(dR s).2<=s.size:=by
 unfold dR;split
 .exact KT s _ 0 (aGB _)
 .exact aGB _
end Mth
open Go.RowKit
open Mth
theorem abO (e:Nat):(s.extract 0 e).data.toList=s.data.toList.take e:=by
 rw [aHK];simp
theorem al8 {s:ByteArray} {e:Nat} (h:zn s a=true) (he:(Bv s a).toNat<=e) (hs:e<=s.size):zn (s.extract 0 e) a=true/\Ep (s.extract 0 e) a=Ep s a/\Bv (s.extract 0 e) a=Bv s a:=by
 obtain⟨p1,p2,p3,p4,p5,p6,p7⟩:=jE h;have hts:(s.extract 0 e).size=e:=Aag
 have hz:0<=jc s ((a:Int)+4):=Aaa
 obtain⟨_,_,_,hsz,hput⟩:=iE hz;have hq:=xG hsz;have ea:((a:Int)+4).toNat=a+4:=Aaa
 rw [ea] at hput
 have hzl:(oF (j6 s ((a:Int)+4))).size=(jc s ((a:Int)+4)).toNat - (a+4):=by
  have:=congrArg List.length hput;rw [aW,aGS,aGG,aW] at this;omega
 have ht:(s.extract 0 e).data.toList=s.data.toList.take (a+4)++(Mth.put (j6 s ((a:Int)+4)).size++((j6 s ((a:Int)+4)).data.toList++(s.data.toList.take e).drop (jc s ((a:Int)+4)).toNat)):=by
  rw [<-aGN (Mth.put _),<-hq,hput,abO];have e1:s.data.toList.take (jc s ((a:Int)+4)).toNat=(s.data.toList.take e).take (jc s ((a:Int)+4)).toNat:=by rw [aHP,aHb Aaa]
  have e2:s.data.toList.take (a+4)=((s.data.toList.take e).take (jc s ((a:Int)+4)).toNat).take (a+4):=by rw [aHP,aHP,aHb Aaa,aHb Aaa]
  rw [e1,e2,<-aGN,aGW,aGW]
 have hpl:(s.data.toList.take (a+4)).length=a+4:=by rw [aGG,aW];omega
 obtain⟨h1,h2⟩:=Ve ht hsz ((a:Int)+4) (by rw [hpl];omega);have h3:jc (s.extract 0 e) ((a:Int)+4)=jc s ((a:Int)+4):=by rw [h2,hzl,hpl];omega
 have hx:(s.extract 0 e).extract a (a+4)=s.extract a (a+4):=by
  rw [ByteArray.extract_extract];congr 1<;>omega
 have hb:zn (s.extract 0 e) a=true:=by
  rw [GX _ a Aaa,h1,h3,hx,<-GX s a p1];exact h
 obtain⟨_,q2,q3,_⟩:=jE hb;exact⟨hb,by rw [q2,p2,h1],by rw [q3,p3,h3]⟩
theorem Gi (s:ByteArray):∀(f a:Nat),a<=(jZ s f a).2
 |0,a=>aGh _
 |f+1,a=>by
  unfold jZ
  split
  .rename_i hs
   obtain⟨p1,_,_,p2,_⟩:=jE hs;exact aGm Aaa (Gi s f (Bv s a).toNat)
  .exact aGh _
theorem KQ (s:ByteArray) (e:Nat) (he:e<=s.size):∀(f a g:Nat),a<=s.size->(jZ s f a).2=e->s.size < a+f->e < a+g->(jZ (s.extract 0 e) g a).1=(jZ s f a).1
 |0,a,g,h,_,h2,_=>by omega
 |f+1,a,0,h,h1,h2,h3=>by have:=Gi s (f+1) a;omega
 |f+1,a,g+1,h,h1,h2,h3=>by
  unfold jZ at h1 ⊢
  by_cases hs:zn s a=true
  .rw [aGC hs] at h1 ⊢;obtain⟨p1,_,_,p2,p3,_⟩:=jE hs;have hu:=Gi s f (Bv s a).toNat;dsimp only at h1;obtain⟨c1,c2,c3⟩:=al8 hs (e:=e) Aaa he;rw [aGC c1,c2,c3];dsimp only;rw [KQ s e he f (Bv s a).toNat g Aaa h1 Aaa Aaa]
  .rw [aGr hs] at h1 ⊢;have h4:a=e:=h1
   have hn:¬zn (s.extract 0 e) a=true:=λhc=>by
    have:=(jE hc).1
    simp at this
    omega
   rw [aGr hn]
theorem QV (b:ByteArray) (h:b.size<=60000):dR b=jZ b (b.size+1) 0:=by unfold dR;rw [aGC h]
theorem adH:(dR (s.extract 0 (dR s).2)).1=(dR s).1:=by
 have hl:=AQ s;by_cases h:s.size<=60000
 .have e:=QV s h;have hz:(s.extract 0 (dR s).2).size=(dR s).2:=Aag
  have e2:=QV (s.extract 0 (dR s).2) Aaa;rw [hz] at e2;rw [e2,KQ s (dR s).2 hl (s.size+1) 0 ((dR s).2+1) (aGB _) Aap Aaa Aaa,e]
 .have e:dR s=([],0):=by unfold dR;rw [aGr h]
  rw [e]
  have hn:¬zn (s.extract 0 0) 0=true:=λhc=>by
   have:=(jE hc).1
   simp at this
  show(dR (s.extract 0 0)).1=[]
  unfold dR;rw [aGC Aac];unfold jZ;rw [aGr hn]
end Go.Proofs.YtohmklmkjmlpjaaGreatDoor
