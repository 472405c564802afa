/- Parts. -/
import Derived.Test.YtfachhcijcjbpaaGreatDoorRw19
namespace Go.Proofs.YtfachhcijcjbpaaGreatDoor
open Go.Proofs.Tryz
set_option maxHeartbeats 8000000
set_option maxRecDepth 100000
open Go.RowKit
open Mth
theorem cell_grown' {w:World} {a:Addr} {v:Value} (h:w.cell? a=some v):∀d os,(Sort.grow (redrawn w d) os).cell? a=some v:=λd os=>aEv h d os
theorem ajs (n:Nd) (A:bg) (x:Int) (b:Bool) (wc:World) (hl:n.kids.length<=1048600) (ha:aK wc A.k n.kids) (hb:dU n x=b):∀d os,Calls prog 61 #[gP n A,.int .i64 x] (Sort.grow (redrawn wc d) os) λe w''=>e= .returned (.bool b)/\∃p:Regrown,w''=Sort.grow (redrawn wc p.d) p.os:=λd os=>by
 rw [<-hb];exact aE1 (GN n A x _ hl (GR.At.below ha (aEV wc d os)))
theorem KJ (x:Int) (b:Bool) (wc:World) (hb:fC x=b):∀d os,Calls prog 59 #[.int .i64 x] (Sort.grow (redrawn wc d) os) λe w''=>e= .returned (.bool b)/\∃p:Regrown,w''=Sort.grow (redrawn wc p.d) p.os:=λ_ _=>
 aE1 ((dZ x b _ hb).mono λ_ _ ⟨he,hw⟩=>⟨he,hw▸aEK _ _⟩)
theorem qIn (x a b:Int) (r:Bool) (hb:decide (a<=x/\x<=b)=r) (W:World) (n:Nat):Calls prog 33 #[.int .i64 x,.int .i64 a,.int .i64 b] (W.drewN n) λe w''=>e= .returned (.bool r)/\∃m,w''=W.drewN m:=
 (yO x a b r _ hb).mono λ_ _ ⟨he,hw⟩=>⟨he,n,hw.symm⟩
theorem three {w:World} {g:Nat} {v0 v1 v2:Value} {t:TypeId} (h:w.heap[g]?=some (.cells #[v0,v1,v2] t (0,0))):
 w.cell? ⟨g,0,none⟩=some v0/\w.cell? ⟨g,1,none⟩=some v1/\w.cell? ⟨g,2,none⟩=some v2:=by
 have hc:∀i,w.cell? ⟨g,i,none⟩=#[v0,v1,v2][i]?:=λi=>aEz w g i _ t (0,0) h
 exact⟨hc 0,hc 1,hc 2⟩
theorem adG (n:Nd) (A:bg) (w:World) (hl:n.kids.length<=1048600) (hl2:n.seen.length<=1048600) (hl3:∀s∈n.seen,s.ids.length<=1048600) (ha:aK w A.k n.kids) (hs:gT w A.s n.seen):
 Calls prog 58 #[gP n A] w (dK w (.bool (nZ n))):=by
 have HA:=Hq ha;have HS:=Hq hs;have lu:=Hq hl3;have HD:Hid (nZ n=(decide ((n.seen.length:Int)=n.kids.length+(if 0<=n.par then 1 else 0))&&gL (λs=>dU n s.f&&vK s) (λs t=>iF s.f t.f) n.seen)):=rfl;have xR:=Hq (λk h=>oV (λs=>dU n s.f&&vK s) (λs t=>iF s.f t.f) n.seen k h);have OI:=Hq (rV (λs=>dU n s.f&&vK s) (λs t=>iF s.f t.f) n.seen);have Ev:=Hq (vR (λs=>dU n s.f&&vK s) (λs t=>iF s.f t.f) n.seen);have SI:=Hq (λx b wc (ha:aK wc A.k n.kids) (hb:dU n x=b)=>ajs n A x b wc hl ha hb);have jL:=Hq (aEu w (.cells (dR n A) 53));clear ha hs hl3;generalize hpp:(λs=>dU n s.f&&vK s)=PP at *;have HPP:Hid (∀s,PP s=(dU n s.f&&vK s)):=by intro s;rw [<-hpp]
 clear hpp;generalize hrr:(λs t:Sn=>iF s.f t.f)=RR at *;have HRR:Hid (∀s t,RR s t=iF s.f t.f):=by intro s t;rw [<-hrr]
 clear hrr;generalize hnn:dU n=NN at *;clear hnn;generalize htt:nZ n=TT at *;clear htt;open aoK in exact xG
abbrev yx (s:Sn) (b:Option Addr) (c:Nat):Value:= .agg #[.int .i64 s.f,.int .i64 s.l,.slice b s.ids.length c]
theorem FQ:(prog.info? 144).map (λi=>(i.zero,i.size,i.bytes))=some (some (.agg #[.int .i64 0,.int .i64 0,.slice none 0 0]),3,40):=Aab
theorem acS (n:Nat) (hn:n<=2000000):∀W:World,(Instr.makeSlice 50 (.int .i64 (n:Int)) (.int .i64 (n:Int))).run prog W= .ok (.slice (some ⟨W.heap.size,0,none⟩) n n) (W.alloc (.cells (GR.flat eF (List.replicate n ⟨0,0,.slice none 0 0⟩)).toArray 144)):=by
 obtain⟨i0,hi,hz0,hz1,hz2⟩:=aEY FQ;intro W;have h:=run_make (P:=prog) W 50 144 i0 (.agg #[.int .i64 0,.int .i64 0,.slice none 0 0]) underlying50 hi hz0 .i64 .i64 (n:Int) (n:Int) Aaa Aaa Aat Aaa;rw [hz1] at h;have e:=GR.made_flat eF 3 bf Aaa ⟨0,0,.slice none 0 0⟩ (Value.cells (.agg #[.int .i64 0,.int .i64 0,.slice none 0 0])) rfl n;exact ET
theorem aT {w:World} {c:Nat} {cs:Array Value} {t:TypeId} (h:w.heap[c]?=some (.cells cs t (0,0))) (i:Nat) (v:Value):(w.setCell ⟨c,i,none⟩ v).heap[c]?=some (.cells (cs.setIfInBounds i v) t (0,0)):=by
 exact Wx
theorem iW {w:World} {g g' i:Nat} {v:Value} {o:Option Obj} (h:w.heap[g']?=o) (hne:g'≠g):(w.setCell ⟨g,i,none⟩ v).heap[g']?=o:=by rw [aEU _ _ _ _ hne,h]
theorem zM (w:World) (a b c:Obj):(((w.alloc a).alloc b).alloc c).heap[w.heap.size]?=some a/\(((w.alloc a).alloc b).alloc c).heap[w.heap.size+1]?=some b/\(((w.alloc a).alloc b).alloc c).heap[w.heap.size+1+1]?=some c/\Below w.heap.size w (((w.alloc a).alloc b).alloc c):=by
 have e1:(w.alloc a).heap.size=w.heap.size+1:=Aac
 have e2:((w.alloc a).alloc b).heap.size=w.heap.size+1+1:=Aac
 have h1:=aEu w a;have h2:=aEu (w.alloc a) b;have h3:=aEu ((w.alloc a).alloc b) c;rw [e1] at h2;rw [e2] at h3;refine⟨?_,?_,h3,((au w _).alloc Aac _).alloc Aae _⟩
 .rw [aEI _ _ _ (by rw [e2];omega),aEI _ _ _ (by rw [e1];omega)];exact h1
 .rw [aEI _ _ _ (by rw [e2];omega)];exact h2
theorem fQ {P:Program} {fn:Func} {Q:Ending->World->Prop} {x:Exit} {act:Act} {W:World} (h:∀W',W'=W->bodyPost P fn Q x act W'):bodyPost P fn Q x act W:=h W rfl
theorem alN (s:Sn) (b:Option Addr) (c:Nat) (w:World) (hl:s.ids.length<=1048576) (ha:aK w b s.ids):
 Calls prog 147 #[yx s b c] w λe w'=>∃g,w.heap.size<=g/\e= .returned (yx s (some ⟨g,0,none⟩) s.ids.length)/\kQ w' g s.ids/\aG w w':=by
 obtain⟨fr,lo,ids⟩:=s;dsimp only at hl ha ⊢;have HA:=Hq ha;clear ha;go_in
 go_upto_region 4 with fail;refine wp_at (λW0 hW0=>?_);obtain⟨hP,hR,hO,hB⟩:=zM w (.cells #[.int .i64 fr,.int .i64 lo,.slice b ids.length c] 211) (.cells #[.int .i64 0,.int .i64 0,.slice none 0 0] 144) (.cells #[.int .i64 fr,.int .i64 lo,.slice none 0 0] 144);rw [<-hW0] at hP hR hO hB;have HP:=Hq hP;have HR:=Hq hR;have HO:=Hq hO;have HB:=Hq hB;clear hP hR hO hB hW0;obtain⟨c0,c1,c2⟩:=three HP;have HT:=Hq (Vs b c ids W0 hl (GR.At.below HA HB));go_wp2_with fail;refine HT.mono ?_;rintro e w1 ⟨rfl,hblk,hb1⟩;have HR1:=Hq (aj HR hb1);have Ih:=Hq (aj HO hb1);have HI1:=Hq hblk;have HB1:=Hq (HB.trans (hb1.mono HB.size));have HLT:=Hq (ay HO);clear hblk hb1 c0 c1 c2 HT;obtain⟨d0,d1,d2⟩:=three Ih;obtain⟨r0,r1,r2⟩:=three HR1;have f0:=aA Ih 2;have f1:=aA HR1 0;have f2:=aA HR1 1;have f3:=aA HR1 2;go_wp2_with fail;refine fQ (λW' hW'=>?_);have hR:=aT (aT (aT (iW (g:=w.heap.size+1+1) (i:=2) (v:= .slice (some ⟨W0.heap.size,0,none⟩) ids.length ids.length) HR1 Aaa) 0 (.int .i64 fr)) 1 (.int .i64 lo)) 2 (.slice (some ⟨W0.heap.size,0,none⟩) ids.length ids.length);obtain⟨x0,x1,x2⟩:=three (show W'.heap[w.heap.size+1]?=some (.cells #[.int .i64 fr,.int .i64 lo,.slice (some ⟨W0.heap.size,0,none⟩) ids.length ids.length] 144 (0,0)) by rw [hW'];exact hR);have hlt:=ah HLT;refine aEE (v:=yx ⟨fr,lo,ids⟩ (some ⟨W0.heap.size,0,none⟩) ids.length) (by simp[results,results147,go_sem,x0,x1,x2]) rfl ⟨W0.heap.size,Aaa,rfl,?_,?_⟩
 .rw [hW'];exact iW (iW (iW (iW HI1 Aaa) Aaa) Aaa) Aaa
 .rw [hW'];exact(((HB1.setCell (p:=⟨w.heap.size+1+1,2,none⟩) (by show w.heap.size<=w.heap.size+1+1;omega) _).setCell (p:=⟨w.heap.size+1,0,none⟩) (by show w.heap.size<=w.heap.size+1;omega) _).setCell (p:=⟨w.heap.size+1,1,none⟩) (by show w.heap.size<=w.heap.size+1;omega) _).setCell (p:=⟨w.heap.size+1,2,none⟩) (by show w.heap.size<=w.heap.size+1;omega) _
abbrev Gf (w:World) (g:Nat) (T:List R3):Prop:=GR.Blk eF 144 w g T
theorem Gf.three {w:World} {g:Nat} {l:List R3} (h:Gf w g l) (i:Nat) (hi:i < l.length):w.cell? ⟨g,i*3,none⟩=some (.int .i64 l[i].f)/\w.cell? ⟨g,i*3+1,none⟩=some (.int .i64 l[i].l)/\w.cell? ⟨g,i*3+2,none⟩=some l[i].v:=
 ⟨by simpa using GR.Blk.cell h bf i hi 0 Aaa,by simpa using GR.Blk.cell h bf i hi 1 Aaa,by simpa using GR.Blk.cell h bf i hi 2 Aaa⟩
theorem af6 (a:Option Addr) (cap:Nat) (l:List Sn) (w:World) (hl:l.length<=1048576) (hl2:∀s∈l,s.ids.length<=1048576) (ha:gT w a l):
 Calls prog 105 #[.slice a l.length cap] w λe w'=>e= .returned (.slice (some ⟨w.heap.size,0,none⟩) l.length l.length)/\(∃(T:List R3) (I:Nat->Nat),Gf w' w.heap.size T/\T.length=l.length/\(∀i,i < l.length->w.heap.size < I i/\I i < w'.heap.size/\T[i]?=some ⟨(l.getD i default).f,(l.getD i default).l,.slice (some ⟨I i,0,none⟩) (l.getD i default).ids.length (l.getD i default).ids.length⟩/\kQ w' (I i) (l.getD i default).ids)/\(∀i j,i < j->j < l.length->I i < I j))/\aG w w':=by
 have hmk:=acS l.length Aaa;have HA:=Hq ha;have HL2:=Hq hl2;clear ha hl2;go_in
 go_wp2_with fail;go_loopw [4] (λi wr=>∃(k:Nat) (T:List R3) (I:Nat->Nat),k<=l.length/\i= .int .i64 k/\Gf wr w.heap.size T/\T.length=l.length/\(∀i,i < k->w.heap.size < I i/\I i < wr.heap.size/\T[i]?=some ⟨(l.getD i default).f,(l.getD i default).l,.slice (some ⟨I i,0,none⟩) (l.getD i default).ids.length (l.getD i default).ids.length⟩/\kQ wr (I i) (l.getD i default).ids)/\(∀i j,i < j->j < k->I i < I j)/\aG w wr) (λi _=>l.length - (intOf i).toNat)
 case atStart=>exact⟨0,List.replicate l.length ⟨0,0,.slice none 0 0⟩,λi=>i,aEN _,rfl,aEu w _,Aac,λi hi=>Aaa,λi j _ hj=>Aaa,au w _⟩
 case round=>
  obtain⟨k,T,I,hk,rfl,hB,hTl,hI,hIm,hbel⟩:=hrel;have HB:=Hq hB;have aO:=Hq hbel;have HI:=Hq hI;have HIM:=Hq hIm;clear hB hbel hmk hI hIm;by_cases hlt:k < l.length
  .obtain⟨g,off,b,c,e0,hgw,q0,q1,q2,hX⟩:=gT.below HA aO k hlt;subst e0;have hs:=ah HL2 _ (aEL hlt);have Bq:=Hq (alN l[k] b c wr hs hX);have hgd:l.getD k default=l[k]:=by rw [aE7,aEB hlt];rfl
   have HGD:=Hq hgd;clear hX hgd;generalize l[k]=sk at *;obtain⟨fr,lo,ids⟩:=sk;dsimp only at q0 q1 q2 hs;go_wp2_with fail;refine Bq.mono ?_;rintro e w5 ⟨g5,hg5,rfl,hI5,hb5⟩;have fI:Hid (Gf w5 w.heap.size T):=aj HB hb5;have eO:=Hq (aO.trans (hb5.mono aO.size));have HI5:=Hq hI5;have IE:=Hq hb5;have aBX:=ay hI5;have hwl:=ay HB;clear hb5 q0 q1 q2 hI5 Bq;obtain⟨s0,s1,s2⟩:=Gf.three fI k Aaa;have f0:=GR.Blk.free fI (k*3);have f1:=GR.Blk.free fI (k*3+1);have f2:=GR.Blk.free fI (k*3+2);go_wp2_with fail;go_roundw
   case rel=>
    have h:=GR.Blk.set fI bf k Aaa ⟨fr,lo,.slice (some ⟨g5,0,none⟩) ids.length ids.length⟩;refine⟨k+1,T.set k ⟨fr,lo,.slice (some ⟨g5,0,none⟩) ids.length ids.length⟩,λi=>if i=k then g5 else I i,Aaa,Aaf,h,by simpa using hTl,?_,?_,GR.setW_below (o:=k*3) (aEx w.heap.size) (eF ⟨fr,lo,.slice (some ⟨g5,0,none⟩) ids.length ids.length⟩) eO⟩
    .intro i hi;have hsz:∀X:Nat,X < w5.heap.size->X < (GR.setW w5 w.heap.size (k*3) (eF ⟨fr,lo,.slice (some ⟨g5,0,none⟩) ids.length ids.length⟩)).heap.size:=λX hX=>aEH hX (GR.setW_below (B:=0) (a:=w5) (o:=k*3) (aEN w.heap.size) _ ⟨rfl,rfl,rfl,aEx _,λ_ h=>absurd h (Nat.not_lt_zero _)⟩).size
     by_cases hik:i=k
     .subst hik;simp only[if_true];rw [ah HGD];exact⟨Aaa,hsz _ aBX,by rw [aF7 Aaa],(GR.setW_other (g:=w.heap.size) (g':=g5) Aaa (eF ⟨fr,lo,.slice (some ⟨g5,0,none⟩) ids.length ids.length⟩) (w:=w5) (o:=i*3)).trans HI5⟩
     .simp only[aEG hik];obtain⟨h1,h2,h3,h4⟩:=ah HI i Aaa;refine⟨h1,hsz _ (aEH h2 IE.size),by rw [aFK Aaa];exact h3,(GR.setW_other (g:=w.heap.size) (g':=I i) Aaa (eF ⟨fr,lo,.slice (some ⟨g5,0,none⟩) ids.length ids.length⟩) (w:=w5) (o:=k*3)).trans (aj h4 IE)⟩
    .intro i j hij hj;by_cases hjk:j=k
     .subst hjk;simp only[if_true,aEG (show¬i=j by omega)];have:=(HI i Aaa).2.1;omega
     .simp only[aEG hjk,aEG (show¬i=k by omega)];exact HIM i j hij Aaa
   case measure=>simp[intOf];omega
  .open anq in exact xE
theorem alH (s:Sn) (b:Option Addr) (c:Nat) (left:Int) (w:World) (h0:0<=left) (h1:left<=1048576) (hk:s.ids.length<=maxLen):Calls prog 129 #[yx s b c,.int .i64 left] w λe w'=>e= .returned (.int .i64 (if (s.ids.length:Int)<=left then left - s.ids.length else -1))/\aG w w':=by
 obtain⟨fr,lo,ids⟩:=s;dsimp only at hk ⊢;have HI:=Hq (λw1=>Vq b c ids left w1 h0 h1 hk);by_cases hc:(ids.length:Int)<=left
 .rw [aER hc] at HI ⊢;have hn:¬(left - (ids.length:Int) < 0):=Aaa
  exact aio
 .rw [aEG hc] at HI ⊢;exact aio
theorem afZ (a:Option Addr) (ca:Nat) (l:List Sn) (z0:Int) (w:World) (h0:0<=z0) (h1:z0<=1048576) (hl:l.length<=maxLen) (hks:∀p∈l,p.ids.length<=maxLen) (ha:gT w a l):
 Calls prog 86 #[.slice a l.length ca,.int .i64 z0] w λe w'=>∃r:Int,e= .returned (.int .i64 r)/\aG w w'/\(r= -1\/0<=r/\r<=1048576/\l.length<=1048576/\∀p∈l,p.ids.length<=1048576):=by
 have HA:=Hq ha;clear ha;unfold maxLen at hl;by_cases hbig:(l.length:Int)<=z0
 .have hn:¬(z0 - (l.length:Int) < 0):=Aaa
  go_in
  go_wp2_with fail;go_loopw [1,5] (λlf i wr=>∃(k:Nat) (z:Int),k<=l.length/\i= .int .i64 k/\lf= .int .i64 z/\0<=z/\z<=1048576/\(∀p∈l.take k,p.ids.length<=1048576)/\aG w wr) (λ_ i _=>l.length - (intOf i).toNat)
  case atStart=>exact LV
  case round=>
   open an6 in exact LQ
 .have hn:z0 - (l.length:Int) < 0:=Aaa
  go_in
  exact Wz
theorem akD (s:Sn) (b b':Option Addr) (c c':Nat) (w:World) (hl:s.ids.length<=1048600) (ha:aK w b s.ids) (hb:aK w b' s.ids):Calls prog 165 #[yx s b c,yx s b' c'] w (dK w (.bool true)):=by
 obtain⟨fr,lo,ids⟩:=s;dsimp only at hl ha hb ⊢;have hbx:Below w.heap.size w ((w.alloc (.cells #[.int .i64 fr,.int .i64 lo,.slice b ids.length c] 144)).alloc (.cells #[.int .i64 fr,.int .i64 lo,.slice b' ids.length c'] 144)):=(au w _).alloc Aac _;have HE:=Hq (Uh b b' c c' ids _ hl (GR.At.below ha hbx) (GR.At.below hb hbx));have jL:=Hq hbx;clear ha hb hbx;go_in
 go_wp2_with fail;refine HE.mono ?_;rintro e w1 ⟨rfl,hb1⟩;have HB1:=Hq (jL.trans (hb1.mono jL.size));clear hb1;exact WH
theorem afa (a b:Option Addr) (ca cb:Nat) (l:List Sn) (w:World) (hl:l.length<=1048600) (hl2:∀s∈l,s.ids.length<=1048600) (ha:gT w a l) (hb:gT w b l):
 Calls prog 123 #[.slice a l.length ca,.slice b l.length cb] w (dK w (.bool true)):=by
 have HA:=Hq ha;have HB:=Hq hb;have HL2:=Hq hl2;clear ha hb hl2;go_in
 go_wp2_with fail;go_loopw [5] (λi wr=>∃k:Nat,k<=l.length/\i= .int .i64 k/\aG w wr) (λi _=>l.length - (intOf i).toNat)
 case atStart=>exact vQ
 case round=>
  obtain⟨k,hk,rfl,hbel⟩:=hrel;have aO:=Hq hbel;clear hbel;by_cases hlt:k < l.length
  .obtain⟨g1,o1,b1,c1,e1,hg1,s0,s1,s2,hI1⟩:=gT.below HA aO k hlt;obtain⟨g2,o2,b2,c2,e2,hg2,t0,t1,t2,hI2⟩:=gT.below HB aO k hlt;subst e1 e2;have hs:=ah HL2 _ (aEL hlt);generalize l[k]=pu at *;have xS:Hid (∀w1,aG wr w1->Calls prog 165 #[yx pu b1 c1,yx pu b2 c2] w1 (dK w1 (.bool true))):=λw1 hbb=>akD pu b1 b2 c1 c2 w1 hs (GR.At.below hI1 hbb) (GR.At.below hI2 hbb)
   clear hI1 hI2;obtain⟨fr,lo,ids⟩:=pu;dsimp only at s0 s1 s2 t0 t1 t2 hs;go_wp2_with fail;have cE:∀d os,Calls prog 165 #[yx ⟨fr,lo,ids⟩ b1 c1,yx ⟨fr,lo,ids⟩ b2 c2] (Sort.grow (redrawn wr d) os) λe w''=>e= .returned (.bool true)/\∃p:Regrown,w''=Sort.grow (redrawn wr p.d) p.os:=λd os=>aE1 (xS _ (aEV wr d os))
   have k0:=cell_grown' s0;have k1:=cell_grown' s1;have k2:=cell_grown' s2;have m0:=cell_grown' t0;have m1:=cell_grown' t1;have m2:=cell_grown' t2;refine aEJ Aab Aab ?_;repeat (first|go_big_quiet_step ((go_at_call 165;exact cE _ _))|quiet_step ((go_at_call 165;exact cE _ _)))
   open avl in exact Ww
  .exact ES
theorem qp:∀(vs:List Value) (w:World) (g o:Nat),w.setCells g o vs=GR.setW w g o vs:=by
 intro vs;induction vs with
 |nil=>intro w g o;rfl
 |cons v vs ih=>intro w g o;exact ih _ _ _
theorem iC (g:Nat):∀(vs:List Value) (_w:World) (_o:Nat),aC [g] _w (_w.setCells g _o vs)
 |[],_,_=>aC.refl _ _
 |v::vs,_,_=>(aC.set v).trans (iC g vs _ _)
theorem jk {B g:Nat} (hg:B<=g):∀(vs:List Value) (a w:World) (o:Nat),Below B a w->Below B a (w.setCells g o vs)
 |[],_,_,_,h=>h
 |v::vs,a,_,_,h=>jk hg vs a _ _ (h.setCell (p:=⟨g,_,none⟩) hg v)
theorem rM {P:Program} {fn:Func} {p:Tmp} {ty:TypeId} (h:fn.results=#[.cell p ty]) (tmps:Array Value) (w:World) (g:Nat) (cs:List Value) (d:TypeDesc)
 (hp:tmps.getD p undef= .pointer (some ⟨g,0,none⟩)) (hc:w.rangeAt g 0 cs) (hu:P.underlying ty=some d) (hd:d.isRow=true) (hi:(P.info? ty).map (·.size)=some cs.length):
 (results fn tmps).run P w= .ok (.agg cs.toArray) w:=by
 have hp':tmps[p]?.getD undef= .pointer (some ⟨g,0,none⟩):=by simpa using hp
 simp[results,h,hp',asAddr,run_loadVar_mid w g 0 ty cs d hc hu hd hi]
structure TO (tl ti:TypeId) (C Z:List Value) (w:World) (M:World->Prop) (L:List Value) (W:World):Prop where
 p:W.heap[w.heap.size]?=some (.cells C.toArray tl (0,0))
 r:W.heap[w.heap.size+1]?=some (.cells Z.toArray ti (0,0))
 o:W.heap[w.heap.size+1+1]?=some (.cells L.toArray ti (0,0))
 b:aG w W
 m:∀W',aC (List.range (w.heap.size+3)) W W'->M W'
section
variable {tl ti:TypeId} {C Z L L2:List Value} {w W W2:World} {M:World->Prop}
theorem TO.s (h:TO tl ti C Z w M L W):w.heap.size+3<=W.heap.size:=ay h.o
theorem TO.step (h:TO tl ti C Z w M L W) (hb:aG W W2) (N:World->Prop) (hN:∀W',aC (List.range (w.heap.size+3)) W2 W'->N W'):TO tl ti C Z w (λW'=>M W'/\N W') L W2:=
 ⟨aj h.p hb,aj h.r hb,aj h.o hb,h.b.trans (hb.mono h.b.size),λW' hk=>⟨h.m W' ((aC.of_below hb).trans hk),hN W' hk⟩⟩
theorem TO.put (h:TO tl ti C Z w M L W) (hk:aC [w.heap.size+1+1] W W2) (h2:W2.heap[w.heap.size+1+1]?=some (.cells L2.toArray ti (0,0))):TO tl ti C Z w M L2 W2:=
 ⟨hk.obj h.p Aae,hk.obj h.r Aac,h2,h.b.trans (hk.below (λx hx=>by rw [aEM.1 hx];omega) h.b.size),λW' hk'=>h.m W' ((hk.mono (λx hx=>Aba)).trans hk')⟩
theorem TO.mid (h:TO tl ti C Z w M L W) (o:Nat) (vs:List Value):TO tl ti C Z w M (GR.setRun L o vs) (W.setCells (w.heap.size+1+1) o vs):=
 h.put (iC _ _ _ _) (by rw [qp];exact GR.setW_blk vs h.o)
theorem TO.one (h:TO tl ti C Z w M L W) (i:Nat) (v:Value):TO tl ti C Z w M (L.set i v) (W.setCell ⟨w.heap.size+1+1,i,none⟩ v):=
 h.put (aC.set v) (by have:=aT h.o i v;simpa using this)
theorem TO.there (h:TO tl ti C Z w M L W) (o n:Nat) (hn:o+n<=L.length):W.there (w.heap.size+1+1) o n:=λj hj=>⟨by rw [aEz W _ _ _ _ (0,0) h.o];simp;omega,aA h.o _⟩
theorem TO.thereR (h:TO tl ti C Z w M L W):W.there (w.heap.size+1) 0 Z.length:=λj hj=>⟨by rw [aEz W _ _ _ _ (0,0) h.r];simp;omega,aA h.r _⟩
theorem TO.cell (h:TO tl ti C Z w M L W) (i:Nat):W.cell? ⟨w.heap.size,i,none⟩=C[i]?:=by rw [aEz W _ _ _ _ (0,0) h.p];simp
theorem TO.rng (h:TO tl ti C Z w M L W) (o:Nat) (vs:List Value) (hv:(C.drop o).take vs.length=vs):W.rangeAt w.heap.size o vs:=λj v hj=>by
 rw [h.cell,<-List.getElem?_drop];have hl:=(aFh.1 hj).1;rw [<-hv,List.getElem?_take_of_lt hl] at hj;exact hj
theorem TO.rngO (h:TO tl ti C Z w M L W):W.rangeAt (w.heap.size+1+1) 0 L:=λj v hj=>by
 rw [aEz W _ _ _ _ (0,0) h.o];simpa using hj
theorem TO.ends (h:TO tl ti C Z w M L W):M (W.setCells (w.heap.size+1) 0 L)/\Below w.heap.size w (W.setCells (w.heap.size+1) 0 L):=
 ⟨h.m _ ((iC _ _ _ _).mono (λx hx=>Aba)),jk Aaa _ _ _ _ h.b⟩
end
end Go.Proofs.YtfachhcijcjbpaaGreatDoor
