/- Parts. -/
import Derived.Test.YtohmklmkjmlpjaaGreatDoorRc24
import Derived.Test.YtohmklmkjmlpjaaGreatDoorRc27
namespace Go.Proofs.YtohmklmkjmlpjaaGreatDoor
open Go.Proofs.Tryz
set_option maxHeartbeats 8000000
set_option maxRecDepth 100000
open Go.RowKit
open Mth
theorem Pk {g:Nat} {t:TypeId}:∀(vs:List Value) (o:Nat) (w:World) (cs:Array Value),w.heap[g]?=some (.cells cs t (0,0))->(∀(j:Nat) v,vs[j]?=some v->w.cell? ⟨g,o+j,none⟩=some v)->Below w.heap.size w (GR.setW w g o vs):=by
 intro vs;induction vs with
 |nil=>intro o w cs _ _;exact aGs _ _
 |cons v vs ih=>
  intro o w cs h hc;have h1:=nH h (hc 0 v rfl);have hl:=aA h
  have h2:=ih (o+1) _ cs (au h h1) (λj u hj=>by
   have h3:=hc (j+1) u hj
   rw [show o+1+j=o+(j+1) by omega]
   exact(h1.cell (p:=⟨g,o+(j+1),none⟩) hl).trans h3)
  exact h1.trans (h2.mono h1.size)
theorem flat_one {α:Type} {en:α->List Value} (h:∀x,(en x).all (·.oneCell')=true) (l:List α):∀u∈GR.flat en l,u.oneCell'=true:=by
 intro u hu;unfold GR.flat at hu;rw [aHw] at hu;obtain⟨p,_,hp⟩:=hu;exact aHX.1 (h p) u hp
theorem afa (a:Option Addr) (cap:Nat) (l:List Mg) (w:World) (hl:l.length<=1048600) (hv:∀u∈GR.flat jf l,u.oneCell'=true) (ha:GR.At jf 7 w a l):
 Calls prog 123 #[.slice a l.length cap] w λe w'=>∃v,e= .returned v/\w'.ownsRow w.heap.size 98 7 v l.length (GR.flat jf l)/\aI w w':=by
 obtain⟨i0,hi,hz0,hz1,hz2⟩:=aGV Ql;have q22:∀(w:World) (a:Option Addr) (n c n' c':Nat),(binOp .eql 41 (.slice a n c) (.slice none n' c')).run prog w= .ok (.bool a.isNone) w:=λw a n c n' c'=>aHO w _ _ a n c n' c' underlying41
 have hlit:(w.alloc (.cells #[] 98)).ownsRow w.heap.size 98 7 (.slice (some ⟨w.heap.size,0,none⟩) 0 0) 0 []:=aGY (base:=w.heap.size) (e:=98) (size:=7) w #[] 0 (aGh _) Aae rfl;cases a with
 |none=>
  have hl0:l=[]:=GR.none_nil ha;subst hl0;clear ha hlit hv;go_in
  exact TF
 |some x=>
  have HN:=Hq (Kt dV Aaa (GR.At.below ha (ay w (.cells #[] 98))));have HV:=Hq hv;clear ha hv;go_in
  go_wp2_with (at_builtin;refine aHg _ rfl _ _ 41 rfl w.heap.size 98 i0 (.agg (bX 0 0 0 0 0 ByteArray.empty 0)) 7 64 underlying41 hi hz0 hz1 hz2 rfl Aae _ 0 [] rfl hlit x l.length cap (GR.flat jf l) rfl ?c0 ?c1 ?c2 ?c3 ?c4 ?c5 ?_)
  case c0=>exact GR.flat_length jf 7 dV l
  case c1=>exact HN
  case c2=>exact HV
  case c3=>unfold maxLen;omega
  case c4=>omega
  case c5=>simp
  intro v' w1 hown' hgrow _;have HO:=Hq (show w1.ownsRow w.heap.size 98 7 v' l.length (GR.flat jf l) by simpa using hown');exact XV
theorem ae8 (a:Option Addr) (cap:Nat) (l:List An) (w:World) (hl:l.length<=1048600) (hv:∀u∈GR.flat iF l,u.oneCell'=true) (ha:GR.At iF 12 w a l):
 Calls prog 124 #[.slice a l.length cap] w λe w'=>∃v,e= .returned v/\w'.ownsRow w.heap.size 120 12 v l.length (GR.flat iF l)/\aI w w':=by
 obtain⟨i0,hi,hz0,hz1,hz2⟩:=aGV Da;have q22:∀(w:World) (a:Option Addr) (n c n' c':Nat),(binOp .eql 42 (.slice a n c) (.slice none n' c')).run prog w= .ok (.bool a.isNone) w:=λw a n c n' c'=>aHO w _ _ a n c n' c' underlying42
 have hlit:(w.alloc (.cells #[] 120)).ownsRow w.heap.size 120 12 (.slice (some ⟨w.heap.size,0,none⟩) 0 0) 0 []:=aGY (base:=w.heap.size) (e:=120) (size:=12) w #[] 0 (aGh _) Aae rfl;cases a with
 |none=>
  have hl0:l=[]:=GR.none_nil ha;subst hl0;clear ha hlit hv;go_in
  exact TF
 |some x=>
  have HN:=Hq (Kt dw Aaa (GR.At.below ha (ay w (.cells #[] 120))));have HV:=Hq hv;clear ha hv;go_in
  go_wp2_with (at_builtin;refine aHg _ rfl _ _ 42 rfl w.heap.size 120 i0 (.agg #[.int .i64 0,.int .i64 0,.string ByteArray.empty,.int .i64 0,.int .i64 0,.int .i64 0,.int .i64 0,.int .i64 0,.int .i64 0,.string ByteArray.empty,.int .i64 0,.int .i64 0]) 12 112 underlying42 hi hz0 hz1 hz2 rfl Aae _ 0 [] rfl hlit x l.length cap (GR.flat iF l) rfl ?c0 ?c1 ?c2 ?c3 ?c4 ?c5 ?_)
  case c0=>exact GR.flat_length iF 12 dw l
  case c1=>exact HN
  case c2=>exact HV
  case c3=>unfold maxLen;omega
  case c4=>omega
  case c5=>simp
  intro v' w1 hown' hgrow _;have HO:=Hq (show w1.ownsRow w.heap.size 120 12 v' l.length (GR.flat iF l) by simpa using hown');exact XV
theorem Us (o:gW) (w:World) (h1:o.k.size<=1048576) (h2:o.m.k.size<=1048576):Calls prog 125 #[.agg (cu o.K o.no o.k o.n o.m.K o.m.F o.m.T o.m.I o.m.L o.m.k o.m.N)] w (dZ w (.agg (cu o.K o.no o.k o.n o.m.K o.m.F o.m.T o.m.I o.m.L o.m.k o.m.N))):=by
 obtain⟨K,no,k,n,mK,mF,mT,mI,mL,mk,mN⟩:=o;dsimp only at h1 h2 ⊢;obtain⟨hX,hY,hB⟩:=gQ w (.cells (cu K no k n mK mF mT mI mL mk mN) 100) (.cells (cu 0 0 ⟨#[]⟩ 0 0 0 0 0 0 ⟨#[]⟩ 0) 100);go_in
 go_upto_region 1 with fail;refine wp_at (λW hW=>?_);rw [<-hW] at hX hY hB;clear hW;obtain⟨⟨x0,x1,x2,x3,x4,x5,x6,x7,x8,x9,x10⟩,_⟩:=aL hX;have HX:=Hq hX;have HY:=Hq hY;have HB:=Hq hB;clear hX hY hB;go_wp2_with fail;refine(clone k _ Aaa).mono ?_;rintro e W1 ⟨rfl,hb1⟩;have zx:=Hq (au HX hb1);have XK:=Hq (au HY hb1);have HB1:=Hq (HB.trans (hb1.mono HB.size));clear hb1 x0 x1 x2 x3 x4 x5 x6 x7 x8 x9 x10 HX HY HB;have f2:=aj zx 2;obtain⟨⟨x0,x1,x2,x3,x4,x5,x6,x7,x8,x9,x10⟩,_⟩:=aL zx;go_upto_region 2 with fail;refine wp_at (λW2 hW=>?_);have hs:aI W1 W2:=by rw [hW];exact nH zx x2
 have DV:=Hq (au zx hs);have HY2:=Hq (au XK hs);have HB2:=Hq (HB1.trans (hs.mono HB1.size));clear hW hs f2 x0 x1 x2 x3 x4 x5 x6 x7 x8 x9 x10 zx XK HB1;obtain⟨⟨x0,x1,x2,x3,x4,x5,x6,x7,x8,x9,x10⟩,_⟩:=aL DV;go_wp2_with fail;refine(clone mk _ Aaa).mono ?_;rintro e W3 ⟨rfl,hb3⟩;have LH:=Hq (au DV hb3);have HY3:=Hq (au HY2 hb3);have HB3:=Hq (HB2.trans (hb3.mono HB2.size));clear hb3 x0 x1 x2 x3 x4 x5 x6 x7 x8 x9 x10 DV HY2 HB2;have f9:=aj LH 9;obtain⟨⟨x0,x1,x2,x3,x4,x5,x6,x7,x8,x9,x10⟩,_⟩:=aL LH;go_upto_region 3 with fail;refine wp_at (λW4 hW=>?_);have hs:aI W3 W4:=by rw [hW];exact nH LH x9
 have HX4:=Hq (au LH hs);have HY4:=Hq (au HY3 hs);have nG:=Hq (HB3.trans (hs.mono HB3.size));clear hW hs f9 x0 x1 x2 x3 x4 x5 x6 x7 x8 x9 x10 LH HY3 HB3;obtain⟨⟨x0,x1,x2,x3,x4,x5,x6,x7,x8,x9,x10⟩,_⟩:=aL HX4;obtain⟨⟨y0,y1,y2,y3,y4,y5,y6,y7,y8,y9,y10⟩,f0,f1,f2,f3,f4,f5,f6,f7,f8,f9,f10⟩:=aL HY4;go_wp2_with fail;refine iL (λW' hW'=>?_);have hY':W'.heap[w.heap.size+1]?=some (.cells (cu K no k n mK mF mT mI mL mk mN) 100 (0,0)):=by rw [hW'];exact lQ HY4
 have hB':aI w W':=by rw [hW'];exact iR nG Aaa
 clear hW';obtain⟨⟨r0,r1,r2,r3,r4,r5,r6,r7,r8,r9,r10⟩,_⟩:=aL hY';exact aGn (v:= .agg (cu K no k n mK mF mT mI mL mk mN)) (by simp[results,results125,go_sem,r0,r1,r2,r3,r4,r5,r6,r7,r8,r9,r10]) rfl ⟨rfl,hB'⟩
theorem MF (a:Option Addr) (cap:Nat) (l:List Mg) (w:World) (hl:l.length<=1048576) (hk:∀x∈l,x.k.size<=1048576) (ha:GR.At jf 7 w a l):
 Calls prog 68 #[.slice a l.length cap] w λe w'=>∃v,e= .returned v/\w'.ownsRow w.heap.size 98 7 v l.length (GR.flat jf l)/\aI w w':=by
 have jR:=Hq (afa a cap l w Aaa (flat_one (λ_=>rfl) l) ha);have SI:=Hq hk;clear ha hk;go_in
 go_wp2_with fail;refine jR.mono ?_;rintro e w1 ⟨v,rfl,hown,hb1⟩;obtain⟨a',c',rfl,_⟩:=GR.own_at (enc:=jf) (sz:=7) dV hown;have HO:=Hq hown;have HB1:=Hq hb1;clear hown hb1 jR;go_wp2_with fail;go_loopw [9] (λi wr=>∃k:Nat,k<=l.length/\i= .int .i64 k/\aI w1 wr) (λi _=>l.length - (intOf i).toNat)
 case atStart=>exact BM
 case round=>
  obtain⟨k,hk,rfl,hbel⟩:=hrel;have dS:=Hq hbel;clear hbel;by_cases hlt:k < l.length
  .open auS in exact ahi
  .exact air
theorem D7 (a:Option Addr) (cap:Nat) (l:List An) (w:World) (hl:l.length<=1048576) (hk:∀x∈l,x.o.k.size<=1048576/\x.o.m.k.size<=1048576) (ha:GR.At iF 12 w a l):
 Calls prog 69 #[.slice a l.length cap] w λe w'=>∃v,e= .returned v/\w'.ownsRow w.heap.size 120 12 v l.length (GR.flat iF l)/\aI w w':=by
 have jR:=Hq (ae8 a cap l w Aaa (flat_one (λ_=>rfl) l) ha);have SI:=Hq hk;clear ha hk;go_in
 go_wp2_with fail;refine jR.mono ?_;rintro e w1 ⟨v,rfl,hown,hb1⟩;obtain⟨a',c',rfl,_⟩:=GR.own_at (enc:=iF) (sz:=12) dw hown;have HO:=Hq hown;have HB1:=Hq hb1;clear hown hb1 jR;go_wp2_with fail;go_loopw [9] (λi wr=>∃k:Nat,k<=l.length/\i= .int .i64 k/\aI w1 wr) (λi _=>l.length - (intOf i).toNat)
 case atStart=>exact BM
 case round=>
  obtain⟨k,hk,rfl,hbel⟩:=hrel;have dS:=Hq hbel;clear hbel;by_cases hlt:k < l.length
  .open auR in exact ahi
  .exact air
abbrev hkG (k:Kp) (A:KA) (st:Int) (l r:Bool):Array Value:=#[.int .i64 k.node.id,.int .i64 k.node.par,.slice A.n.k k.node.kids.length A.n.ck,.int .i64 k.node.next,.slice A.n.p k.node.pu.length A.n.cp,.slice A.n.o k.node.out.length A.n.co,.slice A.n.s k.node.seen.length A.n.cs,.int .i64 k.node.old,.slice A.n.r k.node.reqs.length A.n.cr,.int .i32 st,.int .u32 0,.int .i64 k.base.id,.int .i64 k.base.par,.slice A.b.k k.base.kids.length A.b.ck,.int .i64 k.base.next,.slice A.b.p k.base.pu.length A.b.cp,.slice A.b.o k.base.out.length A.b.co,.slice A.b.s k.base.seen.length A.b.cs,.int .i64 k.base.old,.slice A.b.r k.base.reqs.length A.b.cr,.string k.log,.int .i64 k.safe,.slice A.wa k.wait.length A.wc,.slice A.aa k.asked.length A.ac,.bool l,.bool r]
structure KH (lo m1 m2 m3 g:Nat) (w:World) (A:KA) (k:Kp):Prop where
 n:∃G,jd w A.n G k.node/\(G.all k.node).Nodup/\∀x∈G.all k.node,lo<=x/\x < m1
 b:∃G,jd w A.b G k.base/\(G.all k.base).Nodup/\∀x∈G.all k.base,m1<=x/\x < m2
 wt:w.ownsRow m2 98 7 (.slice A.wa k.wait.length A.wc) k.wait.length (GR.flat jf k.wait)/\∀x,(Value.slice A.wa k.wait.length A.wc).ownBlock=some x->x < m3
 sk:w.ownsRow m3 120 12 (.slice A.aa k.asked.length A.ac) k.asked.length (GR.flat iF k.asked)/\∀x,(Value.slice A.aa k.asked.length A.ac).ownBlock=some x->x < g
 le:lo<=m1/\m1<=m2/\m2<=m3/\m3<=g/\g<=w.heap.size
theorem KH.keeps {lo m1 m2 m3 g:Nat} {w w':World} {A:KA} {k:Kp} {F:List Nat} (h:KH lo m1 m2 m3 g w A k) (hk:aC F w w') (hF:∀x∈F,g<=x\/x < lo):KH lo m1 m2 m3 g w' A k:=by
 obtain⟨⟨G1,n1,d1,r1⟩,⟨G2,n2,d2,r2⟩,⟨hw,bw⟩,⟨ha,ba⟩,l1,l2,l3,l4,l5⟩:=h;have hs:=hk.size;refine⟨⟨G1,n1.keeps hk (λx hx hm=>?_),d1,r1⟩,⟨G2,n2.keeps hk (λx hx hm=>?_),d2,r2⟩,⟨jK hw (λx hx=>hk.block x (Cv hw hx) (λhm=>?_)),bw⟩,⟨jK ha (λx hx=>hk.block x (Cv ha hx) (λhm=>?_)),ba⟩,l1,l2,l3,l4,Aaa⟩
 .have:=r1 x hx;have:=hF x hm;omega
 .have:=r2 x hx;have:=hF x hm;omega
 .have:=bw x hx;have:=uZ hw hx;have:=hF x hm;omega
 .have:=ba x hx;have:=uZ ha hx;have:=hF x hm;omega
theorem KH.below {lo m1 m2 m3 g:Nat} {w w':World} {A:KA} {k:Kp} (h:KH lo m1 m2 m3 g w A k) (hb:aI w w'):KH lo m1 m2 m3 g w' A k:=h.keeps (F:=[]) (aC.of_below hb) (λ_ hx=>Abg)
theorem KH.at {lo m1 m2 m3 g:Nat} {w:World} {A:KA} {k:Kp} (h:KH lo m1 m2 m3 g w A k):nu w A k:=by
 obtain⟨⟨_,n1,_⟩,⟨_,n2,_⟩,⟨hw,_⟩,⟨ha,_⟩,_⟩:=h;obtain⟨_,_,e1,h1⟩:=GR.own_at (enc:=jf) (sz:=7) dV hw;obtain⟨_,_,e2,h2⟩:=GR.own_at (enc:=iF) (sz:=12) dw ha;injection e1 with e1 _ _
 injection e2 with e2 _ _
 exact⟨n2.at,n1.at,by rw [e1];exact h1,by rw [e2];exact h2⟩
theorem xH {w:World} {b:Nat} {cs:Array Value} {t:TypeId} {o:Nat} {vs:List Value} (h:w.heap[b]?=some (.cells cs t (0,0))) (hv:∀j v,vs[j]?=some v->cs[o+j]?=some v):w.rangeAt b o vs:=λj v hj=>by
 rw [aGu w b (o+j) _ t (0,0) h];exact hv j v hj
theorem uX {j:Nat} (h:j < 9):j=0\/j=1\/j=2\/j=3\/j=4\/j=5\/j=6\/j=7\/j=8:=Aaa
theorem wK {w:World} {g:Nat} {k:Kp} {A:KA} {t:TypeId} (h:w.heap[g]?=some (.cells (zy k A).toArray t (0,0))):w.rangeAt g 0 (dG k.base A.b).toList/\w.rangeAt g 9 (dG k.node A.n).toList:=by
 refine⟨xH h (λj v hj=>?_),xH h (λj v hj=>?_)⟩
 .have hj9:j < 9:=(aHe.1 hj).1;rcases uX hj9 with rfl|rfl|rfl|rfl|rfl|rfl|rfl|rfl|rfl<;>exact hj
 .have hj9:j < 9:=(aHe.1 hj).1;rcases uX hj9 with rfl|rfl|rfl|rfl|rfl|rfl|rfl|rfl|rfl<;>exact hj
theorem acM (k:Kp) (A:KA) (w:World) (hz:uz k 1048576) (ha:nu w A k):
 Calls prog 25 #[SA k A] w λe w'=>∃A' m1 m2 m3 g,e= .returned (.pointer (some ⟨g,0,none⟩))/\w'.heap[g]?=some (.cells (hkG k A' 0 false false) 132 (0,0))/\KH w.heap.size m1 m2 m3 g w' A' k/\aI w w':=by
 have EI:=Hq (λW (h:aI w W)=>uP k.base A.b W hz.b (ha.below h).kb);have HC1:=Hq (λW (h:aI w W)=>uP k.node A.n W hz.n (ha.below h).kn);have HCW:=Hq (λW (h:aI w W)=>MF A.wa A.wc k.wait W hz.w hz.wk (ha.below h).kw);have HCA:=Hq (λW (h:aI w W)=>D7 A.aa A.ac k.asked W hz.a hz.ak (ha.below h).ka);have hlg:=hz.l;clear hz ha;go_in
 go_upto_region 1 with fail;refine wp_at (λW0 hW=>?_);have e1:W0.heap[w.heap.size]?=some (.cells (zy k A).toArray 44 (0,0)):=by rw [hW];exact aGg w _
 have e2:aI w W0:=by rw [hW];exact ay _ _
 have HK:=Hq e1;have HB0:=Hq e2;have hl0:=aA e1;clear hW e1 e2;refine dB Aab ?_;show iq _ _ _ _ 20 (Array.replicate 20 false) _ _
 have y18:=aGj (show W0.cell? ⟨w.heap.size,18,none⟩=some (.string k.log) from aGu W0 w.heap.size 18 _ 44 (0,0) HK);have y19:=aGj (show W0.cell? ⟨w.heap.size,19,none⟩=some (.int .i64 k.safe) from aGu W0 w.heap.size 19 _ 44 (0,0) HK);have y20:=aGj (show W0.cell? ⟨w.heap.size,20,none⟩=some (.slice A.wa k.wait.length A.wc) from aGu W0 w.heap.size 20 _ 44 (0,0) HK);have y21:=aGj (show W0.cell? ⟨w.heap.size,21,none⟩=some (.slice A.aa k.asked.length A.ac) from aGu W0 w.heap.size 21 _ 44 (0,0) HK);obtain⟨hr0,hr1⟩:=wK HK;refine aV 0 rfl Aab Aab Aab (λ_ _ _ _ h=>h) (λK hK=>?_);go_simp
 first
  |(refine hK _ ?_;clear hK K)
  |(apply Exists.intro
    refine⟨λ_=>?_,hK _ ?_⟩
    (rfl)
    clear hK K)
 refine xO 1 rfl Aab Aab Aab (λ_ _ _ _ h=>h) Aad 40 _ rfl w.heap.size 9 rfl (dG k.node A.n).toList _ hr1 hl0 underlying40 rfl Aab ?_;refine aV 3 rfl Aab Aab Aab (λ_ _ _ _ h=>h) (λK hK=>?_);go_simp
 first
  |(refine hK _ ?_;clear hK K)
  |(apply Exists.intro
    refine⟨λ_=>?_,hK _ ?_⟩
    (rfl)
    clear hK K)
 refine xO 4 rfl Aab Aab Aab (λ_ _ _ _ h=>h) Aad 40 _ rfl w.heap.size 0 rfl (dG k.base A.b).toList _ hr0 hl0 underlying40 rfl Aab ?_;refine aV 6 rfl Aab Aab Aab (λ_ _ _ _ h=>h) (λK hK=>?_);go_simp
 first
  |(refine hK _ ?_;clear hK K)
  |(apply Exists.intro
    refine⟨λ_=>?_,hK _ ?_⟩
    (rfl)
    clear hK K)
 refine aV 7 rfl Aab Aab Aab (λ_ _ _ _ h=>h) (λK hK=>?_);go_simp
 first
  |(refine hK _ ?_;clear hK K)
  |(apply Exists.intro
    refine⟨λ_=>?_,hK _ ?_⟩
    (rfl)
    clear hK K)
 refine aV 9 rfl Aab Aab Aab (λ_ _ _ _ h=>h) (λK hK=>?_);go_simp
 first
  |(refine hK _ ?_;clear hK K)
  |(apply Exists.intro
    refine⟨λ_=>?_,hK _ ?_⟩
    (rfl)
    clear hK K)
 refine aV 10 rfl Aab Aab Aab (λ_ _ _ _ h=>h) (λK hK=>?_);go_simp
 first
  |(refine hK _ ?_;clear hK K)
  |(apply Exists.intro
    refine⟨λ_=>?_,hK _ ?_⟩
    (rfl)
    clear hK K)
 refine aV 11 rfl Aab Aab Aab (λ_ _ _ _ h=>h) (λK hK=>?_);go_simp
 first
  |(refine hK _ ?_;clear hK K)
  |(apply Exists.intro
    refine⟨λ_=>?_,hK _ ?_⟩
    (rfl)
    clear hK K)
 refine aV 12 rfl Aab Aab Aab (λ_ _ _ _ h=>h) (λK hK=>?_);go_simp
 first
  |(refine hK _ ?_;clear hK K)
  |(apply Exists.intro
    refine⟨λ_=>?_,hK _ ?_⟩
    (rfl)
    clear hK K)
 refine aV 14 rfl Aab Aab Aab (λ_ _ _ _ h=>h) (λK hK=>?_);go_simp
 first
  |(refine hK _ ?_;clear hK K)
  |(apply Exists.intro
    refine⟨λ_=>?_,hK _ ?_⟩
    (rfl)
    clear hK K)
 refine aV 15 rfl Aab Aab Aab (λ_ _ _ _ h=>h) (λK hK=>?_);go_simp
 first
  |(refine hK _ ?_;clear hK K)
  |(apply Exists.intro
    refine⟨λ_=>?_,hK _ ?_⟩
    (rfl)
    clear hK K)
 clear y18 y19 y20 y21 HK hl0 hr0 hr1;refine gM 2 rfl Aab Aad (λx2 hx2=>?_);go_simp;have g2:aI w x2:=Ge.trans HB0 hx2;refine(HC1 x2 g2).mono ?_;rintro e z2 ⟨A1,G1,cc1,rfl,hN1,hy2⟩;refine⟨hy2,?_⟩;have HG2:=Hq (show aI w z2 from Ge.trans g2 hy2);obtain⟨H1,hN,hS,_⟩:=hN1.full;have vZ:=Hq hN;have HD1:=Hq hS.nodup;have HR1:=Hq (show∀x∈H1.all k.node,w.heap.size<=x/\x < z2.heap.size from λx hx=>by have:=hS.rng x hx;have:=g2.size;omega);clear hN1 hN hS hx2 hy2 g2 HB0 HC1;refine gM 5 rfl Aab Aad (λx5 hx5=>?_);go_simp;have g5:aI w x5:=Ge.trans HG2 hx5;refine(EI x5 g5).mono ?_;rintro e z5 ⟨A2,G2,Pn,rfl,Iw,hy5⟩;refine⟨hy5,?_⟩;have vJ:=Hq (show aI w z5 from Ge.trans g5 hy5);obtain⟨H2,hN,hS,_⟩:=Iw.full;have Bq:=Hq hN;have HD2:=Hq hS.nodup;have HR2:=Hq (show∀x∈H2.all k.base,z2.heap.size<=x/\x < z5.heap.size from λx hx=>by have:=hS.rng x hx;have:=hx5.size;omega);have HL2:=Hq (show w.heap.size<=z2.heap.size from HG2.size);have HU2:=Hq (show aI z2 z5 from Ge.trans hx5 hy5);clear Iw hN hS hx5 hy5 g5 HG2 EI;refine gM 8 rfl Aab Aad (λx8 hx8=>?_);go_simp;refine(clone k.log _ Aaa).mono ?_;rintro e z8 ⟨rfl,hy8⟩;refine⟨hy8,?_⟩;have HG8:=Hq (show aI w z8 from Ge.trans (Ge.trans vJ hx8) hy8);have HU8:=Hq (show aI z5 z8 from Ge.trans hx8 hy8);clear hx8 hy8 vJ;refine gM 13 rfl Aab Aad (λx13 afx=>?_);go_simp;have g13:aI w x13:=Ge.trans HG8 afx;refine(HCW x13 g13).mono ?_;rintro e z13 ⟨v,rfl,hwt,afy⟩;refine⟨afy,?_⟩;have amQ:=Hq (show aI w z13 from Ge.trans g13 afy);obtain⟨wa,wc,rfl,_⟩:=GR.own_at (enc:=jf) (sz:=7) dV hwt;have HWT:=Hq (lK (B':=z5.heap.size) hwt (show z5.heap.size<=x13.heap.size from(Ge.trans HU8 afx).size));have HWL:=Hq (λx hx=>Cv hwt (x:=x) hx);have ank:=Hq (show aI z5 z13 from Ge.trans (Ge.trans HU8 afx) afy);clear hwt afx afy g13 HG8 HU8 HCW;refine gM 16 rfl Aab Aad (λx16 hx16=>?_);go_simp;have g16:aI w x16:=Ge.trans amQ hx16;refine(HCA x16 g16).mono ?_;rintro e z16 ⟨v,rfl,hat,afz⟩;refine⟨afz,?_⟩;have aBD:=Hq (show aI w z16 from Ge.trans g16 afz);obtain⟨aa,ac,rfl,_⟩:=GR.own_at (enc:=iF) (sz:=12) dw hat;have HAT:=Hq (lK (B':=z13.heap.size) hat (show z13.heap.size<=x16.heap.size from hx16.size));have HAL:=Hq (λx hx=>Cv hat (x:=x) hx);have anl:=Hq (show aI z13 z16 from Ge.trans hx16 afz);clear hat hx16 afz g16 amQ HCA;refine aV 17 rfl Aab Aab Aab (λ_ _ _ _ h=>h) (λK hK=>?_);go_simp
 first
  |(refine hK _ ?_;clear hK K)
  |(apply Exists.intro
    refine⟨λ_=>?_,hK _ ?_⟩
    (rfl)
    clear hK K)
 refine gM 18 rfl Aab Aad (λx18 aAW=>?_);go_simp;refine⟨ay _ _,?_⟩;have ant:=Hq (show aI z16 x18 from aAW);clear aAW;refine gM 19 rfl Aab Aad (λx19 aAX=>?_);go_simp;refine⟨aGs _ _,?_⟩;refine fF Aab (λz hz=>?_);have HZ:=Hq (show Below (x18.alloc (.cells (hkG k ⟨A2,A1,wa,wc,aa,ac⟩ 0 false false) 132)).heap.size (x18.alloc (.cells (hkG k ⟨A2,A1,wa,wc,aa,ac⟩ 0 false false) 132)) z from Ge.trans aAX hz);clear aAX hz;go_wp2_with fail;have u16:aI z16 z:=Ge.trans ant (Ge.trans (ay x18 _) HZ);have u13:aI z13 z:=Ge.trans anl u16;have u5:aI z5 z:=Ge.trans ank u13;have u2:aI z2 z:=Ge.trans HU2 u5;have s1:=(ah HL2);have s2:=HU2.size;have s3:=ank.size;have s4:=anl.size;have s5:=ant.size;have hg:=au (aGg x18 (.cells (hkG k ⟨A2,A1,wa,wc,aa,ac⟩ 0 false false) 132)) HZ;have hgl:=aA hg
 exact aGn (v:= .pointer (some ⟨x18.heap.size,0,none⟩)) (by simp[results,results25,go_sem]) rfl ⟨⟨A2,A1,wa,wc,aa,ac⟩,z2.heap.size,z5.heap.size,z13.heap.size,x18.heap.size,rfl,hg,
  ⟨⟨H1,vZ.below u2,HD1,HR1⟩,⟨H2,Bq.below u5,HD2,HR2⟩,⟨GR.own_below HWT u13,λx hx=>HWL x hx⟩,⟨GR.own_below HAT u16,λx hx=>aGq (HAL x hx) s5⟩,s1,s2,s3,aGm s4 s5,Nat.le_of_lt hgl⟩,Ge.trans aBD u16⟩
theorem gG {w:World} {g:Nat} {k:Kp} {A:KA} {st:Int} {lk rt:Bool} {t:TypeId} (h:w.heap[g]?=some (.cells (hkG k A st lk rt) t (0,0))) (i:Nat):w.cell? ⟨g,i,none⟩=(hkG k A st lk rt)[i]?:=aGu w g i _ t (0,0) h
theorem Ke {w:World} {g:Nat} {k:Kp} {A:KA} {st:Int} {lk rt:Bool} {t:TypeId} (h:w.heap[g]?=some (.cells (hkG k A st lk rt) t (0,0))):w.rangeAt g 0 (dG k.node A.n).toList/\w.rangeAt g 11 (dG k.base A.b).toList:=by
 refine⟨xH h (λj v hj=>?_),xH h (λj v hj=>?_)⟩
 .exact ajd
 .exact ajd
abbrev hkB (w:World) (g:Nat) (k:Kp) (A:KA) (st:Int) (lk rt:Bool):Prop:=w.heap[g]?=some (.cells (hkG k A st lk rt) 132 (0,0))
theorem hkB.lock {w:World} {g:Nat} {k:Kp} {A:KA} {st:Int} {lk rt:Bool} (h:hkB w g k A st lk rt) (st':Int):hkB (w.setCell ⟨g,9,none⟩ (.int .i32 st')) g k A st' lk rt:=aT h 9 _
theorem uD {w0 w w':World} {B g:Nat} (h:Below B w0 w) (hk:aC [g] w w') (hg:B<=g) (hB:B<=w.heap.size):Below B w0 w':=
 h.trans (hk.below (λx hx=>by rw [aGA.1 hx];exact hg) hB)
open Go.RowKit Go.MuLone
abbrev zkA:Array Value:=#[.int .i64 0,.int .i64 0,.slice none 0 0,.int .i64 0,.slice none 0 0,.slice none 0 0,.slice none 0 0,.int .i64 0,.slice none 0 0,.int .i64 0,.int .i64 0,.slice none 0 0,.int .i64 0,.slice none 0 0,.slice none 0 0,.slice none 0 0,.int .i64 0,.slice none 0 0,.string ByteArray.empty,.int .i64 0,.slice none 0 0,.slice none 0 0]
section
variable {P:Program} {ops:Array Oper} {Q:Exit->Act->World->Prop} {md:Region.Mode} {E r:Nat}
theorem Dx (i o:Nat) {oi:Oper} {fuel:Nat} {listed:Array Bool} {a:Act} {w:World} (hi:ops[i]?=some oi) (hr:Region.ready md ops listed=[i]) (hw:Region.wanted oi (yielded ops a.tmps)=true) (hiE:i≠E)
 (ty:TypeId) (x y:Operand) (ho:oi.op= .store ty x y) (cells:Array Value) (hx:a.eval x= .pointer (some ⟨r,o,none⟩)) (hy:a.eval y= .agg cells) {L:List Value} {t:TypeId} (hb:w.heap[r]?=some (.cells L.toArray t (0,0))) (hs:o+cells.size<=L.length)
 (hn:(P.info? ty).map (·.size)=some cells.size) (h1:cells.all (·.oneCell')=true)
 (h:∀X,aC [r] w X->X.heap[r]?=some (.cells (GR.setRun L o cells.toList).toArray t (0,0))->jw P md ops Q E r fuel (listed.setIfInBounds i true) (a.put oi.dst undef) X):jw P md ops Q E r (fuel+1) listed a w:=
 qY i hi hr hw hiE λX hX=>by
  have hbX:=au hb hX
  refine wp_store_mid ty x y ho r o cells hx hy (λj hj=>⟨by rw [aGu X _ _ _ t (0,0) hbX];simp;omega,aj hbX _⟩) hn h1 ⟨eP _ _ _ _,h _ ((aC.of_below hX).trans (eP _ _ _ _)) ?_⟩
  rw [vD]
  exact GR.setW_blk cells.toList hbX
end
theorem Qd (k:Kp) (A:KA) (g:Nat) (lk rt:Bool) (w:World) (hg:hkB w g k A 0 lk rt):
 Calls prog 32 #[.pointer (some ⟨g,0,none⟩)] w λe w'=>e= .returned (.agg (zy k A).toArray)/\aC [g] w w':=by
 have hgl:=aA hg;have c9:(w.alloc (.cells zkA 44)).cell? ⟨g,9,none⟩=some (.int .i32 0):=gG (au hg (ay w (.cells zkA 44))) 9;have f9:=aj (au hg (ay w (.cells zkA 44))) 9;have HG:=Hq hg;clear hg;go_enter_defers func32,ntmps32
 go_wp2_with (go_at_call 70;refine(lock_free Xf ⟨g,9,none⟩ _ c9 f9).mono ?_;rintro e w' ⟨rfl,rfl⟩)
 clear c9 f9;refine wp_at (λW hW=>?_);have Dz:Hid (hkB W g k A 1 lk rt):=by subst hW;exact au ((show hkB w g k A 0 lk rt from HG).lock 1) (ay _ _)
 have BG:Hid (aC [g] w W):=by subst hW;exact(aC.set _).trans (aC.of_below (ay _ _))
 have HE1:Hid (W.heap[w.heap.size]?=some (.cells zkA 44 (0,0))):=by
  subst hW;have h:=aGg (w.setCell ⟨g,9,none⟩ (.int .i32 1)) (.cells zkA 44);rwa [show(w.setCell ⟨g,9,none⟩ (.int .i32 1)).heap.size=w.heap.size by simp[World.setCell]] at h
 clear hW HG;generalize hr:w.heap.size=r at *;have hgr:g≠r:=Aaa
 have hgl:=aA Dz;obtain⟨hr0,hr1⟩:=Ke Dz;have y20:=sH (r:=r) (show W.cell? ⟨g,20,none⟩=some (.string k.log) from gG Dz 20) hgr;have y21:=sH (r:=r) (show W.cell? ⟨g,21,none⟩=some (.int .i64 k.safe) from gG Dz 21) hgr;have y22:=sH (r:=r) (show W.cell? ⟨g,22,none⟩=some (.slice A.wa k.wait.length A.wc) from gG Dz 22) hgr;have y23:=sH (r:=r) (show W.cell? ⟨g,23,none⟩=some (.slice A.aa k.asked.length A.ac) from gG Dz 23) hgr;refine Xy ?_;refine qZ 36 r Aab ?_;show jw _ _ _ _ _ _ 37 (Array.replicate 37 false) _ _
 refine bH 0 60 rfl Aab Aab Aab Aab Aab (λ_ _ _ _ h=>h) (λK hK=>?_);go_simp
 first
  |(refine hK _ ?_;clear hK K)
  |(apply Exists.intro
    refine⟨λ_=>?_,hK _ ?_⟩
    (rfl)
    clear hK K)
 refine bH 1 60 rfl Aab Aab Aab Aab Aab (λ_ _ _ _ h=>h) (λK hK=>?_);go_simp
 first
  |(refine hK _ ?_;clear hK K)
  |(apply Exists.intro
    refine⟨λ_=>?_,hK _ ?_⟩
    (rfl)
    clear hK K)
 refine bH 2 60 rfl Aab Aab Aab Aab Aab (λ_ _ _ _ h=>h) (λK hK=>?_);go_simp
 first
  |(refine hK _ ?_;clear hK K)
  |(apply Exists.intro
    refine⟨λ_=>?_,hK _ ?_⟩
    (rfl)
    clear hK K)
 refine vH 3 60 rfl Aab Aab Aab Aab Aab (λ_ _ _ _ h=>h) Aad 40 _ rfl g 11 rfl (dG k.base A.b).toList _ hr1 ⟨hgl,hgr⟩ underlying40 rfl Aab ?_;refine bH 4 60 rfl Aab Aab Aab Aab Aab (λ_ _ _ _ h=>h) (λK hK=>?_);go_simp
 first
  |(refine hK _ ?_;clear hK K)
  |(apply Exists.intro
    refine⟨λ_=>?_,hK _ ?_⟩
    (rfl)
    clear hK K)
 refine bH 5 60 rfl Aab Aab Aab Aab Aab (λ_ _ _ _ h=>h) (λK hK=>?_);go_simp
 first
  |(refine hK _ ?_;clear hK K)
  |(apply Exists.intro
    refine⟨λ_=>?_,hK _ ?_⟩
    (rfl)
    clear hK K)
 refine bH 6 60 rfl Aab Aab Aab Aab Aab (λ_ _ _ _ h=>h) (λK hK=>?_);go_simp
 first
  |(refine hK _ ?_;clear hK K)
  |(apply Exists.intro
    refine⟨λ_=>?_,hK _ ?_⟩
    (rfl)
    clear hK K)
 refine vH 7 60 rfl Aab Aab Aab Aab Aab (λ_ _ _ _ h=>h) Aad 40 _ rfl g 0 rfl (dG k.node A.n).toList _ hr0 ⟨hgl,hgr⟩ underlying40 rfl Aab ?_;refine bH 8 60 rfl Aab Aab Aab Aab Aab (λ_ _ _ _ h=>h) (λK hK=>?_);go_simp
 first
  |(refine hK _ ?_;clear hK K)
  |(apply Exists.intro
    refine⟨λ_=>?_,hK _ ?_⟩
    (rfl)
    clear hK K)
 refine bH 9 60 rfl Aab Aab Aab Aab Aab (λ_ _ _ _ h=>h) (λK hK=>?_);go_simp
 first
  |(refine hK _ ?_;clear hK K)
  |(apply Exists.intro
    refine⟨λ_=>?_,hK _ ?_⟩
    (rfl)
    clear hK K)
 refine bH 10 60 rfl Aab Aab Aab Aab Aab (λ_ _ _ _ h=>h) (λK hK=>?_);go_simp
 first
  |(refine hK _ ?_;clear hK K)
  |(apply Exists.intro
    refine⟨λ_=>?_,hK _ ?_⟩
    (rfl)
    clear hK K)
 refine bH 11 60 rfl Aab Aab Aab Aab Aab (λ_ _ _ _ h=>h) (λK hK=>?_);go_simp
 first
  |(refine hK _ ?_;clear hK K)
  |(apply Exists.intro
    refine⟨λ_=>?_,hK _ ?_⟩
    (rfl)
    clear hK K)
 refine bH 12 60 rfl Aab Aab Aab Aab Aab (λ_ _ _ _ h=>h) (λK hK=>?_);go_simp
 first
  |(refine hK _ ?_;clear hK K)
  |(apply Exists.intro
    refine⟨λ_=>?_,hK _ ?_⟩
    (rfl)
    clear hK K)
 refine bH 13 60 rfl Aab Aab Aab Aab Aab (λ_ _ _ _ h=>h) (λK hK=>?_);go_simp
 first
  |(refine hK _ ?_;clear hK K)
  |(apply Exists.intro
    refine⟨λ_=>?_,hK _ ?_⟩
    (rfl)
    clear hK K)
 refine bH 14 60 rfl Aab Aab Aab Aab Aab (λ_ _ _ _ h=>h) (λK hK=>?_);go_simp
 first
  |(refine hK _ ?_;clear hK K)
  |(apply Exists.intro
    refine⟨λ_=>?_,hK _ ?_⟩
    (rfl)
    clear hK K)
 refine bH 15 60 rfl Aab Aab Aab Aab Aab (λ_ _ _ _ h=>h) (λK hK=>?_);go_simp
 first
  |(refine hK _ ?_;clear hK K)
  |(apply Exists.intro
    refine⟨λ_=>?_,hK _ ?_⟩
    (rfl)
    clear hK K)
 refine bH 16 60 rfl Aab Aab Aab Aab Aab (λ_ _ _ _ h=>h) (λK hK=>?_);go_simp
 first
  |(refine hK _ ?_;clear hK K)
  |(apply Exists.intro
    refine⟨λ_=>?_,hK _ ?_⟩
    (rfl)
    clear hK K)
 refine bH 17 60 rfl Aab Aab Aab Aab Aab (λ_ _ _ _ h=>h) (λK hK=>?_);go_simp
 first
  |(refine hK _ ?_;clear hK K)
  |(apply Exists.intro
    refine⟨λ_=>?_,hK _ ?_⟩
    (rfl)
    clear hK K)
 refine bH 18 60 rfl Aab Aab Aab Aab Aab (λ_ _ _ _ h=>h) (λK hK=>?_);go_simp
 first
  |(refine hK _ ?_;clear hK K)
  |(apply Exists.intro
    refine⟨λ_=>?_,hK _ ?_⟩
    (rfl)
    clear hK K)
 refine bH 19 60 rfl Aab Aab Aab Aab Aab (λ_ _ _ _ h=>h) (λK hK=>?_);go_simp
 first
  |(refine hK _ ?_;clear hK K)
  |(apply Exists.intro
    refine⟨λ_=>?_,hK _ ?_⟩
    (rfl)
    clear hK K)
 refine bH 20 60 rfl Aab Aab Aab Aab Aab (λ_ _ _ _ h=>h) (λK hK=>?_);go_simp
 first
  |(refine hK _ ?_;clear hK K)
  |(apply Exists.intro
    refine⟨λ_=>?_,hK _ ?_⟩
    (rfl)
    clear hK K)
 refine bH 21 60 rfl Aab Aab Aab Aab Aab (λ_ _ _ _ h=>h) (λK hK=>?_);go_simp
 first
  |(refine hK _ ?_;clear hK K)
  |(apply Exists.intro
    refine⟨λ_=>?_,hK _ ?_⟩
    (rfl)
    clear hK K)
 refine bH 22 60 rfl Aab Aab Aab Aab Aab (λ_ _ _ _ h=>h) (λK hK=>?_);go_simp
 first
  |(refine hK _ ?_;clear hK K)
  |(apply Exists.intro
    refine⟨λ_=>?_,hK _ ?_⟩
    (rfl)
    clear hK K)
 refine bH 23 60 rfl Aab Aab Aab Aab Aab (λ_ _ _ _ h=>h) (λK hK=>?_);go_simp
 first
  |(refine hK _ ?_;clear hK K)
  |(apply Exists.intro
    refine⟨λ_=>?_,hK _ ?_⟩
    (rfl)
    clear hK K)
 clear y20 y21 y22 y23 hr0 hr1;refine zq 24 rfl Aab Aad Aae 44 _ _ rfl zkA rfl rfl HE1 rfl Aab Aab (λX1 hk1 e1=>?_);refine bH 25 60 rfl Aab Aab Aab Aab Aab (λ_ _ _ _ h=>h) (λK hK=>?_);go_simp
 first
  |(refine hK _ ?_;clear hK K)
  |(apply Exists.intro
    refine⟨λ_=>?_,hK _ ?_⟩
    (rfl)
    clear hK K)
 refine Dx 26 0 rfl Aab Aad Aae 40 _ _ rfl (dG k.base A.b) rfl rfl (L:=zkA.toList) e1 (aGw Aab) Aab Aab (λX2 hk2 e2=>?_);have hk2:=hk1.trans hk2;clear hk1 e1;refine bH 27 60 rfl Aab Aab Aab Aab Aab (λ_ _ _ _ h=>h) (λK hK=>?_);go_simp
 first
  |(refine hK _ ?_;clear hK K)
  |(apply Exists.intro
    refine⟨λ_=>?_,hK _ ?_⟩
    (rfl)
    clear hK K)
 refine Dx 28 9 rfl Aab Aad Aae 40 _ _ rfl (dG k.node A.n) rfl rfl e2 (aGw Aab) Aab Aab (λX3 hk3 e3=>?_);have hk3:=hk2.trans hk3;clear hk2 e2;generalize hL3:GR.setRun (GR.setRun zkA.toList 0 (dG k.base A.b).toList) 9 (dG k.node A.n).toList=L3 at *;have hl3:L3.length=22:=by rw [<-hL3];kernel_rfl
 have rU:=Hq hL3;clear hL3;refine bH 29 60 rfl Aab Aab Aab Aab Aab (λ_ _ _ _ h=>h) (λK hK=>?_);go_simp
 first
  |(refine hK _ ?_;clear hK K)
  |(apply Exists.intro
    refine⟨λ_=>?_,hK _ ?_⟩
    (rfl)
    clear hK K)
 refine qY 30 rfl Aab Aad Aae (λx hx=>?_);have ex:=au e3 hx;have q:=aGu x r 18 _ 44 (0,0) ex;rw [aHN,aGo (show 18 < L3.length by omega)] at q;have qf:=aj ex 18;go_simp;refine⟨aC.set _,?_⟩;have e4:=aT ex 18 (.string k.log);have hk4:=(hk3.trans (aC.of_below hx)).trans (aC.set (g:=r) (i:=18) (.string k.log));clear ex q qf hx e3 hk3;generalize x.setCell ⟨r,18,none⟩ (.string k.log)=X4 at *;obtain⟨L4,hL4⟩:∃L,L=L3.set 18 (.string k.log):=⟨_,rfl⟩;rw [aH8,<-hL4] at e4;have hl4:L4.length=22:=by rw [hL4,aHU];exact hl3
 have Ie:=Hq hL4;clear hL4 hl3;refine bH 31 60 rfl Aab Aab Aab Aab Aab (λ_ _ _ _ h=>h) (λK hK=>?_);go_simp
 first
  |(refine hK _ ?_;clear hK K)
  |(apply Exists.intro
    refine⟨λ_=>?_,hK _ ?_⟩
    (rfl)
    clear hK K)
 refine qY 32 rfl Aab Aad Aae (λx hx=>?_);have ex:=au e4 hx;have q:=aGu x r 19 _ 44 (0,0) ex;rw [aHN,aGo (show 19 < L4.length by omega)] at q;have qf:=aj ex 19;go_simp;refine⟨aC.set _,?_⟩;have e5:=aT ex 19 (.int .i64 k.safe);have hk5:=(hk4.trans (aC.of_below hx)).trans (aC.set (g:=r) (i:=19) (.int .i64 k.safe));clear ex q qf hx e4 hk4;generalize x.setCell ⟨r,19,none⟩ (.int .i64 k.safe)=X5 at *;obtain⟨L5,hL5⟩:∃L,L=L4.set 19 (.int .i64 k.safe):=⟨_,rfl⟩;rw [aH8,<-hL5] at e5;have hl5:L5.length=22:=by rw [hL5,aHU];exact hl4
 have HL5:=Hq hL5;clear hL5 hl4;refine bH 33 60 rfl Aab Aab Aab Aab Aab (λ_ _ _ _ h=>h) (λK hK=>?_);go_simp
 first
  |(refine hK _ ?_;clear hK K)
  |(apply Exists.intro
    refine⟨λ_=>?_,hK _ ?_⟩
    (rfl)
    clear hK K)
 refine qY 34 rfl Aab Aad Aae (λx hx=>?_);have ex:=au e5 hx;have q:=aGu x r 20 _ 44 (0,0) ex;rw [aHN,aGo (show 20 < L5.length by omega)] at q;have qf:=aj ex 20;go_simp;refine⟨aC.set _,?_⟩;have e6:=aT ex 20 (.slice A.wa k.wait.length A.wc);have Sy:=(hk5.trans (aC.of_below hx)).trans (aC.set (g:=r) (i:=20) (.slice A.wa k.wait.length A.wc));clear ex q qf hx e5 hk5;generalize x.setCell ⟨r,20,none⟩ (.slice A.wa k.wait.length A.wc)=X6 at *;obtain⟨L6,hL6⟩:∃L,L=L5.set 20 (.slice A.wa k.wait.length A.wc):=⟨_,rfl⟩;rw [aH8,<-hL6] at e6;have hl6:L6.length=22:=by rw [hL6,aHU];exact hl5
 have HL6:=Hq hL6;clear hL6 hl5;refine bH 35 60 rfl Aab Aab Aab Aab Aab (λ_ _ _ _ h=>h) (λK hK=>?_);go_simp
 first
  |(refine hK _ ?_;clear hK K)
  |(apply Exists.intro
    refine⟨λ_=>?_,hK _ ?_⟩
    (rfl)
    clear hK K)
 refine Bp Aab (λx hx=>?_);have ex:=au e6 hx;have q:=aGu x r 21 _ 44 (0,0) ex;rw [aHN,aGo (show 21 < L6.length by omega)] at q;have qf:=aj ex 21;refine aG 36 rfl Aab Aad ?_;go_simp;refine wpAny_done Aab ?_;unfold abH;dsimp only;have e7:=aT ex 21 (.slice A.aa k.asked.length A.ac);have hk7:=(Sy.trans (aC.of_below hx)).trans (aC.set (g:=r) (i:=21) (.slice A.aa k.asked.length A.ac));clear ex q qf hx e6 Sy;generalize x.setCell ⟨r,21,none⟩ (.slice A.aa k.asked.length A.ac)=X7 at *;rw [aH8,ah HL6,ah HL5,ah Ie,<-ah rU] at e7;have HG7:=Hq (hk7.obj Dz (by simpa using hgr));have HK7:=Hq (show aC [g] w X7 from⟨hk7.os.trans BG.os,hk7.tape.trans BG.tape,hk7.output.trans BG.output,aGm BG.size hk7.size,λx hx hF=>(hk7.block x (aGq hx BG.size) Aag).trans (BG.block x hx hF)⟩);have HR7:=Hq (KR.blk (V:=zy k A) (show X7.heap[r]?=some (.cells (zy k A).toArray 44 (0,0)) from e7.trans Aab));clear e7 hk7 rU Ie HL5 HL6 Dz BG HE1;go_wp2_with fail;refine leaves_cons (f:=71) (args:=#[.pointer (some ⟨g,9,none⟩)]) Aac (by simp[go_sem]) ?_;refine(unlock_deferred Xf ⟨g,9,none⟩ .returning _ (gG HG7 9) (aj HG7 9)).mono ?_;rintro e u' w'' ⟨rfl,rfl,rfl⟩;exact⟨_,CG rfl _ _ r (zy k A) _ rfl (HR7.keeps (aC.set (g:=g) (i:=9) (.int .i32 0)) (by simpa using hgr.symm)).r underlying44 rfl Aab,rfl,HK7.trans (aC.set _)⟩
end Go.Proofs.YtohmklmkjmlpjaaGreatDoor
