/- Parts. -/
import Derived.Test.YtbolgdleijjgfaaGreatDoorRs24
import Derived.Test.YtbolgdleijjgfaaGreatDoorRs31
namespace Go.Proofs.YtbolgdleijjgfaaGreatDoor
open Go.Proofs.Tryz
set_option maxHeartbeats 8000000
set_option maxRecDepth 100000
open Go.RowKit
open Mth
theorem O9 {g:Nat} {t:TypeId}:∀(vs:List Value) (o:Nat) (w:World) (cs:Array Value),w.heap[g]?=some (.cells cs t (0,0))->(∀(j:Nat) v,vs[j]?=some v->w.cell? ⟨g,o+j,none⟩=some v)->Below w.heap.size w (GR.setW w g o vs):=by
 intro vs;induction vs with
 |nil=>intro o w cs _ _;exact aEY _ _
 |cons v vs ih=>
  intro o w cs h hc;have h1:=nu h (hc 0 v rfl);have hl:=ay h
  have h2:=ih (o+1) _ cs (aj h h1) (λj u hj=>by
   have h3:=hc (j+1) u hj
   rw [show o+1+j=o+(j+1) by omega]
   exact(h1.cell (p:=⟨g,o+(j+1),none⟩) hl).trans h3)
  exact h1.trans (h2.mono h1.size)
theorem flat_one {α:Type} {en:α->List Value} (h:∀x,(en x).all (·.oneCell')=true) (l:List α):∀u∈GR.flat en l,u.oneCell'=true:=by
 intro u hu;unfold GR.flat at hu;rw [aGa] at hu;obtain⟨p,_,hp⟩:=hu;exact aGz.1 (h p) u hp
theorem ae2 (a:Option Addr) (cap:Nat) (l:List Mg) (w:World) (hl:l.length<=1048600) (hv:∀u∈GR.flat gD l,u.oneCell'=true) (ha:GR.At gD 7 w a l):
 Calls prog 111 #[.slice a l.length cap] w λe w'=>∃v,e= .returned v/\w'.ownsRow w.heap.size 70 7 v l.length (GR.flat gD l)/\aH w w':=by
 obtain⟨i0,hi,hz0,hz1,hz2⟩:=aFm FM;have q22:∀(w:World) (a:Option Addr) (n c n' c':Nat),(binOp .eql 40 (.slice a n c) (.slice none n' c')).run prog w= .ok (.bool a.isNone) w:=λw a n c n' c'=>aGd w _ _ a n c n' c' underlying40
 have hlit:(w.alloc (.cells #[] 70)).ownsRow w.heap.size 70 7 (.slice (some ⟨w.heap.size,0,none⟩) 0 0) 0 []:=aFw (base:=w.heap.size) (e:=70) (size:=7) w #[] 0 (aEM _) Aae rfl;cases a with
 |none=>
  have hl0:l=[]:=GR.none_nil ha;subst hl0;clear ha hlit hv;go_in
  exact Te
 |some x=>
  have HN:=Hq (F9 cZ Aaa (GR.At.below ha (au w (.cells #[] 70))));have HV:=Hq hv;clear ha hv;go_in
  go_wp2_with (at_builtin;refine aFG _ rfl _ _ 40 rfl w.heap.size 70 i0 (.agg (bQ 0 0 0 0 0 ByteArray.empty 0)) 7 64 underlying40 hi hz0 hz1 hz2 rfl Aae _ 0 [] rfl hlit x l.length cap (GR.flat gD l) rfl ?c0 ?c1 ?c2 ?c3 ?c4 ?c5 ?_)
  case c0=>exact GR.flat_length gD 7 cZ l
  case c1=>exact HN
  case c2=>exact HV
  case c3=>unfold maxLen;omega
  case c4=>omega
  case c5=>simp
  intro v' w1 hown' hgrow _;have HO:=Hq (show w1.ownsRow w.heap.size 70 7 v' l.length (GR.flat gD l) by simpa using hown');exact XT
theorem ae0 (a:Option Addr) (cap:Nat) (l:List An) (w:World) (hl:l.length<=1048600) (hv:∀u∈GR.flat dQ l,u.oneCell'=true) (ha:GR.At dQ 12 w a l):
 Calls prog 112 #[.slice a l.length cap] w λe w'=>∃v,e= .returned v/\w'.ownsRow w.heap.size 75 12 v l.length (GR.flat dQ l)/\aH w w':=by
 obtain⟨i0,hi,hz0,hz1,hz2⟩:=aFm wJ;have q22:∀(w:World) (a:Option Addr) (n c n' c':Nat),(binOp .eql 41 (.slice a n c) (.slice none n' c')).run prog w= .ok (.bool a.isNone) w:=λw a n c n' c'=>aGd w _ _ a n c n' c' underlying41
 have hlit:(w.alloc (.cells #[] 75)).ownsRow w.heap.size 75 12 (.slice (some ⟨w.heap.size,0,none⟩) 0 0) 0 []:=aFw (base:=w.heap.size) (e:=75) (size:=12) w #[] 0 (aEM _) Aae rfl;cases a with
 |none=>
  have hl0:l=[]:=GR.none_nil ha;subst hl0;clear ha hlit hv;go_in
  exact Te
 |some x=>
  have HN:=Hq (F9 aQ Aaa (GR.At.below ha (au w (.cells #[] 75))));have HV:=Hq hv;clear ha hv;go_in
  go_wp2_with (at_builtin;refine aFG _ rfl _ _ 41 rfl w.heap.size 75 i0 (.agg #[.int .i64 0,.int .i64 0,.string ByteArray.empty,.int .i64 0,.int .i64 0,.int .i64 0,.int .i64 0,.int .i64 0,.int .i64 0,.string ByteArray.empty,.int .i64 0,.int .i64 0]) 12 112 underlying41 hi hz0 hz1 hz2 rfl Aae _ 0 [] rfl hlit x l.length cap (GR.flat dQ l) rfl ?c0 ?c1 ?c2 ?c3 ?c4 ?c5 ?_)
  case c0=>exact GR.flat_length dQ 12 aQ l
  case c1=>exact HN
  case c2=>exact HV
  case c3=>unfold maxLen;omega
  case c4=>omega
  case c5=>simp
  intro v' w1 hown' hgrow _;have HO:=Hq (show w1.ownsRow w.heap.size 75 12 v' l.length (GR.flat dQ l) by simpa using hown');exact XT
theorem Ub (o:gJ) (w:World) (h1:o.k.size<=1048576) (h2:o.m.k.size<=1048576):Calls prog 113 #[.agg (bJ o.K o.no o.k o.n o.m.K o.m.F o.m.T o.m.I o.m.L o.m.k o.m.N)] w (dM w (.agg (bJ o.K o.no o.k o.n o.m.K o.m.F o.m.T o.m.I o.m.L o.m.k o.m.N))):=by
 obtain⟨K,no,k,n,mK,mF,mT,mI,mL,mk,mN⟩:=o;dsimp only at h1 h2 ⊢;obtain⟨hX,hY,hB⟩:=fU w (.cells (bJ K no k n mK mF mT mI mL mk mN) 73) (.cells (bJ 0 0 ⟨#[]⟩ 0 0 0 0 0 0 ⟨#[]⟩ 0) 73);go_in
 go_upto_region 1 with fail;refine wp_at (λW hW=>?_);rw [<-hW] at hX hY hB;clear hW;obtain⟨⟨x0,x1,x2,x3,x4,x5,x6,x7,x8,x9,x10⟩,_⟩:=aJ hX;have HX:=Hq hX;have HY:=Hq hY;have HB:=Hq hB;clear hX hY hB;go_wp2_with fail;refine(clone k _ Aaa).mono ?_;rintro e W1 ⟨rfl,hb1⟩;have zC:=Hq (aj HX hb1);have VB:=Hq (aj HY hb1);have HB1:=Hq (HB.trans (hb1.mono HB.size));clear hb1 x0 x1 x2 x3 x4 x5 x6 x7 x8 x9 x10 HX HY HB;have f2:=aC zC 2;obtain⟨⟨x0,x1,x2,x3,x4,x5,x6,x7,x8,x9,x10⟩,_⟩:=aJ zC;go_upto_region 2 with fail;refine wp_at (λW2 hW=>?_);have hs:aH W1 W2:=by rw [hW];exact nu zC x2
 have JN:=Hq (aj zC hs);have HY2:=Hq (aj VB hs);have HB2:=Hq (HB1.trans (hs.mono HB1.size));clear hW hs f2 x0 x1 x2 x3 x4 x5 x6 x7 x8 x9 x10 zC VB HB1;obtain⟨⟨x0,x1,x2,x3,x4,x5,x6,x7,x8,x9,x10⟩,_⟩:=aJ JN;go_wp2_with fail;refine(clone mk _ Aaa).mono ?_;rintro e W3 ⟨rfl,hb3⟩;have Lp:=Hq (aj JN hb3);have HY3:=Hq (aj HY2 hb3);have HB3:=Hq (HB2.trans (hb3.mono HB2.size));clear hb3 x0 x1 x2 x3 x4 x5 x6 x7 x8 x9 x10 JN HY2 HB2;have f9:=aC Lp 9;obtain⟨⟨x0,x1,x2,x3,x4,x5,x6,x7,x8,x9,x10⟩,_⟩:=aJ Lp;go_upto_region 3 with fail;refine wp_at (λW4 hW=>?_);have hs:aH W3 W4:=by rw [hW];exact nu Lp x9
 have HX4:=Hq (aj Lp hs);have HY4:=Hq (aj HY3 hs);have mQ:=Hq (HB3.trans (hs.mono HB3.size));clear hW hs f9 x0 x1 x2 x3 x4 x5 x6 x7 x8 x9 x10 Lp HY3 HB3;obtain⟨⟨x0,x1,x2,x3,x4,x5,x6,x7,x8,x9,x10⟩,_⟩:=aJ HX4;obtain⟨⟨y0,y1,y2,y3,y4,y5,y6,y7,y8,y9,y10⟩,f0,f1,f2,f3,f4,f5,f6,f7,f8,f9,f10⟩:=aJ HY4;go_wp2_with fail;refine iw (λW' hW'=>?_);have hY':W'.heap[w.heap.size+1]?=some (.cells (bJ K no k n mK mF mT mI mL mk mN) 73 (0,0)):=by rw [hW'];exact lF HY4
 have hB':aH w W':=by rw [hW'];exact iF mQ Aaa
 clear hW';obtain⟨⟨r0,r1,r2,r3,r4,r5,r6,r7,r8,r9,r10⟩,_⟩:=aJ hY';exact aET (v:= .agg (bJ K no k n mK mF mT mI mL mk mN)) (by simp[results,results113,go_sem,r0,r1,r2,r3,r4,r5,r6,r7,r8,r9,r10]) rfl ⟨rfl,hB'⟩
theorem Mj (a:Option Addr) (cap:Nat) (l:List Mg) (w:World) (hl:l.length<=1048576) (hk:∀x∈l,x.k.size<=1048576) (ha:GR.At gD 7 w a l):
 Calls prog 60 #[.slice a l.length cap] w λe w'=>∃v,e= .returned v/\w'.ownsRow w.heap.size 70 7 v l.length (GR.flat gD l)/\aH w w':=by
 have jJ:=Hq (ae2 a cap l w Aaa (flat_one (λ_=>rfl) l) ha);have Sr:=Hq hk;clear ha hk;go_in
 go_wp2_with fail;refine jJ.mono ?_;rintro e w1 ⟨v,rfl,hown,hb1⟩;obtain⟨a',c',rfl,_⟩:=GR.own_at (enc:=gD) (sz:=7) cZ hown;have HO:=Hq hown;have HB1:=Hq hb1;clear hown hb1 jJ;go_wp2_with fail;go_loopw [9] (λi wr=>∃k:Nat,k<=l.length/\i= .int .i64 k/\aH w1 wr) (λi _=>l.length - (intOf i).toNat)
 case atStart=>exact BP
 case round=>
  obtain⟨k,hk,rfl,hbel⟩:=hrel;have aY:=Hq hbel;clear hbel;by_cases hlt:k < l.length
  .open atd in exact agO
  .exact ahM
theorem D8 (a:Option Addr) (cap:Nat) (l:List An) (w:World) (hl:l.length<=1048576) (hk:∀x∈l,x.o.k.size<=1048576/\x.o.m.k.size<=1048576) (ha:GR.At dQ 12 w a l):
 Calls prog 61 #[.slice a l.length cap] w λe w'=>∃v,e= .returned v/\w'.ownsRow w.heap.size 75 12 v l.length (GR.flat dQ l)/\aH w w':=by
 have jJ:=Hq (ae0 a cap l w Aaa (flat_one (λ_=>rfl) l) ha);have Sr:=Hq hk;clear ha hk;go_in
 go_wp2_with fail;refine jJ.mono ?_;rintro e w1 ⟨v,rfl,hown,hb1⟩;obtain⟨a',c',rfl,_⟩:=GR.own_at (enc:=dQ) (sz:=12) aQ hown;have HO:=Hq hown;have HB1:=Hq hb1;clear hown hb1 jJ;go_wp2_with fail;go_loopw [9] (λi wr=>∃k:Nat,k<=l.length/\i= .int .i64 k/\aH w1 wr) (λi _=>l.length - (intOf i).toNat)
 case atStart=>exact BP
 case round=>
  obtain⟨k,hk,rfl,hbel⟩:=hrel;have aY:=Hq hbel;clear hbel;by_cases hlt:k < l.length
  .open atc in exact agO
  .exact ahM
abbrev hkG (k:Kp) (A:KA) (st:Int) (l r:Bool):Array Value:=#[.int .i64 k.node.id,.int .i64 k.node.par,.slice A.n.k k.node.kids.length A.n.ck,.int .i64 k.node.next,.slice A.n.p k.node.pu.length A.n.cp,.slice A.n.o k.node.out.length A.n.co,.slice A.n.s k.node.seen.length A.n.cs,.int .i64 k.node.old,.slice A.n.r k.node.reqs.length A.n.cr,.int .i32 st,.int .u32 0,.int .i64 k.base.id,.int .i64 k.base.par,.slice A.b.k k.base.kids.length A.b.ck,.int .i64 k.base.next,.slice A.b.p k.base.pu.length A.b.cp,.slice A.b.o k.base.out.length A.b.co,.slice A.b.s k.base.seen.length A.b.cs,.int .i64 k.base.old,.slice A.b.r k.base.reqs.length A.b.cr,.string k.log,.int .i64 k.safe,.slice A.wa k.wait.length A.wc,.slice A.aa k.asked.length A.ac,.bool l,.bool r]
structure KH (lo m1 m2 m3 g:Nat) (w:World) (A:KA) (k:Kp):Prop where
 n:∃G,gU w A.n G k.node/\(G.all k.node).Nodup/\∀x∈G.all k.node,lo<=x/\x < m1
 b:∃G,gU w A.b G k.base/\(G.all k.base).Nodup/\∀x∈G.all k.base,m1<=x/\x < m2
 wt:w.ownsRow m2 70 7 (.slice A.wa k.wait.length A.wc) k.wait.length (GR.flat gD k.wait)/\∀x,(Value.slice A.wa k.wait.length A.wc).ownBlock=some x->x < m3
 sk:w.ownsRow m3 75 12 (.slice A.aa k.asked.length A.ac) k.asked.length (GR.flat dQ k.asked)/\∀x,(Value.slice A.aa k.asked.length A.ac).ownBlock=some x->x < g
 le:lo<=m1/\m1<=m2/\m2<=m3/\m3<=g/\g<=w.heap.size
theorem KH.keeps {lo m1 m2 m3 g:Nat} {w w':World} {A:KA} {k:Kp} {F:List Nat} (h:KH lo m1 m2 m3 g w A k) (hk:aA F w w') (hF:∀x∈F,g<=x\/x < lo):KH lo m1 m2 m3 g w' A k:=by
 obtain⟨⟨G1,n1,d1,r1⟩,⟨G2,n2,d2,r2⟩,⟨hw,bw⟩,⟨ha,ba⟩,l1,l2,l3,l4,l5⟩:=h;have hs:=hk.size;refine⟨⟨G1,n1.keeps hk (λx hx hm=>?_),d1,r1⟩,⟨G2,n2.keeps hk (λx hx hm=>?_),d2,r2⟩,⟨jA hw (λx hx=>hk.block x (Cu hw hx) (λhm=>?_)),bw⟩,⟨jA ha (λx hx=>hk.block x (Cu ha hx) (λhm=>?_)),ba⟩,l1,l2,l3,l4,Aaa⟩
 .have:=r1 x hx;have:=hF x hm;omega
 .have:=r2 x hx;have:=hF x hm;omega
 .have:=bw x hx;have:=vw hw hx;have:=hF x hm;omega
 .have:=ba x hx;have:=vw ha hx;have:=hF x hm;omega
theorem KH.below {lo m1 m2 m3 g:Nat} {w w':World} {A:KA} {k:Kp} (h:KH lo m1 m2 m3 g w A k) (hb:aH w w'):KH lo m1 m2 m3 g w' A k:=h.keeps (F:=[]) (aA.of_below hb) (λ_ hx=>Aaz)
theorem KH.at {lo m1 m2 m3 g:Nat} {w:World} {A:KA} {k:Kp} (h:KH lo m1 m2 m3 g w A k):jo w A k:=by
 obtain⟨⟨_,n1,_⟩,⟨_,n2,_⟩,⟨hw,_⟩,⟨ha,_⟩,_⟩:=h;obtain⟨_,_,e1,h1⟩:=GR.own_at (enc:=gD) (sz:=7) cZ hw;obtain⟨_,_,e2,h2⟩:=GR.own_at (enc:=dQ) (sz:=12) aQ ha;injection e1 with e1 _ _
 injection e2 with e2 _ _
 exact⟨n2.at,n1.at,by rw [e1];exact h1,by rw [e2];exact h2⟩
theorem xL {w:World} {b:Nat} {cs:Array Value} {t:TypeId} {o:Nat} {vs:List Value} (h:w.heap[b]?=some (.cells cs t (0,0))) (hv:∀j v,vs[j]?=some v->cs[o+j]?=some v):w.rangeAt b o vs:=λj v hj=>by
 rw [aEW w b (o+j) _ t (0,0) h];exact hv j v hj
theorem uY {j:Nat} (h:j < 9):j=0\/j=1\/j=2\/j=3\/j=4\/j=5\/j=6\/j=7\/j=8:=Aaa
theorem sU {w:World} {g:Nat} {k:Kp} {A:KA} {t:TypeId} (h:w.heap[g]?=some (.cells (AA k A).toArray t (0,0))):w.rangeAt g 0 (dH k.base A.b).toList/\w.rangeAt g 9 (dH k.node A.n).toList:=by
 refine⟨xL h (λj v hj=>?_),xL h (λj v hj=>?_)⟩
 .have hj9:j < 9:=(aFF.1 hj).1;rcases uY hj9 with rfl|rfl|rfl|rfl|rfl|rfl|rfl|rfl|rfl<;>exact hj
 .have hj9:j < 9:=(aFF.1 hj).1;rcases uY hj9 with rfl|rfl|rfl|rfl|rfl|rfl|rfl|rfl|rfl<;>exact hj
theorem acj (k:Kp) (A:KA) (w:World) (hz:oI k 1048576) (ha:jo w A k):
 Calls prog 28 #[I8 k A] w λe w'=>∃A' m1 m2 m3 g,e= .returned (.pointer (some ⟨g,0,none⟩))/\w'.heap[g]?=some (.cells (hkG k A' 0 false false) 115 (0,0))/\KH w.heap.size m1 m2 m3 g w' A' k/\aH w w':=by
 have CY:=Hq (λW (h:aH w W)=>uO k.base A.b W hz.b (ha.below h).kb);have NW:=Hq (λW (h:aH w W)=>uO k.node A.n W hz.n (ha.below h).kn);have HCW:=Hq (λW (h:aH w W)=>Mj A.wa A.wc k.wait W hz.w hz.wk (ha.below h).kw);have HCA:=Hq (λW (h:aH w W)=>D8 A.aa A.ac k.asked W hz.a hz.ak (ha.below h).ka);have hlg:=hz.l;clear hz ha;go_in
 go_upto_region 1 with fail;refine wp_at (λW0 hW=>?_);have e1:W0.heap[w.heap.size]?=some (.cells (AA k A).toArray 43 (0,0)):=by rw [hW];exact aEK w _
 have e2:aH w W0:=by rw [hW];exact au _ _
 have HK:=Hq e1;have HB0:=Hq e2;have hl0:=ay e1;clear hW e1 e2;refine I9 20 ?_;have y18:=aEL (show W0.cell? ⟨w.heap.size,18,none⟩=some (.string k.log) from aEW W0 w.heap.size 18 _ 43 (0,0) HK);have y19:=aEL (show W0.cell? ⟨w.heap.size,19,none⟩=some (.int .i64 k.safe) from aEW W0 w.heap.size 19 _ 43 (0,0) HK);have y20:=aEL (show W0.cell? ⟨w.heap.size,20,none⟩=some (.slice A.wa k.wait.length A.wc) from aEW W0 w.heap.size 20 _ 43 (0,0) HK);have y21:=aEL (show W0.cell? ⟨w.heap.size,21,none⟩=some (.slice A.aa k.asked.length A.ac) from aEW W0 w.heap.size 21 _ 43 (0,0) HK);obtain⟨hr0,hr1⟩:=sU HK;refine tk [0] ?_;(refine iO (λK hK=>?_);go_simp;first|refine hK _ ?_|(apply Exists.intro;refine⟨λ_=>?_,hK _ ?_⟩;rfl);clear hK K)
 refine jf ?_;refine lS 1 rfl Aab Aab Aab (λ_ _ _ _ h=>h) Aad 39 _ rfl w.heap.size 9 rfl (dH k.node A.n).toList _ hr1 hl0 underlying39 rfl Aab ?_;refine tk [3] ?_;(refine iO (λK hK=>?_);go_simp;first|refine hK _ ?_|(apply Exists.intro;refine⟨λ_=>?_,hK _ ?_⟩;rfl);clear hK K)
 refine jf ?_;refine lS 4 rfl Aab Aab Aab (λ_ _ _ _ h=>h) Aad 39 _ rfl w.heap.size 0 rfl (dH k.base A.b).toList _ hr0 hl0 underlying39 rfl Aab ?_;refine tk [6,7,9,10,11,12,14,15] ?_;iterate 8 (refine iO (λK hK=>?_);go_simp;first|refine hK _ ?_|(apply Exists.intro;refine⟨λ_=>?_,hK _ ?_⟩;rfl);clear hK K)
 refine jf ?_;clear y18 y19 y20 y21 HK hl0 hr0 hr1;refine eZ 2 rfl Aab Aad (λx2 hx2=>?_);go_simp;have g2:aH w x2:=Ge.trans HB0 hx2;refine(NW x2 g2).mono ?_;rintro e z2 ⟨A1,G1,cc1,rfl,hN1,hy2⟩;refine⟨hy2,?_⟩;have HG2:=Hq (show aH w z2 from Ge.trans g2 hy2);obtain⟨H1,hN,hS,_⟩:=hN1.full;have yu:=Hq hN;have HD1:=Hq hS.nodup;have HR1:=Hq (show∀x∈H1.all k.node,w.heap.size<=x/\x < z2.heap.size from λx hx=>by have:=hS.rng x hx;have:=g2.size;omega);clear hN1 hN hS hx2 hy2 g2 HB0 NW;refine eZ 5 rfl Aab Aad (λx5 hx5=>?_);go_simp;have g5:aH w x5:=Ge.trans HG2 hx5;refine(CY x5 g5).mono ?_;rintro e z5 ⟨A2,G2,Pd,rfl,hN2,hy5⟩;refine⟨hy5,?_⟩;have uo:=Hq (show aH w z5 from Ge.trans g5 hy5);obtain⟨H2,hN,hS,_⟩:=hN2.full;have Hy:=Hq hN;have HD2:=Hq hS.nodup;have HR2:=Hq (show∀x∈H2.all k.base,z2.heap.size<=x/\x < z5.heap.size from λx hx=>by have:=hS.rng x hx;have:=hx5.size;omega);have HL2:=Hq (show w.heap.size<=z2.heap.size from HG2.size);have HU2:=Hq (show aH z2 z5 from Ge.trans hx5 hy5);clear hN2 hN hS hx5 hy5 g5 HG2 CY;refine eZ 8 rfl Aab Aad (λx8 hx8=>?_);go_simp;refine(clone k.log _ Aaa).mono ?_;rintro e z8 ⟨rfl,hy8⟩;refine⟨hy8,?_⟩;have HG8:=Hq (show aH w z8 from Ge.trans (Ge.trans uo hx8) hy8);have HU8:=Hq (show aH z5 z8 from Ge.trans hx8 hy8);clear hx8 hy8 uo;refine eZ 13 rfl Aab Aad (λx13 PO=>?_);go_simp;have g13:aH w x13:=Ge.trans HG8 PO;refine(HCW x13 g13).mono ?_;rintro e z13 ⟨v,rfl,hwt,PU⟩;refine⟨PU,?_⟩;have al7:=Hq (show aH w z13 from Ge.trans g13 PU);obtain⟨wa,wc,rfl,_⟩:=GR.own_at (enc:=gD) (sz:=7) cZ hwt;have HWT:=Hq (lu (B':=z5.heap.size) hwt (show z5.heap.size<=x13.heap.size from(Ge.trans HU8 PO).size));have HWL:=Hq (λx hx=>Cu hwt (x:=x) hx);have amD:=Hq (show aH z5 z13 from Ge.trans (Ge.trans HU8 PO) PU);clear hwt PO PU g13 HG8 HU8 HCW;refine eZ 16 rfl Aab Aad (λx16 hx16=>?_);go_simp;have g16:aH w x16:=Ge.trans al7 hx16;refine(HCA x16 g16).mono ?_;rintro e z16 ⟨v,rfl,hat,afm⟩;refine⟨afm,?_⟩;have azW:=Hq (show aH w z16 from Ge.trans g16 afm);obtain⟨aa,ac,rfl,_⟩:=GR.own_at (enc:=dQ) (sz:=12) aQ hat;have HAT:=Hq (lu (B':=z13.heap.size) hat (show z13.heap.size<=x16.heap.size from hx16.size));have HAL:=Hq (λx hx=>Cu hat (x:=x) hx);have amE:=Hq (show aH z13 z16 from Ge.trans hx16 afm);clear hat hx16 afm g16 al7 HCA;refine tk [17] ?_;(refine iO (λK hK=>?_);go_simp;first|refine hK _ ?_|(apply Exists.intro;refine⟨λ_=>?_,hK _ ?_⟩;rfl);clear hK K)
 refine jf ?_;refine eZ 18 rfl Aab Aad (λx18 Yv=>?_);go_simp;refine⟨au _ _,?_⟩;have amK:=Hq (show aH z16 x18 from Yv);clear Yv;refine eZ 19 rfl Aab Aad (λx19 ayZ=>?_);go_simp;refine⟨aEY _ _,?_⟩;refine dS Aab (λz hz=>?_);have HZ:=Hq (show Below (x18.alloc (.cells (hkG k ⟨A2,A1,wa,wc,aa,ac⟩ 0 false false) 115)).heap.size (x18.alloc (.cells (hkG k ⟨A2,A1,wa,wc,aa,ac⟩ 0 false false) 115)) z from Ge.trans ayZ hz);clear ayZ hz;go_wp2_with fail;have u16:aH z16 z:=Ge.trans amK (Ge.trans (au x18 _) HZ);have u13:aH z13 z:=Ge.trans amE u16;have u5:aH z5 z:=Ge.trans amD u13;have u2:aH z2 z:=Ge.trans HU2 u5;have s1:=(ah HL2);have s2:=HU2.size;have s3:=amD.size;have s4:=amE.size;have s5:=amK.size;have hg:=aj (aEK x18 (.cells (hkG k ⟨A2,A1,wa,wc,aa,ac⟩ 0 false false) 115)) HZ;have hgl:=ay hg
 exact aET (v:= .pointer (some ⟨x18.heap.size,0,none⟩)) (by simp[results,results28,go_sem]) rfl ⟨⟨A2,A1,wa,wc,aa,ac⟩,z2.heap.size,z5.heap.size,z13.heap.size,x18.heap.size,rfl,hg,
  ⟨⟨H1,yu.below u2,HD1,HR1⟩,⟨H2,Hy.below u5,HD2,HR2⟩,⟨GR.own_below HWT u13,λx hx=>HWL x hx⟩,⟨GR.own_below HAT u16,λx hx=>aEU (HAL x hx) s5⟩,s1,s2,s3,aEP s4 s5,Nat.le_of_lt hgl⟩,Ge.trans azW u16⟩
theorem aS {w:World} {g:Nat} {k:Kp} {A:KA} {st:Int} {lk rt:Bool} {t:TypeId} (h:w.heap[g]?=some (.cells (hkG k A st lk rt) t (0,0))) (i:Nat):w.cell? ⟨g,i,none⟩=(hkG k A st lk rt)[i]?:=aEW w g i _ t (0,0) h
theorem J4 {w:World} {g:Nat} {k:Kp} {A:KA} {st:Int} {lk rt:Bool} {t:TypeId} (h:w.heap[g]?=some (.cells (hkG k A st lk rt) t (0,0))):w.rangeAt g 0 (dH k.node A.n).toList/\w.rangeAt g 11 (dH k.base A.b).toList:=by
 refine⟨xL h (λj v hj=>?_),xL h (λj v hj=>?_)⟩
 .exact aiy
 .exact aiy
abbrev hkB (w:World) (g:Nat) (k:Kp) (A:KA) (st:Int) (lk rt:Bool):Prop:=w.heap[g]?=some (.cells (hkG k A st lk rt) 115 (0,0))
theorem hkB.lock {w:World} {g:Nat} {k:Kp} {A:KA} {st:Int} {lk rt:Bool} (h:hkB w g k A st lk rt) (st':Int):hkB (w.setCell ⟨g,9,none⟩ (.int .i32 st')) g k A st' lk rt:=aN h 9 _
theorem uD {w0 w w':World} {B g:Nat} (h:Below B w0 w) (hk:aA [g] w w') (hg:B<=g) (hB:B<=w.heap.size):Below B w0 w':=
 h.trans (hk.below (λx hx=>by rw [aE3.1 hx];exact hg) hB)
open Go.RowKit Go.MuLone
abbrev Sl:Array Value:=#[.int .i64 0,.int .i64 0,.slice none 0 0,.int .i64 0,.slice none 0 0,.slice none 0 0,.slice none 0 0,.int .i64 0,.slice none 0 0,.int .i64 0,.int .i64 0,.slice none 0 0,.int .i64 0,.slice none 0 0,.slice none 0 0,.slice none 0 0,.int .i64 0,.slice none 0 0,.string ByteArray.empty,.int .i64 0,.slice none 0 0,.slice none 0 0]
section
variable {P:Program} {ops:Array Oper} {Q:Exit->Act->World->Prop} {md:Region.Mode} {E r:Nat}
theorem Dx (i o:Nat) {oi:Oper} {fuel:Nat} {listed:Array Bool} {a:Act} {w:World} (hi:ops[i]?=some oi) (hr:Region.ready md ops listed=[i]) (hw:Region.wanted oi (yielded ops a.tmps)=true) (Ma:i≠E)
 (ty:TypeId) (x y:Operand) (ho:oi.op= .store ty x y) (cells:Array Value) (hx:a.eval x= .pointer (some ⟨r,o,none⟩)) (hy:a.eval y= .agg cells) {L:List Value} {t:TypeId} (hb:w.heap[r]?=some (.cells L.toArray t (0,0))) (hs:o+cells.size<=L.length)
 (hn:(P.info? ty).map (·.size)=some cells.size) (h1:cells.all (·.oneCell')=true)
 (h:∀X,aA [r] w X->X.heap[r]?=some (.cells (GR.setRun L o cells.toList).toArray t (0,0))->lK P md ops Q E r fuel (listed.setIfInBounds i true) (a.put oi.dst undef) X):lK P md ops Q E r (fuel+1) listed a w:=
 qW i hi hr hw Ma λX hX=>by
  have hbX:=aj hb hX
  refine wp_store_mid ty x y ho r o cells hx hy (λj hj=>⟨by rw [aEW X _ _ _ t (0,0) hbX];simp;omega,aC hbX _⟩) hn h1 ⟨eB _ _ _ _,h _ ((aA.of_below hX).trans (eB _ _ _ _)) ?_⟩
  rw [lH]
  exact GR.setW_blk cells.toList hbX
end
theorem PZ (k:Kp) (A:KA) (g:Nat) (lk rt:Bool) (w:World) (hg:hkB w g k A 0 lk rt):
 Calls prog 30 #[.pointer (some ⟨g,0,none⟩)] w λe w'=>e= .returned (.agg (AA k A).toArray)/\aA [g] w w':=by
 have hgl:=ay hg;have c9:(w.alloc (.cells Sl 43)).cell? ⟨g,9,none⟩=some (.int .i32 0):=aS (aj hg (au w (.cells Sl 43))) 9;have f9:=aC (aj hg (au w (.cells Sl 43))) 9;have HG:=Hq hg;clear hg;go_enter_defers func30,ntmps30
 go_wp2_with (go_at_call 62;refine(lock_free Qu ⟨g,9,none⟩ _ c9 f9).mono ?_;rintro e w' ⟨rfl,rfl⟩)
 clear c9 f9;refine wp_at (λW hW=>?_);have zI:Hid (hkB W g k A 1 lk rt):=by subst hW;exact aj ((show hkB w g k A 0 lk rt from HG).lock 1) (au _ _)
 have zx:Hid (aA [g] w W):=by subst hW;exact(aA.set _).trans (aA.of_below (au _ _))
 have BA:Hid (W.heap[w.heap.size]?=some (.cells Sl 43 (0,0))):=by
  subst hW;have h:=aEK (w.setCell ⟨g,9,none⟩ (.int .i32 1)) (.cells Sl 43);rwa [show(w.setCell ⟨g,9,none⟩ (.int .i32 1)).heap.size=w.heap.size by simp[World.setCell]] at h
 clear hW HG;generalize hr:w.heap.size=r at *;have hgr:g≠r:=Aaa
 have hgl:=ay zI;obtain⟨hr0,hr1⟩:=J4 zI;have y20:=kZ (r:=r) (show W.cell? ⟨g,20,none⟩=some (.string k.log) from aS zI 20) hgr;have y21:=kZ (r:=r) (show W.cell? ⟨g,21,none⟩=some (.int .i64 k.safe) from aS zI 21) hgr;have y22:=kZ (r:=r) (show W.cell? ⟨g,22,none⟩=some (.slice A.wa k.wait.length A.wc) from aS zI 22) hgr;have y23:=kZ (r:=r) (show W.cell? ⟨g,23,none⟩=some (.slice A.aa k.asked.length A.ac) from aS zI 23) hgr;refine Xr ?_;refine rg 36 (aA [r]) 37 ?_;refine tk [0,1,2] ?_;iterate 3 (refine JD 60 (yg _) (λK hK=>?_);go_simp;first|refine hK _ ?_|(apply Exists.intro;refine⟨λ_=>?_,hK _ ?_⟩;rfl);clear hK K)
 refine jf ?_;refine nO 3 60 rfl Aab Aab Aab Aab Aab (λ_ _ _ _ h=>h) Aad 39 _ rfl g 11 rfl (dH k.base A.b).toList _ hr1 ⟨hgl,hgr⟩ underlying39 rfl Aab ?_;refine tk [4,5,6] ?_;iterate 3 (refine JD 60 (yg _) (λK hK=>?_);go_simp;first|refine hK _ ?_|(apply Exists.intro;refine⟨λ_=>?_,hK _ ?_⟩;rfl);clear hK K)
 refine jf ?_;refine nO 7 60 rfl Aab Aab Aab Aab Aab (λ_ _ _ _ h=>h) Aad 39 _ rfl g 0 rfl (dH k.node A.n).toList _ hr0 ⟨hgl,hgr⟩ underlying39 rfl Aab ?_;refine tk [8,9,10,11,12,13,14,15,16,17,18,19,20,21,22,23] ?_;iterate 16 (refine JD 60 (yg _) (λK hK=>?_);go_simp;first|refine hK _ ?_|(apply Exists.intro;refine⟨λ_=>?_,hK _ ?_⟩;rfl);clear hK K)
 refine jf ?_;clear y20 y21 y22 y23 hr0 hr1;refine zu 24 rfl Aab Aad Aae 43 _ _ rfl Sl rfl rfl BA rfl Aab Aab (λX1 hk1 e1=>?_);refine tk [25] ?_;(refine JD 60 (yg _) (λK hK=>?_);go_simp;first|refine hK _ ?_|(apply Exists.intro;refine⟨λ_=>?_,hK _ ?_⟩;rfl);clear hK K)
 refine jf ?_;refine Dx 26 0 rfl Aab Aad Aae 39 _ _ rfl (dH k.base A.b) rfl rfl (L:=Sl.toList) e1 (aE5 Aab) Aab Aab (λX2 hk2 e2=>?_);have hk2:=hk1.trans hk2;clear hk1 e1;refine tk [27] ?_;(refine JD 60 (yg _) (λK hK=>?_);go_simp;first|refine hK _ ?_|(apply Exists.intro;refine⟨λ_=>?_,hK _ ?_⟩;rfl);clear hK K)
 refine jf ?_;refine Dx 28 9 rfl Aab Aad Aae 39 _ _ rfl (dH k.node A.n) rfl rfl e2 (aE5 Aab) Aab Aab (λX3 hk3 e3=>?_);have hk3:=hk2.trans hk3;clear hk2 e2;generalize hL3:GR.setRun (GR.setRun Sl.toList 0 (dH k.base A.b).toList) 9 (dH k.node A.n).toList=L3 at *;have hl3:L3.length=22:=by rw [<-hL3];kernel_rfl
 have qX:=Hq hL3;clear hL3;refine tk [29] ?_;(refine JD 60 (yg _) (λK hK=>?_);go_simp;first|refine hK _ ?_|(apply Exists.intro;refine⟨λ_=>?_,hK _ ?_⟩;rfl);clear hK K)
 refine jf ?_;refine qW 30 rfl Aab Aad Aae (λx hx=>?_);have ex:=aj e3 hx;have q:=aEW x r 18 _ 43 (0,0) ex;rw [aGi,aEQ (show 18 < L3.length by omega)] at q;have qf:=aC ex 18;go_simp;refine⟨aA.set _,?_⟩;have e4:=aN ex 18 (.string k.log);have hk4:=(hk3.trans (aA.of_below hx)).trans (aA.set (g:=r) (i:=18) (.string k.log));clear ex q qf hx e3 hk3;generalize x.setCell ⟨r,18,none⟩ (.string k.log)=X4 at *;obtain⟨L4,hL4⟩:∃L,L=L3.set 18 (.string k.log):=⟨_,rfl⟩;rw [aGs,<-hL4] at e4;have hl4:L4.length=22:=by rw [hL4,aF1];exact hl3
 have Ij:=Hq hL4;clear hL4 hl3;refine tk [31] ?_;(refine JD 60 (yg _) (λK hK=>?_);go_simp;first|refine hK _ ?_|(apply Exists.intro;refine⟨λ_=>?_,hK _ ?_⟩;rfl);clear hK K)
 refine jf ?_;refine qW 32 rfl Aab Aad Aae (λx hx=>?_);have ex:=aj e4 hx;have q:=aEW x r 19 _ 43 (0,0) ex;rw [aGi,aEQ (show 19 < L4.length by omega)] at q;have qf:=aC ex 19;go_simp;refine⟨aA.set _,?_⟩;have e5:=aN ex 19 (.int .i64 k.safe);have hk5:=(hk4.trans (aA.of_below hx)).trans (aA.set (g:=r) (i:=19) (.int .i64 k.safe));clear ex q qf hx e4 hk4;generalize x.setCell ⟨r,19,none⟩ (.int .i64 k.safe)=X5 at *;obtain⟨L5,hL5⟩:∃L,L=L4.set 19 (.int .i64 k.safe):=⟨_,rfl⟩;rw [aGs,<-hL5] at e5;have hl5:L5.length=22:=by rw [hL5,aF1];exact hl4
 have HL5:=Hq hL5;clear hL5 hl4;refine tk [33] ?_;(refine JD 60 (yg _) (λK hK=>?_);go_simp;first|refine hK _ ?_|(apply Exists.intro;refine⟨λ_=>?_,hK _ ?_⟩;rfl);clear hK K)
 refine jf ?_;refine qW 34 rfl Aab Aad Aae (λx hx=>?_);have ex:=aj e5 hx;have q:=aEW x r 20 _ 43 (0,0) ex;rw [aGi,aEQ (show 20 < L5.length by omega)] at q;have qf:=aC ex 20;go_simp;refine⟨aA.set _,?_⟩;have e6:=aN ex 20 (.slice A.wa k.wait.length A.wc);have Sj:=(hk5.trans (aA.of_below hx)).trans (aA.set (g:=r) (i:=20) (.slice A.wa k.wait.length A.wc));clear ex q qf hx e5 hk5;generalize x.setCell ⟨r,20,none⟩ (.slice A.wa k.wait.length A.wc)=X6 at *;obtain⟨L6,hL6⟩:∃L,L=L5.set 20 (.slice A.wa k.wait.length A.wc):=⟨_,rfl⟩;rw [aGs,<-hL6] at e6;have hl6:L6.length=22:=by rw [hL6,aF1];exact hl5
 have HL6:=Hq hL6;clear hL6 hl5;refine tk [35] ?_;(refine JD 60 (yg _) (λK hK=>?_);go_simp;first|refine hK _ ?_|(apply Exists.intro;refine⟨λ_=>?_,hK _ ?_⟩;rfl);clear hK K)
 refine jf ?_;refine qc Aab (λx hx=>?_);have ex:=aj e6 hx;have q:=aEW x r 21 _ 43 (0,0) ex;rw [aGi,aEQ (show 21 < L6.length by omega)] at q;have qf:=aC ex 21;refine an 36 ?_;go_simp;refine ad ?_;unfold abv;dsimp only;have e7:=aN ex 21 (.slice A.aa k.asked.length A.ac);have hk7:=(Sj.trans (aA.of_below hx)).trans (aA.set (g:=r) (i:=21) (.slice A.aa k.asked.length A.ac));clear ex q qf hx e6 Sj;generalize x.setCell ⟨r,21,none⟩ (.slice A.aa k.asked.length A.ac)=X7 at *;rw [aGs,ah HL6,ah HL5,ah Ij,<-ah qX] at e7;have HG7:=Hq (hk7.obj zI (by simpa using hgr));have HK7:=Hq (show aA [g] w X7 from⟨hk7.os.trans zx.os,hk7.tape.trans zx.tape,hk7.output.trans zx.output,aEP zx.size hk7.size,λx hx hF=>(hk7.block x (aEU hx zx.size) Aah).trans (zx.block x hx hF)⟩);have HR7:=Hq (KR.blk (V:=AA k A) (show X7.heap[r]?=some (.cells (AA k A).toArray 43 (0,0)) from e7.trans Aab));clear e7 hk7 qX Ij HL5 HL6 zI zx BA;go_wp2_with fail;refine leaves_cons (f:=63) (args:=#[.pointer (some ⟨g,9,none⟩)]) Aac Ach ?_;refine(unlock_deferred Qu ⟨g,9,none⟩ .returning _ (aS HG7 9) (aC HG7 9)).mono ?_;rintro e u' w'' ⟨rfl,rfl,rfl⟩;exact⟨_,CG rfl _ _ r (AA k A) _ rfl (HR7.keeps (aA.set (g:=g) (i:=9) (.int .i32 0)) (by simpa using hgr.symm)).r underlying43 rfl Aab,rfl,HK7.trans (aA.set _)⟩
theorem hkB.there {w:World} {g:Nat} {k:Kp} {A:KA} {st:Int} {lk rt:Bool} (h:hkB w g k A st lk rt):w.there g 0 9:=λj hj=>by
 refine⟨?_,aC h _⟩;rcases uY hj with rfl|rfl|rfl|rfl|rfl|rfl|rfl|rfl|rfl<;>exact(congrArg Option.isSome (aS h _)).trans rfl
theorem hkB.node {w:World} {g:Nat} {k:Kp} {A:KA} {st:Int} {lk rt:Bool} (h:hkB w g k A st lk rt) (n:Nd) (B:bq):hkB (w.setCells g 0 (dH n B).toList) g {k with node:=n} {A with n:=B} st lk rt:=by
 rw [lH];exact GR.setW_blk (o:=0) (xs:=(hkG k A st lk rt).toList) (dH n B).toList h
theorem hkB.nils {w:World} {g:Nat} {k:Kp} {A:KA} {st:Int} {lk rt:Bool} (h:hkB w g k A st lk rt):hkB ((w.setCell ⟨g,22,none⟩ (.slice none 0 0)).setCell ⟨g,23,none⟩ (.slice none 0 0)) g {k with wait:=[],asked:=[]} {A with wa:=none,wc:=0,aa:=none,ac:=0} st lk rt:=by
 have h1:hkB (w.setCell ⟨g,22,none⟩ (.slice none 0 0)) g {k with wait:=[]} {A with wa:=none,wc:=0} st lk rt:=aN h 22 _;exact aN h1 23 _
theorem hkB.lk {w:World} {g:Nat} {k:Kp} {A:KA} {st:Int} {lk rt:Bool} (h:hkB w g k A st lk rt):hkB (w.setCell ⟨g,24,none⟩ (.bool rt)) g k A st rt rt:=aN h 24 _
theorem xq {s:Nat} {n:Nd} (hz:eF n 1048576):dY s n<=s+1200000000000:=by
 have h:=(Ac (QX s n) 1048576 n.seen hz.sk).2;have h1:=hz.k;have h2:=hz.p;have h3:=hz.o;have h4:=hz.s;have h5:=hz.r;exact aiY
theorem Em.keepsL {L:List Nat} {w w':World} (h:Em (·∈L) w w'):aA L w w':=⟨h.os,h.tape,h.output,h.size,h.block⟩
theorem Wr.keepsL {S:Nat->Prop} {F:List Nat} {w w':World} {a:Option Addr} {n sz:Nat} (h:Wr S w a n sz) (hk:aA F w w') (hF:∀x,S x->x∉F):Wr S w' a n sz:=λi hi=>by
 obtain⟨g,e,hS,hg,hc⟩:=h i hi;have hb:=hk.block g hg (hF g hS);exact⟨g,e,hS,aEU hg hk.size,λj hj=>⟨by rw [aFq (w:=w) (a:=⟨g,i*sz+j,none⟩) hb];exact(hc j hj).1,by rw [aGp (w:=w) (a:=⟨g,i*sz+j,none⟩) hb];exact(hc j hj).2⟩⟩
theorem Wr.nil {S:Nat->Prop} {w:World} {a:Option Addr} {sz:Nat}:Wr S w a 0 sz:=λi hi=>by omega
structure KpO (lo hi:Nat) (w:World) (A:KA) (k:Kp) (G1 G2:aK) (L:List Nat):Prop where
 b:gU w A.b G1 k.base
 n:gU w A.n G2 k.node
 bn:(G1.all k.base).Nodup
 nn:(G2.all k.node).Nodup
 d:∀x∈G1.all k.base,x∉G2.all k.node
 wt:Wr (·∈L) w A.wa k.wait.length 7
 sk:Wr (·∈L) w A.aa k.asked.length 12
 dl:∀x∈L,x∉G1.all k.base/\x∉G2.all k.node
 r:∀x∈G1.all k.base++(G2.all k.node++L),lo<=x/\x < hi
theorem KpO.keeps {lo hi:Nat} {w w':World} {A:KA} {k:Kp} {G1 G2:aK} {L F:List Nat} (h:KpO lo hi w A k G1 G2 L) (hk:aA F w w') (hF:∀x∈F,x < lo\/hi<=x):KpO lo hi w' A k G1 G2 L:=by
 have q:∀x∈G1.all k.base++(G2.all k.node++L),x∉F:=λx hx hm=>by have:=h.r x hx;have:=hF x hm;omega
 exact⟨h.b.keeps hk (λx hx=>q x Aai),h.n.keeps hk (λx hx=>q x Aai),h.bn,h.nn,h.d,h.wt.keepsL hk (λx hx=>q x Aai),h.sk.keepsL hk (λx hx=>q x Aai),h.dl,h.r⟩
theorem KpO.below {lo hi:Nat} {w w':World} {A:KA} {k:Kp} {G1 G2:aK} {L:List Nat} (h:KpO lo hi w A k G1 G2 L) (hb:aH w w'):KpO lo hi w' A k G1 G2 L:=h.keeps (F:=[]) (aA.of_below hb) (λ_ hx=>Aaz)
def eKp (k:Kp):Nat:=dY (dY 1 k.base) k.node+7*k.wait.length+12*k.asked.length
structure MK (w:World) (A:KA) (k:Kp) (G1 G2:aK):Prop where
 b:gU w A.b G1 (rW 1 k.base)
 n:gU w A.n G2 (rW (dY 1 k.base) k.node)
theorem MK.below {w w':World} {A:KA} {k:Kp} {G1 G2:aK} (h:MK w A k G1 G2) (hb:aH w w'):MK w' A k G1 G2:=⟨h.b.below hb,h.n.below hb⟩
structure Iu (lo hi:Nat) (w:World) (A:KA) (k:Kp) (G1 G2:aK) (gw ga:Nat):Prop where
 b:gU w A.b G1 k.base
 n:gU w A.n G2 k.node
 bn:(G1.all k.base).Nodup
 nn:(G2.all k.node).Nodup
 d:∀x∈G1.all k.base,x∉G2.all k.node
 wt:GR.W jh 7 w A.wa gw k.wait
 sk:GR.W dQ 12 w A.aa ga k.asked
 dl:∀x∈fp gw k.wait++fp ga k.asked,x∉G1.all k.base/\x∉G2.all k.node
 dd:∀x∈fp gw k.wait,x∉fp ga k.asked
 r:∀x∈G1.all k.base++(G2.all k.node++(fp gw k.wait++fp ga k.asked)),lo<=x/\x < hi
theorem Iu.keepsF {lo hi gw ga:Nat} {w w':World} {A:KA} {k:Kp} {G1 G2:aK} {F:List Nat} (h:Iu lo hi w A k G1 G2 gw ga) (hk:aA F w w') (q:∀x∈G1.all k.base++(G2.all k.node++(fp gw k.wait++fp ga k.asked)),x∉F):Iu lo hi w' A k G1 G2 gw ga:=
 ⟨h.b.keeps hk (λx hx=>q x Aai),h.n.keeps hk (λx hx=>q x Aai),h.bn,h.nn,h.d,h.wt.keeps hk (λx hx=>q x Aai),h.sk.keeps hk (λx hx=>q x Aai),h.dl,h.dd,h.r⟩
theorem Iu.keeps {lo hi gw ga:Nat} {w w':World} {A:KA} {k:Kp} {G1 G2:aK} {F:List Nat} (h:Iu lo hi w A k G1 G2 gw ga) (hk:aA F w w') (hF:∀x∈F,x < lo\/hi<=x):Iu lo hi w' A k G1 G2 gw ga:=
 h.keepsF hk (λx hx hm=>by have:=h.r x hx;have:=hF x hm;omega)
theorem Iu.below {lo hi gw ga:Nat} {w w':World} {A:KA} {k:Kp} {G1 G2:aK} (h:Iu lo hi w A k G1 G2 gw ga) (hb:aH w w'):Iu lo hi w' A k G1 G2 gw ga:=h.keeps (F:=[]) (aA.of_below hb) (λ_ hx=>Aaz)
structure MKR (w:World) (A:KA) (k:Kp) (G1 G2:aK) (gw ga:Nat):Prop where
 b:gU w A.b G1 (rW 1 k.base)
 n:gU w A.n G2 (rW (dY 1 k.base) k.node)
 wt:GR.W jh 7 w A.wa gw (jH mkMsg 7 (dY (dY 1 k.base) k.node) k.wait k.wait.length)
 sk:GR.W dQ 12 w A.aa ga (jH iX 12 (dY (dY 1 k.base) k.node+7*k.wait.length) k.asked k.asked.length)
theorem MKR.below {w w':World} {A:KA} {k:Kp} {G1 G2:aK} {gw ga:Nat} (h:MKR w A k G1 G2 gw ga) (hb:aH w w'):MKR w' A k G1 G2 gw ga:=⟨h.b.below hb,h.n.below hb,GR.W.below h.wt hb,GR.W.below h.sk hb⟩
theorem Dk (k:Kp) (A:KA) (G1 G2:aK) (gw ga lo hi:Nat) (w:World) (hz:oI k 1048576) (h:Iu lo hi w A k G1 G2 gw ga) (hhi:hi<=w.heap.size):
 Calls prog 12 #[I8 k A,.int .i64 1] w λe w'=>e= .returned (.int .i64 (eKp k:Nat))/\MKR w' A k G1 G2 gw ga/\aA (G1.all k.base++(G2.all k.node++(fp gw k.wait++fp ga k.asked))) w w':=by
 open aqT in exact aw5
theorem Py (k:Kp) (A:KA) (G1 G2:aK) (gw ga:Nat) (w:World) (hz:oI k 1048576) (h:MKR w A k G1 G2 gw ga):
 Calls prog 15 #[I8 k A,.int .i64 1] w (dM w (.int .i64 (eKp k:Nat))):=by
 open aqS in exact aw5
theorem KH.kpw {lo m1 m2 m3 g:Nat} {w:World} {A:KA} {k:Kp} (h:KH lo m1 m2 m3 g w A k):∃G1 G2 gw ga,Iu lo g w A k G1 G2 gw ga:=by
 obtain⟨⟨Gn,n1,d1,r1⟩,⟨Gb,n2,d2,r2⟩,⟨hw,bw⟩,⟨ha,ba⟩,l1,l2,l3,l4,l5⟩:=h;obtain⟨Ab,An,wa,wc,aa,ac⟩:=A;obtain⟨_,_,gw,e,hW,rw1,ow⟩:=GR.W.of_own (enc:=gD) cZ hw;simp only[aFI] at e;obtain⟨rfl,_,rfl⟩:=e;obtain⟨_,_,ga,e,hA,ra1,oa⟩:=GR.W.of_own (enc:=dQ) aQ ha;simp only[aFI] at e;obtain⟨rfl,_,rfl⟩:=e;have qw:∀x∈fp gw k.wait,m2<=x/\x < m3:=λx hx=>⟨(rw1 x hx).1,bw x (ow x hx)⟩
 have qa:∀x∈fp ga k.asked,m3<=x/\x < g:=λx hx=>⟨(ra1 x hx).1,ba x (oa x hx)⟩
 refine⟨Gb,Gn,gw,ga,n2,n1,d2,d1,λx h1 h2=>by have:=r1 x h2;have:=r2 x h1;omega,hW,hA,λx hx=>?_,λx h1 h2=>by have:=qw x h1;have:=qa x h2;omega,λx hx=>?_⟩
 .have h3:m2<=x:=by
   rcases aE6.1 hx with hx|hx
   .exact(qw x hx).1
   .have:=(qa x hx).1;omega
  exact⟨λh=>by have:=r2 x h;omega,λh=>by have:=r1 x h;omega⟩
 .rcases aE6.1 hx with hx|hx
  .have:=r2 x hx;omega
  rcases aE6.1 hx with hx|hx
  .have:=r1 x hx;omega
  rcases aE6.1 hx with hx|hx
  .have:=qw x hx;omega
  .have:=qa x hx;omega
theorem Iu.at {lo hi gw ga:Nat} {w:World} {A:KA} {k:Kp} {G1 G2:aK} (h:Iu lo hi w A k G1 G2 gw ga):jo w A k:=⟨h.b.at,h.n.at,h.wt.at,h.sk.at⟩
theorem Iu.wide {lo hi lo' hi' gw ga:Nat} {w:World} {A:KA} {k:Kp} {G1 G2:aK} (h:Iu lo hi w A k G1 G2 gw ga) (h1:lo'<=lo) (h2:hi<=hi'):Iu lo' hi' w A k G1 G2 gw ga:=
 ⟨h.b,h.n,h.bn,h.nn,h.d,h.wt,h.sk,h.dl,h.dd,λx hx=>by have:=h.r x hx;omega⟩
abbrev af6:List Value:=[.int .i64 0,.int .i64 0,.slice none 0 0,.int .i64 0,.slice none 0 0,.slice none 0 0,.slice none 0 0,.int .i64 0,.slice none 0 0,.int .i64 0,.int .i64 0,.slice none 0 0,.int .i64 0,.slice none 0 0,.slice none 0 0,.slice none 0 0,.int .i64 0,.slice none 0 0,.string ByteArray.empty,.int .i64 0,.slice none 0 0,.slice none 0 0]
theorem ZK (k:Kp) (A:KA) (w:World) (hz:oI k 1048576) (ha:jo w A k):
 Calls prog 7 #[I8 k A] w λe w'=>∃A' G1 G2 gw ga,e= .returned (I8 k A')/\jo w' A' k/\Iu w.heap.size w'.heap.size w' A' k G1 G2 gw ga/\aH w w':=by
 have H1:=Hq (λw1 (h:aH w w1)=>adJ k.base A.b w1 hz.b (ha.below h).kb);have H2:=Hq (λw1 (h:aH w w1)=>adJ k.node A.n w1 hz.n (ha.below h).kn);have H3:=Hq (λw1 (h:aH w w1)=>aly A.wa A.wc k.wait w1 hz.w (ha.below h).kw);have H4:=Hq (λw1 (h:aH w w1)=>ZJ A.aa A.ac k.asked w1 hz.a (ha.below h).ka);clear ha hz;obtain⟨Wv,hR0,hO0,hB0⟩:=abt w (.cells (AA k A).toArray 32) (.cells af6.toArray 43) (.cells af6.toArray 43);go_in
 go_upto_region 2 with fail;refine wp_at (λW0 hW=>?_);have H7:Hid (TO 32 43 (AA k A) af6 w (λ_=>True) af6 W0):=by rw [hW];exact⟨Wv,hR0,hO0,hB0,λ_ _=>trivial⟩
 clear hW Wv hR0 hO0 hB0;open aul in exact aaO
end Go.Proofs.YtbolgdleijjgfaaGreatDoor
