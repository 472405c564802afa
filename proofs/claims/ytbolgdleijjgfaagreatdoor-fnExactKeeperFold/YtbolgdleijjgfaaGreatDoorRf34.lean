/- Parts. -/
import Derived.Test.YtbolgdleijjgfaaGreatDoorRf28
import Derived.Test.YtbolgdleijjgfaaGreatDoorRf25
namespace Go.Proofs.YtbolgdleijjgfaaGreatDoor
open Go.Proofs.Tryz
set_option maxHeartbeats 8000000
set_option maxRecDepth 100000
open Go.RowKit
open Mth
theorem Pf {g:Nat} {t:TypeId}:∀(vs:List Value) (o:Nat) (w:World) (cs:Array Value),w.heap[g]?=some (.cells cs t (0,0))->(∀(j:Nat) v,vs[j]?=some v->w.cell? ⟨g,o+j,none⟩=some v)->Below w.heap.size w (GR.setW w g o vs):=by
 intro vs;induction vs with
 |nil=>intro o w cs _ _;exact aE3 _ _
 |cons v vs ih=>
  intro o w cs h hc;have h1:=nL h (hc 0 v rfl);have hl:=ay h
  have h2:=ih (o+1) _ cs (aj h h1) (λj u hj=>by
   have h3:=hc (j+1) u hj
   rw [show o+1+j=o+(j+1) by omega]
   exact(h1.cell (p:=⟨g,o+(j+1),none⟩) hl).trans h3)
  exact h1.trans (h2.mono h1.size)
theorem flat_one {α:Type} {en:α->List Value} (h:∀x,(en x).all (·.oneCell')=true) (l:List α):∀u∈GR.flat en l,u.oneCell'=true:=by
 intro u hu;unfold GR.flat at hu;rw [aGf] at hu;obtain⟨p,_,hp⟩:=hu;exact aGF.1 (h p) u hp
theorem aeP (a:Option Addr) (cap:Nat) (l:List Mg) (w:World) (hl:l.length<=1048600) (hv:∀u∈GR.flat iH l,u.oneCell'=true) (ha:GR.At iH 7 w a l):
 Calls prog 111 #[.slice a l.length cap] w λe w'=>∃v,e= .returned v/\w'.ownsRow w.heap.size 70 7 v l.length (GR.flat iH l)/\aH w w':=by
 obtain⟨i0,hi,hz0,hz1,hz2⟩:=aFt FX;have q22:∀(w:World) (a:Option Addr) (n c n' c':Nat),(binOp .eql 40 (.slice a n c) (.slice none n' c')).run prog w= .ok (.bool a.isNone) w:=λw a n c n' c'=>aGi w _ _ a n c n' c' underlying40
 have hlit:(w.alloc (.cells #[] 70)).ownsRow w.heap.size 70 7 (.slice (some ⟨w.heap.size,0,none⟩) 0 0) 0 []:=aFC (base:=w.heap.size) (e:=70) (size:=7) w #[] 0 (aER _) Aae rfl;cases a with
 |none=>
  have hl0:l=[]:=GR.none_nil ha;subst hl0;clear ha hlit hv;go_in
  exact Tk
 |some x=>
  have HN:=Hq (Gi dA Aaa (GR.At.below ha (au w (.cells #[] 70))));have HV:=Hq hv;clear ha hv;go_in
  go_wp2_with (at_builtin;refine aFL _ rfl _ _ 40 rfl w.heap.size 70 i0 (.agg (bX 0 0 0 0 0 ByteArray.empty 0)) 7 64 underlying40 hi hz0 hz1 hz2 rfl Aae _ 0 [] rfl hlit x l.length cap (GR.flat iH l) rfl ?c0 ?c1 ?c2 ?c3 ?c4 ?c5 ?_)
  case c0=>exact GR.flat_length iH 7 dA l
  case c1=>exact HN
  case c2=>exact HV
  case c3=>unfold maxLen;omega
  case c4=>omega
  case c5=>simp
  intro v' w1 hown' hgrow _;have HO:=Hq (show w1.ownsRow w.heap.size 70 7 v' l.length (GR.flat iH l) by simpa using hown');exact XW
theorem aeN (a:Option Addr) (cap:Nat) (l:List An) (w:World) (hl:l.length<=1048600) (hv:∀u∈GR.flat eU l,u.oneCell'=true) (ha:GR.At eU 12 w a l):
 Calls prog 112 #[.slice a l.length cap] w λe w'=>∃v,e= .returned v/\w'.ownsRow w.heap.size 75 12 v l.length (GR.flat eU l)/\aH w w':=by
 obtain⟨i0,hi,hz0,hz1,hz2⟩:=aFt wQ;have q22:∀(w:World) (a:Option Addr) (n c n' c':Nat),(binOp .eql 41 (.slice a n c) (.slice none n' c')).run prog w= .ok (.bool a.isNone) w:=λw a n c n' c'=>aGi w _ _ a n c n' c' underlying41
 have hlit:(w.alloc (.cells #[] 75)).ownsRow w.heap.size 75 12 (.slice (some ⟨w.heap.size,0,none⟩) 0 0) 0 []:=aFC (base:=w.heap.size) (e:=75) (size:=12) w #[] 0 (aER _) Aae rfl;cases a with
 |none=>
  have hl0:l=[]:=GR.none_nil ha;subst hl0;clear ha hlit hv;go_in
  exact Tk
 |some x=>
  have HN:=Hq (Gi aR Aaa (GR.At.below ha (au w (.cells #[] 75))));have HV:=Hq hv;clear ha hv;go_in
  go_wp2_with (at_builtin;refine aFL _ rfl _ _ 41 rfl w.heap.size 75 i0 (.agg #[.int .i64 0,.int .i64 0,.string ByteArray.empty,.int .i64 0,.int .i64 0,.int .i64 0,.int .i64 0,.int .i64 0,.int .i64 0,.string ByteArray.empty,.int .i64 0,.int .i64 0]) 12 112 underlying41 hi hz0 hz1 hz2 rfl Aae _ 0 [] rfl hlit x l.length cap (GR.flat eU l) rfl ?c0 ?c1 ?c2 ?c3 ?c4 ?c5 ?_)
  case c0=>exact GR.flat_length eU 12 aR l
  case c1=>exact HN
  case c2=>exact HV
  case c3=>unfold maxLen;omega
  case c4=>omega
  case c5=>simp
  intro v' w1 hown' hgrow _;have HO:=Hq (show w1.ownsRow w.heap.size 75 12 v' l.length (GR.flat eU l) by simpa using hown');exact XW
theorem Uh (o:gP) (w:World) (h1:o.k.size<=1048576) (h2:o.m.k.size<=1048576):Calls prog 113 #[.agg (bV o.K o.no o.k o.n o.m.K o.m.F o.m.T o.m.I o.m.L o.m.k o.m.N)] w (dU w (.agg (bV o.K o.no o.k o.n o.m.K o.m.F o.m.T o.m.I o.m.L o.m.k o.m.N))):=by
 obtain⟨K,no,k,n,mK,mF,mT,mI,mL,mk,mN⟩:=o;dsimp only at h1 h2 ⊢;obtain⟨hX,hY,hB⟩:=gH w (.cells (bV K no k n mK mF mT mI mL mk mN) 73) (.cells (bV 0 0 ⟨#[]⟩ 0 0 0 0 0 0 ⟨#[]⟩ 0) 73);go_in
 go_upto_region 1 with fail;refine wp_at (λW hW=>?_);rw [<-hW] at hX hY hB;clear hW;obtain⟨⟨x0,x1,x2,x3,x4,x5,x6,x7,x8,x9,x10⟩,_⟩:=aK hX;have HX:=Hq hX;have HY:=Hq hY;have HB:=Hq hB;clear hX hY hB;go_wp2_with fail;refine(clone k _ Aaa).mono ?_;rintro e W1 ⟨rfl,hb1⟩;have zK:=Hq (aj HX hb1);have XH:=Hq (aj HY hb1);have HB1:=Hq (HB.trans (hb1.mono HB.size));clear hb1 x0 x1 x2 x3 x4 x5 x6 x7 x8 x9 x10 HX HY HB;have f2:=aC zK 2;obtain⟨⟨x0,x1,x2,x3,x4,x5,x6,x7,x8,x9,x10⟩,_⟩:=aK zK;go_upto_region 2 with fail;refine wp_at (λW2 hW=>?_);have hs:aH W1 W2:=by rw [hW];exact nL zK x2
 have JV:=Hq (aj zK hs);have HY2:=Hq (aj XH hs);have HB2:=Hq (HB1.trans (hs.mono HB1.size));clear hW hs f2 x0 x1 x2 x3 x4 x5 x6 x7 x8 x9 x10 zK XH HB1;obtain⟨⟨x0,x1,x2,x3,x4,x5,x6,x7,x8,x9,x10⟩,_⟩:=aK JV;go_wp2_with fail;refine(clone mk _ Aaa).mono ?_;rintro e W3 ⟨rfl,hb3⟩;have Lv:=Hq (aj JV hb3);have HY3:=Hq (aj HY2 hb3);have HB3:=Hq (HB2.trans (hb3.mono HB2.size));clear hb3 x0 x1 x2 x3 x4 x5 x6 x7 x8 x9 x10 JV HY2 HB2;have f9:=aC Lv 9;obtain⟨⟨x0,x1,x2,x3,x4,x5,x6,x7,x8,x9,x10⟩,_⟩:=aK Lv;go_upto_region 3 with fail;refine wp_at (λW4 hW=>?_);have hs:aH W3 W4:=by rw [hW];exact nL Lv x9
 have HX4:=Hq (aj Lv hs);have HY4:=Hq (aj HY3 hs);have nC:=Hq (HB3.trans (hs.mono HB3.size));clear hW hs f9 x0 x1 x2 x3 x4 x5 x6 x7 x8 x9 x10 Lv HY3 HB3;obtain⟨⟨x0,x1,x2,x3,x4,x5,x6,x7,x8,x9,x10⟩,_⟩:=aK HX4;obtain⟨⟨y0,y1,y2,y3,y4,y5,y6,y7,y8,y9,y10⟩,f0,f1,f2,f3,f4,f5,f6,f7,f8,f9,f10⟩:=aK HY4;go_wp2_with fail;refine iD (λW' hW'=>?_);have hY':W'.heap[w.heap.size+1]?=some (.cells (bV K no k n mK mF mT mI mL mk mN) 73 (0,0)):=by rw [hW'];exact lS HY4
 have hB':aH w W':=by rw [hW'];exact iK nC Aaa
 clear hW';obtain⟨⟨r0,r1,r2,r3,r4,r5,r6,r7,r8,r9,r10⟩,_⟩:=aK hY';exact aEY (v:= .agg (bV K no k n mK mF mT mI mL mk mN)) (by simp[results,results113,go_sem,r0,r1,r2,r3,r4,r5,r6,r7,r8,r9,r10]) rfl ⟨rfl,hB'⟩
theorem Mr (a:Option Addr) (cap:Nat) (l:List Mg) (w:World) (hl:l.length<=1048576) (hk:∀x∈l,x.k.size<=1048576) (ha:GR.At iH 7 w a l):
 Calls prog 60 #[.slice a l.length cap] w λe w'=>∃v,e= .returned v/\w'.ownsRow w.heap.size 70 7 v l.length (GR.flat iH l)/\aH w w':=by
 have jP:=Hq (aeP a cap l w Aaa (flat_one (λ_=>rfl) l) ha);have Sy:=Hq hk;clear ha hk;go_in
 go_wp2_with fail;refine jP.mono ?_;rintro e w1 ⟨v,rfl,hown,hb1⟩;obtain⟨a',c',rfl,_⟩:=GR.own_at (enc:=iH) (sz:=7) dA hown;have HO:=Hq hown;have HB1:=Hq hb1;clear hown hb1 jP;go_wp2_with fail;go_loopw [9] (λi wr=>∃k:Nat,k<=l.length/\i= .int .i64 k/\aH w1 wr) (λi _=>l.length - (intOf i).toNat)
 case atStart=>exact BZ
 case round=>
  obtain⟨k,hk,rfl,hbel⟩:=hrel;have aZ:=Hq hbel;clear hbel;by_cases hlt:k < l.length
  .open ate in exact agE
  .exact ahH
theorem Ee (a:Option Addr) (cap:Nat) (l:List An) (w:World) (hl:l.length<=1048576) (hk:∀x∈l,x.o.k.size<=1048576/\x.o.m.k.size<=1048576) (ha:GR.At eU 12 w a l):
 Calls prog 61 #[.slice a l.length cap] w λe w'=>∃v,e= .returned v/\w'.ownsRow w.heap.size 75 12 v l.length (GR.flat eU l)/\aH w w':=by
 have jP:=Hq (aeN a cap l w Aaa (flat_one (λ_=>rfl) l) ha);have Sy:=Hq hk;clear ha hk;go_in
 go_wp2_with fail;refine jP.mono ?_;rintro e w1 ⟨v,rfl,hown,hb1⟩;obtain⟨a',c',rfl,_⟩:=GR.own_at (enc:=eU) (sz:=12) aR hown;have HO:=Hq hown;have HB1:=Hq hb1;clear hown hb1 jP;go_wp2_with fail;go_loopw [9] (λi wr=>∃k:Nat,k<=l.length/\i= .int .i64 k/\aH w1 wr) (λi _=>l.length - (intOf i).toNat)
 case atStart=>exact BZ
 case round=>
  obtain⟨k,hk,rfl,hbel⟩:=hrel;have aZ:=Hq hbel;clear hbel;by_cases hlt:k < l.length
  .open atd in exact agE
  .exact ahH
abbrev hkG (k:Kp) (A:KA) (st:Int) (l r:Bool):Array Value:=#[.int .i64 k.node.id,.int .i64 k.node.par,.slice A.n.k k.node.kids.length A.n.ck,.int .i64 k.node.next,.slice A.n.p k.node.pu.length A.n.cp,.slice A.n.o k.node.out.length A.n.co,.slice A.n.s k.node.seen.length A.n.cs,.int .i64 k.node.old,.slice A.n.r k.node.reqs.length A.n.cr,.int .i32 st,.int .u32 0,.int .i64 k.base.id,.int .i64 k.base.par,.slice A.b.k k.base.kids.length A.b.ck,.int .i64 k.base.next,.slice A.b.p k.base.pu.length A.b.cp,.slice A.b.o k.base.out.length A.b.co,.slice A.b.s k.base.seen.length A.b.cs,.int .i64 k.base.old,.slice A.b.r k.base.reqs.length A.b.cr,.string k.log,.int .i64 k.safe,.slice A.wa k.wait.length A.wc,.slice A.aa k.asked.length A.ac,.bool l,.bool r]
structure KH (lo m1 m2 m3 g:Nat) (w:World) (A:KA) (k:Kp):Prop where
 n:∃G,gZ w A.n G k.node/\(G.all k.node).Nodup/\∀x∈G.all k.node,lo<=x/\x < m1
 b:∃G,gZ w A.b G k.base/\(G.all k.base).Nodup/\∀x∈G.all k.base,m1<=x/\x < m2
 wt:w.ownsRow m2 70 7 (.slice A.wa k.wait.length A.wc) k.wait.length (GR.flat iH k.wait)/\∀x,(Value.slice A.wa k.wait.length A.wc).ownBlock=some x->x < m3
 sk:w.ownsRow m3 75 12 (.slice A.aa k.asked.length A.ac) k.asked.length (GR.flat eU k.asked)/\∀x,(Value.slice A.aa k.asked.length A.ac).ownBlock=some x->x < g
 le:lo<=m1/\m1<=m2/\m2<=m3/\m3<=g/\g<=w.heap.size
theorem KH.keeps {lo m1 m2 m3 g:Nat} {w w':World} {A:KA} {k:Kp} {F:List Nat} (h:KH lo m1 m2 m3 g w A k) (hk:aA F w w') (hF:∀x∈F,g<=x\/x < lo):KH lo m1 m2 m3 g w' A k:=by
 obtain⟨⟨G1,n1,d1,r1⟩,⟨G2,n2,d2,r2⟩,⟨hw,bw⟩,⟨ha,ba⟩,l1,l2,l3,l4,l5⟩:=h;have hs:=hk.size;refine⟨⟨G1,n1.keeps hk (λx hx hm=>?_),d1,r1⟩,⟨G2,n2.keeps hk (λx hx hm=>?_),d2,r2⟩,⟨jF hw (λx hx=>hk.block x (CG hw hx) (λhm=>?_)),bw⟩,⟨jF ha (λx hx=>hk.block x (CG ha hx) (λhm=>?_)),ba⟩,l1,l2,l3,l4,Aaa⟩
 .have:=r1 x hx;have:=hF x hm;omega
 .have:=r2 x hx;have:=hF x hm;omega
 .have:=bw x hx;have:=vD hw hx;have:=hF x hm;omega
 .have:=ba x hx;have:=vD ha hx;have:=hF x hm;omega
theorem KH.below {lo m1 m2 m3 g:Nat} {w w':World} {A:KA} {k:Kp} (h:KH lo m1 m2 m3 g w A k) (hb:aH w w'):KH lo m1 m2 m3 g w' A k:=h.keeps (F:=[]) (aA.of_below hb) (λ_ hx=>Abe)
theorem KH.at {lo m1 m2 m3 g:Nat} {w:World} {A:KA} {k:Kp} (h:KH lo m1 m2 m3 g w A k):jw w A k:=by
 obtain⟨⟨_,n1,_⟩,⟨_,n2,_⟩,⟨hw,_⟩,⟨ha,_⟩,_⟩:=h;obtain⟨_,_,e1,h1⟩:=GR.own_at (enc:=iH) (sz:=7) dA hw;obtain⟨_,_,e2,h2⟩:=GR.own_at (enc:=eU) (sz:=12) aR ha;injection e1 with e1 _ _
 injection e2 with e2 _ _
 exact⟨n2.at,n1.at,by rw [e1];exact h1,by rw [e2];exact h2⟩
theorem xR {w:World} {b:Nat} {cs:Array Value} {t:TypeId} {o:Nat} {vs:List Value} (h:w.heap[b]?=some (.cells cs t (0,0))) (hv:∀j v,vs[j]?=some v->cs[o+j]?=some v):w.rangeAt b o vs:=λj v hj=>by
 rw [aE1 w b (o+j) _ t (0,0) h];exact hv j v hj
theorem vB {j:Nat} (h:j < 9):j=0\/j=1\/j=2\/j=3\/j=4\/j=5\/j=6\/j=7\/j=8:=Aaa
theorem oI {w:World} {g:Nat} {k:Kp} {A:KA} {t:TypeId} (h:w.heap[g]?=some (.cells (yJ k A).toArray t (0,0))):w.rangeAt g 0 (dD k.base A.b).toList/\w.rangeAt g 9 (dD k.node A.n).toList:=by
 refine⟨xR h (λj v hj=>?_),xR h (λj v hj=>?_)⟩
 .have hj9:j < 9:=(aFK.1 hj).1;rcases vB hj9 with rfl|rfl|rfl|rfl|rfl|rfl|rfl|rfl|rfl<;>exact hj
 .have hj9:j < 9:=(aFK.1 hj).1;rcases vB hj9 with rfl|rfl|rfl|rfl|rfl|rfl|rfl|rfl|rfl<;>exact hj
theorem acg (k:Kp) (A:KA) (w:World) (hz:qd k 1048576) (ha:jw w A k):
 Calls prog 28 #[Jg k A] w λe w'=>∃A' m1 m2 m3 g,e= .returned (.pointer (some ⟨g,0,none⟩))/\w'.heap[g]?=some (.cells (hkG k A' 0 false false) 115 (0,0))/\KH w.heap.size m1 m2 m3 g w' A' k/\aH w w':=by
 have Df:=Hq (λW (h:aH w W)=>ql k.base A.b W hz.b (ha.below h).kb);have N9:=Hq (λW (h:aH w W)=>ql k.node A.n W hz.n (ha.below h).kn);have HCW:=Hq (λW (h:aH w W)=>Mr A.wa A.wc k.wait W hz.w hz.wk (ha.below h).kw);have HCA:=Hq (λW (h:aH w W)=>Ee A.aa A.ac k.asked W hz.a hz.ak (ha.below h).ka);have hlg:=hz.l;clear hz ha;go_in
 go_upto_region 1 with fail;refine wp_at (λW0 hW=>?_);have e1:W0.heap[w.heap.size]?=some (.cells (yJ k A).toArray 43 (0,0)):=by rw [hW];exact aEP w _
 have e2:aH w W0:=by rw [hW];exact au _ _
 have HK:=Hq e1;have HB0:=Hq e2;have hl0:=ay e1;clear hW e1 e2;refine bZ Aab ?_;show iZ _ _ _ _ 20 (Array.replicate 20 false) _ _
 have y18:=aEQ (show W0.cell? ⟨w.heap.size,18,none⟩=some (.string k.log) from aE1 W0 w.heap.size 18 _ 43 (0,0) HK);have y19:=aEQ (show W0.cell? ⟨w.heap.size,19,none⟩=some (.int .i64 k.safe) from aE1 W0 w.heap.size 19 _ 43 (0,0) HK);have y20:=aEQ (show W0.cell? ⟨w.heap.size,20,none⟩=some (.slice A.wa k.wait.length A.wc) from aE1 W0 w.heap.size 20 _ 43 (0,0) HK);have y21:=aEQ (show W0.cell? ⟨w.heap.size,21,none⟩=some (.slice A.aa k.asked.length A.ac) from aE1 W0 w.heap.size 21 _ 43 (0,0) HK);obtain⟨hr0,hr1⟩:=oI HK;refine tk [0] ?_;(refine lW (λK hK=>?_);go_simp;first|refine hK _ ?_|(apply Exists.intro;refine⟨λ_=>?_,hK _ ?_⟩;rfl);clear hK K)
 refine jh ?_;refine l7 1 rfl Aab Aab Aab (λ_ _ _ _ h=>h) Aad 39 _ rfl w.heap.size 9 rfl (dD k.node A.n).toList _ hr1 hl0 underlying39 rfl Aab ?_;refine tk [3] ?_;(refine lW (λK hK=>?_);go_simp;first|refine hK _ ?_|(apply Exists.intro;refine⟨λ_=>?_,hK _ ?_⟩;rfl);clear hK K)
 refine jh ?_;refine l7 4 rfl Aab Aab Aab (λ_ _ _ _ h=>h) Aad 39 _ rfl w.heap.size 0 rfl (dD k.base A.b).toList _ hr0 hl0 underlying39 rfl Aab ?_;refine tk [6,7,9,10,11,12,14,15] ?_;iterate 8 (refine lW (λK hK=>?_);go_simp;first|refine hK _ ?_|(apply Exists.intro;refine⟨λ_=>?_,hK _ ?_⟩;rfl);clear hK K)
 refine jh ?_;clear y18 y19 y20 y21 HK hl0 hr0 hr1;refine fP 2 rfl Aab Aad (λx2 hx2=>?_);go_simp;have g2:aH w x2:=Ge.trans HB0 hx2;refine(N9 x2 g2).mono ?_;rintro e z2 ⟨A1,G1,cc1,rfl,hN1,hy2⟩;refine⟨hy2,?_⟩;have HG2:=Hq (show aH w z2 from Ge.trans g2 hy2);obtain⟨H1,hN,hS,_⟩:=hN1.full;have yD:=Hq hN;have HD1:=Hq hS.nodup;have HR1:=Hq (show∀x∈H1.all k.node,w.heap.size<=x/\x < z2.heap.size from λx hx=>by have:=hS.rng x hx;have:=g2.size;omega);clear hN1 hN hS hx2 hy2 g2 HB0 N9;refine fP 5 rfl Aab Aad (λx5 hx5=>?_);go_simp;have g5:aH w x5:=Ge.trans HG2 hx5;refine(Df x5 g5).mono ?_;rintro e z5 ⟨A2,G2,Ph,rfl,hN2,hy5⟩;refine⟨hy5,?_⟩;have rR:=Hq (show aH w z5 from Ge.trans g5 hy5);obtain⟨H2,hN,hS,_⟩:=hN2.full;have Ii:=Hq hN;have HD2:=Hq hS.nodup;have HR2:=Hq (show∀x∈H2.all k.base,z2.heap.size<=x/\x < z5.heap.size from λx hx=>by have:=hS.rng x hx;have:=hx5.size;omega);have HL2:=Hq (show w.heap.size<=z2.heap.size from HG2.size);have HU2:=Hq (show aH z2 z5 from Ge.trans hx5 hy5);clear hN2 hN hS hx5 hy5 g5 HG2 Df;refine fP 8 rfl Aab Aad (λx8 hx8=>?_);go_simp;refine(clone k.log _ Aaa).mono ?_;rintro e z8 ⟨rfl,hy8⟩;refine⟨hy8,?_⟩;have HG8:=Hq (show aH w z8 from Ge.trans (Ge.trans rR hx8) hy8);have HU8:=Hq (show aH z5 z8 from Ge.trans hx8 hy8);clear hx8 hy8 rR;refine fP 13 rfl Aab Aad (λx13 PV=>?_);go_simp;have g13:aH w x13:=Ge.trans HG8 PV;refine(HCW x13 g13).mono ?_;rintro e z13 ⟨v,rfl,hwt,PW⟩;refine⟨PW,?_⟩;have alY:=Hq (show aH w z13 from Ge.trans g13 PW);obtain⟨wa,wc,rfl,_⟩:=GR.own_at (enc:=iH) (sz:=7) dA hwt;have HWT:=Hq (lM (B':=z5.heap.size) hwt (show z5.heap.size<=x13.heap.size from(Ge.trans HU8 PV).size));have HWL:=Hq (λx hx=>CG hwt (x:=x) hx);have amq:=Hq (show aH z5 z13 from Ge.trans (Ge.trans HU8 PV) PW);clear hwt PV PW g13 HG8 HU8 HCW;refine fP 16 rfl Aab Aad (λx16 hx16=>?_);go_simp;have g16:aH w x16:=Ge.trans alY hx16;refine(HCA x16 g16).mono ?_;rintro e z16 ⟨v,rfl,hat,afc⟩;refine⟨afc,?_⟩;have az2:=Hq (show aH w z16 from Ge.trans g16 afc);obtain⟨aa,ac,rfl,_⟩:=GR.own_at (enc:=eU) (sz:=12) aR hat;have HAT:=Hq (lM (B':=z13.heap.size) hat (show z13.heap.size<=x16.heap.size from hx16.size));have HAL:=Hq (λx hx=>CG hat (x:=x) hx);have amr:=Hq (show aH z13 z16 from Ge.trans hx16 afc);clear hat hx16 afc g16 alY HCA;refine tk [17] ?_;(refine lW (λK hK=>?_);go_simp;first|refine hK _ ?_|(apply Exists.intro;refine⟨λ_=>?_,hK _ ?_⟩;rfl);clear hK K)
 refine jh ?_;refine fP 18 rfl Aab Aad (λx18 Yy=>?_);go_simp;refine⟨au _ _,?_⟩;have amy:=Hq (show aH z16 x18 from Yy);clear Yy;refine fP 19 rfl Aab Aad (λx19 azf=>?_);go_simp;refine⟨aE3 _ _,?_⟩;refine dW Aab (λz hz=>?_);have HZ:=Hq (show Below (x18.alloc (.cells (hkG k ⟨A2,A1,wa,wc,aa,ac⟩ 0 false false) 115)).heap.size (x18.alloc (.cells (hkG k ⟨A2,A1,wa,wc,aa,ac⟩ 0 false false) 115)) z from Ge.trans azf hz);clear azf hz;go_wp2_with fail;have u16:aH z16 z:=Ge.trans amy (Ge.trans (au x18 _) HZ);have u13:aH z13 z:=Ge.trans amr u16;have u5:aH z5 z:=Ge.trans amq u13;have u2:aH z2 z:=Ge.trans HU2 u5;have s1:=(ah HL2);have s2:=HU2.size;have s3:=amq.size;have s4:=amr.size;have s5:=amy.size;have hg:=aj (aEP x18 (.cells (hkG k ⟨A2,A1,wa,wc,aa,ac⟩ 0 false false) 115)) HZ;have hgl:=ay hg
 exact aEY (v:= .pointer (some ⟨x18.heap.size,0,none⟩)) (by simp[results,results28,go_sem]) rfl ⟨⟨A2,A1,wa,wc,aa,ac⟩,z2.heap.size,z5.heap.size,z13.heap.size,x18.heap.size,rfl,hg,
  ⟨⟨H1,yD.below u2,HD1,HR1⟩,⟨H2,Ii.below u5,HD2,HR2⟩,⟨GR.own_below HWT u13,λx hx=>HWL x hx⟩,⟨GR.own_below HAT u16,λx hx=>aEZ (HAL x hx) s5⟩,s1,s2,s3,aEU s4 s5,Nat.le_of_lt hgl⟩,Ge.trans az2 u16⟩
theorem aV {w:World} {g:Nat} {k:Kp} {A:KA} {st:Int} {lk rt:Bool} {t:TypeId} (h:w.heap[g]?=some (.cells (hkG k A st lk rt) t (0,0))) (i:Nat):w.cell? ⟨g,i,none⟩=(hkG k A st lk rt)[i]?:=aE1 w g i _ t (0,0) h
theorem Co {w:World} {g:Nat} {k:Kp} {A:KA} {st:Int} {lk rt:Bool} {t:TypeId} (h:w.heap[g]?=some (.cells (hkG k A st lk rt) t (0,0))):w.rangeAt g 0 (dD k.node A.n).toList/\w.rangeAt g 11 (dD k.base A.b).toList:=by
 refine⟨xR h (λj v hj=>?_),xR h (λj v hj=>?_)⟩
 .exact aiv
 .exact aiv
abbrev hkB (w:World) (g:Nat) (k:Kp) (A:KA) (st:Int) (lk rt:Bool):Prop:=w.heap[g]?=some (.cells (hkG k A st lk rt) 115 (0,0))
theorem hkB.lock {w:World} {g:Nat} {k:Kp} {A:KA} {st:Int} {lk rt:Bool} (h:hkB w g k A st lk rt) (st':Int):hkB (w.setCell ⟨g,9,none⟩ (.int .i32 st')) g k A st' lk rt:=aP h 9 _
theorem uJ {w0 w w':World} {B g:Nat} (h:Below B w0 w) (hk:aA [g] w w') (hg:B<=g) (hB:B<=w.heap.size):Below B w0 w':=
 h.trans (hk.below (λx hx=>by rw [aE6.1 hx];exact hg) hB)
open Go.RowKit Go.MuLone
abbrev Sq:Array Value:=#[.int .i64 0,.int .i64 0,.slice none 0 0,.int .i64 0,.slice none 0 0,.slice none 0 0,.slice none 0 0,.int .i64 0,.slice none 0 0,.int .i64 0,.int .i64 0,.slice none 0 0,.int .i64 0,.slice none 0 0,.slice none 0 0,.slice none 0 0,.int .i64 0,.slice none 0 0,.string ByteArray.empty,.int .i64 0,.slice none 0 0,.slice none 0 0]
section
variable {P:Program} {ops:Array Oper} {Q:Exit->Act->World->Prop} {md:Region.Mode} {E r:Nat}
theorem DU (i o:Nat) {oi:Oper} {fuel:Nat} {listed:Array Bool} {a:Act} {w:World} (hi:ops[i]?=some oi) (hr:Region.ready md ops listed=[i]) (hw:Region.wanted oi (yielded ops a.tmps)=true) (Mf:i≠E)
 (ty:TypeId) (x y:Operand) (ho:oi.op= .store ty x y) (cells:Array Value) (hx:a.eval x= .pointer (some ⟨r,o,none⟩)) (hy:a.eval y= .agg cells) {L:List Value} {t:TypeId} (hb:w.heap[r]?=some (.cells L.toArray t (0,0))) (hs:o+cells.size<=L.length)
 (hn:(P.info? ty).map (·.size)=some cells.size) (h1:cells.all (·.oneCell')=true)
 (h:∀X,aA [r] w X->X.heap[r]?=some (.cells (GR.setRun L o cells.toList).toArray t (0,0))->jU P md ops Q E r fuel (listed.setIfInBounds i true) (a.put oi.dst undef) X):jU P md ops Q E r (fuel+1) listed a w:=
 rD i hi hr hw Mf λX hX=>by
  have hbX:=aj hb hX
  refine wp_store_mid ty x y ho r o cells hx hy (λj hj=>⟨by rw [aE1 X _ _ _ t (0,0) hbX];simp;omega,aC hbX _⟩) hn h1 ⟨dz _ _ _ _,h _ ((aA.of_below hX).trans (dz _ _ _ _)) ?_⟩
  rw [lU]
  exact GR.setW_blk cells.toList hbX
end
theorem P6 (k:Kp) (A:KA) (g:Nat) (lk rt:Bool) (w:World) (hg:hkB w g k A 0 lk rt):
 Calls prog 30 #[.pointer (some ⟨g,0,none⟩)] w λe w'=>e= .returned (.agg (yJ k A).toArray)/\aA [g] w w':=by
 have hgl:=ay hg;have c9:(w.alloc (.cells Sq 43)).cell? ⟨g,9,none⟩=some (.int .i32 0):=aV (aj hg (au w (.cells Sq 43))) 9;have f9:=aC (aj hg (au w (.cells Sq 43))) 9;have HG:=Hq hg;clear hg;go_enter_defers func30,ntmps30
 go_wp2_with (go_at_call 62;refine(lock_free WY ⟨g,9,none⟩ _ c9 f9).mono ?_;rintro e w' ⟨rfl,rfl⟩)
 clear c9 f9;refine wp_at (λW hW=>?_);have xY:Hid (hkB W g k A 1 lk rt):=by subst hW;exact aj ((show hkB w g k A 0 lk rt from HG).lock 1) (au _ _)
 have yO:Hid (aA [g] w W):=by subst hW;exact(aA.set _).trans (aA.of_below (au _ _))
 have Es:Hid (W.heap[w.heap.size]?=some (.cells Sq 43 (0,0))):=by
  subst hW;have h:=aEP (w.setCell ⟨g,9,none⟩ (.int .i32 1)) (.cells Sq 43);rwa [show(w.setCell ⟨g,9,none⟩ (.int .i32 1)).heap.size=w.heap.size by simp[World.setCell]] at h
 clear hW HG;generalize hr:w.heap.size=r at *;have hgr:g≠r:=Aaa
 have hgl:=ay xY;obtain⟨hr0,hr1⟩:=Co xY;have y20:=lJ (r:=r) (show W.cell? ⟨g,20,none⟩=some (.string k.log) from aV xY 20) hgr;have y21:=lJ (r:=r) (show W.cell? ⟨g,21,none⟩=some (.int .i64 k.safe) from aV xY 21) hgr;have y22:=lJ (r:=r) (show W.cell? ⟨g,22,none⟩=some (.slice A.wa k.wait.length A.wc) from aV xY 22) hgr;have y23:=lJ (r:=r) (show W.cell? ⟨g,23,none⟩=some (.slice A.aa k.asked.length A.ac) from aV xY 23) hgr;refine Xt ?_;refine rE 36 r Aab ?_;show jU _ _ _ _ _ _ 37 (Array.replicate 37 false) _ _
 refine tk [0,1,2] ?_;iterate 3 (refine EI 60 (vH _) (λK hK=>?_);go_simp;first|refine hK _ ?_|(apply Exists.intro;refine⟨λ_=>?_,hK _ ?_⟩;rfl);clear hK K)
 refine jh ?_;refine nX 3 60 rfl Aab Aab Aab Aab Aab (λ_ _ _ _ h=>h) Aad 39 _ rfl g 11 rfl (dD k.base A.b).toList _ hr1 ⟨hgl,hgr⟩ underlying39 rfl Aab ?_;refine tk [4,5,6] ?_;iterate 3 (refine EI 60 (vH _) (λK hK=>?_);go_simp;first|refine hK _ ?_|(apply Exists.intro;refine⟨λ_=>?_,hK _ ?_⟩;rfl);clear hK K)
 refine jh ?_;refine nX 7 60 rfl Aab Aab Aab Aab Aab (λ_ _ _ _ h=>h) Aad 39 _ rfl g 0 rfl (dD k.node A.n).toList _ hr0 ⟨hgl,hgr⟩ underlying39 rfl Aab ?_;refine tk [8,9,10,11,12,13,14,15,16,17,18,19,20,21,22,23] ?_;iterate 16 (refine EI 60 (vH _) (λK hK=>?_);go_simp;first|refine hK _ ?_|(apply Exists.intro;refine⟨λ_=>?_,hK _ ?_⟩;rfl);clear hK K)
 refine jh ?_;clear y20 y21 y22 y23 hr0 hr1;refine zF 24 rfl Aab Aad Aae 43 _ _ rfl Sq rfl rfl Es rfl Aab Aab (λX1 hk1 e1=>?_);refine tk [25] ?_;(refine EI 60 (vH _) (λK hK=>?_);go_simp;first|refine hK _ ?_|(apply Exists.intro;refine⟨λ_=>?_,hK _ ?_⟩;rfl);clear hK K)
 refine jh ?_;refine DU 26 0 rfl Aab Aad Aae 39 _ _ rfl (dD k.base A.b) rfl rfl (L:=Sq.toList) e1 (aFa Aab) Aab Aab (λX2 hk2 e2=>?_);have hk2:=hk1.trans hk2;clear hk1 e1;refine tk [27] ?_;(refine EI 60 (vH _) (λK hK=>?_);go_simp;first|refine hK _ ?_|(apply Exists.intro;refine⟨λ_=>?_,hK _ ?_⟩;rfl);clear hK K)
 refine jh ?_;refine DU 28 9 rfl Aab Aad Aae 39 _ _ rfl (dD k.node A.n) rfl rfl e2 (aFa Aab) Aab Aab (λX3 hk3 e3=>?_);have hk3:=hk2.trans hk3;clear hk2 e2;generalize hL3:GR.setRun (GR.setRun Sq.toList 0 (dD k.base A.b).toList) 9 (dD k.node A.n).toList=L3 at *;have hl3:L3.length=22:=by rw [<-hL3];kernel_rfl
 have sH:=Hq hL3;clear hL3;refine tk [29] ?_;(refine EI 60 (vH _) (λK hK=>?_);go_simp;first|refine hK _ ?_|(apply Exists.intro;refine⟨λ_=>?_,hK _ ?_⟩;rfl);clear hK K)
 refine jh ?_;refine rD 30 rfl Aab Aad Aae (λx hx=>?_);have ex:=aj e3 hx;have q:=aE1 x r 18 _ 43 (0,0) ex;rw [aGo,aEV (show 18 < L3.length by omega)] at q;have qf:=aC ex 18;go_simp;refine⟨aA.set _,?_⟩;have e4:=aP ex 18 (.string k.log);have hk4:=(hk3.trans (aA.of_below hx)).trans (aA.set (g:=r) (i:=18) (.string k.log));clear ex q qf hx e3 hk3;generalize x.setCell ⟨r,18,none⟩ (.string k.log)=X4 at *;obtain⟨L4,hL4⟩:∃L,L=L3.set 18 (.string k.log):=⟨_,rfl⟩;rw [aGy,<-hL4] at e4;have hl4:L4.length=22:=by rw [hL4,aF6];exact hl3
 have Iu:=Hq hL4;clear hL4 hl3;refine tk [31] ?_;(refine EI 60 (vH _) (λK hK=>?_);go_simp;first|refine hK _ ?_|(apply Exists.intro;refine⟨λ_=>?_,hK _ ?_⟩;rfl);clear hK K)
 refine jh ?_;refine rD 32 rfl Aab Aad Aae (λx hx=>?_);have ex:=aj e4 hx;have q:=aE1 x r 19 _ 43 (0,0) ex;rw [aGo,aEV (show 19 < L4.length by omega)] at q;have qf:=aC ex 19;go_simp;refine⟨aA.set _,?_⟩;have e5:=aP ex 19 (.int .i64 k.safe);have hk5:=(hk4.trans (aA.of_below hx)).trans (aA.set (g:=r) (i:=19) (.int .i64 k.safe));clear ex q qf hx e4 hk4;generalize x.setCell ⟨r,19,none⟩ (.int .i64 k.safe)=X5 at *;obtain⟨L5,hL5⟩:∃L,L=L4.set 19 (.int .i64 k.safe):=⟨_,rfl⟩;rw [aGy,<-hL5] at e5;have hl5:L5.length=22:=by rw [hL5,aF6];exact hl4
 have HL5:=Hq hL5;clear hL5 hl4;refine tk [33] ?_;(refine EI 60 (vH _) (λK hK=>?_);go_simp;first|refine hK _ ?_|(apply Exists.intro;refine⟨λ_=>?_,hK _ ?_⟩;rfl);clear hK K)
 refine jh ?_;refine rD 34 rfl Aab Aad Aae (λx hx=>?_);have ex:=aj e5 hx;have q:=aE1 x r 20 _ 43 (0,0) ex;rw [aGo,aEV (show 20 < L5.length by omega)] at q;have qf:=aC ex 20;go_simp;refine⟨aA.set _,?_⟩;have e6:=aP ex 20 (.slice A.wa k.wait.length A.wc);have Sl:=(hk5.trans (aA.of_below hx)).trans (aA.set (g:=r) (i:=20) (.slice A.wa k.wait.length A.wc));clear ex q qf hx e5 hk5;generalize x.setCell ⟨r,20,none⟩ (.slice A.wa k.wait.length A.wc)=X6 at *;obtain⟨L6,hL6⟩:∃L,L=L5.set 20 (.slice A.wa k.wait.length A.wc):=⟨_,rfl⟩;rw [aGy,<-hL6] at e6;have hl6:L6.length=22:=by rw [hL6,aF6];exact hl5
 have HL6:=Hq hL6;clear hL6 hl5;refine tk [35] ?_;(refine EI 60 (vH _) (λK hK=>?_);go_simp;first|refine hK _ ?_|(apply Exists.intro;refine⟨λ_=>?_,hK _ ?_⟩;rfl);clear hK K)
 refine jh ?_;refine vM Aab (λx hx=>?_);have ex:=aj e6 hx;have q:=aE1 x r 21 _ 43 (0,0) ex;rw [aGo,aEV (show 21 < L6.length by omega)] at q;have qf:=aC ex 21;refine aI 36 rfl Aab Aad ?_;go_simp;refine wpAny_done Aab ?_;unfold Wv;dsimp only;have e7:=aP ex 21 (.slice A.aa k.asked.length A.ac);have hk7:=(Sl.trans (aA.of_below hx)).trans (aA.set (g:=r) (i:=21) (.slice A.aa k.asked.length A.ac));clear ex q qf hx e6 Sl;generalize x.setCell ⟨r,21,none⟩ (.slice A.aa k.asked.length A.ac)=X7 at *;rw [aGy,ah HL6,ah HL5,ah Iu,<-ah sH] at e7;have HG7:=Hq (hk7.obj xY (by simpa using hgr));have HK7:=Hq (show aA [g] w X7 from⟨hk7.os.trans yO.os,hk7.tape.trans yO.tape,hk7.output.trans yO.output,aEU yO.size hk7.size,λx hx hF=>(hk7.block x (aEZ hx yO.size) Aah).trans (yO.block x hx hF)⟩);have HR7:=Hq (KR.blk (V:=yJ k A) (show X7.heap[r]?=some (.cells (yJ k A).toArray 43 (0,0)) from e7.trans Aab));clear e7 hk7 sH Iu HL5 HL6 xY yO Es;go_wp2_with fail;refine leaves_cons (f:=63) (args:=#[.pointer (some ⟨g,9,none⟩)]) Aac (by simp[go_sem]) ?_;refine(unlock_deferred WY ⟨g,9,none⟩ .returning _ (aV HG7 9) (aC HG7 9)).mono ?_;rintro e u' w'' ⟨rfl,rfl,rfl⟩;exact⟨_,CS rfl _ _ r (yJ k A) _ rfl (HR7.keeps (aA.set (g:=g) (i:=9) (.int .i32 0)) (by simpa using hgr.symm)).r underlying43 rfl Aab,rfl,HK7.trans (aA.set _)⟩
theorem hkB.there {w:World} {g:Nat} {k:Kp} {A:KA} {st:Int} {lk rt:Bool} (h:hkB w g k A st lk rt):w.there g 0 9:=λj hj=>by
 exact aie
theorem hkB.logs {w:World} {g:Nat} {k:Kp} {A:KA} {st:Int} {lk rt:Bool} (h:hkB w g k A st lk rt) (l:ByteArray) (s:Int):hkB ((w.setCell ⟨g,20,none⟩ (.string l)).setCell ⟨g,21,none⟩ (.int .i64 s)) g {k with log:=l,safe:=s} A st lk rt:=by
 have h1:hkB (w.setCell ⟨g,20,none⟩ (.string l)) g {k with log:=l} A st lk rt:=aP h 20 _;exact aP h1 21 _
theorem hkB.node {w:World} {g:Nat} {k:Kp} {A:KA} {st:Int} {lk rt:Bool} (h:hkB w g k A st lk rt) (n:Nd) (B:bq):hkB (w.setCells g 0 (dD n B).toList) g {k with node:=n} {A with n:=B} st lk rt:=by
 rw [lU];exact GR.setW_blk (o:=0) (xs:=(hkG k A st lk rt).toList) (dD n B).toList h
theorem hkB.lk {w:World} {g:Nat} {k:Kp} {A:KA} {st:Int} {lk rt:Bool} (h:hkB w g k A st lk rt):hkB (w.setCell ⟨g,24,none⟩ (.bool rt)) g k A st rt rt:=aP h 24 _
theorem J5 {s:Nat} {n:Nd} (hz:eG n 1048576):eO s n<=s+1200000000000:=by
 have h:=(Al (QX s n) 1048576 n.seen hz.sk).2;have h1:=hz.k;have h2:=hz.p;have h3:=hz.o;have h4:=hz.s;have h5:=hz.r;exact aiW
theorem Ev.keepsL {L:List Nat} {w w':World} (h:Ev (·∈L) w w'):aA L w w':=⟨h.os,h.tape,h.output,h.size,h.block⟩
theorem Wr.keepsL {S:Nat->Prop} {F:List Nat} {w w':World} {a:Option Addr} {n sz:Nat} (h:Wr S w a n sz) (hk:aA F w w') (hF:∀x,S x->x∉F):Wr S w' a n sz:=λi hi=>by
 obtain⟨g,e,hS,hg,hc⟩:=h i hi;have hb:=hk.block g hg (hF g hS);exact⟨g,e,hS,aEZ hg hk.size,λj hj=>⟨by rw [aFw (w:=w) (a:=⟨g,i*sz+j,none⟩) hb];exact(hc j hj).1,by rw [aGv (w:=w) (a:=⟨g,i*sz+j,none⟩) hb];exact(hc j hj).2⟩⟩
theorem Wr.nil {S:Nat->Prop} {w:World} {a:Option Addr} {sz:Nat}:Wr S w a 0 sz:=λi hi=>by omega
structure KpO (lo hi:Nat) (w:World) (A:KA) (k:Kp) (G1 G2:aN) (L:List Nat):Prop where
 b:gZ w A.b G1 k.base
 n:gZ w A.n G2 k.node
 bn:(G1.all k.base).Nodup
 nn:(G2.all k.node).Nodup
 d:∀x∈G1.all k.base,x∉G2.all k.node
 wt:Wr (·∈L) w A.wa k.wait.length 7
 sk:Wr (·∈L) w A.aa k.asked.length 12
 dl:∀x∈L,x∉G1.all k.base/\x∉G2.all k.node
 r:∀x∈G1.all k.base++(G2.all k.node++L),lo<=x/\x < hi
theorem KpO.keeps {lo hi:Nat} {w w':World} {A:KA} {k:Kp} {G1 G2:aN} {L F:List Nat} (h:KpO lo hi w A k G1 G2 L) (hk:aA F w w') (hF:∀x∈F,x < lo\/hi<=x):KpO lo hi w' A k G1 G2 L:=by
 have q:∀x∈G1.all k.base++(G2.all k.node++L),x∉F:=λx hx hm=>by have:=h.r x hx;have:=hF x hm;omega
 exact⟨h.b.keeps hk (λx hx=>q x Aai),h.n.keeps hk (λx hx=>q x Aai),h.bn,h.nn,h.d,h.wt.keepsL hk (λx hx=>q x Aai),h.sk.keepsL hk (λx hx=>q x Aai),h.dl,h.r⟩
theorem KpO.below {lo hi:Nat} {w w':World} {A:KA} {k:Kp} {G1 G2:aN} {L:List Nat} (h:KpO lo hi w A k G1 G2 L) (hb:aH w w'):KpO lo hi w' A k G1 G2 L:=h.keeps (F:=[]) (aA.of_below hb) (λ_ hx=>Abe)
def eKp (k:Kp):Nat:=eO (eO 1 k.base) k.node+7*k.wait.length+12*k.asked.length
structure MK (w:World) (A:KA) (k:Kp) (G1 G2:aN):Prop where
 b:gZ w A.b G1 (sQ 1 k.base)
 n:gZ w A.n G2 (sQ (eO 1 k.base) k.node)
theorem MK.below {w w':World} {A:KA} {k:Kp} {G1 G2:aN} (h:MK w A k G1 G2) (hb:aH w w'):MK w' A k G1 G2:=⟨h.b.below hb,h.n.below hb⟩
open Go.WideShapes
open Go.ChangeShapes
theorem Vg:prog.cellsOf 85=7:=Aab
theorem ZV:prog.cellsOf 88=11:=Aab
theorem azU:prog.cellsOf 29=1:=Aab
theorem azT:prog.cellsOf 30=1:=Aab
section
variable {H:Type} {enc:TypeId×Value->H} {W:World}
theorem Y9 {fuel:Nat} {cs:List Value} {x:DataW H×List MemPlace} (h:DataW.trod enc prog W 0 (λ_=>true) true fuel 29 cs=some x):
 ∃(a:Option Addr) (cap:Nat) (l:List Mg),cs=[.slice a l.length cap]/\l.length<=maxLen/\(∀y∈l,y.k.size<=maxLen)/\GR.At iH 7 W a l:=
 nS (en:=iH) (sz:=7) (ok:=λy=>y.k.size<=maxLen) underlying29 Aab Aaa dA (λfuel cs' x hlen h=>by
  match cs',hlen with
  |[v0,v1,v2,v3,v4,v5,v6],_=>
   obtain⟨xs1,kk1,_,_,_,akX,IY⟩:=aF9 underlying85 h
   match xs1,akX with
   |[aDt,aDu,aEu,aEv,aEw,aEx,aEy],_=>
    have abH:=IY 0 _ rfl
    have abI:=IY 1 _ rfl
    have ayj:=IY 2 _ rfl
    have ayk:=IY 3 _ rfl
    have ayl:=IY 4 _ rfl
    have aym:=IY 5 _ rfl
    have ayn:=IY 6 _ rfl
    simp[iM,lT] at abH abI ayj ayk ayl aym ayn
    obtain⟨aC0,azp,_⟩:=aFg underlying3 abH
    obtain⟨ak9,adg,_⟩:=aFg underlying3 abI
    obtain⟨aC1,azq,_⟩:=aFg underlying3 ayj
    obtain⟨aC2,azr,_⟩:=aFg underlying3 ayk
    obtain⟨aC3,azs,_⟩:=aFg underlying3 ayl
    obtain⟨aDm,azt,_,ayW⟩:=aGr underlying9 aym
    obtain⟨aC4,azu,_⟩:=aFg underlying3 ayn
    simp at azp adg azq azr azs azt azu
    subst azp adg azq azr azs azt azu
    exact⟨⟨aC0,ak9,aC1,aC2,aC3,aDm,aC4⟩,ayW,rfl⟩) h
theorem MZ {fuel:Nat} {cs:List Value} {x:DataW H×List MemPlace} (h:DataW.trod enc prog W 0 (λ_=>true) true fuel 30 cs=some x):
 ∃(a:Option Addr) (cap:Nat) (l:List An),cs=[.slice a l.length cap]/\l.length<=maxLen/\(∀y∈l,y.o.k.size<=maxLen/\y.o.m.k.size<=maxLen)/\GR.At eU 12 W a l:=
 nS (en:=eU) (sz:=12) (ok:=λy=>y.o.k.size<=maxLen/\y.o.m.k.size<=maxLen) underlying30 Aab Aaa aR (λfuel cs' x hlen h=>by
  match cs',hlen with
  |[v0,v1,v2,v3,v4,v5,v6,v7,v8,v9,v10,v11],_=>
   obtain⟨xs1,kk1,_,_,_,akX,IY⟩:=aF9 underlying90 h
   match xs1,akX with
   |[aDt,aDu],_=>
    have abH:=IY 0 _ rfl
    have abI:=IY 1 _ rfl
    simp[iM,ZV] at abH abI
    obtain⟨xs2,kk2,_,_,_,aCW,abY⟩:=aF9 underlying88 abH
    match xs2,aCW with
    |[aEz,aEA,aEB,aEC,aED],_=>
     have ayo:=abY 0 _ rfl
     have ayp:=abY 1 _ rfl
     have ayq:=abY 2 _ rfl
     have ayr:=abY 3 _ rfl
     have ays:=abY 4 _ rfl
     simp[iM,lT,Vg] at ayo ayp ayq ayr ays
     obtain⟨aC5,azv,_⟩:=aFg underlying3 ayo
     obtain⟨aC6,azw,_⟩:=aFg underlying3 ayp
     obtain⟨aDn,azx,_,ayX⟩:=aGr underlying9 ayq
     obtain⟨aC7,azy,_⟩:=aFg underlying3 ayr
     obtain⟨xs3,kk3,_,_,_,aCX,Uc⟩:=aF9 underlying85 ays
     match xs3,aCX with
     |[aEE,aEF,aEG,aEH,aEI,aEJ,aEK],_=>
      have ayt:=Uc 0 _ rfl
      have ayu:=Uc 1 _ rfl
      have ayv:=Uc 2 _ rfl
      have ayw:=Uc 3 _ rfl
      have ayx:=Uc 4 _ rfl
      have ayy:=Uc 5 _ rfl
      have ayz:=Uc 6 _ rfl
      simp[iM,lT] at ayt ayu ayv ayw ayx ayy ayz
      obtain⟨aC8,azz,_⟩:=aFg underlying3 ayt
      obtain⟨aC9,azA,_⟩:=aFg underlying3 ayu
      obtain⟨aDa,azB,_⟩:=aFg underlying3 ayv
      obtain⟨aDb,azC,_⟩:=aFg underlying3 ayw
      obtain⟨aDc,azD,_⟩:=aFg underlying3 ayx
      obtain⟨aDo,azE,_,ayY⟩:=aGr underlying9 ayy
      obtain⟨aDd,azF,_⟩:=aFg underlying3 ayz
      obtain⟨ak9,adg,_⟩:=aFg underlying3 abI
      simp at azv azw azx azy azz azA azB azC azD azE azF adg
      subst azv azw azx azy azz azA azB azC azD azE azF adg
      exact⟨⟨⟨aC5,aC6,aDn,aC7,⟨aC8,aC9,aDa,aDb,aDc,aDo,aDd⟩⟩,ak9⟩,⟨ayX,ayY⟩,rfl⟩) h
theorem Gl {fuel:Nat} {v0 v1 v2 v3 v4 v5 v6 v7 v8:Value} {x:DataW H×List MemPlace} (h:DataW.trod enc prog W 0 (λ_=>true) true fuel 28 [v0,v1,v2,v3,v4,v5,v6,v7,v8]=some x):
 ∃(n:Nd) (A:bq),[v0,v1,v2,v3,v4,v5,v6,v7,v8]=(dD n A).toList/\eG n maxLen/\cK W A n:=by
 obtain⟨xs,k,_,_,_,hxl,hfl⟩:=aF9 underlying28 h;match xs,hxl with
 |[y0,y1,y2,y3,y4,y5,y6,y7,y8],_=>
  have g0:=hfl 0 _ rfl
  have g1:=hfl 1 _ rfl
  have g2:=hfl 2 _ rfl
  have g3:=hfl 3 _ rfl
  have g4:=hfl 4 _ rfl
  have g5:=hfl 5 _ rfl
  have g6:=hfl 6 _ rfl
  have g7:=hfl 7 _ rfl
  have g8:=hfl 8 _ rfl
  simp[iM,Gg,azj,azk,azl,azm] at g0 g1 g2 g3 g4 g5 g6 g7 g8
  obtain⟨n0,q0,_⟩:=aFg underlying3 g0
  obtain⟨n1,q1,_⟩:=aFg underlying3 g1
  obtain⟨b2,c2,l2,q2,z2,t2⟩:=open_ints' g2
  obtain⟨n3,q3,_⟩:=aFg underlying3 g3
  obtain⟨b4,c4,l4,q4,z4,s4,t4⟩:=M0 g4
  obtain⟨b5,c5,l5,q5,z5,s5,t5⟩:=UE g5
  obtain⟨b6,c6,l6,q6,z6,s6,t6⟩:=Zb g6
  obtain⟨n7,q7,_⟩:=aFg underlying3 g7
  obtain⟨b8,c8,l8,q8,z8,s8,t8⟩:=Za g8
  simp at q0 q1 q2 q3 q4 q5 q6 q7 q8
  subst q0 q1 q2 q3 q4 q5 q6 q7 q8
  exact⟨⟨n0,n1,l2,n3,l4,l5,l6,n7,l8⟩,⟨b2,b4,b5,b6,b8,c2,c4,c5,c6,c8⟩,rfl,⟨z2,z4,z5,z6,z8,s4,s5,s6,s8⟩,⟨t2,t4,t5,t6,t8⟩⟩
end
theorem afm:prog.cellsOf 32=22:=Aab
section
variable {H:Type} {enc:TypeId×Value->H} {W:World}
theorem Qz {r:Reach} {base:Nat} {v:Value} {d:DataW H} {p:List MemPlace} (hv:Value.okWide prog W r base 32 v) (h:DataW.Trod enc prog W 0 (λ_=>true) true 32 v d p):
 ∃(k:Kp) (A:KA),v=Jg k A/\qd k maxLen/\jw W A k:=by
 simp only[Value.okWide,underlying32] at hv;obtain⟨cs,rfl,hsz,ts,hts,_,hall⟩:=hv;obtain⟨fuel,hf⟩:=h;have hlen:=hsz.trans afm;obtain⟨L⟩:=cs;match L,hlen with
 |[v0,v1,v2,v3,v4,v5,v6,v7,v8,v9,v10,v11,v12,v13,v14,v15,v16,v17,v18,v19,v20,v21],_=>
  obtain⟨xs,kk,_,_,_,hxl,hfl⟩:=aF9 underlying32 hf
  match xs,hxl with
  |[y0,y1,y2,y3,y4,y5],_=>
   have g0:=hfl 0 _ rfl
   have g1:=hfl 1 _ rfl
   have g2:=hfl 2 _ rfl
   have g3:=hfl 3 _ rfl
   have g4:=hfl 4 _ rfl
   have g5:=hfl 5 _ rfl
   simp[iM,lT,afv,azU,azT,Value.cells] at g0 g1 g2 g3 g4 g5
   obtain⟨B0,AB,q0,z0,t0⟩:=Gl g0
   obtain⟨N0,AN,q1,z1,t1⟩:=Gl g1
   obtain⟨lg,q2,_,z2⟩:=aGr underlying9 g2
   obtain⟨sf,q3,_⟩:=aFg underlying3 g3
   obtain⟨wa,wc,wt,q4,z4,s4,t4⟩:=Y9 g4
   obtain⟨aa,ac,sk,q5,z5,s5,t5⟩:=MZ g5
   simp at q0 q1 q2 q3 q4 q5
   obtain⟨rfl,rfl,rfl,rfl,rfl,rfl,rfl,rfl,rfl⟩:=q0
   obtain⟨rfl,rfl,rfl,rfl,rfl,rfl,rfl,rfl,rfl⟩:=q1
   subst q2 q3 q4 q5
   exact⟨⟨B0,N0,lg,sf,wt,sk⟩,⟨AB,AN,wa,wc,aa,ac⟩,rfl,⟨z0,z1,z2,z4,z5,s4,s5⟩,⟨t0,t1,t4,t5⟩⟩
end
end Go.Proofs.YtbolgdleijjgfaaGreatDoor
