/- Parts. -/
import Derived.Test.YtohmklmkjmlpjaaGreatDoorRk24
import Derived.Test.YtohmklmkjmlpjaaGreatDoorRk28
namespace Go.Proofs.YtohmklmkjmlpjaaGreatDoor
open Go.Proofs.Tryz
set_option maxHeartbeats 4000000
set_option maxRecDepth 100000
open Go.RowKit
open Mth
variable {w w':World} {g lo m1 m2 m3:Nat} {A:KA} {k:Kp} {t:TypeId} {st:Int} {lk rt:Bool}
theorem Ov {g:Nat} {t:TypeId}:∀(vs:List Value) (o:Nat) (w:World) (cs:Array Value),w.heap[g]?=some (.cells cs t (0,0))->(∀(j:Nat) v,vs[j]?=some v->w.cell? ⟨g,o+j,none⟩=some v)->Below w.heap.size w (GR.setW w g o vs):=by
 intro vs;induction vs with
 |nil=>intro o w cs _ _;exact Below.refl _ _
 |cons v vs ih=>
  intro o w cs h hc;have h1:=mD h (hc 0 v rfl);have hl:=aA h
  have h2:=ih (o+1) _ cs (au h h1) (λj u hj=>by
   have h3:=hc (j+1) u hj
   rw [show o+1+j=o+(j+1) by omega]
   exact(h1.cell (p:=⟨g,o+(j+1),none⟩) hl).trans h3)
  exact h1.trans (h2.mono h1.size)
theorem flat_one {α:Type} {en:α->List Value} (h:∀x,(en x).all (·.oneCell')=true) (l:List α):∀u∈GR.flat en l,u.oneCell'=true:=by
 intro u hu;unfold GR.flat at hu;rw [List.mem_flatMap] at hu;obtain⟨p,_,hp⟩:=hu;exact List.all_eq_true.1 (h p) u hp
theorem ad9 (a:Option Addr) (cap:Nat) (l:List Mg) (w:World) (hl:l.length<=1048600) (hv:∀u∈GR.flat iT l,u.oneCell'=true) (ha:GR.At iT 7 w a l):
 Calls prog 123 #[.slice a l.length cap] w λe w'=>∃v,e= .returned v/\w'.ownsRow w.heap.size 98 7 v l.length (GR.flat iT l)/\aI w w':=by
 obtain⟨i0,hi,hz0,hz1,hz2⟩:=info_parts Pm;have q22:∀(w:World) (a:Option Addr) (n c n' c':Nat),(binOp .eql 41 (.slice a n c) (.slice none n' c')).run prog w= .ok (.bool a.isNone) w:=λw a n c n' c'=>Lib.run_eql_slice_nil w _ _ a n c n' c' underlying41
 have hlit:(w.alloc (.cells #[] 98)).ownsRow w.heap.size 98 7 (.slice (some ⟨w.heap.size,0,none⟩) 0 0) 0 []:=World.ownsRow_lit (base:=w.heap.size) (e:=98) (size:=7) w #[] 0 (Nat.le_refl _) Aae rfl;cases a with
 |none=>
  have hl0:l=[]:=GR.none_nil ha;subst hl0;clear ha hlit hv;go_in
  exact R8
 |some x=>
  have HN:=Hq (JE dV Aaa (GR.At.below ha (ay w (.cells #[] 98))));have HV:=Hq hv;clear ha hv;go_in
  go_wp2_with (at_builtin;refine wpList_append_own _ rfl _ _ 41 rfl w.heap.size 98 i0 (.agg (bV 0 0 0 0 0 ByteArray.empty 0)) 7 64 underlying41 hi hz0 hz1 hz2 rfl Aae _ 0 [] rfl hlit x l.length cap (GR.flat iT l) rfl ?c0 ?c1 ?c2 ?c3 ?c4 ?c5 ?_)
  case c0=>exact GR.flat_length iT 7 dV l
  case c1=>exact HN
  case c2=>exact HV
  case c3=>unfold maxLen;omega
  case c4=>omega
  case c5=>simp
  intro v' w1 hown' hgrow _;have HO:=Hq (show w1.ownsRow w.heap.size 98 7 v' l.length (GR.flat iT l) by simpa using hown');exact Wu
theorem ad7 (a:Option Addr) (cap:Nat) (l:List An) (w:World) (hl:l.length<=1048600) (hv:∀u∈GR.flat gV l,u.oneCell'=true) (ha:GR.At gV 12 w a l):
 Calls prog 124 #[.slice a l.length cap] w λe w'=>∃v,e= .returned v/\w'.ownsRow w.heap.size 120 12 v l.length (GR.flat gV l)/\aI w w':=by
 obtain⟨i0,hi,hz0,hz1,hz2⟩:=info_parts Cg;have q22:∀(w:World) (a:Option Addr) (n c n' c':Nat),(binOp .eql 42 (.slice a n c) (.slice none n' c')).run prog w= .ok (.bool a.isNone) w:=λw a n c n' c'=>Lib.run_eql_slice_nil w _ _ a n c n' c' underlying42
 have hlit:(w.alloc (.cells #[] 120)).ownsRow w.heap.size 120 12 (.slice (some ⟨w.heap.size,0,none⟩) 0 0) 0 []:=World.ownsRow_lit (base:=w.heap.size) (e:=120) (size:=12) w #[] 0 (Nat.le_refl _) Aae rfl;cases a with
 |none=>
  have hl0:l=[]:=GR.none_nil ha;subst hl0;clear ha hlit hv;go_in
  exact R8
 |some x=>
  have HN:=Hq (JE dz Aaa (GR.At.below ha (ay w (.cells #[] 120))));have HV:=Hq hv;clear ha hv;go_in
  go_wp2_with (at_builtin;refine wpList_append_own _ rfl _ _ 42 rfl w.heap.size 120 i0 (.agg #[.int .i64 0,.int .i64 0,.string ByteArray.empty,.int .i64 0,.int .i64 0,.int .i64 0,.int .i64 0,.int .i64 0,.int .i64 0,.string ByteArray.empty,.int .i64 0,.int .i64 0]) 12 112 underlying42 hi hz0 hz1 hz2 rfl Aae _ 0 [] rfl hlit x l.length cap (GR.flat gV l) rfl ?c0 ?c1 ?c2 ?c3 ?c4 ?c5 ?_)
  case c0=>exact GR.flat_length gV 12 dz l
  case c1=>exact HN
  case c2=>exact HV
  case c3=>unfold maxLen;omega
  case c4=>omega
  case c5=>simp
  intro v' w1 hown' hgrow _;have HO:=Hq (show w1.ownsRow w.heap.size 120 12 v' l.length (GR.flat gV l) by simpa using hown');exact Wu
theorem Ti (o:gK) (w:World) (h1:o.k.size<=1048576) (h2:o.m.k.size<=1048576):Calls prog 125 #[.agg (bZ o.K o.no o.k o.n o.m.K o.m.F o.m.T o.m.I o.m.L o.m.k o.m.N)] w (eG w (.agg (bZ o.K o.no o.k o.n o.m.K o.m.F o.m.T o.m.I o.m.L o.m.k o.m.N))):=by
 obtain⟨K,no,k,n,mK,mF,mT,mI,mL,mk,mN⟩:=o;dsimp only at h1 h2 ⊢;obtain⟨hX,hY,hB⟩:=ig w (.cells (bZ K no k n mK mF mT mI mL mk mN) 100) (.cells (bZ 0 0 ⟨#[]⟩ 0 0 0 0 0 0 ⟨#[]⟩ 0) 100);go_in
 go_upto_region 1 with fail;refine wp_at (λW hW=>?_);rw [<-hW] at hX hY hB;clear hW;obtain⟨⟨x0,x1,x2,x3,x4,x5,x6,x7,x8,x9,x10⟩,_⟩:=aM hX;have HX:=Hq hX;have HY:=Hq hY;have HB:=Hq hB;clear hX hY hB;go_wp2_with fail;refine(clone k _ Aaa).mono ?_;rintro e W1 ⟨rfl,hb1⟩;have AP:=Hq (au HX hb1);have HY1:=Hq (au HY hb1);have HB1:=Hq (HB.trans (hb1.mono HB.size));clear hb1 x0 x1 x2 x3 x4 x5 x6 x7 x8 x9 x10 HX HY HB;have f2:=aj AP 2;obtain⟨⟨x0,x1,x2,x3,x4,x5,x6,x7,x8,x9,x10⟩,_⟩:=aM AP;go_upto_region 2 with fail;refine wp_at (λW2 hW=>?_);have hs:aI W1 W2:=by rw [hW];exact mD AP x2
 have YF:=Hq (au AP hs);have HY2:=Hq (au HY1 hs);have HB2:=Hq (HB1.trans (hs.mono HB1.size));clear hW hs f2 x0 x1 x2 x3 x4 x5 x6 x7 x8 x9 x10 AP HY1 HB1;obtain⟨⟨x0,x1,x2,x3,x4,x5,x6,x7,x8,x9,x10⟩,_⟩:=aM YF;go_wp2_with fail;refine(clone mk _ Aaa).mono ?_;rintro e W3 ⟨rfl,hb3⟩;have Rh:=Hq (au YF hb3);have HY3:=Hq (au HY2 hb3);have HB3:=Hq (HB2.trans (hb3.mono HB2.size));clear hb3 x0 x1 x2 x3 x4 x5 x6 x7 x8 x9 x10 YF HY2 HB2;have f9:=aj Rh 9;obtain⟨⟨x0,x1,x2,x3,x4,x5,x6,x7,x8,x9,x10⟩,_⟩:=aM Rh;go_upto_region 3 with fail;refine wp_at (λW4 hW=>?_);have hs:aI W3 W4:=by rw [hW];exact mD Rh x9
 have HX4:=Hq (au Rh hs);have HY4:=Hq (au HY3 hs);have nR:=Hq (HB3.trans (hs.mono HB3.size));clear hW hs f9 x0 x1 x2 x3 x4 x5 x6 x7 x8 x9 x10 Rh HY3 HB3;obtain⟨⟨x0,x1,x2,x3,x4,x5,x6,x7,x8,x9,x10⟩,_⟩:=aM HX4;obtain⟨⟨y0,y1,y2,y3,y4,y5,y6,y7,y8,y9,y10⟩,f0,f1,f2,f3,f4,f5,f6,f7,f8,f9,f10⟩:=aM HY4;go_wp2_with fail;refine iB (λW' hW'=>?_);have hY':W'.heap[w.heap.size+1]?=some (.cells (bZ K no k n mK mF mT mI mL mk mN) 100 (0,0)):=by rw [hW'];exact kU HY4
 have hB':aI w W':=by rw [hW'];exact iI nR Aaa
 clear hW';obtain⟨⟨r0,r1,r2,r3,r4,r5,r6,r7,r8,r9,YQ⟩,_⟩:=aM hY';exact bodyPost_ret (v:= .agg (bZ K no k n mK mF mT mI mL mk mN)) (by simp[results,results125,go_sem,r0,r1,r2,r3,r4,r5,r6,r7,r8,r9,YQ]) rfl ⟨rfl,hB'⟩
theorem Ld (a:Option Addr) (cap:Nat) (l:List Mg) (w:World) (hl:l.length<=1048576) (hk:∀x∈l,x.k.size<=1048576) (ha:GR.At iT 7 w a l):
 Calls prog 68 #[.slice a l.length cap] w λe w'=>∃v,e= .returned v/\w'.ownsRow w.heap.size 98 7 v l.length (GR.flat iT l)/\aI w w':=by
 have jy:=Hq (ad9 a cap l w Aaa (flat_one (λ_=>rfl) l) ha);have Ro:=Hq hk;clear ha hk;go_in
 go_wp2_with fail;refine jy.mono ?_;rintro e w1 ⟨v,rfl,hown,hb1⟩;obtain⟨a',c',rfl,_⟩:=GR.own_at (enc:=iT) (sz:=7) dV hown;have HO:=Hq hown;have HB1:=Hq hb1;clear hown hb1 jy;go_wp2_with fail;go_loopw [9] (λi wr=>∃k:Nat,k<=l.length/\i= .int .i64 k/\aI w1 wr) (λi _=>l.length - (intOf i).toNat)
 case atStart=>exact AQ
 case round=>
  obtain⟨k,hk,rfl,hbel⟩:=hrel;have cK:=Hq hbel;clear hbel;by_cases hlt:k < l.length
  .open as0 in exact agb
  .exact ahi
theorem Da (a:Option Addr) (cap:Nat) (l:List An) (w:World) (hl:l.length<=1048576) (hk:∀x∈l,x.o.k.size<=1048576/\x.o.m.k.size<=1048576) (ha:GR.At gV 12 w a l):
 Calls prog 69 #[.slice a l.length cap] w λe w'=>∃v,e= .returned v/\w'.ownsRow w.heap.size 120 12 v l.length (GR.flat gV l)/\aI w w':=by
 have jy:=Hq (ad7 a cap l w Aaa (flat_one (λ_=>rfl) l) ha);have Ro:=Hq hk;clear ha hk;go_in
 go_wp2_with fail;refine jy.mono ?_;rintro e w1 ⟨v,rfl,hown,hb1⟩;obtain⟨a',c',rfl,_⟩:=GR.own_at (enc:=gV) (sz:=12) dz hown;have HO:=Hq hown;have HB1:=Hq hb1;clear hown hb1 jy;go_wp2_with fail;go_loopw [9] (λi wr=>∃k:Nat,k<=l.length/\i= .int .i64 k/\aI w1 wr) (λi _=>l.length - (intOf i).toNat)
 case atStart=>exact AQ
 case round=>
  obtain⟨k,hk,rfl,hbel⟩:=hrel;have cK:=Hq hbel;clear hbel;by_cases hlt:k < l.length
  .open asZ in exact agb
  .exact ahi
abbrev hkG (k:Kp) (A:KA) (st:Int) (l r:Bool):Array Value:=#[.int .i64 k.node.id,.int .i64 k.node.par,.slice A.n.k k.node.kids.length A.n.ck,.int .i64 k.node.next,.slice A.n.p k.node.pu.length A.n.cp,.slice A.n.o k.node.out.length A.n.co,.slice A.n.s k.node.seen.length A.n.cs,.int .i64 k.node.old,.slice A.n.r k.node.reqs.length A.n.cr,.int .i32 st,.int .u32 0,.int .i64 k.base.id,.int .i64 k.base.par,.slice A.b.k k.base.kids.length A.b.ck,.int .i64 k.base.next,.slice A.b.p k.base.pu.length A.b.cp,.slice A.b.o k.base.out.length A.b.co,.slice A.b.s k.base.seen.length A.b.cs,.int .i64 k.base.old,.slice A.b.r k.base.reqs.length A.b.cr,.string k.log,.int .i64 k.safe,.slice A.wa k.wait.length A.wc,.slice A.aa k.asked.length A.ac,.bool l,.bool r]
structure KH (lo m1 m2 m3 g:Nat) (w:World) (A:KA) (k:Kp):Prop where
 n:∃G,rz w A.n G k.node/\(G.all k.node).Nodup/\∀x∈G.all k.node,lo<=x/\x < m1
 b:∃G,rz w A.b G k.base/\(G.all k.base).Nodup/\∀x∈G.all k.base,m1<=x/\x < m2
 wt:w.ownsRow m2 98 7 (.slice A.wa k.wait.length A.wc) k.wait.length (GR.flat iT k.wait)/\∀x,(Value.slice A.wa k.wait.length A.wc).ownBlock=some x->x < m3
 sk:w.ownsRow m3 120 12 (.slice A.aa k.asked.length A.ac) k.asked.length (GR.flat gV k.asked)/\∀x,(Value.slice A.aa k.asked.length A.ac).ownBlock=some x->x < g
 le:lo<=m1/\m1<=m2/\m2<=m3/\m3<=g/\g<=w.heap.size
theorem KH.keeps {F:List Nat} (h:KH lo m1 m2 m3 g w A k) (hk:aC F w w') (hF:∀x∈F,g<=x\/x < lo):KH lo m1 m2 m3 g w' A k:=by
 obtain⟨⟨G1,n1,d1,r1⟩,⟨G2,n2,d2,r2⟩,⟨hw,bw⟩,⟨ha,ba⟩,l1,l2,l3,l4,l5⟩:=h;have hs:=hk.size;refine⟨⟨G1,n1.keeps hk (λx hx hm=>?_),d1,r1⟩,⟨G2,n2.keeps hk (λx hx hm=>?_),d2,r2⟩,⟨jm hw (λx hx=>hk.block x (Bz hw hx) (λhm=>?_)),bw⟩,⟨jm ha (λx hx=>hk.block x (Bz ha hx) (λhm=>?_)),ba⟩,l1,l2,l3,l4,Aaa⟩
 .have:=r1 x hx;have:=hF x hm;omega
 .have:=r2 x hx;have:=hF x hm;omega
 .have:=bw x hx;have:=um hw hx;have:=hF x hm;omega
 .have:=ba x hx;have:=um ha hx;have:=hF x hm;omega
theorem KH.below (h:KH lo m1 m2 m3 g w A k) (hb:aI w w'):KH lo m1 m2 m3 g w' A k:=h.keeps (F:=[]) (aC.of_below hb) (λ_ hx=>Abr)
theorem KH.at (h:KH lo m1 m2 m3 g w A k):qX w A k:=by
 obtain⟨⟨_,n1,_⟩,⟨_,n2,_⟩,⟨hw,_⟩,⟨ha,_⟩,_⟩:=h;obtain⟨_,_,e1,h1⟩:=GR.own_at (enc:=iT) (sz:=7) dV hw;obtain⟨_,_,e2,h2⟩:=GR.own_at (enc:=gV) (sz:=12) dz ha;injection e1 with e1 _ _
 injection e2 with e2 _ _
 exact⟨n2.at,n1.at,by rw [e1];exact h1,by rw [e2];exact h2⟩
theorem wD {b:Nat} {cs:Array Value} {o:Nat} {vs:List Value} (h:w.heap[b]?=some (.cells cs t (0,0))) (hv:∀j v,vs[j]?=some v->cs[o+j]?=some v):w.rangeAt b o vs:=λj v hj=>by
 rw [cell_of_row w b (o+j) _ t (0,0) h];exact hv j v hj
theorem yj {j:Nat} (h:j < 9):j=0\/j=1\/j=2\/j=3\/j=4\/j=5\/j=6\/j=7\/j=8:=Aaa
theorem PE (h:w.heap[g]?=some (.cells (Nk k A).toArray t (0,0))):w.rangeAt g 0 (dG k.base A.b).toList/\w.rangeAt g 9 (dG k.node A.n).toList:=by
 refine⟨wD h (λj v hj=>?_),wD h (λj v hj=>?_)⟩
 .have hj9:j < 9:=(List.getElem?_eq_some_iff.1 hj).1;rcases yj hj9 with rfl|rfl|rfl|rfl|rfl|rfl|rfl|rfl|rfl<;>exact hj
 .have hj9:j < 9:=(List.getElem?_eq_some_iff.1 hj).1;rcases yj hj9 with rfl|rfl|rfl|rfl|rfl|rfl|rfl|rfl|rfl<;>exact hj
theorem abG (k:Kp) (A:KA) (w:World) (hz:xK k 1048576) (ha:qX w A k):
 Calls prog 25 #[YN k A] w λe w'=>∃A' m1 m2 m3 g,e= .returned (.pointer (some ⟨g,0,none⟩))/\w'.heap[g]?=some (.cells (hkG k A' 0 false false) 132 (0,0))/\KH w.heap.size m1 m2 m3 g w' A' k/\aI w w':=by
 have Gj:=Hq (λW (h:aI w W)=>tO k.base A.b W hz.b (ha.below h).kb);have Rk:=Hq (λW (h:aI w W)=>tO k.node A.n W hz.n (ha.below h).kn);have HCW:=Hq (λW (h:aI w W)=>Ld A.wa A.wc k.wait W hz.w hz.wk (ha.below h).kw);have HCA:=Hq (λW (h:aI w W)=>Da A.aa A.ac k.asked W hz.a hz.ak (ha.below h).ka);have hlg:=hz.l;clear hz ha;go_in
 go_upto_region 1 with fail;refine wp_at (λW0 hW=>?_);have e1:W0.heap[w.heap.size]?=some (.cells (Nk k A).toArray 44 (0,0)):=by rw [hW];exact heap_alloc_new w _
 have e2:aI w W0:=by rw [hW];exact ay _ _
 have HK:=Hq e1;have HB0:=Hq e2;have hl0:=aA e1;clear hW e1 e2;refine dx Aab ?_;show gL _ _ _ _ 20 (Array.replicate 20 false) _ _
 have y18:=cell_regrown (show W0.cell? ⟨w.heap.size,18,none⟩=some (.string k.log) from cell_of_row W0 w.heap.size 18 _ 44 (0,0) HK);have y19:=cell_regrown (show W0.cell? ⟨w.heap.size,19,none⟩=some (.int .i64 k.safe) from cell_of_row W0 w.heap.size 19 _ 44 (0,0) HK);have y20:=cell_regrown (show W0.cell? ⟨w.heap.size,20,none⟩=some (.slice A.wa k.wait.length A.wc) from cell_of_row W0 w.heap.size 20 _ 44 (0,0) HK);have y21:=cell_regrown (show W0.cell? ⟨w.heap.size,21,none⟩=some (.slice A.aa k.asked.length A.ac) from cell_of_row W0 w.heap.size 21 _ 44 (0,0) HK);obtain⟨hr0,hr1⟩:=PE HK;refine aJ 0 rfl Aab Aab Aab (λ_ _ _ _ h=>h) (λK hK=>?_);go_simp
 first
  |(refine hK _ ?_;clear hK K)
  |(apply Exists.intro
    refine⟨λ_=>?_,hK _ ?_⟩
    (rfl)
    clear hK K)
 refine lq 1 rfl Aab Aab Aab (λ_ _ _ _ h=>h) Aad 40 _ rfl w.heap.size 9 rfl (dG k.node A.n).toList _ hr1 hl0 underlying40 rfl Aab ?_;refine aJ 3 rfl Aab Aab Aab (λ_ _ _ _ h=>h) (λK hK=>?_);go_simp
 first
  |(refine hK _ ?_;clear hK K)
  |(apply Exists.intro
    refine⟨λ_=>?_,hK _ ?_⟩
    (rfl)
    clear hK K)
 refine lq 4 rfl Aab Aab Aab (λ_ _ _ _ h=>h) Aad 40 _ rfl w.heap.size 0 rfl (dG k.base A.b).toList _ hr0 hl0 underlying40 rfl Aab ?_;refine aJ 6 rfl Aab Aab Aab (λ_ _ _ _ h=>h) (λK hK=>?_);go_simp
 first
  |(refine hK _ ?_;clear hK K)
  |(apply Exists.intro
    refine⟨λ_=>?_,hK _ ?_⟩
    (rfl)
    clear hK K)
 refine aJ 7 rfl Aab Aab Aab (λ_ _ _ _ h=>h) (λK hK=>?_);go_simp
 first
  |(refine hK _ ?_;clear hK K)
  |(apply Exists.intro
    refine⟨λ_=>?_,hK _ ?_⟩
    (rfl)
    clear hK K)
 refine aJ 9 rfl Aab Aab Aab (λ_ _ _ _ h=>h) (λK hK=>?_);go_simp
 first
  |(refine hK _ ?_;clear hK K)
  |(apply Exists.intro
    refine⟨λ_=>?_,hK _ ?_⟩
    (rfl)
    clear hK K)
 refine aJ 10 rfl Aab Aab Aab (λ_ _ _ _ h=>h) (λK hK=>?_);go_simp
 first
  |(refine hK _ ?_;clear hK K)
  |(apply Exists.intro
    refine⟨λ_=>?_,hK _ ?_⟩
    (rfl)
    clear hK K)
 refine aJ 11 rfl Aab Aab Aab (λ_ _ _ _ h=>h) (λK hK=>?_);go_simp
 first
  |(refine hK _ ?_;clear hK K)
  |(apply Exists.intro
    refine⟨λ_=>?_,hK _ ?_⟩
    (rfl)
    clear hK K)
 refine aJ 12 rfl Aab Aab Aab (λ_ _ _ _ h=>h) (λK hK=>?_);go_simp
 first
  |(refine hK _ ?_;clear hK K)
  |(apply Exists.intro
    refine⟨λ_=>?_,hK _ ?_⟩
    (rfl)
    clear hK K)
 refine aJ 14 rfl Aab Aab Aab (λ_ _ _ _ h=>h) (λK hK=>?_);go_simp
 first
  |(refine hK _ ?_;clear hK K)
  |(apply Exists.intro
    refine⟨λ_=>?_,hK _ ?_⟩
    (rfl)
    clear hK K)
 refine aJ 15 rfl Aab Aab Aab (λ_ _ _ _ h=>h) (λK hK=>?_);go_simp
 first
  |(refine hK _ ?_;clear hK K)
  |(apply Exists.intro
    refine⟨λ_=>?_,hK _ ?_⟩
    (rfl)
    clear hK K)
 clear y18 y19 y20 y21 HK hl0 hr0 hr1;refine fI 2 rfl Aab Aad (λx2 hx2=>?_);go_simp;have g2:aI w x2:=Ge.trans HB0 hx2;refine(Rk x2 g2).mono ?_;rintro e z2 ⟨A1,G1,cc1,rfl,hN1,hy2⟩;refine⟨hy2,?_⟩;have HG2:=Hq (show aI w z2 from Ge.trans g2 hy2);obtain⟨H1,hN,hS,_⟩:=hN1.full;have yM:=Hq hN;have HD1:=Hq hS.nodup;have HR1:=Hq (show∀x∈H1.all k.node,w.heap.size<=x/\x < z2.heap.size from λx hx=>by have:=hS.rng x hx;have:=g2.size;omega);clear hN1 hN hS hx2 hy2 g2 HB0 Rk;refine fI 5 rfl Aab Aad (λx5 hx5=>?_);go_simp;have g5:aI w x5:=Ge.trans HG2 hx5;refine(Gj x5 g5).mono ?_;rintro e z5 ⟨A2,G2,Oz,rfl,SG,hy5⟩;refine⟨hy5,?_⟩;have vV:=Hq (show aI w z5 from Ge.trans g5 hy5);obtain⟨H2,hN,hS,_⟩:=SG.full;have Kg:=Hq hN;have HD2:=Hq hS.nodup;have HR2:=Hq (show∀x∈H2.all k.base,z2.heap.size<=x/\x < z5.heap.size from λx hx=>by have:=hS.rng x hx;have:=hx5.size;omega);have HL2:=Hq (show w.heap.size<=z2.heap.size from HG2.size);have HU2:=Hq (show aI z2 z5 from Ge.trans hx5 hy5);clear SG hN hS hx5 hy5 g5 HG2 Gj;refine fI 8 rfl Aab Aad (λx8 hx8=>?_);go_simp;refine(clone k.log _ Aaa).mono ?_;rintro e z8 ⟨rfl,hy8⟩;refine⟨hy8,?_⟩;have HG8:=Hq (show aI w z8 from Ge.trans (Ge.trans vV hx8) hy8);have HU8:=Hq (show aI z5 z8 from Ge.trans hx8 hy8);clear hx8 hy8 vV;refine fI 13 rfl Aab Aad (λx13 O4=>?_);go_simp;have g13:aI w x13:=Ge.trans HG8 O4;refine(HCW x13 g13).mono ?_;rintro e z13 ⟨v,rfl,hwt,O6⟩;refine⟨O6,?_⟩;have alE:=Hq (show aI w z13 from Ge.trans g13 O6);obtain⟨wa,wc,rfl,_⟩:=GR.own_at (enc:=iT) (sz:=7) dV hwt;have HWT:=Hq (kK (B':=z5.heap.size) hwt (show z5.heap.size<=x13.heap.size from(Ge.trans HU8 O4).size));have HWL:=Hq (λx hx=>Bz hwt (x:=x) hx);have alY:=Hq (show aI z5 z13 from Ge.trans (Ge.trans HU8 O4) O6);clear hwt O4 O6 g13 HG8 HU8 HCW;refine fI 16 rfl Aab Aad (λx16 hx16=>?_);go_simp;have g16:aI w x16:=Ge.trans alE hx16;refine(HCA x16 g16).mono ?_;rintro e z16 ⟨v,rfl,hat,aex⟩;refine⟨aex,?_⟩;have azA:=Hq (show aI w z16 from Ge.trans g16 aex);obtain⟨aa,ac,rfl,_⟩:=GR.own_at (enc:=gV) (sz:=12) dz hat;have HAT:=Hq (kK (B':=z13.heap.size) hat (show z13.heap.size<=x16.heap.size from hx16.size));have HAL:=Hq (λx hx=>Bz hat (x:=x) hx);have alZ:=Hq (show aI z13 z16 from Ge.trans hx16 aex);clear hat hx16 aex g16 alE HCA;refine aJ 17 rfl Aab Aab Aab (λ_ _ _ _ h=>h) (λK hK=>?_);go_simp
 first
  |(refine hK _ ?_;clear hK K)
  |(apply Exists.intro
    refine⟨λ_=>?_,hK _ ?_⟩
    (rfl)
    clear hK K)
 refine fI 18 rfl Aab Aad (λx18 Xg=>?_);go_simp;refine⟨ay _ _,?_⟩;have al5:=Hq (show aI z16 x18 from Xg);clear Xg;refine fI 19 rfl Aab Aad (λx19 ayF=>?_);go_simp;refine⟨Below.refl _ _,?_⟩;refine eX Aab (λz hz=>?_);have HZ:=Hq (show Below (x18.alloc (.cells (hkG k ⟨A2,A1,wa,wc,aa,ac⟩ 0 false false) 132)).heap.size (x18.alloc (.cells (hkG k ⟨A2,A1,wa,wc,aa,ac⟩ 0 false false) 132)) z from Ge.trans ayF hz);clear ayF hz;go_wp2_with fail;have u16:aI z16 z:=Ge.trans al5 (Ge.trans (ay x18 _) HZ);have u13:aI z13 z:=Ge.trans alZ u16;have u5:aI z5 z:=Ge.trans alY u13;have u2:aI z2 z:=Ge.trans HU2 u5;have s1:=(ah HL2);have s2:=HU2.size;have s3:=alY.size;have s4:=alZ.size;have s5:=al5.size;have hg:=au (heap_alloc_new x18 (.cells (hkG k ⟨A2,A1,wa,wc,aa,ac⟩ 0 false false) 132)) HZ;have hgl:=aA hg
 exact bodyPost_ret (v:= .pointer (some ⟨x18.heap.size,0,none⟩)) (by simp[results,results25,go_sem]) rfl ⟨⟨A2,A1,wa,wc,aa,ac⟩,z2.heap.size,z5.heap.size,z13.heap.size,x18.heap.size,rfl,hg,
  ⟨⟨H1,yM.below u2,HD1,HR1⟩,⟨H2,Kg.below u5,HD2,HR2⟩,⟨GR.own_below HWT u13,λx hx=>HWL x hx⟩,⟨GR.own_below HAT u16,λx hx=>Nat.lt_of_lt_of_le (HAL x hx) s5⟩,s1,s2,s3,Nat.le_trans s4 s5,Nat.le_of_lt hgl⟩,Ge.trans azA u16⟩
theorem dP (h:w.heap[g]?=some (.cells (hkG k A st lk rt) t (0,0))) (i:Nat):w.cell? ⟨g,i,none⟩=(hkG k A st lk rt)[i]?:=cell_of_row w g i _ t (0,0) h
theorem Xc (h:w.heap[g]?=some (.cells (hkG k A st lk rt) t (0,0))):w.rangeAt g 0 (dG k.node A.n).toList/\w.rangeAt g 11 (dG k.base A.b).toList:=by
 refine⟨wD h (λj v hj=>?_),wD h (λj v hj=>?_)⟩
 .exact ah1
 .exact ah1
abbrev hkB (w:World) (g:Nat) (k:Kp) (A:KA) (st:Int) (lk rt:Bool):Prop:=w.heap[g]?=some (.cells (hkG k A st lk rt) 132 (0,0))
theorem hkB.lock (h:hkB w g k A st lk rt) (st':Int):hkB (w.setCell ⟨g,9,none⟩ (.int .i32 st')) g k A st' lk rt:=aN h 9 _
theorem za {w0:World} {B:Nat} (h:Below B w0 w) (hk:aC [g] w w') (hg:B<=g) (hB:B<=w.heap.size):Below B w0 w':=
 h.trans (hk.below (λx hx=>by rw [List.mem_singleton.1 hx];exact hg) hB)
end Go.Proofs.YtohmklmkjmlpjaaGreatDoor
