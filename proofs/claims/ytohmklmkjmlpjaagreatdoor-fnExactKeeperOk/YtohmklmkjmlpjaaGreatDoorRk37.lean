/- Parts. -/
import Derived.Test.YtohmklmkjmlpjaaGreatDoorRk28
import Derived.Test.YtohmklmkjmlpjaaGreatDoorRk24
namespace Go.Proofs.YtohmklmkjmlpjaaGreatDoor
open Go.Proofs.Tryz
set_option maxHeartbeats 4000000
set_option maxRecDepth 100000
open Go.RowKit
open Mth
theorem OL {g:Nat} {t:TypeId}:∀(vs:List Value) (o:Nat) (w:World) (cs:Array Value),w.heap[g]?=some (.cells cs t (0,0))->(∀(j:Nat) v,vs[j]?=some v->w.cell? ⟨g,o+j,none⟩=some v)->Below w.heap.size w (GR.setW w g o vs):=by
 intro vs;induction vs with
 |nil=>intro o w cs _ _;exact Below.refl _ _
 |cons v vs ih=>
  intro o w cs h hc;have h1:=mQ h (hc 0 v rfl);have hl:=aA h
  have h2:=ih (o+1) _ cs (au h h1) (λj u hj=>by
   have h3:=hc (j+1) u hj
   rw [show o+1+j=o+(j+1) by omega]
   exact(h1.cell (p:=⟨g,o+(j+1),none⟩) hl).trans h3)
  exact h1.trans (h2.mono h1.size)
theorem flat_one {α:Type} {en:α->List Value} (h:∀x,(en x).all (·.oneCell')=true) (l:List α):∀u∈GR.flat en l,u.oneCell'=true:=by
 intro u hu;unfold GR.flat at hu;rw [List.mem_flatMap] at hu;obtain⟨p,_,hp⟩:=hu;exact List.all_eq_true.1 (h p) u hp
theorem aeO (a:Option Addr) (cap:Nat) (l:List Mg) (w:World) (hl:l.length<=1048600) (hv:∀u∈GR.flat iU l,u.oneCell'=true) (ha:GR.At iU 7 w a l):
 Calls prog 123 #[.slice a l.length cap] w λe w'=>∃v,e= .returned v/\w'.ownsRow w.heap.size 98 7 v l.length (GR.flat iU l)/\aI w w':=by
 obtain⟨i0,hi,hz0,hz1,hz2⟩:=info_parts PG;have q22:∀(w:World) (a:Option Addr) (n c n' c':Nat),(binOp .eql 41 (.slice a n c) (.slice none n' c')).run prog w= .ok (.bool a.isNone) w:=λw a n c n' c'=>Lib.run_eql_slice_nil w _ _ a n c n' c' underlying41
 have hlit:(w.alloc (.cells #[] 98)).ownsRow w.heap.size 98 7 (.slice (some ⟨w.heap.size,0,none⟩) 0 0) 0 []:=World.ownsRow_lit (base:=w.heap.size) (e:=98) (size:=7) w #[] 0 (Nat.le_refl _) Aae rfl;cases a with
 |none=>
  have hl0:l=[]:=GR.none_nil ha;subst hl0;clear ha hlit hv;go_in
  exact Sl
 |some x=>
  have HN:=Hq (JB dX Aaa (GR.At.below ha (ay w (.cells #[] 98))));have HV:=Hq hv;clear ha hv;go_in
  go_wp2_with (at_builtin;refine wpList_append_own _ rfl _ _ 41 rfl w.heap.size 98 i0 (.agg (bX 0 0 0 0 0 ByteArray.empty 0)) 7 64 underlying41 hi hz0 hz1 hz2 rfl Aae _ 0 [] rfl hlit x l.length cap (GR.flat iU l) rfl ?c0 ?c1 ?c2 ?c3 ?c4 ?c5 ?_)
  case c0=>exact GR.flat_length iU 7 dX l
  case c1=>exact HN
  case c2=>exact HV
  case c3=>unfold maxLen;omega
  case c4=>omega
  case c5=>simp
  intro v' w1 hown' hgrow _;have HO:=Hq (show w1.ownsRow w.heap.size 98 7 v' l.length (GR.flat iU l) by simpa using hown');exact Xb
theorem aeM (a:Option Addr) (cap:Nat) (l:List An) (w:World) (hl:l.length<=1048600) (hv:∀u∈GR.flat ig l,u.oneCell'=true) (ha:GR.At ig 12 w a l):
 Calls prog 124 #[.slice a l.length cap] w λe w'=>∃v,e= .returned v/\w'.ownsRow w.heap.size 120 12 v l.length (GR.flat ig l)/\aI w w':=by
 obtain⟨i0,hi,hz0,hz1,hz2⟩:=info_parts Cn;have q22:∀(w:World) (a:Option Addr) (n c n' c':Nat),(binOp .eql 42 (.slice a n c) (.slice none n' c')).run prog w= .ok (.bool a.isNone) w:=λw a n c n' c'=>Lib.run_eql_slice_nil w _ _ a n c n' c' underlying42
 have hlit:(w.alloc (.cells #[] 120)).ownsRow w.heap.size 120 12 (.slice (some ⟨w.heap.size,0,none⟩) 0 0) 0 []:=World.ownsRow_lit (base:=w.heap.size) (e:=120) (size:=12) w #[] 0 (Nat.le_refl _) Aae rfl;cases a with
 |none=>
  have hl0:l=[]:=GR.none_nil ha;subst hl0;clear ha hlit hv;go_in
  exact Sl
 |some x=>
  have HN:=Hq (JB dA Aaa (GR.At.below ha (ay w (.cells #[] 120))));have HV:=Hq hv;clear ha hv;go_in
  go_wp2_with (at_builtin;refine wpList_append_own _ rfl _ _ 42 rfl w.heap.size 120 i0 (.agg #[.int .i64 0,.int .i64 0,.string ByteArray.empty,.int .i64 0,.int .i64 0,.int .i64 0,.int .i64 0,.int .i64 0,.int .i64 0,.string ByteArray.empty,.int .i64 0,.int .i64 0]) 12 112 underlying42 hi hz0 hz1 hz2 rfl Aae _ 0 [] rfl hlit x l.length cap (GR.flat ig l) rfl ?c0 ?c1 ?c2 ?c3 ?c4 ?c5 ?_)
  case c0=>exact GR.flat_length ig 12 dA l
  case c1=>exact HN
  case c2=>exact HV
  case c3=>unfold maxLen;omega
  case c4=>omega
  case c5=>simp
  intro v' w1 hown' hgrow _;have HO:=Hq (show w1.ownsRow w.heap.size 120 12 v' l.length (GR.flat ig l) by simpa using hown');exact Xb
theorem Tv (o:gQ) (w:World) (h1:o.k.size<=1048576) (h2:o.m.k.size<=1048576):Calls prog 125 #[.agg (bY o.K o.no o.k o.n o.m.K o.m.F o.m.T o.m.I o.m.L o.m.k o.m.N)] w (eO w (.agg (bY o.K o.no o.k o.n o.m.K o.m.F o.m.T o.m.I o.m.L o.m.k o.m.N))):=by
 obtain⟨K,no,k,n,mK,mF,mT,mI,mL,mk,mN⟩:=o;dsimp only at h1 h2 ⊢;obtain⟨hX,hY,hB⟩:=iA w (.cells (bY K no k n mK mF mT mI mL mk mN) 100) (.cells (bY 0 0 ⟨#[]⟩ 0 0 0 0 0 0 ⟨#[]⟩ 0) 100);go_in
 go_upto_region 1 with fail;refine wp_at (λW hW=>?_);rw [<-hW] at hX hY hB;clear hW;obtain⟨⟨x0,x1,x2,x3,x4,x5,x6,x7,x8,x9,x10⟩,_⟩:=aO hX;have HX:=Hq hX;have HY:=Hq hY;have HB:=Hq hB;clear hX hY hB;go_wp2_with fail;refine(clone k _ Aaa).mono ?_;rintro e W1 ⟨rfl,hb1⟩;have AY:=Hq (au HX hb1);have HY1:=Hq (au HY hb1);have HB1:=Hq (HB.trans (hb1.mono HB.size));clear hb1 x0 x1 x2 x3 x4 x5 x6 x7 x8 x9 x10 HX HY HB;have f2:=aj AY 2;obtain⟨⟨x0,x1,x2,x3,x4,x5,x6,x7,x8,x9,x10⟩,_⟩:=aO AY;go_upto_region 2 with fail;refine wp_at (λW2 hW=>?_);have hs:aI W1 W2:=by rw [hW];exact mQ AY x2
 have Zk:=Hq (au AY hs);have HY2:=Hq (au HY1 hs);have HB2:=Hq (HB1.trans (hs.mono HB1.size));clear hW hs f2 x0 x1 x2 x3 x4 x5 x6 x7 x8 x9 x10 AY HY1 HB1;obtain⟨⟨x0,x1,x2,x3,x4,x5,x6,x7,x8,x9,x10⟩,_⟩:=aO Zk;go_wp2_with fail;refine(clone mk _ Aaa).mono ?_;rintro e W3 ⟨rfl,hb3⟩;have Ru:=Hq (au Zk hb3);have HY3:=Hq (au HY2 hb3);have HB3:=Hq (HB2.trans (hb3.mono HB2.size));clear hb3 x0 x1 x2 x3 x4 x5 x6 x7 x8 x9 x10 Zk HY2 HB2;have f9:=aj Ru 9;obtain⟨⟨x0,x1,x2,x3,x4,x5,x6,x7,x8,x9,x10⟩,_⟩:=aO Ru;go_upto_region 3 with fail;refine wp_at (λW4 hW=>?_);have hs:aI W3 W4:=by rw [hW];exact mQ Ru x9
 have HX4:=Hq (au Ru hs);have HY4:=Hq (au HY3 hs);have nK:=Hq (HB3.trans (hs.mono HB3.size));clear hW hs f9 x0 x1 x2 x3 x4 x5 x6 x7 x8 x9 x10 Ru HY3 HB3;obtain⟨⟨x0,x1,x2,x3,x4,x5,x6,x7,x8,x9,x10⟩,_⟩:=aO HX4;obtain⟨⟨y0,y1,y2,y3,y4,y5,y6,y7,y8,y9,y10⟩,f0,f1,f2,f3,f4,f5,f6,f7,f8,f9,f10⟩:=aO HY4;go_wp2_with fail;refine iH (λW' hW'=>?_);have hY':W'.heap[w.heap.size+1]?=some (.cells (bY K no k n mK mF mT mI mL mk mN) 100 (0,0)):=by rw [hW'];exact lq HY4
 have hB':aI w W':=by rw [hW'];exact iJ nK Aaa
 clear hW';obtain⟨⟨r0,r1,r2,r3,r4,r5,r6,r7,r8,r9,Zt⟩,_⟩:=aO hY';exact bodyPost_ret (v:= .agg (bY K no k n mK mF mT mI mL mk mN)) (by simp[results,results125,go_sem,r0,r1,r2,r3,r4,r5,r6,r7,r8,r9,Zt]) rfl ⟨rfl,hB'⟩
theorem Ld (a:Option Addr) (cap:Nat) (l:List Mg) (w:World) (hl:l.length<=1048576) (hk:∀x∈l,x.k.size<=1048576) (ha:GR.At iU 7 w a l):
 Calls prog 68 #[.slice a l.length cap] w λe w'=>∃v,e= .returned v/\w'.ownsRow w.heap.size 98 7 v l.length (GR.flat iU l)/\aI w w':=by
 have jB:=Hq (aeO a cap l w Aaa (flat_one (λ_=>rfl) l) ha);have RI:=Hq hk;clear ha hk;go_in
 go_wp2_with fail;refine jB.mono ?_;rintro e w1 ⟨v,rfl,hown,hb1⟩;obtain⟨a',c',rfl,_⟩:=GR.own_at (enc:=iU) (sz:=7) dX hown;have HO:=Hq hown;have HB1:=Hq hb1;clear hown hb1 jB;go_wp2_with fail;go_loopw [9] (λi wr=>∃k:Nat,k<=l.length/\i= .int .i64 k/\aI w1 wr) (λi _=>l.length - (intOf i).toNat)
 case atStart=>exact AZ
 case round=>
  obtain⟨k,hk,rfl,hbel⟩:=hrel;have cZ:=Hq hbel;clear hbel;by_cases hlt:k < l.length
  .open awD in exact ahg
  .exact aiz
theorem Di (a:Option Addr) (cap:Nat) (l:List An) (w:World) (hl:l.length<=1048576) (hk:∀x∈l,x.o.k.size<=1048576/\x.o.m.k.size<=1048576) (ha:GR.At ig 12 w a l):
 Calls prog 69 #[.slice a l.length cap] w λe w'=>∃v,e= .returned v/\w'.ownsRow w.heap.size 120 12 v l.length (GR.flat ig l)/\aI w w':=by
 have jB:=Hq (aeM a cap l w Aaa (flat_one (λ_=>rfl) l) ha);have RI:=Hq hk;clear ha hk;go_in
 go_wp2_with fail;refine jB.mono ?_;rintro e w1 ⟨v,rfl,hown,hb1⟩;obtain⟨a',c',rfl,_⟩:=GR.own_at (enc:=ig) (sz:=12) dA hown;have HO:=Hq hown;have HB1:=Hq hb1;clear hown hb1 jB;go_wp2_with fail;go_loopw [9] (λi wr=>∃k:Nat,k<=l.length/\i= .int .i64 k/\aI w1 wr) (λi _=>l.length - (intOf i).toNat)
 case atStart=>exact AZ
 case round=>
  obtain⟨k,hk,rfl,hbel⟩:=hrel;have cZ:=Hq hbel;clear hbel;by_cases hlt:k < l.length
  .open awC in exact ahg
  .exact aiz
open Go.WideShapes
open Go.ChangeShapes
theorem Uu:prog.cellsOf 82=7:=Aab
theorem Y7:prog.cellsOf 85=11:=Aab
theorem aDp:prog.cellsOf 29=1:=Aab
theorem aDo:prog.cellsOf 30=1:=Aab
section
variable {H:Type} {enc:TypeId×Value->H} {W:World}
theorem Ye {fuel:Nat} {cs:List Value} {x:DataW H×List MemPlace} (h:DataW.trod enc prog W 0 (λ_=>true) true fuel 29 cs=some x):
 ∃(a:Option Addr) (cap:Nat) (l:List Mg),cs=[.slice a l.length cap]/\l.length<=maxLen/\(∀y∈l,y.k.size<=maxLen)/\GR.At iU 7 W a l:=
 mZ (en:=iU) (sz:=7) (ok:=λy=>y.k.size<=maxLen) underlying29 Aab Aaa dX (λfuel cs' x hlen h=>by
  match cs',hlen with
  |[v0,v1,v2,v3,v4,v5,v6],_=>
   obtain⟨xs1,kk1,_,_,_,alL,GI⟩:=DataW.trod_struct underlying82 h
   match xs1,alL with
   |[aGL,aGM,aHN,aHO,aHP,aHQ,aHR],_=>
    have abG:=GI 0 _ rfl
    have abH:=GI 1 _ rfl
    have aBZ:=GI 2 _ rfl
    have aB0:=GI 3 _ rfl
    have aB1:=GI 4 _ rfl
    have aB2:=GI 5 _ rfl
    have aB3:=GI 6 _ rfl
    simp[iO,lC] at abG abH aBZ aB0 aB1 aB2 aB3
    obtain⟨aGm,aCV,_⟩:=DataW.trod_int underlying3 abG
    obtain⟨alX,ac5,_⟩:=DataW.trod_int underlying3 abH
    obtain⟨aGn,aCW,_⟩:=DataW.trod_int underlying3 aBZ
    obtain⟨aGo,aCX,_⟩:=DataW.trod_int underlying3 aB0
    obtain⟨aGp,aCY,_⟩:=DataW.trod_int underlying3 aB1
    obtain⟨aGE,aCZ,_,aCC⟩:=DataW.trod_string underlying9 aB2
    obtain⟨aGq,aC0,_⟩:=DataW.trod_int underlying3 aB3
    simp at aCV ac5 aCW aCX aCY aCZ aC0
    subst aCV ac5 aCW aCX aCY aCZ aC0
    exact⟨⟨aGm,alX,aGn,aGo,aGp,aGE,aGq⟩,aCC,rfl⟩) h
theorem LK {fuel:Nat} {cs:List Value} {x:DataW H×List MemPlace} (h:DataW.trod enc prog W 0 (λ_=>true) true fuel 30 cs=some x):
 ∃(a:Option Addr) (cap:Nat) (l:List An),cs=[.slice a l.length cap]/\l.length<=maxLen/\(∀y∈l,y.o.k.size<=maxLen/\y.o.m.k.size<=maxLen)/\GR.At ig 12 W a l:=
 mZ (en:=ig) (sz:=12) (ok:=λy=>y.o.k.size<=maxLen/\y.o.m.k.size<=maxLen) underlying30 Aab Aaa dA (λfuel cs' x hlen h=>by
  match cs',hlen with
  |[v0,v1,v2,v3,v4,v5,v6,v7,v8,v9,v10,v11],_=>
   obtain⟨xs1,kk1,_,_,_,alL,GI⟩:=DataW.trod_struct underlying87 h
   match xs1,alL with
   |[aGL,aGM],_=>
    have abG:=GI 0 _ rfl
    have abH:=GI 1 _ rfl
    simp[iO,Y7] at abG abH
    obtain⟨xs2,kk2,_,_,_,aGi,abT⟩:=DataW.trod_struct underlying85 abG
    match xs2,aGi with
    |[aHS,aHT,aHU,aHV,aHW],_=>
     have aB4:=abT 0 _ rfl
     have aB5:=abT 1 _ rfl
     have aB6:=abT 2 _ rfl
     have aB7:=abT 3 _ rfl
     have aB8:=abT 4 _ rfl
     simp[iO,lC,Uu] at aB4 aB5 aB6 aB7 aB8
     obtain⟨aGr,aC1,_⟩:=DataW.trod_int underlying3 aB4
     obtain⟨aGs,aC2,_⟩:=DataW.trod_int underlying3 aB5
     obtain⟨aGF,aC3,_,aCD⟩:=DataW.trod_string underlying9 aB6
     obtain⟨aGt,aC4,_⟩:=DataW.trod_int underlying3 aB7
     obtain⟨xs3,kk3,_,_,_,aGj,Ti⟩:=DataW.trod_struct underlying82 aB8
     match xs3,aGj with
     |[aHX,aHY,aHZ,aH0,aH1,aH2,aH3],_=>
      have aB9:=Ti 0 _ rfl
      have aCa:=Ti 1 _ rfl
      have aCb:=Ti 2 _ rfl
      have aCc:=Ti 3 _ rfl
      have aCd:=Ti 4 _ rfl
      have aCe:=Ti 5 _ rfl
      have aCf:=Ti 6 _ rfl
      simp[iO,lC] at aB9 aCa aCb aCc aCd aCe aCf
      obtain⟨aGu,aC5,_⟩:=DataW.trod_int underlying3 aB9
      obtain⟨aGv,aC6,_⟩:=DataW.trod_int underlying3 aCa
      obtain⟨aGw,aC7,_⟩:=DataW.trod_int underlying3 aCb
      obtain⟨aGx,aC8,_⟩:=DataW.trod_int underlying3 aCc
      obtain⟨aGy,aC9,_⟩:=DataW.trod_int underlying3 aCd
      obtain⟨aGG,aDa,_,aCE⟩:=DataW.trod_string underlying9 aCe
      obtain⟨aGz,aDb,_⟩:=DataW.trod_int underlying3 aCf
      obtain⟨alX,ac5,_⟩:=DataW.trod_int underlying3 abH
      simp at aC1 aC2 aC3 aC4 aC5 aC6 aC7 aC8 aC9 aDa aDb ac5
      subst aC1 aC2 aC3 aC4 aC5 aC6 aC7 aC8 aC9 aDa aDb ac5
      exact⟨⟨⟨aGr,aGs,aGF,aGt,⟨aGu,aGv,aGw,aGx,aGy,aGG,aGz⟩⟩,alX⟩,⟨aCD,aCE⟩,rfl⟩) h
theorem Fu {fuel:Nat} {v0 v1 v2 v3 v4 v5 v6 v7 v8:Value} {x:DataW H×List MemPlace} (h:DataW.trod enc prog W 0 (λ_=>true) true fuel 28 [v0,v1,v2,v3,v4,v5,v6,v7,v8]=some x):
 ∃(n:Nd) (A:bV),[v0,v1,v2,v3,v4,v5,v6,v7,v8]=(dH n A).toList/\eX n maxLen/\dx W A n:=by
 obtain⟨xs,k,_,_,_,hxl,hfl⟩:=DataW.trod_struct underlying28 h;match xs,hxl with
 |[y0,y1,y2,y3,y4,y5,y6,y7,y8],_=>
  have g0:=hfl 0 _ rfl
  have g1:=hfl 1 _ rfl
  have g2:=hfl 2 _ rfl
  have g3:=hfl 3 _ rfl
  have g4:=hfl 4 _ rfl
  have g5:=hfl 5 _ rfl
  have g6:=hfl 6 _ rfl
  have g7:=hfl 7 _ rfl
  have g8:=hfl 8 _ rfl
  simp[iO,Fj,aCQ,aCR,aCS,aCT] at g0 g1 g2 g3 g4 g5 g6 g7 g8
  obtain⟨n0,q0,_⟩:=DataW.trod_int underlying3 g0
  obtain⟨n1,q1,_⟩:=DataW.trod_int underlying3 g1
  obtain⟨b2,c2,l2,q2,z2,t2⟩:=open_ints' g2
  obtain⟨n3,q3,_⟩:=DataW.trod_int underlying3 g3
  obtain⟨b4,c4,l4,q4,z4,s4,t4⟩:=LQ g4
  obtain⟨b5,c5,l5,q5,z5,s5,t5⟩:=Ua g5
  obtain⟨b6,c6,l6,q6,z6,s6,t6⟩:=Yg g6
  obtain⟨n7,q7,_⟩:=DataW.trod_int underlying3 g7
  obtain⟨b8,c8,l8,q8,z8,s8,t8⟩:=Yf g8
  simp at q0 q1 q2 q3 q4 q5 q6 q7 q8
  subst q0 q1 q2 q3 q4 q5 q6 q7 q8
  exact⟨⟨n0,n1,l2,n3,l4,l5,l6,n7,l8⟩,⟨b2,b4,b5,b6,b8,c2,c4,c5,c6,c8⟩,rfl,⟨z2,z4,z5,z6,z8,s4,s5,s6,s8⟩,⟨t2,t4,t5,t6,t8⟩⟩
end
theorem afk:prog.cellsOf 32=22:=Aab
section
variable {H:Type} {enc:TypeId×Value->H} {W:World}
theorem Qg {r:Reach} {base:Nat} {v:Value} {d:DataW H} {p:List MemPlace} (hv:Value.okWide prog W r base 32 v) (h:DataW.Trod enc prog W 0 (λ_=>true) true 32 v d p):
 ∃(k:Kp) (A:KA),v=Zr k A/\xO k maxLen/\rA W A k:=by
 simp only[Value.okWide,underlying32] at hv;obtain⟨cs,rfl,hsz,ts,hts,_,hall⟩:=hv;obtain⟨fuel,hf⟩:=h;have hlen:=hsz.trans afk;obtain⟨L⟩:=cs;match L,hlen with
 |[v0,v1,v2,v3,v4,v5,v6,v7,v8,v9,v10,v11,v12,v13,v14,v15,v16,v17,v18,v19,v20,v21],_=>
  obtain⟨xs,kk,_,_,_,hxl,hfl⟩:=DataW.trod_struct underlying32 hf
  match xs,hxl with
  |[y0,y1,y2,y3,y4,y5],_=>
   have g0:=hfl 0 _ rfl
   have g1:=hfl 1 _ rfl
   have g2:=hfl 2 _ rfl
   have g3:=hfl 3 _ rfl
   have g4:=hfl 4 _ rfl
   have g5:=hfl 5 _ rfl
   simp[iO,lC,afq,aDp,aDo,Value.cells] at g0 g1 g2 g3 g4 g5
   obtain⟨B0,AB,q0,z0,t0⟩:=Fu g0
   obtain⟨N0,AN,q1,z1,t1⟩:=Fu g1
   obtain⟨lg,q2,_,z2⟩:=DataW.trod_string underlying9 g2
   obtain⟨sf,q3,_⟩:=DataW.trod_int underlying3 g3
   obtain⟨wa,wc,wt,q4,z4,s4,t4⟩:=Ye g4
   obtain⟨aa,ac,sk,q5,z5,s5,t5⟩:=LK g5
   simp at q0 q1 q2 q3 q4 q5
   obtain⟨rfl,rfl,rfl,rfl,rfl,rfl,rfl,rfl,rfl⟩:=q0
   obtain⟨rfl,rfl,rfl,rfl,rfl,rfl,rfl,rfl,rfl⟩:=q1
   subst q2 q3 q4 q5
   exact⟨⟨B0,N0,lg,sf,wt,sk⟩,⟨AB,AN,wa,wc,aa,ac⟩,rfl,⟨z0,z1,z2,z4,z5,s4,s5⟩,⟨t0,t1,t4,t5⟩⟩
end
end Go.Proofs.YtohmklmkjmlpjaaGreatDoor
