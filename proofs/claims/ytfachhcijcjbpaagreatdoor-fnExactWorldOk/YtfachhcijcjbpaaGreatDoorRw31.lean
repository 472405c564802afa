/- Parts. -/
import Derived.Test.YtfachhcijcjbpaaGreatDoorRw25
import Derived.Test.YtfachhcijcjbpaaGreatDoorRw28
namespace Go.Proofs.YtfachhcijcjbpaaGreatDoor
open Go.Proofs.Tryz
set_option maxHeartbeats 8000000
open Go.RowKit
open Mth
theorem abD (x:JW):∀v∈mE x,v.oneCell'=true:=λv hv=>by
 simp only[aET,aFt,or_false] at hv;rcases hv with rfl|rfl|rfl|rfl|rfl|rfl|rfl|rfl|rfl|rfl|rfl|rfl|rfl|rfl|rfl|rfl|rfl|rfl|rfl|rfl|rfl|rfl<;>rfl
theorem ale:(prog.info? 83).map (·.size)=some 22:=Aab
theorem yL:(prog.info? 57).map (·.size)=some 22:=Aab
theorem Yi (x y:JW) (hxy:x.1=y.1) (w:World) (hz:mO x.1 1048576) (ha:oL w x.2 x.1) (hb:oL w y.2 y.1):
 Calls prog 49 #[.agg (mE x).toArray,.agg (mE y).toArray] w (dK w (.bool true)):=by
 obtain⟨k,A⟩:=x;obtain⟨k',B⟩:=y;dsimp only at hxy ha hb hz;subst hxy;exact abF k A B w hz ha hb
abbrev Lp:JW:=(⟨⟨0,0,[],0,[],[],[],0,[]⟩,⟨0,0,[],0,[],[],[],0,[]⟩,ByteArray.empty,0,[],[]⟩,⟨⟨none,none,none,none,none,0,0,0,0,0⟩,⟨none,none,none,none,none,0,0,0,0,0⟩,none,0,none,0⟩)
theorem Qq:(prog.info? 57).map (λi=>(i.zero,i.size,i.bytes))=some (some (.agg (mE Lp).toArray),22,376):=Aab
theorem QG (n:Nat) (hn:n<=2000000):∀W:World,(Instr.makeSlice 34 (.int .i64 (n:Int)) (.int .i64 (n:Int))).run prog W= .ok (.slice (some ⟨W.heap.size,0,none⟩) n n) (W.alloc (.cells (GR.flat mE (List.replicate n Lp)).toArray 57)):=by
 obtain⟨i0,hi,hz0,hz1,hz2⟩:=aEY Qq;intro W;have h:=run_make (P:=prog) W 34 57 i0 (.agg (mE Lp).toArray) underlying34 hi hz0 .i64 .i64 (n:Int) (n:Int) Aaa Aaa Aat Aaa;rw [hz1] at h;have e:=GR.made_flat mE 22 jN Aaa Lp (Value.cells (.agg (mE Lp).toArray)) rfl n;exact ET
theorem Ld (M:List JW) (x:JW) (k:Nat) (hk:k < M.length):(M.set k x).take (k+1)=M.take k++[x]:=by
 rw [aEF Abt,aFi,List.take_set_of_le (aEx k)]
theorem XZ {w:World} {g:Nat} {M:List JW} (h:GR.Blk mE 57 w g M) (k:Nat) (hk:k < M.length):w.there g (k*22) 22:=λj hj=>by
 refine⟨?_,GR.Blk.free h _⟩;rw [GR.Blk.cell h jN k hk j hj,aEB (by rw [jN];exact hj)];rfl
set_option maxRecDepth 100000
theorem Yh (a b:Option Addr) (ca cb:Nat) (l m:List JW) (hlm:l.map (λx=>x.1)=m.map (λx=>x.1)) (w:World) (hl:l.length<=1048600) (hks:∀p∈l,mO p.1 1048576) (ha:uX w a l) (hb:uX w b m):
 Calls prog 26 #[.slice a l.length ca,.slice b l.length cb] w (dK w (.bool true)):=by
 have hml:m.length=l.length:=by have:=congrArg List.length hlm;simpa using this.symm
 have HML:=Hq hml;have HLM:=Hq hlm;have HA:=Hq ha;have HB:=Hq hb;clear ha hb hlm hml;go_in
 go_wp2_with fail;go_loopw [5] (λi wr=>∃k:Nat,k<=l.length/\i= .int .i64 k/\aG w wr) (λi _=>l.length - (intOf i).toNat)
 case atStart=>exact vQ
 case round=>
  obtain⟨k,hk,rfl,hbel⟩:=hrel;have aO:=Hq hbel;clear hbel;by_cases hlt:k < l.length
  .have hlt2:k < m.length:=Abw
   obtain⟨g1,o1,rfl,hg1,hr1⟩:=(HA.below aO).range k hlt;obtain⟨g2,o2,rfl,hg2,hr2⟩:=(HB.below aO).range k hlt2;open avD in exact ahx
  .exact ES
structure Wd where
 up:List Int
 ks:List Kp
 net:List ByteArray
 told:List Td
 back:List Gv
structure WA where
 u:Option Addr
 uc:Nat
 k:Option Addr
 kc:Nat
 L:List JW
 n:Option Addr
 nc:Nat
 t:Option Addr
 tc:Nat
 b:Option Addr
 bc:Nat
abbrev yA (W:Wd) (A:WA):Array Value:=#[.slice A.u W.up.length A.uc,.slice A.k W.ks.length A.kc,.slice A.n W.net.length A.nc,.slice A.t W.told.length A.tc,.slice A.b W.back.length A.bc]
abbrev wdv (W:Wd) (A:WA):Value:= .agg (yA W A)
structure rG (w:World) (A:WA) (W:Wd):Prop where
 up:aK w A.u W.up
 ke:A.L.map (λx=>x.1)=W.ks
 ks:uX w A.k A.L
 net:mP w A.n W.net
 told:GR.At nR 13 w A.t W.told
 back:GR.At oI 2 w A.b W.back
theorem rG.below {w w':World} {A:WA} {W:Wd} (h:rG w A W) (hb:aG w w'):rG w' A W:=⟨GR.At.below h.up hb,h.ke,h.ks.below hb,GR.At.below h.net hb,GR.At.below h.told hb,GR.At.below h.back hb⟩
theorem rG.len {w:World} {A:WA} {W:Wd} (h:rG w A W):A.L.length=W.ks.length:=by rw [<-h.ke,aFo]
structure xD (W:Wd) (z:Nat):Prop where
 u:W.up.length<=z
 k:W.ks.length<=z
 kk:∀x∈W.ks,mO x z
 n:W.net.length<=z
 nk:∀x∈W.net,x.size<=z
 t:W.told.length<=z
 tk:∀p∈W.told,p.n.o.k.size<=z/\p.n.o.m.k.size<=z
 b:W.back.length<=z
theorem xD.row {w:World} {A:WA} {W:Wd} {z:Nat} (h:xD W z) (ha:rG w A W):∀p∈A.L,mO p.1 z:=λp hp=>h.kk _ (by rw [<-ha.ke];exact aFS.2 ⟨p,hp,rfl⟩)
theorem xI {w:World} {g:Nat} {v0 v1 v2 v3 v4:Value} {t:TypeId} (h:w.heap[g]?=some (.cells #[v0,v1,v2,v3,v4] t (0,0))):w.cell? ⟨g,0,none⟩=some v0/\w.cell? ⟨g,1,none⟩=some v1/\w.cell? ⟨g,2,none⟩=some v2/\w.cell? ⟨g,3,none⟩=some v3/\w.cell? ⟨g,4,none⟩=some v4:=by
 have hc:∀i,w.cell? ⟨g,i,none⟩=#[v0,v1,v2,v3,v4][i]?:=λi=>aEz w g i _ t (0,0) h
 exact⟨hc 0,hc 1,hc 2,hc 3,hc 4⟩
theorem af3 (W:Wd) (A:WA) (w:World) (hz:xD W maxLen) (ha:rG w A W):
 Calls prog 4 #[wdv W A,.int .i64 1048576] w λe w'=>∃r:Int,e= .returned (.int .i64 r)/\(r= -1\/0<=r/\r<=1048576/\xD W 1048576)/\aG w w':=by
 have H1:=Hq (λw1=>alJ A.u A.uc W.up 1048576 w1 Aaa Aaa hz.u)
 have H2:Hid (∀z w1,aG w w1->0<=z->z<=1048576->Calls prog 10 #[.slice A.k W.ks.length A.kc,.int .i64 z] w1 λe w'=>∃r:Int,e= .returned (.int .i64 r)/\(r= -1\/0<=r/\r<=1048576/\W.ks.length<=1048576/\∀p∈W.ks,mO p 1048576)/\aG w1 w'):=λz w1 h h0 h1=>by
  have hx:=ZH A.k A.kc A.L z w1 h0 h1 (by rw [ha.len];exact hz.k) (hz.row ha) (ha.below h).ks
  rw [ha.len] at hx
  refine hx.mono ?_
  rintro e w2 ⟨r,he,hc,hb⟩
  refine⟨r,he,hc.imp id (fun⟨a,b,c,d⟩=>⟨a,b,c,λp hp=>?_⟩),hb⟩
  rw [<-ha.ke] at hp
  obtain⟨x,hx,rfl⟩:=aFS.1 hp
  exact d x hx
 have H3:=Hq (λz w1 (hb:aG w w1) (h0:0<=z) (h1:z<=1048576)=>ZJ A.n A.nc W.net z w1 h0 h1 hz.n hz.nk (ha.below hb).net);have H4:=Hq (λz w1 (hb:aG w w1) (h0:0<=z) (h1:z<=1048576)=>adM A.t A.tc W.told z w1 h0 h1 hz.t hz.tk (ha.below hb).told);have H5:=Hq (λz w1 (h0:0<=z) (h1:z<=1048576)=>ZF A.b A.bc W.back.length z w1 h0 h1 hz.b);have HQ:Hid (W.up.length<=1048576->(W.ks.length<=1048576/\∀p∈W.ks,mO p 1048576)->(W.net.length<=1048576/\∀p∈W.net,p.size<=1048576)->(W.told.length<=1048576/\∀p∈W.told,p.n.o.k.size<=1048576/\p.n.o.m.k.size<=1048576)->W.back.length<=1048576->xD W 1048576):=λa b c d e=>⟨a,b.1,b.2,c.1,c.2,d.1,d.2,e⟩
 have HB0:=Hq (aEu w (.cells (yA W A) 30));have jC:=Hq (au w (.cells (yA W A) 30));have hbl:=hz.b;unfold maxLen at hbl;clear ha hz;generalize xD W 1048576=WZ at *;obtain⟨up,ks,net,td,bk⟩:=W;obtain⟨u,uc,k,kc,L,n,nc,t,tc,b,bc⟩:=A;dsimp only at H1 H2 H3 H4 H5 HQ HB0 jC hbl ⊢;obtain⟨c0,c1,c2,c3,c4⟩:=xI HB0;go_in
 go_wp2_with fail;refine(H1 _).mono ?_;by_cases hup:(up.length:Int)<=1048576
 case' neg=>
  rw [aEG hup];rintro e w1 ⟨rfl,hb⟩;have jM:=Hq (jC.trans (hb.mono jC.size));clear hb c0 c1 c2 c3 c4 HB0 jC;go_wp2_with fail;go_ret;exact⟨-1,rfl,.inl rfl,jM⟩
 rw [aER hup];rintro e w1 ⟨rfl,hb⟩;have HB1:=Hq (aj HB0 hb);have jM:=Hq (jC.trans (hb.mono jC.size));clear hb c0 c1 c2 c3 c4 HB0 jC;generalize hz1:(1048576 - (up.length:Int))=z1;have q0:0<=z1:=Aaa
 have q1:z1<=1048576:=Aaa
 have q2:decide (z1 < 0)=false:=aEw Aaa;have HUP:=Hq (show up.length<=1048576 by omega);clear hz1 hup;obtain⟨c0,c1,c2,c3,c4⟩:=xI HB1;go_wp2_with fail;refine(H2 _ _ jM q0 q1).mono ?_;rintro e w2 ⟨z2,rfl,hcase,hb⟩;have HB2:=Hq (aj HB1 hb);have HL2:=Hq (jM.trans (hb.mono jM.size));clear hb c0 c1 c2 c3 c4 HB1 jM;rcases hcase with rfl|⟨p0,p1,p2⟩
 case' inl=>
  exact abh
 have K2:=Hq p2;have q3:decide (z2 < 0)=false:=aEw Aaa;have g2:0<=z2:=p0;have e2:z2<=1048576:=Aaa
 clear p0 p1 p2;obtain⟨c0,c1,c2,c3,c4⟩:=xI HB2;go_wp2_with fail;refine(H3 _ _ HL2 g2 e2).mono ?_;rintro e w3 ⟨z3,rfl,hcase,hb⟩;have HB3:=Hq (aj HB2 hb);have lu:=Hq (HL2.trans (hb.mono HL2.size));clear hb c0 c1 c2 c3 c4 HB2 HL2;rcases hcase with rfl|⟨p0,p1,p2⟩
 case' inl=>
  go_wp2_with fail;go_ret;exact⟨-1,rfl,.inl rfl,lu⟩
 have K3:=Hq p2;have q4:decide (z3 < 0)=false:=aEw Aaa;have g3:0<=z3:=p0;have e3:z3<=1048576:=Aaa
 clear p0 p1 p2;obtain⟨c0,c1,c2,c3,c4⟩:=xI HB3;go_wp2_with fail;refine(H4 _ _ lu g3 e3).mono ?_;rintro e w4 ⟨z4,rfl,hcase,hb⟩;have mh:=Hq (aj HB3 hb);have xU:=Hq (lu.trans (hb.mono lu.size));clear hb c0 c1 c2 c3 c4 HB3 lu;rcases hcase with rfl|⟨p0,p1,p2⟩
 case' inl=>
  exact abj
 have K4:=Hq p2;have q5:decide (z4 < 0)=false:=aEw Aaa;have g4:0<=z4:=p0;have e4:z4<=1048576:=Aaa
 clear p0 p1 p2;obtain⟨c0,c1,c2,c3,c4⟩:=xI mh;go_wp2_with fail;refine(H5 _ _ g4 e4).mono ?_;rintro e w5 ⟨rfl,rfl⟩;by_cases hbb:(bk.length:Int)<=z4
 case' neg=>
  rw [aEG hbb];clear c0 c1 c2 c3 c4;exact abj
 rw [aER hbb];have q6:decide (z4 - (bk.length:Int) < 0)=false:=aEw Aaa;clear c0 c1 c2 c3 c4;go_wp2_with fail;go_ret;exact⟨z4 - bk.length,rfl,.inr ⟨Aaa,Aaa,HQ HUP K2 K3 K4 Aaa⟩,xU⟩
theorem afd (W:Wd) (A B:WA) (w:World) (hz:xD W 1048576) (ha:rG w A W) (hb:rG w B W):
 Calls prog 8 #[wdv W A,wdv W B] w (dK w (.bool true)):=by
 have H1:=Hq (λw1 (h:aG w w1)=>akF A.u B.u A.uc B.uc W.up w1 (by have:=hz.u;omega) (ha.below h).up (hb.below h).up)
 have H2:Hid (∀w1,aG w w1->Calls prog 26 #[.slice A.k W.ks.length A.kc,.slice B.k W.ks.length B.kc] w1 (dK w1 (.bool true))):=λw1 h=>by
  have hx:=Yh A.k B.k A.kc B.kc A.L B.L (ha.ke.trans hb.ke.symm) w1 (by rw [ha.len];have:=hz.k;omega) (hz.row ha) (ha.below h).ks (hb.below h).ks
  rw [ha.len] at hx
  exact hx
 have H3:=Hq (λw1 (h:aG w w1)=>Ui A.n B.n A.nc B.nc W.net w1 (by have:=hz.n;omega) (ha.below h).net (hb.below h).net);have H4:=Hq (λw1 (h:aG w w1)=>abJ A.t B.t A.tc B.tc W.told w1 (by have:=hz.t;omega) (ha.below h).told (hb.below h).told);have H5:=Hq (λw1 (h:aG w w1)=>Yg A.b B.b A.bc B.bc W.back w1 (by have:=hz.b;omega) (ha.below h).back (hb.below h).back);have hS:(w.alloc (.cells (yA W A) 38)).heap.size=w.heap.size+1:=Aac
 have hA0:=aj (aEu w (.cells (yA W A) 38)) (au (w.alloc (.cells (yA W A) 38)) (.cells (yA W B) 38));have hB0:=aEu (w.alloc (.cells (yA W A) 38)) (.cells (yA W B) 38);rw [hS] at hB0;have SA:=Hq hA0;have HB0:=Hq hB0;have jC:=Hq ((au w (.cells (yA W A) 38)).trans ((au (w.alloc (.cells (yA W A) 38)) (.cells (yA W B) 38)).mono Aac));clear ha hb hz hS hA0 hB0;obtain⟨up,ks,net,td,bk⟩:=W;obtain⟨u,uc,k,kc,L,n,nc,t,tc,b,bc⟩:=A;obtain⟨u2,uc2,k2,kc2,L2,n2,nc2,t2,tc2,b2,bc2⟩:=B;dsimp only at H1 H2 H3 H4 H5 SA HB0 jC ⊢;go_in
 obtain⟨c0,c1,c2,c3,c4⟩:=xI SA;obtain⟨d0,d1,d2,d3,d4⟩:=xI HB0;open avN in exact ahA
theorem Px {g:Nat} {t:TypeId}:∀(vs:List Value) (o:Nat) (w:World) (cs:Array Value),w.heap[g]?=some (.cells cs t (0,0))->(∀(j:Nat) v,vs[j]?=some v->w.cell? ⟨g,o+j,none⟩=some v)->Below w.heap.size w (GR.setW w g o vs):=by
 intro vs;induction vs with
 |nil=>intro o w cs _ _;exact aEK _ _
 |cons v vs ih=>
  intro o w cs h hc;have h1:=mQ h (hc 0 v rfl);have hl:=ay h
  have h2:=ih (o+1) _ cs (aj h h1) (λj u hj=>by
   have h3:=hc (j+1) u hj
   rw [show o+1+j=o+(j+1) by omega]
   exact(h1.cell (p:=⟨g,o+(j+1),none⟩) hl).trans h3)
  exact h1.trans (h2.mono h1.size)
theorem flat_one {α:Type} {en:α->List Value} (h:∀x,(en x).all (·.oneCell')=true) (l:List α):∀u∈GR.flat en l,u.oneCell'=true:=by
 intro u hu;unfold GR.flat at hu;rw [aFQ] at hu;obtain⟨p,_,hp⟩:=hu;exact aF0.1 (h p) u hp
theorem ae1 (a:Option Addr) (cap:Nat) (l:List Mg) (w:World) (hl:l.length<=1048600) (hv:∀u∈GR.flat iE l,u.oneCell'=true) (ha:GR.At iE 7 w a l):
 Calls prog 115 #[.slice a l.length cap] w λe w'=>∃v,e= .returned v/\w'.ownsRow w.heap.size 104 7 v l.length (GR.flat iE l)/\aG w w':=by
 obtain⟨i0,hi,hz0,hz1,hz2⟩:=aEY Qr;have q22:∀(w:World) (a:Option Addr) (n c n' c':Nat),(binOp .eql 54 (.slice a n c) (.slice none n' c')).run prog w= .ok (.bool a.isNone) w:=λw a n c n' c'=>aFT w _ _ a n c n' c' underlying54
 have hlit:(w.alloc (.cells #[] 104)).ownsRow w.heap.size 104 7 (.slice (some ⟨w.heap.size,0,none⟩) 0 0) 0 []:=aFb (base:=w.heap.size) (e:=104) (size:=7) w #[] 0 (aEx _) Aag rfl;cases a with
 |none=>
  have hl0:l=[]:=GR.none_nil ha;subst hl0;clear ha hlit hv;go_in
  exact TH
 |some x=>
  have HN:=Hq (Ku dM Aaa (GR.At.below ha (au w (.cells #[] 104))));have HV:=Hq hv;clear ha hv;go_in
  go_wp2_with (at_builtin;refine aFf _ rfl _ _ 54 rfl w.heap.size 104 i0 (.agg (bH 0 0 0 0 0 ByteArray.empty 0)) 7 64 underlying54 hi hz0 hz1 hz2 rfl Aag _ 0 [] rfl hlit x l.length cap (GR.flat iE l) rfl ?c0 ?c1 ?c2 ?c3 ?c4 ?c5 ?_)
  case c0=>exact GR.flat_length iE 7 dM l
  case c1=>exact HN
  case c2=>exact HV
  case c3=>unfold maxLen;omega
  case c4=>omega
  case c5=>simp
  intro v' w1 hown' hgrow _;have HO:=Hq (show w1.ownsRow w.heap.size 104 7 v' l.length (GR.flat iE l) by simpa using hown');exact XV
theorem aeZ (a:Option Addr) (cap:Nat) (l:List An) (w:World) (hl:l.length<=1048600) (hv:∀u∈GR.flat gM l,u.oneCell'=true) (ha:GR.At gM 12 w a l):
 Calls prog 116 #[.slice a l.length cap] w λe w'=>∃v,e= .returned v/\w'.ownsRow w.heap.size 108 12 v l.length (GR.flat gM l)/\aG w w':=by
 obtain⟨i0,hi,hz0,hz1,hz2⟩:=aEY CZ;have q22:∀(w:World) (a:Option Addr) (n c n' c':Nat),(binOp .eql 55 (.slice a n c) (.slice none n' c')).run prog w= .ok (.bool a.isNone) w:=λw a n c n' c'=>aFT w _ _ a n c n' c' underlying55
 have hlit:(w.alloc (.cells #[] 108)).ownsRow w.heap.size 108 12 (.slice (some ⟨w.heap.size,0,none⟩) 0 0) 0 []:=aFb (base:=w.heap.size) (e:=108) (size:=12) w #[] 0 (aEx _) Aag rfl;cases a with
 |none=>
  have hl0:l=[]:=GR.none_nil ha;subst hl0;clear ha hlit hv;go_in
  exact TH
 |some x=>
  have HN:=Hq (Ku bY Aaa (GR.At.below ha (au w (.cells #[] 108))));have HV:=Hq hv;clear ha hv;go_in
  go_wp2_with (at_builtin;refine aFf _ rfl _ _ 55 rfl w.heap.size 108 i0 (.agg #[.int .i64 0,.int .i64 0,.string ByteArray.empty,.int .i64 0,.int .i64 0,.int .i64 0,.int .i64 0,.int .i64 0,.int .i64 0,.string ByteArray.empty,.int .i64 0,.int .i64 0]) 12 112 underlying55 hi hz0 hz1 hz2 rfl Aag _ 0 [] rfl hlit x l.length cap (GR.flat gM l) rfl ?c0 ?c1 ?c2 ?c3 ?c4 ?c5 ?_)
  case c0=>exact GR.flat_length gM 12 bY l
  case c1=>exact HN
  case c2=>exact HV
  case c3=>unfold maxLen;omega
  case c4=>omega
  case c5=>simp
  intro v' w1 hown' hgrow _;have HO:=Hq (show w1.ownsRow w.heap.size 108 12 v' l.length (GR.flat gM l) by simpa using hown');exact XV
theorem Ut (o:gD) (w:World) (h1:o.k.size<=1048576) (h2:o.m.k.size<=1048576):Calls prog 117 #[.agg (bE o.K o.no o.k o.n o.m.K o.m.F o.m.T o.m.I o.m.L o.m.k o.m.N)] w (dK w (.agg (bE o.K o.no o.k o.n o.m.K o.m.F o.m.T o.m.I o.m.L o.m.k o.m.N))):=by
 obtain⟨K,no,k,n,mK,mF,mT,mI,mL,mk,mN⟩:=o;dsimp only at h1 h2 ⊢;obtain⟨hX,hY,hB⟩:=gU w (.cells (bE K no k n mK mF mT mI mL mk mN) 106) (.cells (bE 0 0 ⟨#[]⟩ 0 0 0 0 0 0 ⟨#[]⟩ 0) 106);go_in
 go_upto_region 1 with fail;refine wp_at (λW hW=>?_);rw [<-hW] at hX hY hB;clear hW;obtain⟨⟨x0,x1,x2,x3,x4,x5,x6,x7,x8,x9,x10⟩,_⟩:=aJ hX;have HX:=Hq hX;have HY:=Hq hY;have HB:=Hq hB;clear hX hY hB;go_wp2_with fail;refine(clone k _ Aaa).mono ?_;rintro e W1 ⟨rfl,hb1⟩;have BI:=Hq (aj HX hb1);have HY1:=Hq (aj HY hb1);have HB1:=Hq (HB.trans (hb1.mono HB.size));clear hb1 x0 x1 x2 x3 x4 x5 x6 x7 x8 x9 x10 HX HY HB;have f2:=aA BI 2;obtain⟨⟨x0,x1,x2,x3,x4,x5,x6,x7,x8,x9,x10⟩,_⟩:=aJ BI;go_upto_region 2 with fail;refine wp_at (λW2 hW=>?_);have hs:aG W1 W2:=by rw [hW];exact mQ BI x2
 have HX2:=Hq (aj BI hs);have HY2:=Hq (aj HY1 hs);have HB2:=Hq (HB1.trans (hs.mono HB1.size));clear hW hs f2 x0 x1 x2 x3 x4 x5 x6 x7 x8 x9 x10 BI HY1 HB1;obtain⟨⟨x0,x1,x2,x3,x4,x5,x6,x7,x8,x9,x10⟩,_⟩:=aJ HX2;go_wp2_with fail;refine(clone mk _ Aaa).mono ?_;rintro e W3 ⟨rfl,hb3⟩;have SN:=Hq (aj HX2 hb3);have HY3:=Hq (aj HY2 hb3);have HB3:=Hq (HB2.trans (hb3.mono HB2.size));clear hb3 x0 x1 x2 x3 x4 x5 x6 x7 x8 x9 x10 HX2 HY2 HB2;have f9:=aA SN 9;obtain⟨⟨x0,x1,x2,x3,x4,x5,x6,x7,x8,x9,x10⟩,_⟩:=aJ SN;go_upto_region 3 with fail;refine wp_at (λW4 hW=>?_);have hs:aG W3 W4:=by rw [hW];exact mQ SN x9
 have HX4:=Hq (aj SN hs);have HY4:=Hq (aj HY3 hs);have mh:=Hq (HB3.trans (hs.mono HB3.size));clear hW hs f9 x0 x1 x2 x3 x4 x5 x6 x7 x8 x9 x10 SN HY3 HB3;obtain⟨⟨x0,x1,x2,x3,x4,x5,x6,x7,x8,x9,x10⟩,_⟩:=aJ HX4;obtain⟨⟨y0,y1,y2,y3,y4,y5,y6,y7,y8,y9,y10⟩,f0,f1,f2,f3,f4,f5,f6,f7,f8,f9,f10⟩:=aJ HY4;go_wp2_with fail;refine gY (λW' hW'=>?_);have hY':W'.heap[w.heap.size+1]?=some (.cells (bE K no k n mK mF mT mI mL mk mN) 106 (0,0)):=by rw [hW'];exact lC HY4
 have hB':aG w W':=by rw [hW'];exact iw mh Aaa
 clear hW';obtain⟨⟨r0,r1,r2,r3,r4,r5,r6,r7,r8,r9,Za⟩,_⟩:=aJ hY';exact aEE (v:= .agg (bE K no k n mK mF mT mI mL mk mN)) (by simp[results,results117,go_sem,r0,r1,r2,r3,r4,r5,r6,r7,r8,r9,Za]) rfl ⟨rfl,hB'⟩
theorem ME (a:Option Addr) (cap:Nat) (l:List Mg) (w:World) (hl:l.length<=1048576) (hk:∀x∈l,x.k.size<=1048576) (ha:GR.At iE 7 w a l):
 Calls prog 75 #[.slice a l.length cap] w λe w'=>∃v,e= .returned v/\w'.ownsRow w.heap.size 104 7 v l.length (GR.flat iE l)/\aG w w':=by
 have jr:=Hq (ae1 a cap l w Aaa (flat_one (λ_=>rfl) l) ha);have Ti:=Hq hk;clear ha hk;go_in
 go_wp2_with fail;refine jr.mono ?_;rintro e w1 ⟨v,rfl,hown,hb1⟩;obtain⟨a',c',rfl,_⟩:=GR.own_at (enc:=iE) (sz:=7) dM hown;have HO:=Hq hown;have HB1:=Hq hb1;clear hown hb1 jr;go_wp2_with fail;go_loopw [9] (λi wr=>∃k:Nat,k<=l.length/\i= .int .i64 k/\aG w1 wr) (λi _=>l.length - (intOf i).toNat)
 case atStart=>exact vQ
 case round=>
  obtain⟨k,hk,rfl,hbel⟩:=hrel;have aO:=Hq hbel;clear hbel;by_cases hlt:k < l.length
  .open asW in exact agR
  .exact ahT
theorem DX (a:Option Addr) (cap:Nat) (l:List An) (w:World) (hl:l.length<=1048576) (hk:∀x∈l,x.o.k.size<=1048576/\x.o.m.k.size<=1048576) (ha:GR.At gM 12 w a l):
 Calls prog 76 #[.slice a l.length cap] w λe w'=>∃v,e= .returned v/\w'.ownsRow w.heap.size 108 12 v l.length (GR.flat gM l)/\aG w w':=by
 have jr:=Hq (aeZ a cap l w Aaa (flat_one (λ_=>rfl) l) ha);have Ti:=Hq hk;clear ha hk;go_in
 go_wp2_with fail;refine jr.mono ?_;rintro e w1 ⟨v,rfl,hown,hb1⟩;obtain⟨a',c',rfl,_⟩:=GR.own_at (enc:=gM) (sz:=12) bY hown;have HO:=Hq hown;have HB1:=Hq hb1;clear hown hb1 jr;go_wp2_with fail;go_loopw [9] (λi wr=>∃k:Nat,k<=l.length/\i= .int .i64 k/\aG w1 wr) (λi _=>l.length - (intOf i).toNat)
 case atStart=>exact vQ
 case round=>
  obtain⟨k,hk,rfl,hbel⟩:=hrel;have aO:=Hq hbel;clear hbel;by_cases hlt:k < l.length
  .open asV in exact agR
  .exact ahT
structure KR (W:World) (g:Nat) (V:List Value):Prop where
 r:W.rangeAt g 0 V
 l:g < W.heap.size
theorem KR.below {W W':World} {g:Nat} {V:List Value} (h:KR W g V) (hb:aG W W'):KR W' g V:=⟨yj h.r h.l hb,aEH h.l hb.size⟩
theorem KR.keeps {W W':World} {g:Nat} {V:List Value} {F:List Nat} (h:KR W g V) (hk:aC F W W') (hg:g∉F):KR W' g V:=
 ⟨λj v hj=>(aE6 (w:=W) (hk.block g h.l hg)).trans (h.r j v hj),aEH h.l hk.size⟩
theorem KR.blk {W:World} {g:Nat} {V:List Value} {t:TypeId} (h:W.heap[g]?=some (.cells V.toArray t (0,0))):KR W g V:=
 ⟨λj v hv=>by
  rw [aFq,aEz W g j _ t (0,0) h]
  simpa using hv,ay h⟩
def XL (V:List Value) (k:Kp) (A:KA):Prop:=V=yN k A
theorem XL.len {V:List Value} {k:Kp} {A:KA} (h:XL V k A):V.length=22:=by unfold XL at h;rw [h];rfl
theorem XL.agg {V:List Value} {k:Kp} {A:KA} (h:XL V k A):kpv k A= .agg V.toArray:=by unfold XL at h;rw [h]
theorem XL.one {V:List Value} {k:Kp} {A:KA} (h:XL V k A):V.toArray.all (·.oneCell')=true:=by unfold XL at h;rw [h];kernel_rfl
section
variable {ops:Array Oper} {rest:List Oper} {op:Oper} {a:Act} {w:World} {Q:Exit->Act->World->Prop}
theorem ajm (hw:Region.wanted op (yielded ops a.tmps)=true) (x:Operand) (ho:op.op= .load 57 x) (g:Nat) (hx:a.eval x= .pointer (some ⟨g,0,none⟩)) (V:List Value) (hl:V.length=22) (hc:KR w g V)
 (h:wpList prog ops Q rest (a.put op.dst (.agg V.toArray)) w):wpList prog ops Q (op::rest) a w:=
 aFd hw λ_ hK=>wp_load_mid 57 x ho g 0 hx V _ hc.r underlying57 rfl (by rw [hl];kernel_rfl) (hK _ _ h)
theorem aln (hw:Region.wanted op (yielded ops a.tmps)=true) (x y:Operand) (ho:op.op= .store 57 x y) (g:Nat) (hx:a.eval x= .pointer (some ⟨g,0,none⟩)) (V:List Value) (hy:a.eval y= .agg V.toArray) (hl:V.length=22) (h1:V.toArray.all (·.oneCell')=true) {cs:Array Value} {t:TypeId} (hc:cs.size=22) (hb:w.heap[g]?=some (.cells cs t (0,0)))
 (h:∀W,W=w.setCells g 0 V->KR W g V->wpList prog ops Q rest (a.put op.dst undef) W):wpList prog ops Q (op::rest) a w:=by
 have ht:w.there g 0 22:=λj hj=>⟨by rw [aEz w g _ _ t (0,0) hb];simp;omega,aA hb _⟩
 refine aFd hw λ_ hK=>wp_store_mid 57 x y ho g 0 V.toArray hx hy (by simpa [hl] using ht) (by simp only[aFs,hl];kernel_rfl) h1 (hK _ _ ?_)
 exact h _ rfl ⟨World.rangeAt_setCells_same w g 0 V (by rw [hl];exact ht),aEH (ay hb) (iC g V w 0).size⟩
end
abbrev Sz:List Value:=[.int .i64 0,.int .i64 0,.slice none 0 0,.int .i64 0,.slice none 0 0,.slice none 0 0,.slice none 0 0,.int .i64 0,.slice none 0 0,.int .i64 0,.int .i64 0,.slice none 0 0,.int .i64 0,.slice none 0 0,.slice none 0 0,.slice none 0 0,.int .i64 0,.slice none 0 0,.string ByteArray.empty,.int .i64 0,.slice none 0 0,.slice none 0 0]
def vF (lo:Nat) (w:World) (A:KA) (k:Kp):Prop:=∀w' F,aC F w w'->(∀x∈F,x < lo)->oL w' A k
theorem vF.at {lo:Nat} {w:World} {A:KA} {k:Kp} (h:vF lo w A k):oL w A k:=h w [] (aC.refl _ _) (λ_ hx=>Aay)
theorem ZN (k:Kp) (A:KA) (w:World) (hz:mO k 1048576) (ha:oL w A k):
 Calls prog 41 #[kpv k A] w λe w'=>∃A',e= .returned (kpv k A')/\vF w.heap.size w' A' k/\aG w w':=by
 have H1:=Hq (λw1 (h:aG w w1)=>adO k.base A.b w1 hz.b (ha.below h).kb);have H2:=Hq (λw1 (h:aG w w1)=>adO k.node A.n w1 hz.n (ha.below h).kn);have H3:=Hq (λw1 (h:aG w w1)=>alL A.wa A.wc k.wait w1 hz.w (ha.below h).kw);have H4:=Hq (λw1 (h:aG w w1)=>ZL A.aa A.ac k.asked w1 hz.a (ha.below h).ka);clear ha hz;obtain⟨hP0,hR0,hO0,hB0⟩:=Pq w (.cells (yN k A).toArray 83) (.cells Sz.toArray 57) (.cells Sz.toArray 57);go_in
 go_upto_region 2 with fail;refine wp_at (λW0 hW=>?_);have EL:Hid (TO 83 57 (yN k A) Sz w (λ_=>True) Sz W0):=by rw [hW];exact⟨hP0,hR0,hO0,hB0,λ_ _=>trivial⟩
 clear hW hP0 hR0 hO0 hB0;refine aGs ?_;show wpList _ _ _ [_,_,_,_,_] _ _
 refine aFd Aah (λK hK=>?_);go_simp;refine hK _ _ ?_;clear hK K;refine aF4 rfl 79 (.tmp 4) rfl w.heap.size 0 rfl (dR k.base A.b).toList _ (EL.rng 0 _ rfl) underlying79 rfl Aab ?_;go_wp2_with fail;refine(H1 _ EL.b).mono ?_;rintro e x ⟨A1,rfl,G,hN,hS,hb⟩;have qR:=Hq (EL.step hb (λW'=>bX W' A1 k.base) (λW' hk=>(hN.keeps hk (λy hy hm=>by have:=hS.rng y hy;have:=EL.s;simp at hm;omega)).at));clear hN hS hb EL H1;rename_i WX
 refine WX _ _ ?_;clear WX;refine aFd Aah (λK hK=>?_);go_simp;refine hK _ _ ?_;clear hK K;refine aF8 rfl 53 (.tmp 7) (.tmp 6) rfl (w.heap.size+1+1) 0 (dR k.base A1) rfl rfl (qR.there 0 9 (aEQ Aab)) Aab Aab ?_;have zC:=Hq (qR.mid 0 (dR k.base A1).toList);clear qR;generalize World.setCells _ _ _ _=W1 at *;go_upto_region 3 with fail;refine aGs ?_;show wpList _ _ _ [_,_,_,_,_] _ _
 refine aFd Aah (λK hK=>?_);go_simp;refine hK _ _ ?_;clear hK K;refine aF4 rfl 79 (.tmp 8) rfl w.heap.size 9 rfl (dR k.node A.n).toList _ (zC.rng 9 _ rfl) underlying79 rfl Aab ?_;go_wp2_with fail;refine(H2 _ zC.b).mono ?_;rintro e x ⟨A2,rfl,G,hN,hS,hb⟩;have qR:=Hq (zC.step hb (λW'=>bX W' A2 k.node) (λW' hk=>(hN.keeps hk (λy hy hm=>by have:=hS.rng y hy;have:=zC.s;simp at hm;omega)).at));clear hN hS hb zC H2;rename_i WX
 refine WX _ _ ?_;clear WX;refine aFd Aah (λK hK=>?_);go_simp;refine hK _ _ ?_;clear hK K;refine aF8 rfl 53 (.tmp 11) (.tmp 10) rfl (w.heap.size+1+1) 9 (dR k.node A2) rfl rfl (qR.there 9 9 (aEQ Aab)) Aab Aab ?_;have HS2:=Hq (qR.mid 9 (dR k.node A2).toList);clear qR;generalize World.setCells _ _ _ _=W1 at *;go_upto_region 4 with fail;have c18:World.cell? _ ⟨w.heap.size,18,none⟩=some (.string k.log):=(HS2.cell 18).trans Aab;have f18:=aA HS2.o 18;have o18:World.cell? _ ⟨w.heap.size+1+1,18,none⟩=some (.string ByteArray.empty):=(aEz _ _ 18 _ _ (0,0) HS2.o).trans Aab;go_upto_region 5 with fail;refine wp_at (λW hW=>?_);have zD:=Hq (hW.symm▸(ah HS2).one 18 (.string k.log));clear hW c18 f18 o18 HS2;have c19:World.cell? _ ⟨w.heap.size,19,none⟩=some (.int .i64 k.safe):=(zD.cell 19).trans Aab;have f19:=aA zD.o 19;have o19:World.cell? _ ⟨w.heap.size+1+1,19,none⟩=some (.int .i64 0):=(aEz _ _ 19 _ _ (0,0) zD.o).trans Aab;go_upto_region 6 with fail;refine wp_at (λW hW=>?_);have OY:=Hq (hW.symm▸(ah zD).one 19 (.int .i64 k.safe));clear hW c19 f19 o19 zD;have c20:World.cell? _ ⟨w.heap.size,20,none⟩=some (.slice A.wa k.wait.length A.wc):=(OY.cell 20).trans Aab;have f20:=aA OY.o 20;have o20:World.cell? _ ⟨w.heap.size+1+1,20,none⟩=some (.slice none 0 0):=(aEz _ _ 20 _ _ (0,0) OY.o).trans Aab;go_wp2_with fail;refine(H3 _ OY.b).mono ?_;rintro e x20 ⟨rfl,hN,hb⟩;have ayD:=OY.s;have qR:=Hq (OY.step hb (λW'=>GR.At iE 7 W' (some ⟨W.heap.size,0,none⟩) k.wait) (λW' hk=>GR.Blk.at (show GR.Blk iE 104 W' W.heap.size k.wait from hk.obj hN (λhm=>Aaz)) dM));clear hN hb OY H3 c20 f20 o20 ayD;generalize W.heap.size=g20 at *;have c20:World.cell? _ ⟨w.heap.size,20,none⟩=some (.slice A.wa k.wait.length A.wc):=(qR.cell 20).trans Aab;have f20:=aA qR.o 20;have o20:World.cell? _ ⟨w.heap.size+1+1,20,none⟩=some (.slice none 0 0):=(aEz _ _ 20 _ _ (0,0) qR.o).trans Aab;go_upto_region 7 with fail;refine wp_at (λW hW=>?_);have IE:=Hq (hW.symm▸(ah qR).one 20 (.slice (some ⟨g20,0,none⟩) k.wait.length k.wait.length));clear hW c20 f20 o20 qR;have c21:World.cell? _ ⟨w.heap.size,21,none⟩=some (.slice A.aa k.asked.length A.ac):=(IE.cell 21).trans Aab;have f21:=aA IE.o 21;have o21:World.cell? _ ⟨w.heap.size+1+1,21,none⟩=some (.slice none 0 0):=(aEz _ _ 21 _ _ (0,0) IE.o).trans Aab;go_wp2_with fail;refine(H4 _ IE.b).mono ?_;rintro e x21 ⟨rfl,hN,hb⟩;have ayE:=IE.s;have qR:=Hq (IE.step hb (λW'=>GR.At gM 12 W' (some ⟨W.heap.size,0,none⟩) k.asked) (λW' hk=>GR.Blk.at (show GR.Blk gM 108 W' W.heap.size k.asked from hk.obj hN (λhm=>Aaz)) bY));clear hN hb IE H4 c21 f21 o21 ayE;generalize W.heap.size=g21 at *;have c21:World.cell? _ ⟨w.heap.size,21,none⟩=some (.slice A.aa k.asked.length A.ac):=(qR.cell 21).trans Aab;have f21:=aA qR.o 21;have o21:World.cell? _ ⟨w.heap.size+1+1,21,none⟩=some (.slice none 0 0):=(aEz _ _ 21 _ _ (0,0) qR.o).trans Aab;go_upto_region 8 with fail;refine wp_at (λW hW=>?_);have HS6:=Hq (hW.symm▸(ah qR).one 21 (.slice (some ⟨g21,0,none⟩) k.asked.length k.asked.length));clear hW c21 f21 o21 qR;obtain⟨V,hV⟩:∃V,XL V k ⟨A1,A2,some ⟨g20,0,none⟩,k.wait.length,some ⟨g21,0,none⟩,k.asked.length⟩:=⟨_,rfl⟩;have HR:=Hq (KR.blk (V:=V) (show W.heap[w.heap.size+1+1]?=some (.cells V.toArray 57 (0,0)) from HS6.o.trans (by rw [show V=_ from hV];kernel_rfl)));have HV:=Hq hV;clear hV;refine aGs ?_;show wpList _ _ _ [_,_] _ _
 refine ajm Aah (.tmp 3) rfl (w.heap.size+1+1) rfl V HV.len HR ?_;refine aln Aah (.tmp 2) (.tmp 26) rfl (w.heap.size+1) rfl V rfl HV.len HV.one Aah HS6.r (λW5 hW5 hR5=>?_);have hk:aC (List.range (w.heap.size+3)) W W5:=by rw [hW5];exact(iC _ _ _ _).mono (λx hx=>by simp at hx;simp[hx])
 have hb:aG w W5:=by rw [hW5];exact jk Aaa _ _ _ _ HS6.b
 have HP:=Hq (show∃A',Ending.returned (Value.agg V.toArray)= .returned (kpv k A')/\vF w.heap.size W5 A' k/\aG w W5 from⟨_,by rw [(ah HV).agg],λW6 F h6 hF=>by
  obtain⟨⟨⟨⟨_,q1⟩,q2⟩,q3⟩,q4⟩:=HS6.m W6 (hk.trans (h6.mono (λx hx=>by have:=hF x hx;simp;omega)))
  exact⟨q1,q2,q3,q4⟩,hb⟩)
 clear hW5 hk hb HS6 HR;go_wp2_with fail;exact aEE (v:= .agg V.toArray) (rM rfl _ _ (w.heap.size+1) V _ rfl hR5.r underlying57 rfl (by rw [(ah HV).len];kernel_rfl)) rfl HP
theorem vF.keeps {lo:Nat} {w w':World} {A:KA} {k:Kp} {F:List Nat} (h:vF lo w A k) (hk:aC F w w') (hF:∀x∈F,x < lo):vF lo w' A k:=λw'' F' hk' hF'=>
 h w'' (F++F') ((hk.mono (λ_ hx=>aFg _ hx)).trans (hk'.mono (λ_ hx=>aFG _ hx))) (λx hx=>(aE0.1 hx).elim (hF x) (hF' x))
theorem vF.below {lo:Nat} {w w':World} {A:KA} {k:Kp} (h:vF lo w A k) (hb:aG w w'):vF lo w' A k:=h.keeps (F:=[]) (aC.of_below hb) (λ_ hx=>Aay)
theorem vF.lower {lo lo':Nat} {w:World} {A:KA} {k:Kp} (h:vF lo w A k) (hl:lo'<=lo):vF lo' w A k:=λw' F hk hF=>h w' F hk (λx hx=>aEH (hF x hx) hl)
theorem ZQ (x:JW) (w:World) (hz:mO x.1 1048576) (ha:oL w x.2 x.1):
 Calls prog 41 #[.agg (mE x).toArray] w λe w'=>∃V:List Value,e= .returned (.agg V.toArray)/\V.length=22/\(∀v∈V,v.oneCell'=true)/\∃A',V=mE (x.1,A')/\vF w.heap.size w' A' x.1/\aG w w':=by
 refine(ZN x.1 x.2 w hz ha).mono ?_;rintro e w1 ⟨A',rfl,h1,h2⟩;exact⟨mE (x.1,A'),rfl,rfl,abD _,A',rfl,h1,h2⟩
theorem ZO (a:Option Addr) (cap:Nat) (l:List JW) (w:World) (hl:l.length<=1048576) (hks:∀p∈l,mO p.1 1048576) (ha:uX w a l):
 Calls prog 18 #[.slice a l.length cap] w λe w'=>e= .returned (.slice (some ⟨w.heap.size,0,none⟩) l.length l.length)/\∃M:List JW,M.map (λx=>x.1)=l.map (λx=>x.1)/\GR.Blk mE 57 w' w.heap.size M/\(∀x∈M,vF (w.heap.size+1) w' x.2 x.1)/\aG w w':=by
 have hmk:=QG l.length Aaa;have HA:=Hq ha;clear ha;go_in
 go_wp2_with fail;go_loopw [4] (λi wr=>∃(k:Nat) (M:List JW),k<=l.length/\i= .int .i64 k/\M.length=l.length/\(M.take k).map (λx=>x.1)=(l.take k).map (λx=>x.1)/\GR.Blk mE 57 wr w.heap.size M/\(∀x∈M.take k,vF (w.heap.size+1) wr x.2 x.1)/\w.heap.size < wr.heap.size/\aG w wr) (λi _=>l.length - (intOf i).toNat)
 case atStart=>exact⟨0,List.replicate l.length Lp,aEN _,rfl,Aac,rfl,by unfold GR.Blk;exact aEu w _,λx hx=>Aay,Aac,aV w _⟩
 case round=>
  obtain⟨k,M,hk,rfl,hML,hMm,hB,hin,hsz,hbel⟩:=hrel;have HB:=Hq hB;have aO:=Hq hbel;have HIN:=Hq hin;have HMM:=Hq hMm;have HML:=Hq hML;clear hB hbel hmk hin hMm hML;by_cases hlt:k < l.length
  .open arZ in exact agE
  .open anx in exact xE
end Go.Proofs.YtfachhcijcjbpaaGreatDoor
