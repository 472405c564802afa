/- Parts. -/
import Derived.Test.YtohmklmkjmlpjaaGreatDoorRc38
namespace Go.Proofs.YtohmklmkjmlpjaaGreatDoor
open Go.Proofs.Tryz
set_option maxHeartbeats 8000000
set_option maxRecDepth 100000
open Go.RowKit
open Mth
variable {w w':World} {L F:List Nat} {A:KA} {k:Kp} {G1 G2:aR} {S:Nat->Prop} {a:Option Addr} {sz lo hi:Nat}
theorem BU {s:Nat} {n:Nd} (hz:eG n 1048576):iD s n<=s+1200000000000:=by
 have h:=(zU (Q9 s n) 1048576 n.seen hz.sk).2;have h1:=hz.k;have h2:=hz.p;have h3:=hz.o;have h4:=hz.s;have h5:=hz.r;exact ajF
theorem oh.keepsL (h:oh (·∈L) w w'):aC L w w':=⟨h.os,h.tape,h.output,h.size,h.block⟩
theorem Wr.keepsL {n:Nat} (h:Wr S w a n sz) (hk:aC F w w') (hF:∀x,S x->x∉F):Wr S w' a n sz:=λi hi=>by
 obtain⟨g,e,hS,hg,hc⟩:=h i hi;have hb:=hk.block g hg (hF g hS);exact⟨g,e,hS,aGq hg hk.size,λj hj=>⟨by rw [aG0 (w:=w) (a:=⟨g,i*sz+j,none⟩) hb];exact(hc j hj).1,by rw [aH5 (w:=w) (a:=⟨g,i*sz+j,none⟩) hb];exact(hc j hj).2⟩⟩
theorem Wr.nil:Wr S w a 0 sz:=λi hi=>by omega
structure Tn (lo hi:Nat) (w:World) (A:KA) (k:Kp) (G1 G2:aR) (L:List Nat):Prop where
 b:jd w A.b G1 k.base
 n:jd w A.n G2 k.node
 bn:(G1.all k.base).Nodup
 nn:(G2.all k.node).Nodup
 d:∀x∈G1.all k.base,x∉G2.all k.node
 wt:Wr (·∈L) w A.wa k.wait.length 7
 sk:Wr (·∈L) w A.aa k.asked.length 12
 dl:∀x∈L,x∉G1.all k.base/\x∉G2.all k.node
 r:∀x∈G1.all k.base++(G2.all k.node++L),lo<=x/\x < hi
theorem Tn.keeps (h:Tn lo hi w A k G1 G2 L) (hk:aC F w w') (hF:∀x∈F,x < lo\/hi<=x):Tn lo hi w' A k G1 G2 L:=by
 have q:∀x∈G1.all k.base++(G2.all k.node++L),x∉F:=λx hx hm=>by have:=h.r x hx;have:=hF x hm;omega
 exact⟨h.b.keeps hk (λx hx=>q x Aan),h.n.keeps hk (λx hx=>q x Aan),h.bn,h.nn,h.d,h.wt.keepsL hk (λx hx=>q x Aan),h.sk.keepsL hk (λx hx=>q x Aan),h.dl,h.r⟩
theorem Tn.below (h:Tn lo hi w A k G1 G2 L) (hb:aI w w'):Tn lo hi w' A k G1 G2 L:=h.keeps (F:=[]) (aC.of_below hb) (λ_ hx=>Abg)
def eKp (k:Kp):Nat:=iD (iD 1 k.base) k.node+7*k.wait.length+12*k.asked.length
structure MK (w:World) (A:KA) (k:Kp) (G1 G2:aR):Prop where
 b:jd w A.b G1 (wM 1 k.base)
 n:jd w A.n G2 (wM (iD 1 k.base) k.node)
theorem MK.below (h:MK w A k G1 G2) (hb:aI w w'):MK w' A k G1 G2:=⟨h.b.below hb,h.n.below hb⟩
theorem Di (k:Kp) (A:KA) (G1 G2:aR) (L:List Nat) (lo hi:Nat) (w:World) (hz:uz k 1048576) (h:Tn lo hi w A k G1 G2 L) (hhi:hi<=w.heap.size):
 Calls prog 12 #[SA k A,.int .i64 1] w λe w'=>e= .returned (.int .i64 (eKp k:Nat))/\MK w' A k G1 G2/\aC (G1.all k.base++(G2.all k.node++L)) w w':=by
 have hb0:=ay w (.cells (zy k A).toArray 44);have e0:=aGg w (.cells (zy k A).toArray 44);have hE1:=BU (s:=1) hz.b;have hP1:=yM (s:=1) hz.b Aaa;have hE2:=BU (s:=iD 1 k.base) hz.n;have hP2:=yM (s:=iD 1 k.base) hz.n hP1;have hw:=hz.w;have ha:=hz.a;have HEK:=Hq (show eKp k=iD (iD 1 k.base) k.node+7*k.wait.length+12*k.asked.length from rfl);have VP:=Hq (λW (hW:jd W A.b G1 k.base)=>Kk 1 Aaa Aaa k.base A.b G1 W (hz.b.mono Aaa) h.bn hW);have OE:=Hq (λW (hW:jd W A.n G2 k.node)=>Kk (iD 1 k.base) hP1 Aaa k.node A.n G2 W (hz.n.mono Aaa) h.nn hW);have HM3:=Hq (fun(s:Int) W (h0:0 < s) (h1:s<=6917529027641081856) (hW:Wr (·∈L) W A.wa k.wait.length 7)=>al6 (·∈L) A.wa k.wait.length A.wc s W h0 h1 Aaa hW);have HM4:=Hq (fun(s:Int) W (h0:0 < s) (h1:s<=6917529027641081856) (hW:Wr (·∈L) W A.aa k.asked.length 12)=>Zo (·∈L) A.aa k.asked.length A.ac s W h0 h1 Aaa hW);have HNE:=Hq (show∀x∈G1.all k.base++(G2.all k.node++L),w.heap.size≠x from λx hx=>by have:=h.r x hx;omega);have HD:=Hq (And.intro h.d h.dl);have h0:=h.below hb0;have HB0:=Hq h0.b;have Ig:=Hq h0.n;have HW0:=Hq h0.wt;have HA0:=Hq h0.sk;have Hy:=Hq e0;have qg:=Hq (aC.of_below (F:=G1.all k.base++(G2.all k.node++L)) hb0);clear h h0 hb0 e0 hz hhi;generalize eKp k=EK at *;go_in
 go_upto_region 1 with fail;generalize w.alloc (.cells (zy k A).toArray 44)=W0 at *;obtain⟨hr0,_⟩:=wK Hy;open aty in exact Wl
theorem PV (b n:Nd) (lg:ByteArray) (sf:Int) (A1 A2:bV) (G1 G2:aR) (w:World) (hb:eG b 1048576) (hn:eG n 1048576) (h:MK w ⟨A1,A2,none,0,none,0⟩ ⟨b,n,lg,sf,[],[]⟩ G1 G2):
 Calls prog 13 #[SA ⟨b,n,lg,sf,[],[]⟩ ⟨A1,A2,none,0,none,0⟩,.int .i64 1] w (dZ w (.int .i64 (eKp ⟨b,n,lg,sf,[],[]⟩:Nat))):=by
 have hb0:=ay w (.cells (zy ⟨b,n,lg,sf,[],[]⟩ ⟨A1,A2,none,0,none,0⟩).toArray 44);have e0:=aGg w (.cells (zy ⟨b,n,lg,sf,[],[]⟩ ⟨A1,A2,none,0,none,0⟩).toArray 44);have hE1:=BU (s:=1) hb;have hP1:=yM (s:=1) hb Aaa;have HEK:=Hq (show eKp ⟨b,n,lg,sf,[],[]⟩=iD (iD 1 b) n from rfl);have VP:=Hq (λW (hW:aI w W)=>J9 1 Aaa Aaa b A1 G1 W (hb.mono Aaa) (h.b.below hW));have OE:=Hq (λW (hW:aI w W)=>J9 (iD 1 b) hP1 Aaa n A2 G2 W (hn.mono Aaa) (h.n.below hW));have Hy:=Hq e0;have HB0:=Hq hb0;have g1:decide (((iD 1 b:Nat):Int) < 0)=false:=Aac
 have g2:decide (((iD (iD 1 b) n:Nat):Int) < 0)=false:=Aac
 clear h hb0 e0 hb hn;generalize eKp ⟨b,n,lg,sf,[],[]⟩=EK at *;generalize iD (iD 1 b) n=E2 at *;generalize iD 1 b=E1 at *;go_in
 go_upto_region 1 with fail;generalize w.alloc (.cells (zy ⟨b,n,lg,sf,[],[]⟩ ⟨A1,A2,none,0,none,0⟩).toArray 44)=W0 at *;obtain⟨hr0,_⟩:=wK Hy;open atx in exact Wl
abbrev agh:List Value:=[.int .i64 0,.int .i64 0,.slice none 0 0,.int .i64 0,.slice none 0 0,.slice none 0 0,.slice none 0 0,.int .i64 0,.slice none 0 0,.int .i64 0,.int .i64 0,.slice none 0 0,.int .i64 0,.slice none 0 0,.slice none 0 0,.slice none 0 0,.int .i64 0,.slice none 0 0,.string ByteArray.empty,.int .i64 0,.slice none 0 0,.slice none 0 0]
theorem ZL (k:Kp) (A:KA) (w:World) (hz:uz k 1048576) (ha:nu w A k):
 Calls prog 7 #[SA k A] w λe w'=>∃A' G1 G2 L,e= .returned (SA k A')/\nu w' A' k/\Tn w.heap.size w'.heap.size w' A' k G1 G2 L/\aI w w':=by
 have H1:=Hq (λw1 (h:aI w w1)=>ad4 k.base A.b w1 hz.b (ha.below h).kb);have H2:=Hq (λw1 (h:aI w w1)=>ad4 k.node A.n w1 hz.n (ha.below h).kn);have H3:=Hq (λw1 (h:aI w w1)=>ame A.wa A.wc k.wait w1 hz.w (ha.below h).kw);have H4:=Hq (λw1 (h:aI w w1)=>ZK A.aa A.ac k.asked w1 hz.a (ha.below h).ka);clear ha hz;obtain⟨hP0,hR0,hO0,hB0⟩:=abE w (.cells (zy k A).toArray 32) (.cells agh.toArray 44) (.cells agh.toArray 44);go_in
 go_upto_region 2 with fail;refine wp_at (λW0 hW=>?_);have LD:Hid (TO 32 44 (zy k A) agh w (λ_=>True) agh W0):=by rw [hW];exact⟨hP0,hR0,hO0,hB0,λ_ _=>trivial⟩
 clear hW hP0 hR0 hO0 hB0;open atz in exact Wl
end Go.Proofs.YtohmklmkjmlpjaaGreatDoor
