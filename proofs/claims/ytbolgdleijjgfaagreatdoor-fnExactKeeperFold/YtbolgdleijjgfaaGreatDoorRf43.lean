/- Parts. -/
import Derived.Test.YtbolgdleijjgfaaGreatDoorRf34
import Derived.Test.YtbolgdleijjgfaaGreatDoorRf29
namespace Go.Proofs.YtbolgdleijjgfaaGreatDoor
open Go.Proofs.Tryz
set_option maxHeartbeats 8000000
set_option maxRecDepth 100000
open Go.RowKit
open Mth
variable {w w':World} {A:KA} {k:Kp} {lo gw ga hi:Nat} {G1 G2:aN} {F:List Nat}
structure Eu (lo hi:Nat) (w:World) (A:KA) (k:Kp) (G1 G2:aN) (gw ga:Nat):Prop where
 b:gZ w A.b G1 k.base
 n:gZ w A.n G2 k.node
 bn:(G1.all k.base).Nodup
 nn:(G2.all k.node).Nodup
 d:∀x∈G1.all k.base,x∉G2.all k.node
 wt:GR.W jC 7 w A.wa gw k.wait
 sk:GR.W eU 12 w A.aa ga k.asked
 dl:∀x∈fp gw k.wait++fp ga k.asked,x∉G1.all k.base/\x∉G2.all k.node
 dd:∀x∈fp gw k.wait,x∉fp ga k.asked
 r:∀x∈G1.all k.base++(G2.all k.node++(fp gw k.wait++fp ga k.asked)),lo<=x/\x < hi
theorem Eu.keepsF (h:Eu lo hi w A k G1 G2 gw ga) (hk:aA F w w') (q:∀x∈G1.all k.base++(G2.all k.node++(fp gw k.wait++fp ga k.asked)),x∉F):Eu lo hi w' A k G1 G2 gw ga:=
 ⟨h.b.keeps hk (λx hx=>q x Aai),h.n.keeps hk (λx hx=>q x Aai),h.bn,h.nn,h.d,h.wt.keeps hk (λx hx=>q x Aai),h.sk.keeps hk (λx hx=>q x Aai),h.dl,h.dd,h.r⟩
theorem Eu.keeps (h:Eu lo hi w A k G1 G2 gw ga) (hk:aA F w w') (hF:∀x∈F,x < lo\/hi<=x):Eu lo hi w' A k G1 G2 gw ga:=
 h.keepsF hk (λx hx hm=>by have:=h.r x hx;have:=hF x hm;omega)
theorem Eu.below (h:Eu lo hi w A k G1 G2 gw ga) (hb:aH w w'):Eu lo hi w' A k G1 G2 gw ga:=h.keeps (F:=[]) (aA.of_below hb) (λ_ hx=>Abe)
structure MKR (w:World) (A:KA) (k:Kp) (G1 G2:aN) (gw ga:Nat):Prop where
 b:gZ w A.b G1 (sQ 1 k.base)
 n:gZ w A.n G2 (sQ (eO 1 k.base) k.node)
 wt:GR.W jC 7 w A.wa gw (jW mkMsg 7 (eO (eO 1 k.base) k.node) k.wait k.wait.length)
 sk:GR.W eU 12 w A.aa ga (jW jo 12 (eO (eO 1 k.base) k.node+7*k.wait.length) k.asked k.asked.length)
theorem MKR.below (h:MKR w A k G1 G2 gw ga) (hb:aH w w'):MKR w' A k G1 G2 gw ga:=⟨h.b.below hb,h.n.below hb,GR.W.below h.wt hb,GR.W.below h.sk hb⟩
theorem Du (k:Kp) (A:KA) (G1 G2:aN) (gw ga lo hi:Nat) (w:World) (hz:qd k 1048576) (h:Eu lo hi w A k G1 G2 gw ga) (hhi:hi<=w.heap.size):
 Calls prog 12 #[Jg k A,.int .i64 1] w λe w'=>e= .returned (.int .i64 (eKp k:Nat))/\MKR w' A k G1 G2 gw ga/\aA (G1.all k.base++(G2.all k.node++(fp gw k.wait++fp ga k.asked))) w w':=by
 open aqP in exact axc
theorem PG (k:Kp) (A:KA) (G1 G2:aN) (gw ga:Nat) (w:World) (hz:qd k 1048576) (h:MKR w A k G1 G2 gw ga):
 Calls prog 15 #[Jg k A,.int .i64 1] w (dU w (.int .i64 (eKp k:Nat))):=by
 open aqO in exact axc
theorem KH.kpw {m1 m2 m3 g:Nat} (h:KH lo m1 m2 m3 g w A k):∃G1 G2 gw ga,Eu lo g w A k G1 G2 gw ga:=by
 obtain⟨⟨Gn,n1,d1,r1⟩,⟨Gb,n2,d2,r2⟩,⟨hw,bw⟩,⟨ha,ba⟩,l1,l2,l3,l4,l5⟩:=h;obtain⟨Ab,An,wa,wc,aa,ac⟩:=A;obtain⟨_,_,gw,e,hW,rw1,ow⟩:=GR.W.of_own (enc:=iH) dA hw;simp only[aFN] at e;obtain⟨rfl,_,rfl⟩:=e;obtain⟨_,_,ga,e,hA,ra1,oa⟩:=GR.W.of_own (enc:=eU) aR ha;simp only[aFN] at e;obtain⟨rfl,_,rfl⟩:=e;have qw:∀x∈fp gw k.wait,m2<=x/\x < m3:=λx hx=>⟨(rw1 x hx).1,bw x (ow x hx)⟩
 have qa:∀x∈fp ga k.asked,m3<=x/\x < g:=λx hx=>⟨(ra1 x hx).1,ba x (oa x hx)⟩
 refine⟨Gb,Gn,gw,ga,n2,n1,d2,d1,λx h1 h2=>by have:=r1 x h2;have:=r2 x h1;omega,hW,hA,λx hx=>?_,λx h1 h2=>by have:=qw x h1;have:=qa x h2;omega,λx hx=>?_⟩
 .have h3:m2<=x:=by
   rcases aFb.1 hx with hx|hx
   .exact(qw x hx).1
   .have:=(qa x hx).1;omega
  exact⟨λh=>by have:=r2 x h;omega,λh=>by have:=r1 x h;omega⟩
 .rcases aFb.1 hx with hx|hx
  .have:=r2 x hx;omega
  rcases aFb.1 hx with hx|hx
  .have:=r1 x hx;omega
  rcases aFb.1 hx with hx|hx
  .have:=qw x hx;omega
  .have:=qa x hx;omega
theorem Eu.at (h:Eu lo hi w A k G1 G2 gw ga):jw w A k:=⟨h.b.at,h.n.at,h.wt.at,h.sk.at⟩
theorem Eu.wide {lo' hi':Nat} (h:Eu lo hi w A k G1 G2 gw ga) (h1:lo'<=lo) (h2:hi<=hi'):Eu lo' hi' w A k G1 G2 gw ga:=
 ⟨h.b,h.n,h.bn,h.nn,h.d,h.wt,h.sk,h.dl,h.dd,λx hx=>by have:=h.r x hx;omega⟩
abbrev afV:List Value:=[.int .i64 0,.int .i64 0,.slice none 0 0,.int .i64 0,.slice none 0 0,.slice none 0 0,.slice none 0 0,.int .i64 0,.slice none 0 0,.int .i64 0,.int .i64 0,.slice none 0 0,.int .i64 0,.slice none 0 0,.slice none 0 0,.slice none 0 0,.int .i64 0,.slice none 0 0,.string ByteArray.empty,.int .i64 0,.slice none 0 0,.slice none 0 0]
theorem ZO (k:Kp) (A:KA) (w:World) (hz:qd k 1048576) (ha:jw w A k):
 Calls prog 7 #[Jg k A] w λe w'=>∃A' G1 G2 gw ga,e= .returned (Jg k A')/\jw w' A' k/\Eu w.heap.size w'.heap.size w' A' k G1 G2 gw ga/\aH w w':=by
 have H1:=Hq (λw1 (h:aH w w1)=>adH k.base A.b w1 hz.b (ha.below h).kb);have H2:=Hq (λw1 (h:aH w w1)=>adH k.node A.n w1 hz.n (ha.below h).kn);have H3:=Hq (λw1 (h:aH w w1)=>alo A.wa A.wc k.wait w1 hz.w (ha.below h).kw);have H4:=Hq (λw1 (h:aH w w1)=>ZN A.aa A.ac k.asked w1 hz.a (ha.below h).ka);clear ha hz;obtain⟨Wz,hR0,hO0,hB0⟩:=abo w (.cells (yJ k A).toArray 32) (.cells afV.toArray 43) (.cells afV.toArray 43);go_in
 go_upto_region 2 with fail;refine wp_at (λW0 hW=>?_);have Il:Hid (TO 32 43 (yJ k A) afV w (λ_=>True) afV W0):=by rw [hW];exact⟨Wz,hR0,hO0,hB0,λ_ _=>trivial⟩
 clear hW Wz hR0 hO0 hB0;refine aFm ?_;show wpList _ _ _ [_,_,_,_,_] _ _
 refine aFi Aad (λK hK=>?_);go_simp;refine hK _ _ ?_;clear hK K;refine aGj rfl 28 (.tmp 4) rfl w.heap.size 0 rfl (dD k.base A.b).toList _ (Il.rng 0 _ rfl) underlying28 rfl Aab ?_;go_wp2_with fail;refine(H1 _ Il.b).mono ?_;rintro e x ⟨A1,rfl,G1,hN,hS,hb⟩;have hs0:=Il.s;have Ls:=Hq (Il.step hb (λW'=>gZ W' A1 G1 k.base/\x.heap.size<=W'.heap.size) (λW' hk=>⟨hN.keeps hk (λy hy hm=>by have:=hS.rng y hy;simp at hm;omega),hk.size⟩));have HR1:=Hq (show(∀y∈G1.all k.base,w.heap.size<=y/\y < x.heap.size)/\w.heap.size<=x.heap.size from⟨λy hy=>by have:=hS.rng y hy;omega,by have:=hb.size;omega⟩);have HD1:=Hq hS.nodup;clear hN hS hb hs0 Il H1;generalize hs1:x.heap.size=s1 at *;clear hs1;rename_i qC
 refine qC _ _ ?_;clear qC;refine aFi Aad (λK hK=>?_);go_simp;refine hK _ _ ?_;clear hK K;refine aGE rfl 39 (.tmp 7) (.tmp 6) rfl (w.heap.size+1+1) 0 (dD k.base A1) rfl rfl (Ls.there 0 9 (aFa Aab)) Aab Aab ?_;have zJ:=Hq (Ls.mid 0 (dD k.base A1).toList);clear Ls;generalize World.setCells _ _ _ _=W1 at *;go_upto_region 3 with fail;refine aFm ?_;show wpList _ _ _ [_,_,_,_,_] _ _
 open apB in exact SY
end Go.Proofs.YtbolgdleijjgfaaGreatDoor
