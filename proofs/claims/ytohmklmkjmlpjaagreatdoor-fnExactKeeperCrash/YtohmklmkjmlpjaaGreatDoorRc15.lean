/- Parts. -/
import Derived.Test.YtohmklmkjmlpjaaGreatDoorRc11
import Derived.Test.YtohmklmkjmlpjaaGreatDoorRc7
namespace Go.Proofs.YtohmklmkjmlpjaaGreatDoor
open Go.Proofs.Tryz
set_option maxHeartbeats 8000000
open Go.RowKit
open Mth
variable (S:Nat->Prop) (a:Option Addr) (n c:Nat) (s:Int) (w:World) {g sz:Nat} {w' b:World} {l:List Sn} {t:TypeId} {I:Nat->Nat} {o:Obj} {v0 v1 v2:Value} {F:List Nat} {α:Type} {enc:α->List Value}
def iW (w:World) (a:Option Addr) (l:List Sn):Prop:=∀i (hi:i < l.length),∃g off b c,a=some ⟨g,off,none⟩/\g < w.heap.size/\w.cell? ⟨g,off+i*3,none⟩=some (.int .i64 l[i].f)/\w.cell? ⟨g,off+i*3+1,none⟩=some (.int .i64 l[i].l)/\w.cell? ⟨g,off+i*3+2,none⟩=some (.slice b l[i].ids.length c)/\dH w b l[i].ids
theorem iW.below {w:World} {a:Option Addr} (h:iW w a l) (hb:Below w.heap.size w w'):iW w' a l:=λi hi=>by
 obtain⟨g,off,b,c,e,hg,h0,h1,h2,h3⟩:=h i hi;exact⟨g,off,b,c,e,aGq hg hb.size,(hb.cell (p:=⟨g,off+i*3,none⟩) hg).trans h0,(hb.cell (p:=⟨g,off+i*3+1,none⟩) hg).trans h1,(hb.cell (p:=⟨g,off+i*3+2,none⟩) hg).trans h2,GR.At.below h3 hb⟩
structure bV where
 k:Option Addr
 p:Option Addr
 o:Option Addr
 s:Option Addr
 r:Option Addr
 ck:Nat
 cp:Nat
 co:Nat
 cs:Nat
 cr:Nat
abbrev iT (i p:Int) (k:Option Addr) (k1 k2:Nat) (x:Int) (a:Option Addr) (a1 a2:Nat) (b:Option Addr) (b1 b2:Nat) (c:Option Addr) (c1 c2:Nat) (o:Int) (r:Option Addr) (r1 r2:Nat):Array Value:=#[.int .i64 i,.int .i64 p,.slice k k1 k2,.int .i64 x,.slice a a1 a2,.slice b b1 b2,.slice c c1 c2,.int .i64 o,.slice r r1 r2]
abbrev dG (n:Nd) (A:bV):Array Value:=#[.int .i64 n.id,.int .i64 n.par,.slice A.k n.kids.length A.ck,.int .i64 n.next,.slice A.p n.pu.length A.cp,.slice A.o n.out.length A.co,.slice A.s n.seen.length A.cs,.int .i64 n.old,.slice A.r n.reqs.length A.cr]
abbrev gP (n:Nd) (A:bV):Value:= .agg (dG n A)
structure dD (w:World) (A:bV) (n:Nd):Prop where
 k:dH w A.k n.kids
 p:aH w A.p n.pu
 o:SentAt w A.o n.out
 s:iW w A.s n.seen
 r:gZ w A.r n.reqs
theorem dD.below {w:World} {A:bV} {n:Nd} (h:dD w A n) (hb:Below w.heap.size w w'):dD w' A n:=
 ⟨GR.At.below h.k hb,GR.At.below h.p hb,GR.At.below h.o hb,h.s.below hb,GR.At.below h.r hb⟩
structure eG (n:Nd) (b:Nat):Prop where
 k:n.kids.length<=b
 p:n.pu.length<=b
 o:n.out.length<=b
 s:n.seen.length<=b
 r:n.reqs.length<=b
 pk:∀x∈n.pu,x.k.size<=b
 ok:∀x∈n.out,x.k.size<=b
 sk:∀x∈n.seen,x.ids.length<=b
 rk:∀x∈n.reqs,x.k.size<=b
theorem eG.mono {n:Nd} {a b:Nat} (h:eG n a) (hab:a<=b):eG n b:=
 ⟨aGm h.k hab,aGm h.p hab,aGm h.o hab,aGm h.s hab,aGm h.r hab,λx hx=>aGm (h.pk x hx) hab,λx hx=>aGm (h.ok x hx) hab,λx hx=>aGm (h.sk x hx) hab,λx hx=>aGm (h.rk x hx) hab⟩
theorem au {w:World} (h:w.heap[g]?=some o) (hb:Below w.heap.size w w'):w'.heap[g]?=some o:=by
 rw [hb.block g (aA h)];exact h
theorem nine {w:World} {v3 v4 v5 v6 v7 v8:Value} (h:w.heap[g]?=some (.cells #[v0,v1,v2,v3,v4,v5,v6,v7,v8] t (0,0))):
 w.cell? ⟨g,0,none⟩=some v0/\w.cell? ⟨g,1,none⟩=some v1/\w.cell? ⟨g,2,none⟩=some v2/\w.cell? ⟨g,3,none⟩=some v3/\w.cell? ⟨g,4,none⟩=some v4/\w.cell? ⟨g,5,none⟩=some v5/\w.cell? ⟨g,6,none⟩=some v6/\w.cell? ⟨g,7,none⟩=some v7/\w.cell? ⟨g,8,none⟩=some v8:=by
 have hc:∀i,w.cell? ⟨g,i,none⟩=#[v0,v1,v2,v3,v4,v5,v6,v7,v8][i]?:=λi=>aGu w g i _ t (0,0) h
 exact⟨hc 0,hc 1,hc 2,hc 3,hc 4,hc 5,hc 6,hc 7,hc 8⟩
theorem aj {w:World} {cs:Array Value} (h:w.heap[g]?=some (.cells cs t (0,0))) (i:Nat):w.frozen? ⟨g,i,none⟩=false:=by
 unfold World.frozen?;rw [h];simp
structure R3 where
 f:Int
 l:Int
 v:Value
abbrev fq (x:R3):List Value:=[.int .i64 x.f,.int .i64 x.l,x.v]
theorem bY (x:R3):(fq x).length=3:=rfl
def aeL (w:World) (l:List Sn) (T:List R3) (I:Nat->Nat):Prop:=T.length=l.length/\∀i (hi:i < l.length),∃b c,T[i]?=some ⟨l[i].f,l[i].l,.slice b l[i].ids.length c⟩/\GR.W aS 1 w b (I i) l[i].ids
def eF (w:World) (a:Option Addr) (g:Nat) (I:Nat->Nat) (l:List Sn):Prop:=∃T,GR.W fq 3 w a g T/\aeL w l T I
theorem eF.at {w:World} {a:Option Addr} (h:eF w a g I l):iW w a l:=λi hi=>by
 obtain⟨T,hT,hl,hr⟩:=h;obtain⟨b,c,ht,hi2⟩:=hr i hi;obtain⟨e,hg,hc⟩:=hT i Aaa
 have hti:T[i]' Aaa=⟨l[i].f,l[i].l,.slice b l[i].ids.length c⟩:=by
  have:=aGo (l:=T) (i:=i) Aaa;rw [this] at ht;exact aHd ht
 rw [hti] at hc;refine⟨g,0,b,c,e,hg,?_,?_,?_,hi2.at⟩
 .have:=(hc 0 Aaa).1;simpa using this
 .have:=(hc 1 Aaa).1;simpa using this
 .have:=(hc 2 Aaa).1;simpa using this
def nA (I:Nat->Nat) (l:List Sn):List Nat:=(List.range l.length).flatMap λi=>fp (I i) (l.getD i default).ids
theorem jI {i:Nat} (hi:i < l.length):∀x∈fp (I i) l[i].ids,x∈nA I l:=by
 intro x hx;unfold nA;rw [aHw];refine⟨i,aG7.2 hi,?_⟩;rw [aGK,aGo hi];exact hx
theorem qM {x:Nat} (h:x∈nA I l):∃i,∃hi:i < l.length,x=I i/\0 < l[i].ids.length:=by
 unfold nA at h;rw [aHw] at h;obtain⟨i,hi,hx⟩:=h;have hi':=aG7.1 hi;rw [aGK,aGo hi'] at hx;exact⟨i,hi',dQ hx⟩
theorem eF.keeps {w:World} {a:Option Addr} (h:eF w a g I l) (hk:aC F w w') (hg:∀x∈fp g l,x∉F) (hI:∀x∈nA I l,x∉F):eF w' a g I l:=by
 obtain⟨T,hT,hl,hr⟩:=h;refine⟨T,hT.keeps hk (λx hx=>hg x ?_),hl,λi hi=>?_⟩
 .exact abw
 .obtain⟨b,c,ht,hi2⟩:=hr i hi;exact⟨b,c,ht,hi2.keeps hk (λx hx=>hI x (jI hi x hx))⟩
structure aR where
 k:Nat
 p:Nat
 o:Nat
 s:Nat
 r:Nat
 i:Nat->Nat
def aR.all (G:aR) (n:Nd):List Nat:=fp G.k n.kids++(fp G.p n.pu++(fp G.o n.out++(fp G.s n.seen++(nA G.i n.seen++fp G.r n.reqs))))
structure jd (w:World) (A:bV) (G:aR) (n:Nd):Prop where
 k:GR.W aS 1 w A.k G.k n.kids
 p:GR.W fD 4 w A.p G.p n.pu
 o:GR.W aM 4 w A.o G.o n.out
 s:eF w A.s G.s G.i n.seen
 r:GR.W aJ 4 w A.r G.r n.reqs
theorem jd.at {w:World} {A:bV} {G:aR} {n:Nd} (h:jd w A G n):dD w A n:=⟨h.k.at,h.p.at,h.o.at,h.s.at,h.r.at⟩
theorem aR.mem_all {G:aR} {n:Nd} {x:Nat}:x∈G.all n↔x∈fp G.k n.kids\/x∈fp G.p n.pu\/x∈fp G.o n.out\/x∈fp G.s n.seen\/x∈nA G.i n.seen\/x∈fp G.r n.reqs:=by
 unfold aR.all;simp only[aGE]
theorem jd.keeps {w:World} {A:bV} {G:aR} {n:Nd} (h:jd w A G n) (hk:aC F w w') (hd:∀x∈G.all n,x∉F):jd w' A G n:=
 ⟨h.k.keeps hk (λx hx=>hd x (aR.mem_all.2 (.inl hx))),h.p.keeps hk (λx hx=>hd x (aR.mem_all.2 (.inr (.inl hx)))),h.o.keeps hk (λx hx=>hd x (aR.mem_all.2 (.inr (.inr (.inl hx))))),h.s.keeps hk (λx hx=>hd x (aR.mem_all.2 (.inr (.inr (.inr (.inl hx)))))) (λx hx=>hd x (aR.mem_all.2 (.inr (.inr (.inr (.inr (.inl hx))))))),h.r.keeps hk (λx hx=>hd x (aR.mem_all.2 (.inr (.inr (.inr (.inr (.inr hx)))))))⟩
theorem jd.below {w:World} {A:bV} {G:aR} {n:Nd} (h:jd w A G n) (hb:aI w w'):jd w' A G n:=h.keeps (F:=[]) (aC.of_below hb) (λ_ _=>Aac)
structure aR.Sep (G:aR) (n:Nd) (lo hi:Nat):Prop where
 nodup:(G.all n).Nodup
 rng:∀x∈G.all n,lo<=x/\x < hi
set_option maxRecDepth 100000
theorem Mth.has_snoc (l:List Int) (x:Int) (k:Nat) (h:k < l.length):hasB (l.take (k+1)) x=(hasB (l.take k) x||decide (l[k]=x)):=by
 unfold hasB;rw [aGt h,List.any_append];simp
theorem Mth.has_yes (l:List Int) (x:Int) (k:Nat) (h:k < l.length) (hx:l[k]=x):hasB l x=true:=by
 unfold hasB;rw [List.any_eq_true];exact⟨l[k],aGz h,Aan⟩
theorem Xq (a:Option Addr) (cap:Nat) (l:List Int) (x:Int) (w:World) (hl:l.length<=1048600) (ha:dH w a l):
 Calls prog 101 #[.slice a l.length cap,.int .i64 x] w λe w'=>e= .returned (.bool (hasB l x))/\w=w':=by
 have HA:=Hq ha;clear ha;go_in
 go_wp2_with fail;go_loop [5] (λi=>∃k:Nat,k<=l.length/\i= .int .i64 k/\hasB (l.take k) x=false) (λi=>l.length - (intOf i).toNat)
 case atStart=>exact⟨0,aGB _,rfl,rfl⟩
 case round=>
  obtain⟨k,hk,rfl,hno⟩:=hrel;have HN:=Hq hno;clear hno;by_cases hlt:k < l.length
  .obtain⟨g,off,rfl,hgw,q0⟩:=dH.one HA k hlt;by_cases hx:l[k]=x
   .have HY:=Hq (has_yes l x k hlt hx);rw [hx] at q0;clear hx;go_wp2_with fail;go_ret;exact⟨aF HY.symm,rfl⟩
   .have HS:=Hq (has_snoc l x k hlt);rw [aGi hx] at HS;exact aiF
  .open an6 in exact vT
theorem GK (n:Nd) (A:bV) (x:Int) (w:World) (hl:n.kids.length<=1048600) (ha:dH w A.k n.kids):
 Calls prog 51 #[gP n A,.int .i64 x] w (dZ w (.bool (eD n x))):=by
 have HH:=Hq (Xq A.k A.ck n.kids x (w.alloc (.cells (dG n A) 40)) hl (GR.At.below ha (ay w _)));clear ha;by_cases h0:0<=x
 .by_cases h1:x=n.par
  .have HN:=Hq (show eD n x=true by unfold eD;rw [aGk h0,aGk h1];rfl);have h2:(x == n.par)=true:=Abc
   clear h1;go_in
   go_wp2_with fail;exact abj
  .have HN:=Hq (show eD n x=hasB n.kids x by simp[eD,h1]);have h2:(x == n.par)=false:=Abc
   clear h1;exact ajf
 .have HN:=Hq (show eD n x=hasB n.kids x by simp[eD,h0]);exact ajf
theorem aj2 (x:Int) (b:Bool) (hb:uU x=b) (W:World) (n:Nat):Calls prog 100 #[.int .i64 x] (W.drewN n) λe w''=>e= .returned (.bool b)/\∃m,w''=W.drewN m:=
 (nV x b _ hb).mono λ_ _ ⟨he,hw⟩=>⟨he,n,hw.symm⟩
theorem Mth.place_head {n:Nd} (h:(uU n.id&&decide (-1<=n.par/\n.par<=29)&&decide (n.par≠n.id)&&decide (n.kids.length<=30))=false):eO n=false:=by
 unfold eO;rw [h];rfl
theorem Mth.place_tail {n:Nd} (h1:uU n.id=true) (h2: -1<=n.par/\n.par<=29) (h3:n.par≠n.id) (h4:n.kids.length<=30):eO n=iA (kW n.id n.par) iX n.kids:=by
 unfold eO;rw [h1,aGk h2,aGk h3,aGk h4];rfl
theorem ZA (n:Nd) (A:bV) (w:World) (hl:n.kids.length<=1048600) (ha:dH w A.k n.kids):
 Calls prog 46 #[gP n A] w (dZ w (.bool (eO n))):=by
 have HA:=Hq ha;have HD:=Hq (@place_head n);have ES:=Hq (@place_tail n);have su:=Hq (λk h=>pX (kW n.id n.par) iX n.kids k h);have Ow:=Hq (sJ (kW n.id n.par) iX n.kids);have EJ:=Hq (wD (kW n.id n.par) iX n.kids);clear ha;open apn in exact vU
theorem cell_grown' {w:World} {a:Addr} {v:Value} (h:w.cell? a=some v):∀d os,(Sort.grow (redrawn w d) os).cell? a=some v:=λd os=>aGj h d os
theorem aj3 (n:Nd) (A:bV) (x:Int) (b:Bool) (wc:World) (hl:n.kids.length<=1048600) (ha:dH wc A.k n.kids) (hb:eD n x=b):∀d os,Calls prog 51 #[gP n A,.int .i64 x] (Sort.grow (redrawn wc d) os) λe w''=>e= .returned (.bool b)/\∃p:Regrown,w''=Sort.grow (redrawn wc p.d) p.os:=λd os=>by
 rw [<-hb];exact aG6 (GK n A x _ hl (GR.At.below ha (aHr wc d os)))
theorem KJ (x:Int) (b:Bool) (wc:World) (hb:fO x=b):∀d os,Calls prog 49 #[.int .i64 x] (Sort.grow (redrawn wc d) os) λe w''=>e= .returned (.bool b)/\∃p:Regrown,w''=Sort.grow (redrawn wc p.d) p.os:=λ_ _=>
 aG6 ((eU x b _ hb).mono λ_ _ ⟨he,hw⟩=>⟨he,hw▸aGs _ _⟩)
theorem qIn (x a b:Int) (r:Bool) (hb:decide (a<=x/\x<=b)=r) (W:World) (n:Nat):Calls prog 18 #[.int .i64 x,.int .i64 a,.int .i64 b] (W.drewN n) λe w''=>e= .returned (.bool r)/\∃m,w''=W.drewN m:=
 (yQ x a b r _ hb).mono λ_ _ ⟨he,hw⟩=>⟨he,n,hw.symm⟩
theorem three {w:World} (h:w.heap[g]?=some (.cells #[v0,v1,v2] t (0,0))):
 w.cell? ⟨g,0,none⟩=some v0/\w.cell? ⟨g,1,none⟩=some v1/\w.cell? ⟨g,2,none⟩=some v2:=by
 have hc:∀i,w.cell? ⟨g,i,none⟩=#[v0,v1,v2][i]?:=λi=>aGu w g i _ t (0,0) h
 exact⟨hc 0,hc 1,hc 2⟩
theorem adU (n:Nd) (A:bV) (w:World) (hl:n.kids.length<=1048600) (hl2:n.seen.length<=1048600) (hl3:∀s∈n.seen,s.ids.length<=1048600) (ha:dH w A.k n.kids) (hs:iW w A.s n.seen):
 Calls prog 48 #[gP n A] w (dZ w (.bool (oL n))):=by
 have HA:=Hq ha;have HS:=Hq hs;have rU:=Hq hl3;have HD:Hid (oL n=(decide ((n.seen.length:Int)=n.kids.length+(if 0<=n.par then 1 else 0))&&iA (λs=>eD n s.f&&wu s) (λs t=>iX s.f t.f) n.seen)):=rfl;have su:=Hq (λk h=>pX (λs=>eD n s.f&&wu s) (λs t=>iX s.f t.f) n.seen k h);have Ow:=Hq (sJ (λs=>eD n s.f&&wu s) (λs t=>iX s.f t.f) n.seen);have EJ:=Hq (wD (λs=>eD n s.f&&wu s) (λs t=>iX s.f t.f) n.seen);have Sl:=Hq (λx b wc (ha:dH wc A.k n.kids) (hb:eD n x=b)=>aj3 n A x b wc hl ha hb);have kJ:=Hq (aGg w (.cells (dG n A) 40));clear ha hs hl3;generalize hpp:(λs=>eD n s.f&&wu s)=PP at *;have HPP:Hid (∀s,PP s=(eD n s.f&&wu s)):=by intro s;rw [<-hpp]
 clear hpp;generalize hrr:(λs t:Sn=>iX s.f t.f)=RR at *;have HRR:Hid (∀s t,RR s t=iX s.f t.f):=by intro s t;rw [<-hrr]
 clear hrr;generalize hnn:eD n=NN at *;clear hnn;generalize htt:oL n=TT at *;clear htt;open apo in exact vU
structure oh (S:Nat->Prop) (w w':World):Prop where
 os:w'.os=w.os
 tape:w'.tape=w.tape
 output:w'.output=w.output
 size:w.heap.size<=w'.heap.size
 block:∀k,k < w.heap.size->¬S k->w'.heap[k]?=w.heap[k]?
 cell:∀g o,(w.cell? ⟨g,o,none⟩).isSome=true->(w'.cell? ⟨g,o,none⟩).isSome=true
 froz:∀g o,g < w.heap.size->w'.frozen? ⟨g,o,none⟩=w.frozen? ⟨g,o,none⟩
theorem oh.refl (S:Nat->Prop) (w:World):oh S w w:=⟨rfl,rfl,rfl,aGh _,λ_ _ _=>rfl,λ_ _ h=>h,λ_ _ _=>rfl⟩
theorem oh.trans {S:Nat->Prop} {a c:World} (h:oh S a b) (k:oh S b c):oh S a c:=
 ⟨k.os.trans h.os,k.tape.trans h.tape,k.output.trans h.output,aGm h.size k.size,λi hi hS=>(k.block i (aGq hi h.size) hS).trans (h.block i hi hS),λg o hc=>k.cell g o (h.cell g o hc),λg o hg=>(k.froz g o (aGq hg h.size)).trans (h.froz g o hg)⟩
theorem oh.mono {S S':Nat->Prop} {a:World} (h:oh S a b) (hs:∀x,S x->S' x):oh S' a b:=⟨h.os,h.tape,h.output,h.size,λi hi hS=>h.block i hi (λhx=>hS (hs i hx)),h.cell,h.froz⟩
theorem oh.of_below {S:Nat->Prop} {w:World} (h:aI w w'):oh S w w':=
 ⟨h.os,h.tape,h.output,h.size,λk hk _=>h.block k hk,λg o hc=>by
  obtain⟨v,hv⟩:=aGT.1 hc
  have hg:=aHs w _ hv
  rw [h.cell (p:=⟨g,o,none⟩) hg]
  exact hc,λg o hg=>h.frozen (p:=⟨g,o,none⟩) hg⟩
theorem oh.below {S:Nat->Prop} {a c:World} (h:oh S a b) (hb:aI b c):oh S a c:=h.trans (oh.of_below hb)
theorem Uz (w:World) (p:Addr) (v:Value) (a:Addr) (h:(w.cell? a).isSome=true):((w.setCell p v).cell? a).isSome=true:=by
 obtain⟨u,hu⟩:=aGT.1 h;by_cases e:p=a
 .subst e;rw [aId _ _ _ hu];rfl
 .rw [aHy _ _ _ _ e,hu];rfl
theorem oh.set {S:Nat->Prop} {a:World} (h:oh S a b) (hS:S g) (o:Nat) (v:Value):oh S a (b.setCell ⟨g,o,none⟩ v):=
 h.trans ⟨rfl,rfl,rfl,Aaq,λk _ hk=>aGx _ _ _ _ (λe=>hk (by simpa [e] using hS)),λg' o' hc=>Uz b _ v _ hc,λg' o' _=>by rw [World.frozen?_setCell]⟩
theorem oh.under {S:Nat->Prop} {a:World} {B:Nat} (h:oh S a b) (hS:∀x,S x->B<=x) (hB:B<=a.heap.size):Below B a b:=⟨h.os,h.tape,h.output,h.size,λk hk=>h.block k Aaa (λhx=>by have:=hS k hx;omega)⟩
theorem oh.obj {S:Nat->Prop} {w:World} (h:oh S w w') (ho:w.heap[g]?=some o) (hg:¬S g):w'.heap[g]?=some o:=by
 rw [h.block g (aA ho) hg];exact ho
def Wr (S:Nat->Prop) (w:World) (a:Option Addr) (n sz:Nat):Prop:=∀i,i < n->∃g,a=some ⟨g,0,none⟩/\S g/\g < w.heap.size/\∀j,j < sz->(w.cell? ⟨g,i*sz+j,none⟩).isSome=true/\w.frozen? ⟨g,i*sz+j,none⟩=false
theorem Wr.scr {S T:Nat->Prop} {w:World} {a:Option Addr} {n:Nat} (h:Wr S w a n sz) (hs:oh T w w'):Wr S w' a n sz:=λi hi=>by
 obtain⟨g,e,hS,hg,hc⟩:=h i hi;exact⟨g,e,hS,aGq hg hs.size,λj hj=>⟨hs.cell _ _ (hc j hj).1,(hs.froz _ _ hg).trans (hc j hj).2⟩⟩
theorem Wr.mono {S S':Nat->Prop} {w:World} {a:Option Addr} {n:Nat} (h:Wr S w a n sz) (hs:∀x,S x->S' x):Wr S' w a n sz:=λi hi=>by
 obtain⟨g,e,hS,hg,hc⟩:=h i hi;exact⟨g,e,hs g hS,hg,hc⟩
theorem Wr.of_W {S:Nat->Prop} {w:World} {a:Option Addr} {l:List α} (hs:∀x,(enc x).length=sz) (h:GR.W enc sz w a g l) (hS:0 < l.length->S g):Wr S w a l.length sz:=λi hi=>by
 obtain⟨e,hg,hc⟩:=h i hi;refine⟨g,e,hS Aaa,hg,λj hj=>⟨?_,(hc j hj).2⟩⟩;rw [(hc j hj).1,aGo (by rw [hs];exact hj)];rfl
theorem Wr.of_blk {S:Nat->Prop} {w:World} {l:List α} (hs:∀x,(enc x).length=sz) (h:GR.Blk enc t w g l) (hS:S g):Wr S w (some ⟨g,0,none⟩) l.length sz:=Wr.of_W hs (GR.W.of_blk hs h) (λ_=>hS)
theorem Nv (z:Int) (w:World) (h0:0 < z) (h1:z<=9223372036854775807):Calls prog 89 #[.int .i64 z] w λe w'=>∃t,e= .returned (.string t)/\aI w w':=by
 refine(nM z.toNat z w Aaa Aaa Aaa).mono ?_;rintro e w1 ⟨rfl,hb⟩;exact⟨_,rfl,hb⟩
theorem al6 (hs0:0 < s) (hs1:s<=6917529027641081856) (hn:n<=1048600) (hw:Wr S w a n 7):
 Calls prog 34 #[.slice a n c,.int .i64 s] w λe w'=>e= .returned (.int .i64 (s+7*(n:Int)))/\oh S w w':=by
 have HW:=Hq hw;clear hw;go_in
 go_wp2_with fail;go_loopw [1,5] (λkk i wr=>∃(k:Nat) (m:Int),k<=n/\i= .int .i64 k/\kk= .int .i64 m/\m=s+7*(k:Int)/\oh S w wr) (λ_ i _=>n - (intOf i).toNat)
 case atStart=>exact⟨0,s,aGB _,rfl,rfl,Aaa,oh.refl _ _⟩
 case round=>
  obtain⟨k,m,hk,rfl,rfl,hm,hsc⟩:=hrel;have HK:=Hq hsc;have HM:=Hq hm;have hm0:0 < m:=Aaa
  have hm1:m<=6917529042000000000:=Aaa
  clear hsc hm;by_cases hlt:k < n
  .open atD in exact agY
  .exact aiS
theorem Zo (hs0:0 < s) (hs1:s<=6917529027641081856) (hn:n<=1048600) (hw:Wr S w a n 12):
 Calls prog 35 #[.slice a n c,.int .i64 s] w λe w'=>e= .returned (.int .i64 (s+12*(n:Int)))/\oh S w w':=by
 have HW:=Hq hw;clear hw;go_in
 go_wp2_with fail;go_loopw [1,5] (λkk i wr=>∃(k:Nat) (m:Int),k<=n/\i= .int .i64 k/\kk= .int .i64 m/\m=s+12*(k:Int)/\oh S w wr) (λ_ i _=>n - (intOf i).toNat)
 case atStart=>exact⟨0,s,aGB _,rfl,rfl,Aaa,oh.refl _ _⟩
 case round=>
  obtain⟨k,m,hk,rfl,rfl,hm,hsc⟩:=hrel;have HK:=Hq hsc;have HM:=Hq hm;have hm0:0 < m:=Aaa
  have hm1:m<=6917529042000000000:=Aaa
  clear hsc hm;by_cases hlt:k < n
  .open atC in exact agY
  .exact aiS
end Go.Proofs.YtohmklmkjmlpjaaGreatDoor
