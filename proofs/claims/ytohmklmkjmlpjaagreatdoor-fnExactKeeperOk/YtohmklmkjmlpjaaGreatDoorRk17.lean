/- Parts. -/
import Derived.Test.YtohmklmkjmlpjaaGreatDoorRk14
import Derived.Test.YtohmklmkjmlpjaaGreatDoorRk15
import Derived.Test.YtohmklmkjmlpjaaGreatDoorRk8
namespace Go.Proofs.YtohmklmkjmlpjaaGreatDoor
open Go.Proofs.Tryz
set_option maxHeartbeats 8000000
open Go.RowKit
open Mth
variable {w w':World} {g x:Nat} {a:Option Addr} {l:List Sn} {n:Nd} {I:Nat->Nat} {t:TypeId} {v0 v1 v2:Value} {F:List Nat}
def iy (w:World) (a:Option Addr) (l:List Sn):Prop:=∀i (hi:i < l.length),∃g off b c,a=some ⟨g,off,none⟩/\g < w.heap.size/\w.cell? ⟨g,off+i*3,none⟩=some (.int .i64 l[i].f)/\w.cell? ⟨g,off+i*3+1,none⟩=some (.int .i64 l[i].l)/\w.cell? ⟨g,off+i*3+2,none⟩=some (.slice b l[i].ids.length c)/\bZ w b l[i].ids
theorem iy.below (h:iy w a l) (hb:Below w.heap.size w w'):iy w' a l:=λi hi=>by
 obtain⟨g,off,b,c,e,hg,h0,h1,h2,h3⟩:=h i hi;exact⟨g,off,b,c,e,Nat.lt_of_lt_of_le hg hb.size,(hb.cell (p:=⟨g,off+i*3,none⟩) hg).trans h0,(hb.cell (p:=⟨g,off+i*3+1,none⟩) hg).trans h1,(hb.cell (p:=⟨g,off+i*3+2,none⟩) hg).trans h2,GR.At.below h3 hb⟩
structure bV where
 k:Option Addr
 p:Option Addr
 o:Option Addr
 s:Option Addr
 r:Option Addr
 ck:Nat
 cp:Nat
 co:Nat
 cs:Nat
 cr:Nat
abbrev fP (i p:Int) (k:Option Addr) (k1 k2:Nat) (x:Int) (a:Option Addr) (a1 a2:Nat) (b:Option Addr) (b1 b2:Nat) (c:Option Addr) (c1 c2:Nat) (o:Int) (r:Option Addr) (r1 r2:Nat):Array Value:=#[.int .i64 i,.int .i64 p,.slice k k1 k2,.int .i64 x,.slice a a1 a2,.slice b b1 b2,.slice c c1 c2,.int .i64 o,.slice r r1 r2]
abbrev dH (n:Nd) (A:bV):Array Value:=#[.int .i64 n.id,.int .i64 n.par,.slice A.k n.kids.length A.ck,.int .i64 n.next,.slice A.p n.pu.length A.cp,.slice A.o n.out.length A.co,.slice A.s n.seen.length A.cs,.int .i64 n.old,.slice A.r n.reqs.length A.cr]
abbrev fQ (n:Nd) (A:bV):Value:= .agg (dH n A)
structure dx (w:World) (A:bV) (n:Nd):Prop where
 k:bZ w A.k n.kids
 p:aG w A.p n.pu
 o:SentAt w A.o n.out
 s:iy w A.s n.seen
 r:gF w A.r n.reqs
theorem dx.below {A:bV} (h:dx w A n) (hb:Below w.heap.size w w'):dx w' A n:=
 ⟨GR.At.below h.k hb,GR.At.below h.p hb,GR.At.below h.o hb,h.s.below hb,GR.At.below h.r hb⟩
structure eX (n:Nd) (b:Nat):Prop where
 k:n.kids.length<=b
 p:n.pu.length<=b
 o:n.out.length<=b
 s:n.seen.length<=b
 r:n.reqs.length<=b
 pk:∀x∈n.pu,x.k.size<=b
 ok:∀x∈n.out,x.k.size<=b
 sk:∀x∈n.seen,x.ids.length<=b
 rk:∀x∈n.reqs,x.k.size<=b
theorem eX.mono {a b:Nat} (h:eX n a) (hab:a<=b):eX n b:=
 ⟨Nat.le_trans h.k hab,Nat.le_trans h.p hab,Nat.le_trans h.o hab,Nat.le_trans h.s hab,Nat.le_trans h.r hab,λx hx=>Nat.le_trans (h.pk x hx) hab,λx hx=>Nat.le_trans (h.ok x hx) hab,λx hx=>Nat.le_trans (h.sk x hx) hab,λx hx=>Nat.le_trans (h.rk x hx) hab⟩
theorem au {o:Obj} (h:w.heap[g]?=some o) (hb:Below w.heap.size w w'):w'.heap[g]?=some o:=by
 rw [hb.block g (aA h)];exact h
theorem nine {v3 v4 v5 v6 v7 v8:Value} (h:w.heap[g]?=some (.cells #[v0,v1,v2,v3,v4,v5,v6,v7,v8] t (0,0))):
 w.cell? ⟨g,0,none⟩=some v0/\w.cell? ⟨g,1,none⟩=some v1/\w.cell? ⟨g,2,none⟩=some v2/\w.cell? ⟨g,3,none⟩=some v3/\w.cell? ⟨g,4,none⟩=some v4/\w.cell? ⟨g,5,none⟩=some v5/\w.cell? ⟨g,6,none⟩=some v6/\w.cell? ⟨g,7,none⟩=some v7/\w.cell? ⟨g,8,none⟩=some v8:=by
 have hc:∀i,w.cell? ⟨g,i,none⟩=#[v0,v1,v2,v3,v4,v5,v6,v7,v8][i]?:=λi=>cell_of_row w g i _ t (0,0) h
 exact⟨hc 0,hc 1,hc 2,hc 3,hc 4,hc 5,hc 6,hc 7,hc 8⟩
theorem aj {cs:Array Value} (h:w.heap[g]?=some (.cells cs t (0,0))) (i:Nat):w.frozen? ⟨g,i,none⟩=false:=by
 unfold World.frozen?;rw [h];simp
structure R3 where
 f:Int
 l:Int
 v:Value
abbrev fV (x:R3):List Value:=[.int .i64 x.f,.int .i64 x.l,x.v]
theorem dK (x:R3):(fV x).length=3:=rfl
def aei (w:World) (l:List Sn) (T:List R3) (I:Nat->Nat):Prop:=T.length=l.length/\∀i (hi:i < l.length),∃b c,T[i]?=some ⟨l[i].f,l[i].l,.slice b l[i].ids.length c⟩/\GR.W bf 1 w b (I i) l[i].ids
def iL (w:World) (a:Option Addr) (g:Nat) (I:Nat->Nat) (l:List Sn):Prop:=∃T,GR.W fV 3 w a g T/\aei w l T I
theorem iL.at (h:iL w a g I l):iy w a l:=λi hi=>by
 obtain⟨T,hT,hl,hr⟩:=h;obtain⟨b,c,ht,hi2⟩:=hr i hi;obtain⟨e,hg,hc⟩:=hT i Aaa
 have hti:T[i]' Aaa=⟨l[i].f,l[i].l,.slice b l[i].ids.length c⟩:=by
  have:=List.getElem?_eq_getElem (l:=T) (i:=i) Aaa;rw [this] at ht;exact Option.some.inj ht
 rw [hti] at hc;refine⟨g,0,b,c,e,hg,?_,?_,?_,hi2.at⟩
 .have:=(hc 0 Aaa).1;simpa using this
 .have:=(hc 1 Aaa).1;simpa using this
 .have:=(hc 2 Aaa).1;simpa using this
def wR (I:Nat->Nat) (l:List Sn):List Nat:=(List.range l.length).flatMap λi=>fp (I i) (l.getD i default).ids
theorem lV {i:Nat} (hi:i < l.length):∀x∈fp (I i) l[i].ids,x∈wR I l:=by
 intro x hx;unfold wR;rw [List.mem_flatMap];refine⟨i,List.mem_range.2 hi,?_⟩;rw [List.getD_eq_getElem?_getD,List.getElem?_eq_getElem hi];exact hx
theorem uo (h:x∈wR I l):∃i,∃hi:i < l.length,x=I i/\0 < l[i].ids.length:=by
 unfold wR at h;rw [List.mem_flatMap] at h;obtain⟨i,hi,hx⟩:=h;have hi':=List.mem_range.1 hi;rw [List.getD_eq_getElem?_getD,List.getElem?_eq_getElem hi'] at hx;exact⟨i,hi',eD hx⟩
theorem iL.keeps (h:iL w a g I l) (hk:aC F w w') (hg:∀x∈fp g l,x∉F) (hI:∀x∈wR I l,x∉F):iL w' a g I l:=by
 obtain⟨T,hT,hl,hr⟩:=h;refine⟨T,hT.keeps hk (λx hx=>hg x ?_),hl,λi hi=>?_⟩
 .exact abb
 .obtain⟨b,c,ht,hi2⟩:=hr i hi;exact⟨b,c,ht,hi2.keeps hk (λx hx=>hI x (lV hi x hx))⟩
structure aY where
 k:Nat
 p:Nat
 o:Nat
 s:Nat
 r:Nat
 i:Nat->Nat
def aY.all (G:aY) (n:Nd):List Nat:=fp G.k n.kids++(fp G.p n.pu++(fp G.o n.out++(fp G.s n.seen++(wR G.i n.seen++fp G.r n.reqs))))
structure rF (w:World) (A:bV) (G:aY) (n:Nd):Prop where
 k:GR.W bf 1 w A.k G.k n.kids
 p:GR.W gB 4 w A.p G.p n.pu
 o:GR.W aV 4 w A.o G.o n.out
 s:iL w A.s G.s G.i n.seen
 r:GR.W aJ 4 w A.r G.r n.reqs
theorem rF.at {A:bV} {G:aY} (h:rF w A G n):dx w A n:=⟨h.k.at,h.p.at,h.o.at,h.s.at,h.r.at⟩
theorem aY.mem_all {G:aY}:x∈G.all n↔x∈fp G.k n.kids\/x∈fp G.p n.pu\/x∈fp G.o n.out\/x∈fp G.s n.seen\/x∈wR G.i n.seen\/x∈fp G.r n.reqs:=by
 unfold aY.all;simp only[List.mem_append]
theorem rF.keeps {A:bV} {G:aY} (h:rF w A G n) (hk:aC F w w') (hd:∀x∈G.all n,x∉F):rF w' A G n:=
 ⟨h.k.keeps hk (λx hx=>hd x (aY.mem_all.2 (.inl hx))),h.p.keeps hk (λx hx=>hd x (aY.mem_all.2 (.inr (.inl hx)))),h.o.keeps hk (λx hx=>hd x (aY.mem_all.2 (.inr (.inr (.inl hx))))),h.s.keeps hk (λx hx=>hd x (aY.mem_all.2 (.inr (.inr (.inr (.inl hx)))))) (λx hx=>hd x (aY.mem_all.2 (.inr (.inr (.inr (.inr (.inl hx))))))),h.r.keeps hk (λx hx=>hd x (aY.mem_all.2 (.inr (.inr (.inr (.inr (.inr hx)))))))⟩
theorem rF.below {A:bV} {G:aY} (h:rF w A G n) (hb:aI w w'):rF w' A G n:=h.keeps (F:=[]) (aC.of_below hb) (λ_ _=>Aac)
structure aY.Sep (G:aY) (n:Nd) (lo hi:Nat):Prop where
 nodup:(G.all n).Nodup
 rng:∀x∈G.all n,lo<=x/\x < hi
set_option maxRecDepth 100000
theorem Mth.has_snoc (l:List Int) (x:Int) (k:Nat) (h:k < l.length):hasB (l.take (k+1)) x=(hasB (l.take k) x||decide (l[k]=x)):=by
 unfold hasB;rw [List.take_succ_eq_append_getElem h,List.any_append];simp
theorem Mth.has_yes (l:List Int) (x:Int) (k:Nat) (h:k < l.length) (hx:l[k]=x):hasB l x=true:=by
 unfold hasB;rw [List.any_eq_true];exact⟨l[k],List.getElem_mem h,Aaj⟩
theorem Wo (a:Option Addr) (cap:Nat) (l:List Int) (x:Int) (w:World) (hl:l.length<=1048600) (ha:bZ w a l):
 Calls prog 101 #[.slice a l.length cap,.int .i64 x] w λe w'=>e= .returned (.bool (hasB l x))/\w=w':=by
 have HA:=Hq ha;clear ha;go_in
 go_wp2_with fail;go_loop [5] (λi=>∃k:Nat,k<=l.length/\i= .int .i64 k/\hasB (l.take k) x=false) (λi=>l.length - (intOf i).toNat)
 case atStart=>exact⟨0,Nat.zero_le _,rfl,rfl⟩
 case round=>
  obtain⟨k,hk,rfl,hno⟩:=hrel;have HN:=Hq hno;clear hno;by_cases hlt:k < l.length
  .obtain⟨g,off,rfl,hgw,q0⟩:=bZ.one HA k hlt;by_cases hx:l[k]=x
   .have HY:=Hq (has_yes l x k hlt hx);rw [hx] at q0;clear hx;go_wp2_with fail;go_ret;exact⟨aF HY.symm,rfl⟩
   .have HS:=Hq (has_snoc l x k hlt);rw [decide_eq_false hx] at HS;exact aiP
  .open apv in exact xP
theorem FX (n:Nd) (A:bV) (x:Int) (w:World) (hl:n.kids.length<=1048600) (ha:bZ w A.k n.kids):
 Calls prog 51 #[fQ n A,.int .i64 x] w (eO w (.bool (eF n x))):=by
 have HH:=Hq (Wo A.k A.ck n.kids x (w.alloc (.cells (dH n A) 40)) hl (GR.At.below ha (ay w _)));clear ha;by_cases h0:0<=x
 .by_cases h1:x=n.par
  .have HN:=Hq (show eF n x=true by unfold eF;rw [decide_eq_true h0,decide_eq_true h1];rfl);have h2:(x == n.par)=true:=Aba
   clear h1;go_in
   go_wp2_with fail;exact aaW
  .have HN:=Hq (show eF n x=hasB n.kids x by simp[eF,h1]);have h2:(x == n.par)=false:=Aba
   clear h1;exact ajo
 .have HN:=Hq (show eF n x=hasB n.kids x by simp[eF,h0]);exact ajo
theorem akb (x:Int) (b:Bool) (hb:uh x=b) (W:World) (n:Nat):Calls prog 100 #[.int .i64 x] (W.drewN n) λe w''=>e= .returned (.bool b)/\∃m,w''=W.drewN m:=
 (nH x b _ hb).mono λ_ _ ⟨he,hw⟩=>⟨he,n,hw.symm⟩
theorem Mth.place_head {n:Nd} (h:(uh n.id&&decide (-1<=n.par/\n.par<=29)&&decide (n.par≠n.id)&&decide (n.kids.length<=30))=false):eP n=false:=by
 unfold eP;rw [h];rfl
theorem Mth.place_tail {n:Nd} (h1:uh n.id=true) (h2: -1<=n.par/\n.par<=29) (h3:n.par≠n.id) (h4:n.kids.length<=30):eP n=gZ (ku n.id n.par) iN n.kids:=by
 unfold eP;rw [h1,decide_eq_true h2,decide_eq_true h3,decide_eq_true h4];rfl
theorem YJ (n:Nd) (A:bV) (w:World) (hl:n.kids.length<=1048600) (ha:bZ w A.k n.kids):
 Calls prog 46 #[fQ n A] w (eO w (.bool (eP n))):=by
 have HA:=Hq ha;have HD:=Hq (@place_head n);have Ei:=Hq (@place_tail n);have wV:=Hq (λk h=>oH (ku n.id n.par) iN n.kids k h);have Nt:=Hq (rH (ku n.id n.par) iN n.kids);have D9:=Hq (uZ (ku n.id n.par) iN n.kids);clear ha;open aqF in exact wO
theorem cell_grown' {a:Addr} {v:Value} (h:w.cell? a=some v):∀d os,(Sort.grow (redrawn w d) os).cell? a=some v:=λd os=>cell_regrown h d os
theorem akd (n:Nd) (A:bV) (x:Int) (b:Bool) (wc:World) (hl:n.kids.length<=1048600) (ha:bZ wc A.k n.kids) (hb:eF n x=b):∀d os,Calls prog 51 #[fQ n A,.int .i64 x] (Sort.grow (redrawn wc d) os) λe w''=>e= .returned (.bool b)/\∃p:Regrown,w''=Sort.grow (redrawn wc p.d) p.os:=λd os=>by
 rw [<-hb];exact Calls.regrown_of (FX n A x _ hl (GR.At.below ha (below_regrown wc d os)))
theorem JJ (x:Int) (b:Bool) (wc:World) (hb:fK x=b):∀d os,Calls prog 49 #[.int .i64 x] (Sort.grow (redrawn wc d) os) λe w''=>e= .returned (.bool b)/\∃p:Regrown,w''=Sort.grow (redrawn wc p.d) p.os:=λ_ _=>
 Calls.regrown_of ((eU x b _ hb).mono λ_ _ ⟨he,hw⟩=>⟨he,hw▸Below.refl _ _⟩)
theorem qIn (x a b:Int) (r:Bool) (hb:decide (a<=x/\x<=b)=r) (W:World) (n:Nat):Calls prog 18 #[.int .i64 x,.int .i64 a,.int .i64 b] (W.drewN n) λe w''=>e= .returned (.bool r)/\∃m,w''=W.drewN m:=
 (yc x a b r _ hb).mono λ_ _ ⟨he,hw⟩=>⟨he,n,hw.symm⟩
theorem three (h:w.heap[g]?=some (.cells #[v0,v1,v2] t (0,0))):
 w.cell? ⟨g,0,none⟩=some v0/\w.cell? ⟨g,1,none⟩=some v1/\w.cell? ⟨g,2,none⟩=some v2:=by
 have hc:∀i,w.cell? ⟨g,i,none⟩=#[v0,v1,v2][i]?:=λi=>cell_of_row w g i _ t (0,0) h
 exact⟨hc 0,hc 1,hc 2⟩
theorem ado (n:Nd) (A:bV) (w:World) (hl:n.kids.length<=1048600) (hl2:n.seen.length<=1048600) (hl3:∀s∈n.seen,s.ids.length<=1048600) (ha:bZ w A.k n.kids) (hs:iy w A.s n.seen):
 Calls prog 48 #[fQ n A] w (eO w (.bool (nV n))):=by
 have HA:=Hq ha;have HS:=Hq hs;have qC:=Hq hl3;have HD:Hid (nV n=(decide ((n.seen.length:Int)=n.kids.length+(if 0<=n.par then 1 else 0))&&gZ (λs=>eF n s.f&&uV s) (λs t=>iN s.f t.f) n.seen)):=rfl;have wV:=Hq (λk h=>oH (λs=>eF n s.f&&uV s) (λs t=>iN s.f t.f) n.seen k h);have Nt:=Hq (rH (λs=>eF n s.f&&uV s) (λs t=>iN s.f t.f) n.seen);have D9:=Hq (uZ (λs=>eF n s.f&&uV s) (λs t=>iN s.f t.f) n.seen);have Ro:=Hq (λx b wc (ha:bZ wc A.k n.kids) (hb:eF n x=b)=>akd n A x b wc hl ha hb);have jP:=Hq (heap_alloc_new w (.cells (dH n A) 40));clear ha hs hl3;generalize hpp:(λs=>eF n s.f&&uV s)=PP at *;have HPP:Hid (∀s,PP s=(eF n s.f&&uV s)):=by intro s;rw [<-hpp]
 clear hpp;generalize hrr:(λs t:Sn=>iN s.f t.f)=RR at *;have HRR:Hid (∀s t,RR s t=iN s.f t.f):=by intro s t;rw [<-hrr]
 clear hrr;generalize hnn:eF n=NN at *;clear hnn;generalize htt:nV n=TT at *;clear htt;open aqG in exact wO
theorem GR.W.fourReq {l:List Rq} (h:GR.W aJ 4 w a g l) (i:Nat) (hi:i < l.length):a=some ⟨g,0,none⟩/\g < w.heap.size/\(w.cell? ⟨g,i*4,none⟩=some (.int .i64 l[i].no)/\w.cell? ⟨g,i*4+1,none⟩=some (.string l[i].k)/\w.cell? ⟨g,i*4+2,none⟩=some (.int .i64 l[i].n)/\w.cell? ⟨g,i*4+3,none⟩=some (.int .i64 l[i].s))/\w.frozen? ⟨g,i*4,none⟩=false/\w.frozen? ⟨g,i*4+1,none⟩=false/\w.frozen? ⟨g,i*4+2,none⟩=false/\w.frozen? ⟨g,i*4+3,none⟩=false:=by
 exact aio
theorem GR.W.one {l:List Int} (h:GR.W bf 1 w a g l) (i:Nat) (hi:i < l.length):a=some ⟨g,0,none⟩/\g < w.heap.size/\w.cell? ⟨g,i,none⟩=some (.int .i64 l[i])/\w.frozen? ⟨g,i,none⟩=false:=by
 obtain⟨e,hg,hc⟩:=h i hi;exact⟨e,hg,by simpa using(hc 0 Aaa).1,by simpa using(hc 0 Aaa).2⟩
theorem iL.three (h:iL w a g I l) (i:Nat) (hi:i < l.length):∃b c,a=some ⟨g,0,none⟩/\g < w.heap.size/\(w.cell? ⟨g,i*3,none⟩=some (.int .i64 l[i].f)/\w.cell? ⟨g,i*3+1,none⟩=some (.int .i64 l[i].l)/\w.cell? ⟨g,i*3+2,none⟩=some (.slice b l[i].ids.length c))/\(w.frozen? ⟨g,i*3,none⟩=false/\w.frozen? ⟨g,i*3+1,none⟩=false)/\GR.W bf 1 w b (I i) l[i].ids:=by
 obtain⟨T,hT,hl,hr⟩:=h;obtain⟨b,c,ht,hi2⟩:=hr i hi;have hkT:i < T.length:=Aaa
 obtain⟨e,hg,hc⟩:=hT i hkT;rw [List.getElem?_eq_getElem hkT] at ht;rw [Option.some.inj ht] at hc;exact⟨b,c,e,hg,⟨by simpa using(hc 0 Aaa).1,by simpa using(hc 1 Aaa).1,by simpa using(hc 2 Aaa).1⟩,⟨by simpa using(hc 0 Aaa).2,(hc 1 Aaa).2⟩,hi2⟩
theorem iL.below (h:iL w a g I l) (hb:aI w w'):iL w' a g I l:=h.keeps (F:=[]) (aC.of_below hb) (λ_ _=>Aac) (λ_ _=>Aac)
theorem aAc {α:Type} {enc:α->List Value} {sz:Nat} {l:List α} (h:GR.W enc sz w a g l):∀x∈fp g l,x < w.heap.size:=λx hx=>by
 rw [(eD hx).1];exact(h 0 (eD hx).2).2.1
theorem abn (w:World) (a b:Obj):((w.alloc a).alloc b).heap[w.heap.size]?=some a/\((w.alloc a).alloc b).heap[w.heap.size+1]?=some b/\Below w.heap.size w ((w.alloc a).alloc b):=by
 exact ait
end Go.Proofs.YtohmklmkjmlpjaaGreatDoor
