/- Parts. -/
import Derived.Test.YtbolgdleijjgfaaGreatDoorRf12
import Derived.Test.YtbolgdleijjgfaaGreatDoorRf10
namespace Go.Proofs.YtbolgdleijjgfaaGreatDoor
open Go.Proofs.Tryz
set_option maxHeartbeats 8000000
open Go.RowKit
open Mth
variable {w w':World} {g:Nat} {l:List Sn} {n:Nd} {t:TypeId} {I:Nat->Nat} {a:Option Addr} {v0 v1 v2:Value} {cs:Array Value} {F:List Nat}
def iA (w:World) (a:Option Addr) (l:List Sn):Prop:=∀i (hi:i < l.length),∃g off b c,a=some ⟨g,off,none⟩/\g < w.heap.size/\w.cell? ⟨g,off+i*3,none⟩=some (.int .i64 l[i].f)/\w.cell? ⟨g,off+i*3+1,none⟩=some (.int .i64 l[i].l)/\w.cell? ⟨g,off+i*3+2,none⟩=some (.slice b l[i].ids.length c)/\bH w b l[i].ids
theorem iA.below (h:iA w a l) (hb:Below w.heap.size w w'):iA w' a l:=λi hi=>by
 obtain⟨g,off,b,c,e,hg,h0,h1,h2,h3⟩:=h i hi;exact⟨g,off,b,c,e,aEZ hg hb.size,(hb.cell (p:=⟨g,off+i*3,none⟩) hg).trans h0,(hb.cell (p:=⟨g,off+i*3+1,none⟩) hg).trans h1,(hb.cell (p:=⟨g,off+i*3+2,none⟩) hg).trans h2,GR.At.below h3 hb⟩
structure bq where
 k:Option Addr
 p:Option Addr
 o:Option Addr
 s:Option Addr
 r:Option Addr
 ck:Nat
 cp:Nat
 co:Nat
 cs:Nat
 cr:Nat
abbrev wC (i p:Int) (k:Option Addr) (k1 k2:Nat) (x:Int) (a:Option Addr) (a1 a2:Nat) (b:Option Addr) (b1 b2:Nat) (c:Option Addr) (c1 c2:Nat) (o:Int) (r:Option Addr) (r1 r2:Nat):Array Value:=#[.int .i64 i,.int .i64 p,.slice k k1 k2,.int .i64 x,.slice a a1 a2,.slice b b1 b2,.slice c c1 c2,.int .i64 o,.slice r r1 r2]
abbrev dD (n:Nd) (A:bq):Array Value:=#[.int .i64 n.id,.int .i64 n.par,.slice A.k n.kids.length A.ck,.int .i64 n.next,.slice A.p n.pu.length A.cp,.slice A.o n.out.length A.co,.slice A.s n.seen.length A.cs,.int .i64 n.old,.slice A.r n.reqs.length A.cr]
abbrev gU (n:Nd) (A:bq):Value:= .agg (dD n A)
structure cK (w:World) (A:bq) (n:Nd):Prop where
 k:bH w A.k n.kids
 p:aG w A.p n.pu
 o:SentAt w A.o n.out
 s:iA w A.s n.seen
 r:gB w A.r n.reqs
theorem cK.below {A:bq} (h:cK w A n) (hb:Below w.heap.size w w'):cK w' A n:=
 ⟨GR.At.below h.k hb,GR.At.below h.p hb,GR.At.below h.o hb,h.s.below hb,GR.At.below h.r hb⟩
structure eG (n:Nd) (b:Nat):Prop where
 k:n.kids.length<=b
 p:n.pu.length<=b
 o:n.out.length<=b
 s:n.seen.length<=b
 r:n.reqs.length<=b
 pk:∀x∈n.pu,x.k.size<=b
 ok:∀x∈n.out,x.k.size<=b
 sk:∀x∈n.seen,x.ids.length<=b
 rk:∀x∈n.reqs,x.k.size<=b
theorem eG.mono {a b:Nat} (h:eG n a) (hab:a<=b):eG n b:=
 ⟨aEU h.k hab,aEU h.p hab,aEU h.o hab,aEU h.s hab,aEU h.r hab,λx hx=>aEU (h.pk x hx) hab,λx hx=>aEU (h.ok x hx) hab,λx hx=>aEU (h.sk x hx) hab,λx hx=>aEU (h.rk x hx) hab⟩
theorem aj {o:Obj} (h:w.heap[g]?=some o) (hb:Below w.heap.size w w'):w'.heap[g]?=some o:=by
 rw [hb.block g (ay h)];exact h
theorem nine {v3 v4 v5 v6 v7 v8:Value} (h:w.heap[g]?=some (.cells #[v0,v1,v2,v3,v4,v5,v6,v7,v8] t (0,0))):
 w.cell? ⟨g,0,none⟩=some v0/\w.cell? ⟨g,1,none⟩=some v1/\w.cell? ⟨g,2,none⟩=some v2/\w.cell? ⟨g,3,none⟩=some v3/\w.cell? ⟨g,4,none⟩=some v4/\w.cell? ⟨g,5,none⟩=some v5/\w.cell? ⟨g,6,none⟩=some v6/\w.cell? ⟨g,7,none⟩=some v7/\w.cell? ⟨g,8,none⟩=some v8:=by
 have hc:∀i,w.cell? ⟨g,i,none⟩=#[v0,v1,v2,v3,v4,v5,v6,v7,v8][i]?:=λi=>aE1 w g i _ t (0,0) h
 exact⟨hc 0,hc 1,hc 2,hc 3,hc 4,hc 5,hc 6,hc 7,hc 8⟩
theorem aC (h:w.heap[g]?=some (.cells cs t (0,0))) (i:Nat):w.frozen? ⟨g,i,none⟩=false:=by
 unfold World.frozen?;rw [h];simp
theorem pJ (h:w.heap[g]?=some (.cells cs t (0,0))):w.frozen? ⟨g,0,none⟩=false/\w.frozen? ⟨g,1,none⟩=false/\w.frozen? ⟨g,2,none⟩=false/\w.frozen? ⟨g,3,none⟩=false/\w.frozen? ⟨g,4,none⟩=false/\w.frozen? ⟨g,5,none⟩=false/\w.frozen? ⟨g,6,none⟩=false/\w.frozen? ⟨g,7,none⟩=false/\w.frozen? ⟨g,8,none⟩=false:=
 have f:=aC h
 ⟨f 0,f 1,f 2,f 3,f 4,f 5,f 6,f 7,f 8⟩
set_option maxRecDepth 100000
theorem Mth.has_snoc (l:List Int) (x:Int) (k:Nat) (h:k < l.length):hasB (l.take (k+1)) x=(hasB (l.take k) x||decide (l[k]=x)):=by
 unfold hasB;rw [aE0 h,List.any_append];simp
theorem Mth.has_yes (l:List Int) (x:Int) (k:Nat) (h:k < l.length) (hx:l[k]=x):hasB l x=true:=by
 unfold hasB;rw [List.any_eq_true];exact⟨l[k],aE8 h,Aai⟩
theorem Xk (a:Option Addr) (cap:Nat) (l:List Int) (x:Int) (w:World) (hl:l.length<=1048600) (ha:bH w a l):
 Calls prog 122 #[.slice a l.length cap,.int .i64 x] w λe w'=>e= .returned (.bool (hasB l x))/\w=w':=by
 have HA:=Hq ha;clear ha;go_in
 go_wp2_with fail;go_loop [5] (λi=>∃k:Nat,k<=l.length/\i= .int .i64 k/\hasB (l.take k) x=false) (λi=>l.length - (intOf i).toNat)
 case atStart=>exact⟨0,aE7 _,rfl,rfl⟩
 case round=>
  obtain⟨k,hk,rfl,hno⟩:=hrel;have HN:=Hq hno;clear hno;by_cases hlt:k < l.length
  .obtain⟨g,off,rfl,hgw,q0⟩:=bH.one HA k hlt;by_cases hx:l[k]=x
   .have HY:=Hq (has_yes l x k hlt hx);rw [hx] at q0;clear hx;go_wp2_with fail;go_ret;exact⟨aF HY.symm,rfl⟩
   .have HS:=Hq (has_snoc l x k hlt);rw [aES hx] at HS;exact ahS
  .open amH in exact uI
theorem Hg (n:Nd) (A:bq) (x:Int) (w:World) (hl:n.kids.length<=1048600) (ha:bH w A.k n.kids):
 Calls prog 92 #[gU n A,.int .i64 x] w (dU w (.bool (dY n x))):=by
 have HH:=Hq (Xk A.k A.ck n.kids x (w.alloc (.cells (dD n A) 39)) hl (GR.At.below ha (au w _)));clear ha;by_cases h0:0<=x
 .by_cases h1:x=n.par
  .have HN:=Hq (show dY n x=true by unfold dY;rw [aET h0,aET h1];rfl);have h2:(x == n.par)=true:=Abb
   clear h1;go_in
   go_wp2_with fail;exact aa5
  .have HN:=Hq (show dY n x=hasB n.kids x by simp[dY,h1]);have h2:(x == n.par)=false:=Abb
   clear h1;exact aiw
 .have HN:=Hq (show dY n x=hasB n.kids x by simp[dY,h0]);exact aiw
theorem ajd (x:Int) (b:Bool) (hb:uY x=b) (W:World) (n:Nat):Calls prog 121 #[.int .i64 x] (W.drewN n) λe w''=>e= .returned (.bool b)/\∃m,w''=W.drewN m:=
 (nZ x b _ hb).mono λ_ _ ⟨he,hw⟩=>⟨he,n,hw.symm⟩
theorem Mth.place_head {n:Nd} (h:(uY n.id&&decide (-1<=n.par/\n.par<=29)&&decide (n.par≠n.id)&&decide (n.kids.length<=30))=false):eD n=false:=by
 unfold eD;rw [h];rfl
theorem Mth.place_tail {n:Nd} (h1:uY n.id=true) (h2: -1<=n.par/\n.par<=29) (h3:n.par≠n.id) (h4:n.kids.length<=30):eD n=ig (kU n.id n.par) iR n.kids:=by
 unfold eD;rw [h1,aET h2,aET h3,aET h4];rfl
theorem ZE (n:Nd) (A:bq) (w:World) (hl:n.kids.length<=1048600) (ha:bH w A.k n.kids):
 Calls prog 87 #[gU n A] w (dU w (.bool (eD n))):=by
 have HA:=Hq ha;have HD:=Hq (@place_head n);have Lu:=Hq (@place_tail n);have yC:=Hq (λk h=>qh (kU n.id n.par) iR n.kids k h);have Ov:=Hq (tu (kU n.id n.par) iR n.kids);have BP:=Hq (wK (kU n.id n.par) iR n.kids);clear ha;open anR in exact vY
theorem cell_grown' {a:Addr} {v:Value} (h:w.cell? a=some v):∀d os,(Sort.grow (redrawn w d) os).cell? a=some v:=λd os=>aEQ h d os
theorem ajf (n:Nd) (A:bq) (x:Int) (b:Bool) (wc:World) (hl:n.kids.length<=1048600) (ha:bH wc A.k n.kids) (hb:dY n x=b):∀d os,Calls prog 92 #[gU n A,.int .i64 x] (Sort.grow (redrawn wc d) os) λe w''=>e= .returned (.bool b)/\∃p:Regrown,w''=Sort.grow (redrawn wc p.d) p.os:=λd os=>by
 rw [<-hb];exact aFr (Hg n A x _ hl (GR.At.below ha (aFl wc d os)))
theorem KJ (x:Int) (b:Bool) (wc:World) (hb:fJ x=b):∀d os,Calls prog 90 #[.int .i64 x] (Sort.grow (redrawn wc d) os) λe w''=>e= .returned (.bool b)/\∃p:Regrown,w''=Sort.grow (redrawn wc p.d) p.os:=λ_ _=>
 aFr ((eH x b _ hb).mono λ_ _ ⟨he,hw⟩=>⟨he,hw▸aE3 _ _⟩)
theorem qIn (x a b:Int) (r:Bool) (hb:decide (a<=x/\x<=b)=r) (W:World) (n:Nat):Calls prog 47 #[.int .i64 x,.int .i64 a,.int .i64 b] (W.drewN n) λe w''=>e= .returned (.bool r)/\∃m,w''=W.drewN m:=
 (zf x a b r _ hb).mono λ_ _ ⟨he,hw⟩=>⟨he,n,hw.symm⟩
theorem three (h:w.heap[g]?=some (.cells #[v0,v1,v2] t (0,0))):
 w.cell? ⟨g,0,none⟩=some v0/\w.cell? ⟨g,1,none⟩=some v1/\w.cell? ⟨g,2,none⟩=some v2:=by
 have hc:∀i,w.cell? ⟨g,i,none⟩=#[v0,v1,v2][i]?:=λi=>aE1 w g i _ t (0,0) h
 exact⟨hc 0,hc 1,hc 2⟩
theorem ady (n:Nd) (A:bq) (w:World) (hl:n.kids.length<=1048600) (hl2:n.seen.length<=1048600) (hl3:∀s∈n.seen,s.ids.length<=1048600) (ha:bH w A.k n.kids) (hs:iA w A.s n.seen):
 Calls prog 89 #[gU n A] w (dU w (.bool (oZ n))):=by
 have HA:=Hq ha;have HS:=Hq hs;have sH:=Hq hl3;have HD:Hid (oZ n=(decide ((n.seen.length:Int)=n.kids.length+(if 0<=n.par then 1 else 0))&&ig (λs=>dY n s.f&&wD s) (λs t=>iR s.f t.f) n.seen)):=rfl;have yC:=Hq (λk h=>qh (λs=>dY n s.f&&wD s) (λs t=>iR s.f t.f) n.seen k h);have Ov:=Hq (tu (λs=>dY n s.f&&wD s) (λs t=>iR s.f t.f) n.seen);have BP:=Hq (wK (λs=>dY n s.f&&wD s) (λs t=>iR s.f t.f) n.seen);have R6:=Hq (λx b wc (ha:bH wc A.k n.kids) (hb:dY n x=b)=>ajf n A x b wc hl ha hb);have jO:=Hq (aEP w (.cells (dD n A) 39));clear ha hs hl3;generalize hpp:(λs=>dY n s.f&&wD s)=PP at *;have XB:Hid (∀s,PP s=(dY n s.f&&wD s)):=by intro s;rw [<-hpp]
 clear hpp;generalize hrr:(λs t:Sn=>iR s.f t.f)=RR at *;have HRR:Hid (∀s t,RR s t=iR s.f t.f):=by intro s t;rw [<-hrr]
 clear hrr;generalize hnn:dY n=NN at *;clear hnn;generalize htt:oZ n=TT at *;clear htt;open anS in exact vY
structure R3 where
 f:Int
 l:Int
 v:Value
abbrev eX (x:R3):List Value:=[.int .i64 x.f,.int .i64 x.l,x.v]
theorem bE (x:R3):(eX x).length=3:=rfl
def aeo (w:World) (l:List Sn) (T:List R3) (I:Nat->Nat):Prop:=T.length=l.length/\∀i (hi:i < l.length),∃b c,T[i]?=some ⟨l[i].f,l[i].l,.slice b l[i].ids.length c⟩/\GR.W bg 1 w b (I i) l[i].ids
def eB (w:World) (a:Option Addr) (g:Nat) (I:Nat->Nat) (l:List Sn):Prop:=∃T,GR.W eX 3 w a g T/\aeo w l T I
theorem eB.at (h:eB w a g I l):iA w a l:=λi hi=>by
 obtain⟨T,hT,hl,hr⟩:=h;obtain⟨b,c,ht,hi2⟩:=hr i hi;obtain⟨e,hg,hc⟩:=hT i Aaa
 have hti:T[i]' Aaa=⟨l[i].f,l[i].l,.slice b l[i].ids.length c⟩:=by
  have:=aEV (l:=T) (i:=i) Aaa;rw [this] at ht;exact aFI ht
 rw [hti] at hc;refine⟨g,0,b,c,e,hg,?_,?_,?_,hi2.at⟩
 .have:=(hc 0 Aaa).1;simpa using this
 .have:=(hc 1 Aaa).1;simpa using this
 .have:=(hc 2 Aaa).1;simpa using this
def nI (I:Nat->Nat) (l:List Sn):List Nat:=(List.range l.length).flatMap λi=>fp (I i) (l.getD i default).ids
theorem jD {i:Nat} (hi:i < l.length):∀x∈fp (I i) l[i].ids,x∈nI I l:=by
 grind [nI]
theorem sV {x:Nat} (h:x∈nI I l):∃i,∃hi:i < l.length,x=I i/\0 < l[i].ids.length:=by
 grind [nI,dw]
theorem eB.keeps (h:eB w a g I l) (hk:aA F w w') (hg:∀x∈fp g l,x∉F) (hI:∀x∈nI I l,x∉F):eB w' a g I l:=by
 obtain⟨T,hT,hl,hr⟩:=h;refine⟨T,hT.keeps hk (λx hx=>hg x ?_),hl,λi hi=>?_⟩
 .grind [dK,dw]
 .obtain⟨b,c,ht,hi2⟩:=hr i hi;exact⟨b,c,ht,hi2.keeps hk (λx hx=>hI x (jD hi x hx))⟩
structure aN where
 k:Nat
 p:Nat
 o:Nat
 s:Nat
 r:Nat
 i:Nat->Nat
def aN.all (G:aN) (n:Nd):List Nat:=fp G.k n.kids++(fp G.p n.pu++(fp G.o n.out++(fp G.s n.seen++(nI G.i n.seen++fp G.r n.reqs))))
structure gZ (w:World) (A:bq) (G:aN) (n:Nd):Prop where
 k:GR.W bg 1 w A.k G.k n.kids
 p:GR.W fA 4 w A.p G.p n.pu
 o:GR.W aM 4 w A.o G.o n.out
 s:eB w A.s G.s G.i n.seen
 r:GR.W aL 4 w A.r G.r n.reqs
theorem gZ.at {A:bq} {G:aN} (h:gZ w A G n):cK w A n:=⟨h.k.at,h.p.at,h.o.at,h.s.at,h.r.at⟩
theorem aN.mem_all {G:aN} {n:Nd} {x:Nat}:x∈G.all n↔x∈fp G.k n.kids\/x∈fp G.p n.pu\/x∈fp G.o n.out\/x∈fp G.s n.seen\/x∈nI G.i n.seen\/x∈fp G.r n.reqs:=by
 unfold aN.all;simp only[aFb]
theorem gZ.keeps {A:bq} {G:aN} (h:gZ w A G n) (hk:aA F w w') (hd:∀x∈G.all n,x∉F):gZ w' A G n:=
 ⟨h.k.keeps hk (λx hx=>hd x (aN.mem_all.2 (.inl hx))),h.p.keeps hk (λx hx=>hd x (aN.mem_all.2 (.inr (.inl hx)))),h.o.keeps hk (λx hx=>hd x (aN.mem_all.2 (.inr (.inr (.inl hx))))),h.s.keeps hk (λx hx=>hd x (aN.mem_all.2 (.inr (.inr (.inr (.inl hx)))))) (λx hx=>hd x (aN.mem_all.2 (.inr (.inr (.inr (.inr (.inl hx))))))),h.r.keeps hk (λx hx=>hd x (aN.mem_all.2 (.inr (.inr (.inr (.inr (.inr hx)))))))⟩
theorem gZ.below {A:bq} {G:aN} (h:gZ w A G n) (hb:aH w w'):gZ w' A G n:=h.keeps (F:=[]) (aA.of_below hb) (λ_ _=>Aac)
structure aN.Sep (G:aN) (n:Nd) (lo hi:Nat):Prop where
 nodup:(G.all n).Nodup
 rng:∀x∈G.all n,lo<=x/\x < hi
theorem abn (w:World) (a b:Obj):((w.alloc a).alloc b).heap[w.heap.size]?=some a/\((w.alloc a).alloc b).heap[w.heap.size+1]?=some b/\Below w.heap.size w ((w.alloc a).alloc b):=by
 exact ahA
end Go.Proofs.YtbolgdleijjgfaaGreatDoor
