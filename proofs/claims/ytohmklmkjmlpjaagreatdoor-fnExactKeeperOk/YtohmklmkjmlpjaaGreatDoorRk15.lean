/- Parts. -/
import Derived.Test.YtohmklmkjmlpjaaGreatDoorRk12
import Derived.Test.YtohmklmkjmlpjaaGreatDoorRk9
namespace Go.Proofs.YtohmklmkjmlpjaaGreatDoor
open Go.Proofs.Tryz
set_option maxHeartbeats 8000000
open Go.RowKit
open Mth
def gZ (w:World) (a:Option Addr) (l:List Sn):Prop:=∀i (hi:i < l.length),∃g off b c,a=some ⟨g,off,none⟩/\g < w.heap.size/\w.cell? ⟨g,off+i*3,none⟩=some (.int .i64 l[i].f)/\w.cell? ⟨g,off+i*3+1,none⟩=some (.int .i64 l[i].l)/\w.cell? ⟨g,off+i*3+2,none⟩=some (.slice b l[i].ids.length c)/\bX w b l[i].ids
theorem gZ.below {w w':World} {a:Option Addr} {l:List Sn} (h:gZ w a l) (hb:Below w.heap.size w w'):gZ w' a l:=λi hi=>by
 obtain⟨g,off,b,c,e,hg,h0,h1,h2,h3⟩:=h i hi;exact⟨g,off,b,c,e,Nat.lt_of_lt_of_le hg hb.size,(hb.cell (p:=⟨g,off+i*3,none⟩) hg).trans h0,(hb.cell (p:=⟨g,off+i*3+1,none⟩) hg).trans h1,(hb.cell (p:=⟨g,off+i*3+2,none⟩) hg).trans h2,GR.At.below h3 hb⟩
structure bQ where
 k:Option Addr
 p:Option Addr
 o:Option Addr
 s:Option Addr
 r:Option Addr
 ck:Nat
 cp:Nat
 co:Nat
 cs:Nat
 cr:Nat
abbrev iD (i p:Int) (k:Option Addr) (k1 k2:Nat) (x:Int) (a:Option Addr) (a1 a2:Nat) (b:Option Addr) (b1 b2:Nat) (c:Option Addr) (c1 c2:Nat) (o:Int) (r:Option Addr) (r1 r2:Nat):Array Value:=#[.int .i64 i,.int .i64 p,.slice k k1 k2,.int .i64 x,.slice a a1 a2,.slice b b1 b2,.slice c c1 c2,.int .i64 o,.slice r r1 r2]
abbrev dG (n:Nd) (A:bQ):Array Value:=#[.int .i64 n.id,.int .i64 n.par,.slice A.k n.kids.length A.ck,.int .i64 n.next,.slice A.p n.pu.length A.cp,.slice A.o n.out.length A.co,.slice A.s n.seen.length A.cs,.int .i64 n.old,.slice A.r n.reqs.length A.cr]
abbrev gB (n:Nd) (A:bQ):Value:= .agg (dG n A)
structure dw (w:World) (A:bQ) (n:Nd):Prop where
 k:bX w A.k n.kids
 p:aG w A.p n.pu
 o:SentAt w A.o n.out
 s:gZ w A.s n.seen
 r:fU w A.r n.reqs
theorem dw.below {w w':World} {A:bQ} {n:Nd} (h:dw w A n) (hb:Below w.heap.size w w'):dw w' A n:=
 ⟨GR.At.below h.k hb,GR.At.below h.p hb,GR.At.below h.o hb,h.s.below hb,GR.At.below h.r hb⟩
structure eU (n:Nd) (b:Nat):Prop where
 k:n.kids.length<=b
 p:n.pu.length<=b
 o:n.out.length<=b
 s:n.seen.length<=b
 r:n.reqs.length<=b
 pk:∀x∈n.pu,x.k.size<=b
 ok:∀x∈n.out,x.k.size<=b
 sk:∀x∈n.seen,x.ids.length<=b
 rk:∀x∈n.reqs,x.k.size<=b
theorem eU.mono {n:Nd} {a b:Nat} (h:eU n a) (hab:a<=b):eU n b:=
 ⟨Nat.le_trans h.k hab,Nat.le_trans h.p hab,Nat.le_trans h.o hab,Nat.le_trans h.s hab,Nat.le_trans h.r hab,λx hx=>Nat.le_trans (h.pk x hx) hab,λx hx=>Nat.le_trans (h.ok x hx) hab,λx hx=>Nat.le_trans (h.sk x hx) hab,λx hx=>Nat.le_trans (h.rk x hx) hab⟩
theorem au {w w':World} {g:Nat} {o:Obj} (h:w.heap[g]?=some o) (hb:Below w.heap.size w w'):w'.heap[g]?=some o:=by
 rw [hb.block g (aA h)];exact h
theorem nine {w:World} {g:Nat} {v0 v1 v2 v3 v4 v5 v6 v7 v8:Value} {t:TypeId} (h:w.heap[g]?=some (.cells #[v0,v1,v2,v3,v4,v5,v6,v7,v8] t (0,0))):
 w.cell? ⟨g,0,none⟩=some v0/\w.cell? ⟨g,1,none⟩=some v1/\w.cell? ⟨g,2,none⟩=some v2/\w.cell? ⟨g,3,none⟩=some v3/\w.cell? ⟨g,4,none⟩=some v4/\w.cell? ⟨g,5,none⟩=some v5/\w.cell? ⟨g,6,none⟩=some v6/\w.cell? ⟨g,7,none⟩=some v7/\w.cell? ⟨g,8,none⟩=some v8:=by
 have hc:∀i,w.cell? ⟨g,i,none⟩=#[v0,v1,v2,v3,v4,v5,v6,v7,v8][i]?:=λi=>cell_of_row w g i _ t (0,0) h
 exact⟨hc 0,hc 1,hc 2,hc 3,hc 4,hc 5,hc 6,hc 7,hc 8⟩
theorem aj {w:World} {g:Nat} {cs:Array Value} {t:TypeId} (h:w.heap[g]?=some (.cells cs t (0,0))) (i:Nat):w.frozen? ⟨g,i,none⟩=false:=by
 unfold World.frozen?;rw [h];simp
structure R3 where
 f:Int
 l:Int
 v:Value
abbrev fK (x:R3):List Value:=[.int .i64 x.f,.int .i64 x.l,x.v]
theorem dK (x:R3):(fK x).length=3:=rfl
def adJ (w:World) (l:List Sn) (T:List R3) (I:Nat->Nat):Prop:=T.length=l.length/\∀i (hi:i < l.length),∃b c,T[i]?=some ⟨l[i].f,l[i].l,.slice b l[i].ids.length c⟩/\GR.W aU 1 w b (I i) l[i].ids
def iL (w:World) (a:Option Addr) (g:Nat) (I:Nat->Nat) (l:List Sn):Prop:=∃T,GR.W fK 3 w a g T/\adJ w l T I
theorem iL.at {w:World} {a:Option Addr} {g:Nat} {I:Nat->Nat} {l:List Sn} (h:iL w a g I l):gZ w a l:=λi hi=>by
 obtain⟨T,hT,hl,hr⟩:=h;obtain⟨b,c,ht,hi2⟩:=hr i hi;obtain⟨e,hg,hc⟩:=hT i Aaa
 have hti:T[i]' Aaa=⟨l[i].f,l[i].l,.slice b l[i].ids.length c⟩:=by
  have:=List.getElem?_eq_getElem (l:=T) (i:=i) Aaa;rw [this] at ht;exact Option.some.inj ht
 rw [hti] at hc;refine⟨g,0,b,c,e,hg,?_,?_,?_,hi2.at⟩
 .have:=(hc 0 Aaa).1;simpa using this
 .have:=(hc 1 Aaa).1;simpa using this
 .have:=(hc 2 Aaa).1;simpa using this
def wO (I:Nat->Nat) (l:List Sn):List Nat:=(List.range l.length).flatMap λi=>fp (I i) (l.getD i default).ids
theorem lM {I:Nat->Nat} {l:List Sn} {i:Nat} (hi:i < l.length):∀x∈fp (I i) l[i].ids,x∈wO I l:=by
 intro x hx;unfold wO;rw [List.mem_flatMap];refine⟨i,List.mem_range.2 hi,?_⟩;rw [List.getD_eq_getElem?_getD,List.getElem?_eq_getElem hi];exact hx
theorem uh {I:Nat->Nat} {l:List Sn} {x:Nat} (h:x∈wO I l):∃i,∃hi:i < l.length,x=I i/\0 < l[i].ids.length:=by
 unfold wO at h;rw [List.mem_flatMap] at h;obtain⟨i,hi,hx⟩:=h;have hi':=List.mem_range.1 hi;rw [List.getD_eq_getElem?_getD,List.getElem?_eq_getElem hi'] at hx;exact⟨i,hi',dY hx⟩
theorem iL.keeps {F:List Nat} {w w':World} {a:Option Addr} {g:Nat} {I:Nat->Nat} {l:List Sn} (h:iL w a g I l) (hk:aC F w w') (hg:∀x∈fp g l,x∉F) (hI:∀x∈wO I l,x∉F):iL w' a g I l:=by
 obtain⟨T,hT,hl,hr⟩:=h;refine⟨T,hT.keeps hk (λx hx=>hg x ?_),hl,λi hi=>?_⟩
 .exact aaB
 .obtain⟨b,c,ht,hi2⟩:=hr i hi;exact⟨b,c,ht,hi2.keeps hk (λx hx=>hI x (lM hi x hx))⟩
structure aX where
 k:Nat
 p:Nat
 o:Nat
 s:Nat
 r:Nat
 i:Nat->Nat
def aX.all (G:aX) (n:Nd):List Nat:=fp G.k n.kids++(fp G.p n.pu++(fp G.o n.out++(fp G.s n.seen++(wO G.i n.seen++fp G.r n.reqs))))
structure rz (w:World) (A:bQ) (G:aX) (n:Nd):Prop where
 k:GR.W aU 1 w A.k G.k n.kids
 p:GR.W gu 4 w A.p G.p n.pu
 o:GR.W aS 4 w A.o G.o n.out
 s:iL w A.s G.s G.i n.seen
 r:GR.W aL 4 w A.r G.r n.reqs
theorem rz.at {w:World} {A:bQ} {G:aX} {n:Nd} (h:rz w A G n):dw w A n:=⟨h.k.at,h.p.at,h.o.at,h.s.at,h.r.at⟩
theorem aX.mem_all {G:aX} {n:Nd} {x:Nat}:x∈G.all n↔x∈fp G.k n.kids\/x∈fp G.p n.pu\/x∈fp G.o n.out\/x∈fp G.s n.seen\/x∈wO G.i n.seen\/x∈fp G.r n.reqs:=by
 unfold aX.all;simp only[List.mem_append]
theorem rz.keeps {F:List Nat} {w w':World} {A:bQ} {G:aX} {n:Nd} (h:rz w A G n) (hk:aC F w w') (hd:∀x∈G.all n,x∉F):rz w' A G n:=
 ⟨h.k.keeps hk (λx hx=>hd x (aX.mem_all.2 (.inl hx))),h.p.keeps hk (λx hx=>hd x (aX.mem_all.2 (.inr (.inl hx)))),h.o.keeps hk (λx hx=>hd x (aX.mem_all.2 (.inr (.inr (.inl hx))))),h.s.keeps hk (λx hx=>hd x (aX.mem_all.2 (.inr (.inr (.inr (.inl hx)))))) (λx hx=>hd x (aX.mem_all.2 (.inr (.inr (.inr (.inr (.inl hx))))))),h.r.keeps hk (λx hx=>hd x (aX.mem_all.2 (.inr (.inr (.inr (.inr (.inr hx)))))))⟩
theorem rz.below {w w':World} {A:bQ} {G:aX} {n:Nd} (h:rz w A G n) (hb:aI w w'):rz w' A G n:=h.keeps (F:=[]) (aC.of_below hb) (λ_ _=>Aac)
structure aX.Sep (G:aX) (n:Nd) (lo hi:Nat):Prop where
 nodup:(G.all n).Nodup
 rng:∀x∈G.all n,lo<=x/\x < hi
set_option maxRecDepth 100000
theorem Mth.has_snoc (l:List Int) (x:Int) (k:Nat) (h:k < l.length):hasB (l.take (k+1)) x=(hasB (l.take k) x||decide (l[k]=x)):=by
 unfold hasB;rw [List.take_succ_eq_append_getElem h,List.any_append];simp
theorem Mth.has_yes (l:List Int) (x:Int) (k:Nat) (h:k < l.length) (hx:l[k]=x):hasB l x=true:=by
 unfold hasB;rw [List.any_eq_true];exact⟨l[k],List.getElem_mem h,Aaj⟩
theorem VK (a:Option Addr) (cap:Nat) (l:List Int) (x:Int) (w:World) (hl:l.length<=1048600) (ha:bX w a l):
 Calls prog 101 #[.slice a l.length cap,.int .i64 x] w λe w'=>e= .returned (.bool (hasB l x))/\w=w':=by
 have HA:=Hq ha;clear ha;go_in
 go_wp2_with fail;go_loop [5] (λi=>∃k:Nat,k<=l.length/\i= .int .i64 k/\hasB (l.take k) x=false) (λi=>l.length - (intOf i).toNat)
 case atStart=>exact⟨0,Nat.zero_le _,rfl,rfl⟩
 case round=>
  obtain⟨k,hk,rfl,hno⟩:=hrel;have HN:=Hq hno;clear hno;by_cases hlt:k < l.length
  .obtain⟨g,off,rfl,hgw,q0⟩:=bX.one HA k hlt;by_cases hx:l[k]=x
   .have HY:=Hq (has_yes l x k hlt hx);rw [hx] at q0;clear hx;go_wp2_with fail;go_ret;exact⟨aF HY.symm,rfl⟩
   .have HS:=Hq (has_snoc l x k hlt);rw [decide_eq_false hx] at HS;exact ahv
  .open anz in exact xL
theorem FN (n:Nd) (A:bQ) (x:Int) (w:World) (hl:n.kids.length<=1048600) (ha:bX w A.k n.kids):
 Calls prog 51 #[gB n A,.int .i64 x] w (eG w (.bool (dZ n x))):=by
 have HH:=Hq (VK A.k A.ck n.kids x (w.alloc (.cells (dG n A) 40)) hl (GR.At.below ha (ay w _)));clear ha;by_cases h0:0<=x
 .by_cases h1:x=n.par
  .have HN:=Hq (show dZ n x=true by unfold dZ;rw [decide_eq_true h0,decide_eq_true h1];rfl);have h2:(x == n.par)=true:=Abb
   clear h1;go_in
   go_wp2_with fail;exact aap
  .have HN:=Hq (show dZ n x=hasB n.kids x by simp[dZ,h1]);have h2:(x == n.par)=false:=Abb
   clear h1;exact ah3
 .have HN:=Hq (show dZ n x=hasB n.kids x by simp[dZ,h0]);exact ah3
theorem aiV (x:Int) (b:Bool) (hb:tY x=b) (W:World) (n:Nat):Calls prog 100 #[.int .i64 x] (W.drewN n) λe w''=>e= .returned (.bool b)/\∃m,w''=W.drewN m:=
 (mZ x b _ hb).mono λ_ _ ⟨he,hw⟩=>⟨he,n,hw.symm⟩
theorem Mth.place_head {n:Nd} (h:(tY n.id&&decide (-1<=n.par/\n.par<=29)&&decide (n.par≠n.id)&&decide (n.kids.length<=30))=false):eD n=false:=by
 unfold eD;rw [h];rfl
theorem Mth.place_tail {n:Nd} (h1:tY n.id=true) (h2: -1<=n.par/\n.par<=29) (h3:n.par≠n.id) (h4:n.kids.length<=30):eD n=gU (jX n.id n.par) iM n.kids:=by
 unfold eD;rw [h1,decide_eq_true h2,decide_eq_true h3,decide_eq_true h4];rfl
theorem Yf (n:Nd) (A:bQ) (w:World) (hl:n.kids.length<=1048600) (ha:bX w A.k n.kids):
 Calls prog 46 #[gB n A] w (eG w (.bool (eD n))):=by
 have HA:=Hq ha;have HD:=Hq (@place_head n);have Eb:=Hq (@place_tail n);have wT:=Hq (λk h=>oD (jX n.id n.par) iM n.kids k h);have Nn:=Hq (rC (jX n.id n.par) iM n.kids);have DW:=Hq (uX (jX n.id n.par) iM n.kids);clear ha;open aor in exact wL
theorem cell_grown' {w:World} {a:Addr} {v:Value} (h:w.cell? a=some v):∀d os,(Sort.grow (redrawn w d) os).cell? a=some v:=λd os=>cell_regrown h d os
theorem aiX (n:Nd) (A:bQ) (x:Int) (b:Bool) (wc:World) (hl:n.kids.length<=1048600) (ha:bX wc A.k n.kids) (hb:dZ n x=b):∀d os,Calls prog 51 #[gB n A,.int .i64 x] (Sort.grow (redrawn wc d) os) λe w''=>e= .returned (.bool b)/\∃p:Regrown,w''=Sort.grow (redrawn wc p.d) p.os:=λd os=>by
 rw [<-hb];exact Calls.regrown_of (FN n A x _ hl (GR.At.below ha (below_regrown wc d os)))
theorem JM (x:Int) (b:Bool) (wc:World) (hb:fF x=b):∀d os,Calls prog 49 #[.int .i64 x] (Sort.grow (redrawn wc d) os) λe w''=>e= .returned (.bool b)/\∃p:Regrown,w''=Sort.grow (redrawn wc p.d) p.os:=λ_ _=>
 Calls.regrown_of ((eH x b _ hb).mono λ_ _ ⟨he,hw⟩=>⟨he,hw▸Below.refl _ _⟩)
theorem qIn (x a b:Int) (r:Bool) (hb:decide (a<=x/\x<=b)=r) (W:World) (n:Nat):Calls prog 18 #[.int .i64 x,.int .i64 a,.int .i64 b] (W.drewN n) λe w''=>e= .returned (.bool r)/\∃m,w''=W.drewN m:=
 (xY x a b r _ hb).mono λ_ _ ⟨he,hw⟩=>⟨he,n,hw.symm⟩
theorem three {w:World} {g:Nat} {v0 v1 v2:Value} {t:TypeId} (h:w.heap[g]?=some (.cells #[v0,v1,v2] t (0,0))):
 w.cell? ⟨g,0,none⟩=some v0/\w.cell? ⟨g,1,none⟩=some v1/\w.cell? ⟨g,2,none⟩=some v2:=by
 have hc:∀i,w.cell? ⟨g,i,none⟩=#[v0,v1,v2][i]?:=λi=>cell_of_row w g i _ t (0,0) h
 exact⟨hc 0,hc 1,hc 2⟩
theorem acR (n:Nd) (A:bQ) (w:World) (hl:n.kids.length<=1048600) (hl2:n.seen.length<=1048600) (hl3:∀s∈n.seen,s.ids.length<=1048600) (ha:bX w A.k n.kids) (hs:gZ w A.s n.seen):
 Calls prog 48 #[gB n A] w (eG w (.bool (nQ n))):=by
 have HA:=Hq ha;have HS:=Hq hs;have qz:=Hq hl3;have HD:Hid (nQ n=(decide ((n.seen.length:Int)=n.kids.length+(if 0<=n.par then 1 else 0))&&gU (λs=>dZ n s.f&&uU s) (λs t=>iM s.f t.f) n.seen)):=rfl;have wT:=Hq (λk h=>oD (λs=>dZ n s.f&&uU s) (λs t=>iM s.f t.f) n.seen k h);have Nn:=Hq (rC (λs=>dZ n s.f&&uU s) (λs t=>iM s.f t.f) n.seen);have DW:=Hq (uX (λs=>dZ n s.f&&uU s) (λs t=>iM s.f t.f) n.seen);have Ra:=Hq (λx b wc (ha:bX wc A.k n.kids) (hb:dZ n x=b)=>aiX n A x b wc hl ha hb);have jN:=Hq (heap_alloc_new w (.cells (dG n A) 40));clear ha hs hl3;generalize hpp:(λs=>dZ n s.f&&uU s)=PP at *;have HPP:Hid (∀s,PP s=(dZ n s.f&&uU s)):=by intro s;rw [<-hpp]
 clear hpp;generalize hrr:(λs t:Sn=>iM s.f t.f)=RR at *;have HRR:Hid (∀s t,RR s t=iM s.f t.f):=by intro s t;rw [<-hrr]
 clear hrr;generalize hnn:dZ n=NN at *;clear hnn;generalize htt:nQ n=TT at *;clear htt;open aos in exact wL
theorem GR.W.fourReq {w:World} {a:Option Addr} {g:Nat} {l:List Rq} (h:GR.W aL 4 w a g l) (i:Nat) (hi:i < l.length):a=some ⟨g,0,none⟩/\g < w.heap.size/\(w.cell? ⟨g,i*4,none⟩=some (.int .i64 l[i].no)/\w.cell? ⟨g,i*4+1,none⟩=some (.string l[i].k)/\w.cell? ⟨g,i*4+2,none⟩=some (.int .i64 l[i].n)/\w.cell? ⟨g,i*4+3,none⟩=some (.int .i64 l[i].s))/\w.frozen? ⟨g,i*4,none⟩=false/\w.frozen? ⟨g,i*4+1,none⟩=false/\w.frozen? ⟨g,i*4+2,none⟩=false/\w.frozen? ⟨g,i*4+3,none⟩=false:=by
 exact ag7
theorem GR.W.one {w:World} {a:Option Addr} {g:Nat} {l:List Int} (h:GR.W aU 1 w a g l) (i:Nat) (hi:i < l.length):a=some ⟨g,0,none⟩/\g < w.heap.size/\w.cell? ⟨g,i,none⟩=some (.int .i64 l[i])/\w.frozen? ⟨g,i,none⟩=false:=by
 obtain⟨e,hg,hc⟩:=h i hi;exact⟨e,hg,by simpa using(hc 0 Aaa).1,by simpa using(hc 0 Aaa).2⟩
theorem iL.three {w:World} {a:Option Addr} {g:Nat} {I:Nat->Nat} {l:List Sn} (h:iL w a g I l) (i:Nat) (hi:i < l.length):∃b c,a=some ⟨g,0,none⟩/\g < w.heap.size/\(w.cell? ⟨g,i*3,none⟩=some (.int .i64 l[i].f)/\w.cell? ⟨g,i*3+1,none⟩=some (.int .i64 l[i].l)/\w.cell? ⟨g,i*3+2,none⟩=some (.slice b l[i].ids.length c))/\(w.frozen? ⟨g,i*3,none⟩=false/\w.frozen? ⟨g,i*3+1,none⟩=false)/\GR.W aU 1 w b (I i) l[i].ids:=by
 obtain⟨T,hT,hl,hr⟩:=h;obtain⟨b,c,ht,hi2⟩:=hr i hi;have hkT:i < T.length:=Aaa
 obtain⟨e,hg,hc⟩:=hT i hkT;rw [List.getElem?_eq_getElem hkT] at ht;rw [Option.some.inj ht] at hc;exact⟨b,c,e,hg,⟨by simpa using(hc 0 Aaa).1,by simpa using(hc 1 Aaa).1,by simpa using(hc 2 Aaa).1⟩,⟨by simpa using(hc 0 Aaa).2,(hc 1 Aaa).2⟩,hi2⟩
theorem iL.below {w w':World} {a:Option Addr} {g:Nat} {I:Nat->Nat} {l:List Sn} (h:iL w a g I l) (hb:aI w w'):iL w' a g I l:=h.keeps (F:=[]) (aC.of_below hb) (λ_ _=>Aac) (λ_ _=>Aac)
theorem av2 {α:Type} {enc:α->List Value} {sz:Nat} {w:World} {a:Option Addr} {g:Nat} {l:List α} (h:GR.W enc sz w a g l):∀x∈fp g l,x < w.heap.size:=λx hx=>by
 rw [(dY hx).1];exact(h 0 (dY hx).2).2.1
theorem Xj (a:Option Addr) (cap:Nat) (l:List Int) (x:Int) (w:World) (hl:l.length<=1048600) (ha:bX w a l):
 Calls prog 264 #[.slice a l.length cap,.int .i64 x] w λe w'=>(∃i:Int,e= .returned (.int .i64 i)/\decide (0<=i)=hasB l x)/\w=w':=by
 have HA:=Hq ha;clear ha;go_in
 go_wp2_with fail;go_loop [8] (λi=>∃k:Nat,k<=l.length/\i= .int .i64 k/\hasB (l.take k) x=false) (λi=>l.length - (intOf i).toNat)
 case atStart=>exact⟨0,Nat.zero_le _,rfl,rfl⟩
 case round=>
  obtain⟨k,hk,rfl,hno⟩:=hrel;have HN:=Hq hno;clear hno;by_cases hlt:k < l.length
  .obtain⟨g,off,rfl,hgw,q0⟩:=bX.one HA k hlt;by_cases hx:l[k]=x
   .have HY:=Hq (has_yes l x k hlt hx);rw [hx] at q0;clear hx;go_wp2_with fail;go_ret;exact⟨⟨k,rfl,by rw [ah HY];simp⟩,rfl⟩
   .have HS:=Hq (has_snoc l x k hlt);rw [decide_eq_false hx] at HS;have hx':¬(x=l[k]):=λh=>hx h.symm
    exact ahv
  .open anD in exact xL
theorem K9 (a:Option Addr) (cap:Nat) (l:List Int) (x:Int) (w:World) (hl:l.length<=1048600) (ha:bX w a l):
 Calls prog 242 #[.slice a l.length cap,.int .i64 x] w λe w'=>e= .returned (.bool (hasB l x))/\w=w':=by
 have HI:=Hq (Xj a cap l x w hl ha);clear ha;go_in
 go_wp2_with fail;refine HI.mono ?_;rintro e w1 ⟨⟨i,rfl,hi⟩,rfl⟩;have HD:=Hq hi;clear hi;go_wp2_with fail;go_ret;exact⟨aF HD,rfl⟩
theorem Bl (n:Nd) (A:bQ) (x:Int) (w:World) (hl:n.kids.length<=1048600) (ha:bX w A.k n.kids):
 Calls prog 218 #[gB n A,.int .i64 x] w (eG w (.bool (hasB n.kids x))):=by
 have HH:=Hq (K9 A.k A.ck n.kids x (w.alloc (.cells (dG n A) 40)) hl (GR.At.below ha (ay w _)));clear ha;go_in
 go_wp2_with (go_at_call 242;refine HH.mono ?_;rintro e w1 ⟨rfl,rfl⟩)
 go_ret;exact⟨rfl,ay w _⟩
def Mth.nearI (n:Nd) (x:Int):Bool:=tY x&&(decide (x=n.par)||hasB n.kids x)
theorem Mth.near_same {n:Nd} (h:eD n=true) (x:Int):nearI n x=dZ n x:=by
 obtain⟨h1,_,h3⟩:=pY h
 have hp:n.par<=29:=by
  unfold eD at h;simp only[Bool.and_eq_true] at h;exact(of_decide_eq_true h.1.1.1.2).2
 unfold nearI dZ;cases hh:hasB n.kids x
 .simp only[Bool.or_false];by_cases hx:x=n.par
  .by_cases h0:0<=x
   .simp[tY,hx];omega
   .simp[tY,hx];omega
  .simp[hx]
 .have h2:=h1 x ((zo _ _).1 hh);unfold jX at h2;simp only[Bool.and_eq_true] at h2;rw [h2.1.1];simp
theorem Pe (n:Nd) (A:bQ) (x:Int) (w:World) (hl:n.kids.length<=1048600) (ha:bX w A.k n.kids):
 Calls prog 203 #[gB n A,.int .i64 x] w (eG w (.bool (nearI n x))):=by
 have HK:=Hq (Bl n A x (w.alloc (.cells (dG n A) 40)) hl (GR.At.below ha (ay w _)));clear ha;cases h0:tY x
 .have HN:=Hq (show nearI n x=false by simp[nearI,h0]);have HA:=Hq (λw1=>isNode x false w1 h0);clear h0;exact ahZ
 .have HA:=Hq (λw1=>isNode x true w1 h0);by_cases h1:x=n.par
  .have HN:=Hq (show nearI n x=true by unfold nearI;rw [h0,decide_eq_true h1];rfl);have h2:(x == n.par)=true:=Abb
   clear h1 h0;exact ahZ
  .have HN:=Hq (show nearI n x=hasB n.kids x by simp[nearI,h1,h0]);have h2:(x == n.par)=false:=Abb
   clear h1 h0;go_in
   go_wp2_with (first|(go_at_call 201;refine(HA _).mono ?_;rintro e w1 ⟨rfl,rfl⟩)|(go_at_call 218;refine HK.mono ?_;rintro e w2 ⟨rfl,hb2⟩))
   go_ret;exact⟨aF HN.symm,(ay w _).trans (hb2.mono Aac)⟩
theorem aaL (w:World) (a b:Obj):((w.alloc a).alloc b).heap[w.heap.size]?=some a/\((w.alloc a).alloc b).heap[w.heap.size+1]?=some b/\Below w.heap.size w ((w.alloc a).alloc b):=by
 exact ahc
open Go.WideShapes
open Go.ChangeShapes
theorem iN:prog.cellsOf 3=1:=Aab
theorem kV:prog.cellsOf 9=1:=Aab
section
variable {H:Type} {enc:TypeId×Value->H} {W:World}
theorem mO {α:Type} {en:α->List Value} {sz:Nat} {ok:α->Prop} {t e:TypeId} {fuel:Nat} {cs:List Value} {x:DataW H×List MemPlace} (ht:prog.underlying t=some (.slice e)) (hc:prog.cellsOf e=sz) (hsz:0 < sz) (hs:∀y,(en y).length=sz)
 (hel:∀fuel cs' x,cs'.length=sz->DataW.trod enc prog W 0 (λ_=>true) true fuel e cs'=some x->∃y,ok y/\cs'=en y)
 (h:DataW.trod enc prog W 0 (λ_=>true) true fuel t cs=some x):
 ∃(a:Option Addr) (cap:Nat) (l:List α),cs=[.slice a l.length cap]/\l.length<=maxLen/\(∀y∈l,ok y)/\GR.At en sz W a l:=by
 rcases Deep.open_slice ht h with⟨hcs,_⟩|⟨x,len,cap,m,n,D,Pl,hcs,_,hlc,hcm,hm,_,hcell⟩
 .exact⟨none,0,[],hcs,Aac,λp hp=>by simp at hp,λi hi=>Aas⟩
 .have hm':m=cap:=by rw [hm];simp
  have each:∀i,i < len->∃q:α,ok q/\∀j,j < sz->W.cell? (x.add (i*sz+j))=(en q)[j]?:=by
   intro i hi;obtain⟨cs',h1,h2⟩:=hcell i Aaa;rw [hc] at h1;obtain⟨_,hlen,hcc⟩:=World.cells?_some h1;obtain⟨y,hy,rfl⟩:=hel _ _ _ hlen h2;refine⟨y,hy,λj hj=>?_⟩;have e:=hcc j Aaa;rw [Deep.add_add] at e;exact e
  have hd:Nonempty α\/len=0:=by
   by_cases h0:len=0
   .exact .inr h0
   .obtain⟨q,_⟩:=each 0 Aaa;exact .inl ⟨q⟩
  rcases hd with d|d
  .obtain⟨q,hq⟩:∃q:Nat->α,∀i,i < len->ok (q i)/\∀j,j < sz->W.cell? (x.add (i*sz+j))=(en (q i))[j]?:=by
    exact⟨λi=>if hi:i < len then(each i hi).choose else Classical.choice d,λi hi=>by simp only[dif_pos hi];exact(each i hi).choose_spec⟩
   refine⟨some x,cap,(List.range len).map q,by rw [hcs];simp,Aag,λp hp=>?_,λi hi=>?_⟩
   .obtain⟨i,hi,rfl⟩:=List.mem_map.1 hp;exact(hq i (List.mem_range.1 hi)).1
   .have hi':i < len:=Aap
    obtain⟨b,off,spot⟩:=x;have h0:=(hq 0 Aaa).2 0 hsz;have hne:∃v,(en (q 0))[0]?=some v:=⟨_,List.getElem?_eq_getElem (by rw [hs];exact hsz)⟩;obtain⟨v0,hv0⟩:=hne;rw [hv0] at h0;have hspot:spot=none:=by simpa [Addr.add] using World.cell?_spot h0
    subst hspot;have h1:=(hq i hi').2;have ea:∀k:Nat,(⟨b,off,none⟩:Addr).add k=⟨b,off+k,none⟩:=λk=>by unfold Addr.add;split<;>simp_all
    have h3:=h1 0 hsz;rw [ea,List.getElem?_eq_getElem (by rw [hs];exact hsz)] at h3;refine⟨b,off,rfl,World.block_lt_of_cell? _ _ h3,λj hj=>?_⟩;have h2:=h1 j hj;rw [ea] at h2;simpa using h2
  .subst d;exact⟨some x,cap,[],by rw [hcs];simp,Aac,λp hp=>by simp at hp,λi hi=>Aas⟩
theorem open_ints' {fuel:Nat} {cs:List Value} {x:DataW H×List MemPlace} (h:DataW.trod enc prog W 0 (λ_=>true) true fuel 22 cs=some x):
 ∃(a:Option Addr) (cap:Nat) (l:List Int),cs=[.slice a l.length cap]/\l.length<=maxLen/\bX W a l:=by
 obtain⟨a,cap,l,h1,h2,_,h4⟩:=mO (en:=aU) (sz:=1) (ok:=λ_=>True) underlying22 iN Aaa aQ (λfuel cs' x _ h=>by
  obtain⟨n,q,_⟩:=DataW.trod_int underlying3 h
  exact⟨n,trivial,q⟩) h
 exact⟨a,cap,l,h1,h2,h4⟩
theorem LQ {fuel:Nat} {cs:List Value} {x:DataW H×List MemPlace} (h:DataW.trod enc prog W 0 (λ_=>true) true fuel 23 cs=some x):
 ∃(a:Option Addr) (cap:Nat) (l:List Pu),cs=[.slice a l.length cap]/\l.length<=maxLen/\(∀y∈l,y.k.size<=maxLen)/\aG W a l:=
 mO (en:=gu) (sz:=4) (ok:=λy=>y.k.size<=maxLen) underlying23 Aab Aaa aW (λfuel cs' x hlen h=>by
  obtain⟨xs,k,_,_,_,hxl,hfl⟩:=DataW.trod_struct underlying148 h
  match xs,hxl,cs',hlen with
  |[y0,y1,y2,y3],_,[v0,v1,v2,v3],_=>
   have g0:=hfl 0 _ rfl
   have g1:=hfl 1 _ rfl
   have g2:=hfl 2 _ rfl
   have g3:=hfl 3 _ rfl
   simp[iN,kV] at g0 g1 g2 g3
   obtain⟨s0,q0,_,hs0⟩:=DataW.trod_string underlying9 g0
   obtain⟨n1,q1,_⟩:=DataW.trod_int underlying3 g1
   obtain⟨n2,q2,_⟩:=DataW.trod_int underlying3 g2
   obtain⟨n3,q3,_⟩:=DataW.trod_int underlying3 g3
   simp at q0 q1 q2 q3
   subst q0 q1 q2 q3
   exact⟨⟨s0,n1,n2,n3⟩,hs0,rfl⟩) h
theorem TP {fuel:Nat} {cs:List Value} {x:DataW H×List MemPlace} (h:DataW.trod enc prog W 0 (λ_=>true) true fuel 24 cs=some x):
 ∃(a:Option Addr) (cap:Nat) (l:List jK),cs=[.slice a l.length cap]/\l.length<=maxLen/\(∀y∈l,y.k.size<=maxLen)/\SentAt W a l:=
 mO (en:=aS) (sz:=4) (ok:=λy=>y.k.size<=maxLen) underlying24 Aab Aaa bH (λfuel cs' x hlen h=>by
  obtain⟨xs,k,_,_,_,hxl,hfl⟩:=DataW.trod_struct underlying150 h
  match xs,hxl,cs',hlen with
  |[y0,y1,y2,y3],_,[v0,v1,v2,v3],_=>
   have g0:=hfl 0 _ rfl
   have g1:=hfl 1 _ rfl
   have g2:=hfl 2 _ rfl
   have g3:=hfl 3 _ rfl
   simp[iN,kV] at g0 g1 g2 g3
   obtain⟨n0,q0,_⟩:=DataW.trod_int underlying3 g0
   obtain⟨n1,q1,_⟩:=DataW.trod_int underlying3 g1
   obtain⟨s2,q2,_,hs2⟩:=DataW.trod_string underlying9 g2
   obtain⟨n3,q3,_⟩:=DataW.trod_int underlying3 g3
   simp at q0 q1 q2 q3
   subst q0 q1 q2 q3
   exact⟨⟨n0,n1,s2,n3⟩,hs2,rfl⟩) h
theorem XA {fuel:Nat} {cs:List Value} {x:DataW H×List MemPlace} (h:DataW.trod enc prog W 0 (λ_=>true) true fuel 26 cs=some x):
 ∃(a:Option Addr) (cap:Nat) (l:List Rq),cs=[.slice a l.length cap]/\l.length<=maxLen/\(∀y∈l,y.k.size<=maxLen)/\fU W a l:=
 mO (en:=aL) (sz:=4) (ok:=λy=>y.k.size<=maxLen) underlying26 Aab Aaa aR (λfuel cs' x hlen h=>by
  obtain⟨xs,k,_,_,_,hxl,hfl⟩:=DataW.trod_struct underlying154 h
  match xs,hxl,cs',hlen with
  |[y0,y1,y2,y3],_,[v0,v1,v2,v3],_=>
   have g0:=hfl 0 _ rfl
   have g1:=hfl 1 _ rfl
   have g2:=hfl 2 _ rfl
   have g3:=hfl 3 _ rfl
   simp[iN,kV] at g0 g1 g2 g3
   obtain⟨n0,q0,_⟩:=DataW.trod_int underlying3 g0
   obtain⟨s1,q1,_,hs1⟩:=DataW.trod_string underlying9 g1
   obtain⟨n2,q2,_⟩:=DataW.trod_int underlying3 g2
   obtain⟨n3,q3,_⟩:=DataW.trod_int underlying3 g3
   simp at q0 q1 q2 q3
   subst q0 q1 q2 q3
   exact⟨⟨n0,s1,n2,n3⟩,hs1,rfl⟩) h
theorem EX:prog.cellsOf 22=1:=Aab
theorem XB {fuel:Nat} {cs:List Value} {x:DataW H×List MemPlace} (h:DataW.trod enc prog W 0 (λ_=>true) true fuel 25 cs=some x):
 ∃(a:Option Addr) (cap:Nat) (l:List Sn),cs=[.slice a l.length cap]/\l.length<=maxLen/\(∀y∈l,y.ids.length<=maxLen)/\gZ W a l:=by
 obtain⟨a,cap,l,h1,h2,h3,h4⟩:=mO (en:=fK) (sz:=3) (ok:=λy=>∃b c,∃ids:List Int,y.v= .slice b ids.length c/\ids.length<=maxLen/\bX W b ids) underlying25 Aab Aaa dK (λfuel cs' x hlen h=>by
  obtain⟨xs,k,_,_,_,hxl,hfl⟩:=DataW.trod_struct underlying152 h
  match xs,hxl,cs',hlen with
  |[y0,y1,y2],_,[v0,v1,v2],_=>
   have g0:=hfl 0 _ rfl
   have g1:=hfl 1 _ rfl
   have g2:=hfl 2 _ rfl
   simp[iN,EX] at g0 g1 g2
   obtain⟨n0,q0,_⟩:=DataW.trod_int underlying3 g0
   obtain⟨n1,q1,_⟩:=DataW.trod_int underlying3 g1
   obtain⟨b,c,ids,q2,hi1,hi2⟩:=open_ints' g2
   simp at q0 q1 q2
   subst q0 q1 q2
   exact⟨⟨n0,n1,.slice b ids.length c⟩,⟨b,c,ids,rfl,hi1,hi2⟩,rfl⟩) h
 have hex:∀y:R3,∃s:Sn,y∈l->(s.f=y.f/\s.l=y.l/\∃b c,y.v= .slice b s.ids.length c/\s.ids.length<=maxLen/\bX W b s.ids):=λy=>by
  by_cases hy:y∈l
  .obtain⟨b,c,ids,e1,e2,e3⟩:=h3 y hy;exact⟨⟨y.f,y.l,ids⟩,λ_=>⟨rfl,rfl,b,c,e1,e2,e3⟩⟩
  .exact⟨default,λh=>absurd h hy⟩
 refine⟨a,cap,l.map (λy=>(hex y).choose),by rw [h1];simp,by simpa using h2,?_,?_⟩
 .intro s hs;obtain⟨y,hy,rfl⟩:=List.mem_map.1 hs;obtain⟨_,_,b,c,_,e2,_⟩:=(hex y).choose_spec hy;exact e2
 .intro i hi;have hi':i < l.length:=Aap
  obtain⟨g,off,e,hg,hc⟩:=h4 i hi';have hsp:=(hex l[i]).choose_spec (List.getElem_mem hi');have hge:(l.map (λy=>(hex y).choose))[i]=(hex l[i]).choose:=Aac
  rw [hge];obtain⟨s1,s2,b,c,e1,e2,e3⟩:=hsp;refine⟨g,off,b,c,e,hg,?_,?_,?_,e3⟩
  .rw [s1];simpa using hc 0 Aaa
  .rw [s2];simpa [Nat.add_assoc] using hc 1 Aaa
  .rw [<-e1];simpa [Nat.add_assoc] using hc 2 Aaa
theorem aeN:prog.cellsOf 28=9:=Aab
theorem ayJ:prog.cellsOf 23=1:=Aab
theorem ayK:prog.cellsOf 24=1:=Aab
theorem ayL:prog.cellsOf 25=1:=Aab
theorem ayM:prog.cellsOf 26=1:=Aab
end
end Go.Proofs.YtohmklmkjmlpjaaGreatDoor
