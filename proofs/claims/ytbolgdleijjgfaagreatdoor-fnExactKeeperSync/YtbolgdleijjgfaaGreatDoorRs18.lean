/- Parts. -/
import Derived.Test.YtbolgdleijjgfaaGreatDoorRs11
import Derived.Test.YtbolgdleijjgfaaGreatDoorRs10
import Derived.Test.YtbolgdleijjgfaaGreatDoorRs12
namespace Go.Proofs.YtbolgdleijjgfaaGreatDoor
open Go.Proofs.Tryz
set_option maxHeartbeats 4000000
open Go.RowKit
open Mth
variable (a:Option Addr) (cap:Nat) (l:List Int) (x:Int) (w:World) {w':World} {n:Nd} {g:Nat} {I:Nat->Nat} {t:TypeId} {cs:Array Value} {F:List Nat}
def gZ (w:World) (a:Option Addr) (l:List Sn):Prop:=∀i (hi:i < l.length),∃g off b c,a=some ⟨g,off,none⟩/\g < w.heap.size/\w.cell? ⟨g,off+i*3,none⟩=some (.int .i64 l[i].f)/\w.cell? ⟨g,off+i*3+1,none⟩=some (.int .i64 l[i].l)/\w.cell? ⟨g,off+i*3+2,none⟩=some (.slice b l[i].ids.length c)/\bC w b l[i].ids
theorem gZ.below {w:World} {a:Option Addr} {l:List Sn} (h:gZ w a l) (hb:Below w.heap.size w w'):gZ w' a l:=λi hi=>by
 obtain⟨g,off,b,c,e,hg,h0,h1,h2,h3⟩:=h i hi;exact⟨g,off,b,c,e,aEU hg hb.size,(hb.cell (p:=⟨g,off+i*3,none⟩) hg).trans h0,(hb.cell (p:=⟨g,off+i*3+1,none⟩) hg).trans h1,(hb.cell (p:=⟨g,off+i*3+2,none⟩) hg).trans h2,GR.At.below h3 hb⟩
structure bq where
 k:Option Addr
 p:Option Addr
 o:Option Addr
 s:Option Addr
 r:Option Addr
 ck:Nat
 cp:Nat
 co:Nat
 cs:Nat
 cr:Nat
abbrev vW (i p:Int) (k:Option Addr) (k1 k2:Nat) (x:Int) (a:Option Addr) (a1 a2:Nat) (b:Option Addr) (b1 b2:Nat) (c:Option Addr) (c1 c2:Nat) (o:Int) (r:Option Addr) (r1 r2:Nat):Array Value:=#[.int .i64 i,.int .i64 p,.slice k k1 k2,.int .i64 x,.slice a a1 a2,.slice b b1 b2,.slice c c1 c2,.int .i64 o,.slice r r1 r2]
abbrev dH (n:Nd) (A:bq):Array Value:=#[.int .i64 n.id,.int .i64 n.par,.slice A.k n.kids.length A.ck,.int .i64 n.next,.slice A.p n.pu.length A.cp,.slice A.o n.out.length A.co,.slice A.s n.seen.length A.cs,.int .i64 n.old,.slice A.r n.reqs.length A.cr]
abbrev gM (n:Nd) (A:bq):Value:= .agg (dH n A)
structure bY (w:World) (A:bq) (n:Nd):Prop where
 k:bC w A.k n.kids
 p:aG w A.p n.pu
 o:SentAt w A.o n.out
 s:gZ w A.s n.seen
 r:fT w A.r n.reqs
theorem bY.below {w:World} {A:bq} (h:bY w A n) (hb:Below w.heap.size w w'):bY w' A n:=
 ⟨GR.At.below h.k hb,GR.At.below h.p hb,GR.At.below h.o hb,h.s.below hb,GR.At.below h.r hb⟩
structure eF (n:Nd) (b:Nat):Prop where
 k:n.kids.length<=b
 p:n.pu.length<=b
 o:n.out.length<=b
 s:n.seen.length<=b
 r:n.reqs.length<=b
 pk:∀x∈n.pu,x.k.size<=b
 ok:∀x∈n.out,x.k.size<=b
 sk:∀x∈n.seen,x.ids.length<=b
 rk:∀x∈n.reqs,x.k.size<=b
theorem eF.mono {a b:Nat} (h:eF n a) (hab:a<=b):eF n b:=
 ⟨aEP h.k hab,aEP h.p hab,aEP h.o hab,aEP h.s hab,aEP h.r hab,λx hx=>aEP (h.pk x hx) hab,λx hx=>aEP (h.ok x hx) hab,λx hx=>aEP (h.sk x hx) hab,λx hx=>aEP (h.rk x hx) hab⟩
theorem aj {w:World} {o:Obj} (h:w.heap[g]?=some o) (hb:Below w.heap.size w w'):w'.heap[g]?=some o:=by
 rw [hb.block g (ay h)];exact h
theorem nine {w:World} {v0 v1 v2 v3 v4 v5 v6 v7 v8:Value} (h:w.heap[g]?=some (.cells #[v0,v1,v2,v3,v4,v5,v6,v7,v8] t (0,0))):
 w.cell? ⟨g,0,none⟩=some v0/\w.cell? ⟨g,1,none⟩=some v1/\w.cell? ⟨g,2,none⟩=some v2/\w.cell? ⟨g,3,none⟩=some v3/\w.cell? ⟨g,4,none⟩=some v4/\w.cell? ⟨g,5,none⟩=some v5/\w.cell? ⟨g,6,none⟩=some v6/\w.cell? ⟨g,7,none⟩=some v7/\w.cell? ⟨g,8,none⟩=some v8:=by
 have hc:∀i,w.cell? ⟨g,i,none⟩=#[v0,v1,v2,v3,v4,v5,v6,v7,v8][i]?:=λi=>aEW w g i _ t (0,0) h
 exact⟨hc 0,hc 1,hc 2,hc 3,hc 4,hc 5,hc 6,hc 7,hc 8⟩
theorem aC {w:World} (h:w.heap[g]?=some (.cells cs t (0,0))) (i:Nat):w.frozen? ⟨g,i,none⟩=false:=by
 unfold World.frozen?;rw [h];simp
theorem oJ {w:World} (h:w.heap[g]?=some (.cells cs t (0,0))):w.frozen? ⟨g,0,none⟩=false/\w.frozen? ⟨g,1,none⟩=false/\w.frozen? ⟨g,2,none⟩=false/\w.frozen? ⟨g,3,none⟩=false/\w.frozen? ⟨g,4,none⟩=false/\w.frozen? ⟨g,5,none⟩=false/\w.frozen? ⟨g,6,none⟩=false/\w.frozen? ⟨g,7,none⟩=false/\w.frozen? ⟨g,8,none⟩=false:=
 have f:=aC h
 ⟨f 0,f 1,f 2,f 3,f 4,f 5,f 6,f 7,f 8⟩
set_option maxRecDepth 100000
theorem Mth.has_snoc (l:List Int) (x:Int) (k:Nat) (h:k < l.length):hasB (l.take (k+1)) x=(hasB (l.take k) x||decide (l[k]=x)):=by
 unfold hasB;rw [aEV h,List.any_append];simp
theorem Mth.has_yes (l:List Int) (x:Int) (k:Nat) (h:k < l.length) (hx:l[k]=x):hasB l x=true:=by
 unfold hasB;rw [List.any_eq_true];exact⟨l[k],aE2 h,Aai⟩
theorem Xj (hl:l.length<=1048600) (ha:bC w a l):
 Calls prog 122 #[.slice a l.length cap,.int .i64 x] w λe w'=>e= .returned (.bool (hasB l x))/\w=w':=by
 have HA:=Hq ha;clear ha;go_in
 go_wp2_with fail;go_loop [5] (λi=>∃k:Nat,k<=l.length/\i= .int .i64 k/\hasB (l.take k) x=false) (λi=>l.length - (intOf i).toNat)
 case atStart=>exact⟨0,aE1 _,rfl,rfl⟩
 case round=>
  obtain⟨k,hk,rfl,hno⟩:=hrel;have HN:=Hq hno;clear hno;by_cases hlt:k < l.length
  .obtain⟨g,off,rfl,hgw,q0⟩:=bC.one HA k hlt;by_cases hx:l[k]=x
   .have HY:=Hq (has_yes l x k hlt hx);rw [hx] at q0;clear hx;go_wp2_with fail;go_ret;exact⟨aF HY.symm,rfl⟩
   .have HS:=Hq (has_snoc l x k hlt);rw [aEN hx] at HS;exact ahX
  .open amQ in exact uz
theorem GQ (n:Nd) (A:bq) (x:Int) (w:World) (hl:n.kids.length<=1048600) (ha:bC w A.k n.kids):
 Calls prog 92 #[gM n A,.int .i64 x] w (dM w (.bool (dV n x))):=by
 have HH:=Hq (Xj A.k A.ck n.kids x (w.alloc (.cells (dH n A) 39)) hl (GR.At.below ha (au w _)));clear ha;by_cases h0:0<=x
 .by_cases h1:x=n.par
  .have HN:=Hq (show dV n x=true by unfold dV;rw [aEO h0,aEO h1];rfl);have h2:(x == n.par)=true:=Abc
   clear h1;go_in
   go_wp2_with fail;exact aa9
  .have HN:=Hq (show dV n x=hasB n.kids x by simp[dV,h1]);have h2:(x == n.par)=false:=Abc
   clear h1;exact aiz
 .have HN:=Hq (show dV n x=hasB n.kids x by simp[dV,h0]);exact aiz
theorem Yy (hl:l.length<=1048600) (ha:bC w a l):
 Calls prog 254 #[.slice a l.length cap,.int .i64 x] w λe w'=>(∃i:Int,e= .returned (.int .i64 i)/\decide (0<=i)=hasB l x)/\w=w':=by
 have HA:=Hq ha;clear ha;go_in
 go_wp2_with fail;go_loop [8] (λi=>∃k:Nat,k<=l.length/\i= .int .i64 k/\hasB (l.take k) x=false) (λi=>l.length - (intOf i).toNat)
 case atStart=>exact⟨0,aE1 _,rfl,rfl⟩
 case round=>
  obtain⟨k,hk,rfl,hno⟩:=hrel;have HN:=Hq hno;clear hno;by_cases hlt:k < l.length
  .obtain⟨g,off,rfl,hgw,q0⟩:=bC.one HA k hlt;by_cases hx:l[k]=x
   .have HY:=Hq (has_yes l x k hlt hx);rw [hx] at q0;clear hx;go_wp2_with fail;go_ret;exact⟨⟨k,rfl,by rw [ah HY];simp⟩,rfl⟩
   .have HS:=Hq (has_snoc l x k hlt);rw [aEN hx] at HS;have hx':¬(x=l[k]):=λh=>hx h.symm
    exact ahX
  .open amR in exact uz
theorem Mi (hl:l.length<=1048600) (ha:bC w a l):
 Calls prog 226 #[.slice a l.length cap,.int .i64 x] w λe w'=>e= .returned (.bool (hasB l x))/\w=w':=by
 have HI:=Hq (Yy a cap l x w hl ha);clear ha;go_in
 go_wp2_with fail;refine HI.mono ?_;rintro e w1 ⟨⟨i,rfl,hi⟩,rfl⟩;have HD:=Hq hi;clear hi;go_wp2_with fail;go_ret;exact⟨aF HD,rfl⟩
theorem Cj (n:Nd) (A:bq) (x:Int) (w:World) (hl:n.kids.length<=1048600) (ha:bC w A.k n.kids):
 Calls prog 206 #[gM n A,.int .i64 x] w (dM w (.bool (hasB n.kids x))):=by
 have HH:=Hq (Mi A.k A.ck n.kids x (w.alloc (.cells (dH n A) 39)) hl (GR.At.below ha (au w _)));clear ha;go_in
 go_wp2_with (go_at_call 226;refine HH.mono ?_;rintro e w1 ⟨rfl,rfl⟩)
 go_ret;exact⟨rfl,au w _⟩
def Mth.nearI (n:Nd) (x:Int):Bool:=uV x&&(decide (x=n.par)||hasB n.kids x)
theorem Mth.near_same (h:eu n=true) (x:Int):nearI n x=dV n x:=by
 obtain⟨h1,_,h3⟩:=qG h
 have hp:n.par<=29:=by
  unfold eu at h;simp only[aES] at h;exact(aE5 h.1.1.1.2).2
 unfold nearI dV;cases hh:hasB n.kids x
 .simp only[Bool.or_false];by_cases hx:x=n.par
  .by_cases h0:0<=x
   .simp[uV,hx];omega
   .simp[uV,hx];omega
  .simp[hx]
 .have h2:=h1 x ((Aj _ _).1 hh);unfold kE at h2;simp only[aES] at h2;rw [h2.1.1];simp
theorem P6 (n:Nd) (A:bq) (x:Int) (w:World) (hl:n.kids.length<=1048600) (ha:bC w A.k n.kids):
 Calls prog 189 #[gM n A,.int .i64 x] w (dM w (.bool (nearI n x))):=by
 have HK:=Hq (Cj n A x (w.alloc (.cells (dH n A) 39)) hl (GR.At.below ha (au w _)));clear ha;cases h0:uV x
 .have HN:=Hq (show nearI n x=false by simp[nearI,h0]);have HA:=Hq (λw1=>isNode x false w1 h0);clear h0;exact aiv
 .have HA:=Hq (λw1=>isNode x true w1 h0);by_cases h1:x=n.par
  .have HN:=Hq (show nearI n x=true by unfold nearI;rw [h0,aEO h1];rfl);have h2:(x == n.par)=true:=Abc
   clear h1 h0;exact aiv
  .have HN:=Hq (show nearI n x=hasB n.kids x by simp[nearI,h1,h0]);have h2:(x == n.par)=false:=Abc
   clear h1 h0;go_in
   go_wp2_with (first|(go_at_call 187;refine(HA _).mono ?_;rintro e w1 ⟨rfl,rfl⟩)|(go_at_call 206;refine HK.mono ?_;rintro e w2 ⟨rfl,hb2⟩))
   go_ret;exact⟨aF HN.symm,(au w _).trans (hb2.mono Aac)⟩
theorem ajf (x:Int) (b:Bool) (hb:uV x=b) (W:World) (n:Nat):Calls prog 121 #[.int .i64 x] (W.drewN n) λe w''=>e= .returned (.bool b)/\∃m,w''=W.drewN m:=
 (nQ x b _ hb).mono λ_ _ ⟨he,hw⟩=>⟨he,n,hw.symm⟩
theorem Mth.place_head {n:Nd} (h:(uV n.id&&decide (-1<=n.par/\n.par<=29)&&decide (n.par≠n.id)&&decide (n.kids.length<=30))=false):eu n=false:=by
 unfold eu;rw [h];rfl
theorem Mth.place_tail {n:Nd} (h1:uV n.id=true) (h2: -1<=n.par/\n.par<=29) (h3:n.par≠n.id) (h4:n.kids.length<=30):eu n=gV (kE n.id n.par) iL n.kids:=by
 unfold eu;rw [h1,aEO h2,aEO h3,aEO h4];rfl
theorem Zz (n:Nd) (A:bq) (w:World) (hl:n.kids.length<=1048600) (ha:bC w A.k n.kids):
 Calls prog 87 #[gM n A] w (dM w (.bool (eu n))):=by
 have HA:=Hq ha;have HD:=Hq (@place_head n);have Lj:=Hq (@place_tail n);have yt:=Hq (λk h=>pV (kE n.id n.par) iL n.kids k h);have Oo:=Hq (sJ (kE n.id n.par) iL n.kids);have Ey:=Hq (wD (kE n.id n.par) iL n.kids);clear ha;open anW in exact vR
structure R3 where
 f:Int
 l:Int
 v:Value
abbrev eP (x:R3):List Value:=[.int .i64 x.f,.int .i64 x.l,x.v]
theorem bg (x:R3):(eP x).length=3:=rfl
def aeC (w:World) (l:List Sn) (T:List R3) (I:Nat->Nat):Prop:=T.length=l.length/\∀i (hi:i < l.length),∃b c,T[i]?=some ⟨l[i].f,l[i].l,.slice b l[i].ids.length c⟩/\GR.W bf 1 w b (I i) l[i].ids
def dZ (w:World) (a:Option Addr) (g:Nat) (I:Nat->Nat) (l:List Sn):Prop:=∃T,GR.W eP 3 w a g T/\aeC w l T I
theorem dZ.at {w:World} {a:Option Addr} {l:List Sn} (h:dZ w a g I l):gZ w a l:=λi hi=>by
 obtain⟨T,hT,hl,hr⟩:=h;obtain⟨b,c,ht,hi2⟩:=hr i hi;obtain⟨e,hg,hc⟩:=hT i Aaa
 have hti:T[i]' Aaa=⟨l[i].f,l[i].l,.slice b l[i].ids.length c⟩:=by
  have:=aEQ (l:=T) (i:=i) Aaa;rw [this] at ht;exact aFD ht
 rw [hti] at hc;refine⟨g,0,b,c,e,hg,?_,?_,?_,hi2.at⟩
 .have:=(hc 0 Aaa).1;simpa using this
 .have:=(hc 1 Aaa).1;simpa using this
 .have:=(hc 2 Aaa).1;simpa using this
def mX (I:Nat->Nat) (l:List Sn):List Nat:=(List.range l.length).flatMap λi=>fp (I i) (l.getD i default).ids
theorem jw {l:List Sn} {i:Nat} (hi:i < l.length):∀x∈fp (I i) l[i].ids,x∈mX I l:=by
 grind [mX]
theorem rY {l:List Sn} {x:Nat} (h:x∈mX I l):∃i,∃hi:i < l.length,x=I i/\0 < l[i].ids.length:=by
 grind [mX,cu]
theorem dZ.keeps {w:World} {a:Option Addr} {l:List Sn} (h:dZ w a g I l) (hk:aA F w w') (hg:∀x∈fp g l,x∉F) (hI:∀x∈mX I l,x∉F):dZ w' a g I l:=by
 obtain⟨T,hT,hl,hr⟩:=h;refine⟨T,hT.keeps hk (λx hx=>hg x ?_),hl,λi hi=>?_⟩
 .grind [dB,cu]
 .obtain⟨b,c,ht,hi2⟩:=hr i hi;exact⟨b,c,ht,hi2.keeps hk (λx hx=>hI x (jw hi x hx))⟩
structure aK where
 k:Nat
 p:Nat
 o:Nat
 s:Nat
 r:Nat
 i:Nat->Nat
def aK.all (G:aK) (n:Nd):List Nat:=fp G.k n.kids++(fp G.p n.pu++(fp G.o n.out++(fp G.s n.seen++(mX G.i n.seen++fp G.r n.reqs))))
structure gU (w:World) (A:bq) (G:aK) (n:Nd):Prop where
 k:GR.W bf 1 w A.k G.k n.kids
 p:GR.W fu 4 w A.p G.p n.pu
 o:GR.W aM 4 w A.o G.o n.out
 s:dZ w A.s G.s G.i n.seen
 r:GR.W aL 4 w A.r G.r n.reqs
theorem gU.at {w:World} {A:bq} {G:aK} (h:gU w A G n):bY w A n:=⟨h.k.at,h.p.at,h.o.at,h.s.at,h.r.at⟩
theorem aK.mem_all {G:aK} {n:Nd} {x:Nat}:x∈G.all n↔x∈fp G.k n.kids\/x∈fp G.p n.pu\/x∈fp G.o n.out\/x∈fp G.s n.seen\/x∈mX G.i n.seen\/x∈fp G.r n.reqs:=by
 unfold aK.all;simp only[aE6]
theorem gU.keeps {w:World} {A:bq} {G:aK} (h:gU w A G n) (hk:aA F w w') (hd:∀x∈G.all n,x∉F):gU w' A G n:=
 ⟨h.k.keeps hk (λx hx=>hd x (aK.mem_all.2 (.inl hx))),h.p.keeps hk (λx hx=>hd x (aK.mem_all.2 (.inr (.inl hx)))),h.o.keeps hk (λx hx=>hd x (aK.mem_all.2 (.inr (.inr (.inl hx))))),h.s.keeps hk (λx hx=>hd x (aK.mem_all.2 (.inr (.inr (.inr (.inl hx)))))) (λx hx=>hd x (aK.mem_all.2 (.inr (.inr (.inr (.inr (.inl hx))))))),h.r.keeps hk (λx hx=>hd x (aK.mem_all.2 (.inr (.inr (.inr (.inr (.inr hx)))))))⟩
theorem gU.below {w:World} {A:bq} {G:aK} (h:gU w A G n) (hb:aH w w'):gU w' A G n:=h.keeps (F:=[]) (aA.of_below hb) (λ_ _=>Aac)
structure aK.Sep (G:aK) (n:Nd) (lo hi:Nat):Prop where
 nodup:(G.all n).Nodup
 rng:∀x∈G.all n,lo<=x/\x < hi
theorem abr (w:World) (a b:Obj):((w.alloc a).alloc b).heap[w.heap.size]?=some a/\((w.alloc a).alloc b).heap[w.heap.size+1]?=some b/\Below w.heap.size w ((w.alloc a).alloc b):=by
 exact ahF
end Go.Proofs.YtbolgdleijjgfaaGreatDoor
