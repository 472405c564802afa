/- Parts. -/
import Derived.Test.YtfachhcijcjbpaaGreatDoorRw13
import Derived.Test.YtfachhcijcjbpaaGreatDoorRw12
namespace Go.Proofs.YtfachhcijcjbpaaGreatDoor
open Go.Proofs.Tryz
set_option maxHeartbeats 4000000
open Go.RowKit
open Mth
def gT (w:World) (a:Option Addr) (l:List Sn):Prop:=∀i (hi:i < l.length),∃g off b c,a=some ⟨g,off,none⟩/\g < w.heap.size/\w.cell? ⟨g,off+i*3,none⟩=some (.int .i64 l[i].f)/\w.cell? ⟨g,off+i*3+1,none⟩=some (.int .i64 l[i].l)/\w.cell? ⟨g,off+i*3+2,none⟩=some (.slice b l[i].ids.length c)/\aK w b l[i].ids
theorem gT.below {w w':World} {a:Option Addr} {l:List Sn} (h:gT w a l) (hb:Below w.heap.size w w'):gT w' a l:=λi hi=>by
 obtain⟨g,off,b,c,e,hg,h0,h1,h2,h3⟩:=h i hi;exact⟨g,off,b,c,e,aEH hg hb.size,(hb.cell (p:=⟨g,off+i*3,none⟩) hg).trans h0,(hb.cell (p:=⟨g,off+i*3+1,none⟩) hg).trans h1,(hb.cell (p:=⟨g,off+i*3+2,none⟩) hg).trans h2,GR.At.below h3 hb⟩
structure bg where
 k:Option Addr
 p:Option Addr
 o:Option Addr
 s:Option Addr
 r:Option Addr
 ck:Nat
 cp:Nat
 co:Nat
 cs:Nat
 cr:Nat
abbrev vG (i p:Int) (k:Option Addr) (k1 k2:Nat) (x:Int) (a:Option Addr) (a1 a2:Nat) (b:Option Addr) (b1 b2:Nat) (c:Option Addr) (c1 c2:Nat) (o:Int) (r:Option Addr) (r1 r2:Nat):Array Value:=#[.int .i64 i,.int .i64 p,.slice k k1 k2,.int .i64 x,.slice a a1 a2,.slice b b1 b2,.slice c c1 c2,.int .i64 o,.slice r r1 r2]
abbrev dR (n:Nd) (A:bg):Array Value:=#[.int .i64 n.id,.int .i64 n.par,.slice A.k n.kids.length A.ck,.int .i64 n.next,.slice A.p n.pu.length A.cp,.slice A.o n.out.length A.co,.slice A.s n.seen.length A.cs,.int .i64 n.old,.slice A.r n.reqs.length A.cr]
abbrev gP (n:Nd) (A:bg):Value:= .agg (dR n A)
structure bX (w:World) (A:bg) (n:Nd):Prop where
 k:aK w A.k n.kids
 p:aH w A.p n.pu
 o:SentAt w A.o n.out
 s:gT w A.s n.seen
 r:fJ w A.r n.reqs
theorem bX.below {w w':World} {A:bg} {n:Nd} (h:bX w A n) (hb:Below w.heap.size w w'):bX w' A n:=
 ⟨GR.At.below h.k hb,GR.At.below h.p hb,GR.At.below h.o hb,h.s.below hb,GR.At.below h.r hb⟩
structure eH (n:Nd) (b:Nat):Prop where
 k:n.kids.length<=b
 p:n.pu.length<=b
 o:n.out.length<=b
 s:n.seen.length<=b
 r:n.reqs.length<=b
 pk:∀x∈n.pu,x.k.size<=b
 ok:∀x∈n.out,x.k.size<=b
 sk:∀x∈n.seen,x.ids.length<=b
 rk:∀x∈n.reqs,x.k.size<=b
theorem eH.mono {n:Nd} {a b:Nat} (h:eH n a) (hab:a<=b):eH n b:=
 ⟨aEA h.k hab,aEA h.p hab,aEA h.o hab,aEA h.s hab,aEA h.r hab,λx hx=>aEA (h.pk x hx) hab,λx hx=>aEA (h.ok x hx) hab,λx hx=>aEA (h.sk x hx) hab,λx hx=>aEA (h.rk x hx) hab⟩
theorem aj {w w':World} {g:Nat} {o:Obj} (h:w.heap[g]?=some o) (hb:Below w.heap.size w w'):w'.heap[g]?=some o:=by
 rw [hb.block g (ay h)];exact h
theorem nine {w:World} {g:Nat} {v0 v1 v2 v3 v4 v5 v6 v7 v8:Value} {t:TypeId} (h:w.heap[g]?=some (.cells #[v0,v1,v2,v3,v4,v5,v6,v7,v8] t (0,0))):
 w.cell? ⟨g,0,none⟩=some v0/\w.cell? ⟨g,1,none⟩=some v1/\w.cell? ⟨g,2,none⟩=some v2/\w.cell? ⟨g,3,none⟩=some v3/\w.cell? ⟨g,4,none⟩=some v4/\w.cell? ⟨g,5,none⟩=some v5/\w.cell? ⟨g,6,none⟩=some v6/\w.cell? ⟨g,7,none⟩=some v7/\w.cell? ⟨g,8,none⟩=some v8:=by
 have hc:∀i,w.cell? ⟨g,i,none⟩=#[v0,v1,v2,v3,v4,v5,v6,v7,v8][i]?:=λi=>aEz w g i _ t (0,0) h
 exact⟨hc 0,hc 1,hc 2,hc 3,hc 4,hc 5,hc 6,hc 7,hc 8⟩
theorem aA {w:World} {g:Nat} {cs:Array Value} {t:TypeId} (h:w.heap[g]?=some (.cells cs t (0,0))) (i:Nat):w.frozen? ⟨g,i,none⟩=false:=by
 unfold World.frozen?;rw [h];simp
theorem mX {w:World} {g:Nat} {cs:Array Value} {t:TypeId} (h:w.heap[g]?=some (.cells cs t (0,0))):w.frozen? ⟨g,0,none⟩=false/\w.frozen? ⟨g,1,none⟩=false/\w.frozen? ⟨g,2,none⟩=false/\w.frozen? ⟨g,3,none⟩=false/\w.frozen? ⟨g,4,none⟩=false/\w.frozen? ⟨g,5,none⟩=false/\w.frozen? ⟨g,6,none⟩=false/\w.frozen? ⟨g,7,none⟩=false/\w.frozen? ⟨g,8,none⟩=false:=
 have f:=aA h
 ⟨f 0,f 1,f 2,f 3,f 4,f 5,f 6,f 7,f 8⟩
structure R3 where
 f:Int
 l:Int
 v:Value
abbrev eF (x:R3):List Value:=[.int .i64 x.f,.int .i64 x.l,x.v]
theorem bf (x:R3):(eF x).length=3:=rfl
def aeB (w:World) (l:List Sn) (T:List R3) (I:Nat->Nat):Prop:=T.length=l.length/\∀i (hi:i < l.length),∃b c,T[i]?=some ⟨l[i].f,l[i].l,.slice b l[i].ids.length c⟩/\GR.W aW 1 w b (I i) l[i].ids
def fU (w:World) (a:Option Addr) (g:Nat) (I:Nat->Nat) (l:List Sn):Prop:=∃T,GR.W eF 3 w a g T/\aeB w l T I
theorem fU.at {w:World} {a:Option Addr} {g:Nat} {I:Nat->Nat} {l:List Sn} (h:fU w a g I l):gT w a l:=λi hi=>by
 obtain⟨T,hT,hl,hr⟩:=h;obtain⟨b,c,ht,hi2⟩:=hr i hi;obtain⟨e,hg,hc⟩:=hT i Aaa
 have hti:T[i]' Aaa=⟨l[i].f,l[i].l,.slice b l[i].ids.length c⟩:=by
  have:=aEB (l:=T) (i:=i) Aaa;rw [this] at ht;exact aFe ht
 rw [hti] at hc;refine⟨g,0,b,c,e,hg,?_,?_,?_,hi2.at⟩
 .have:=(hc 0 Aaa).1;simpa using this
 .have:=(hc 1 Aaa).1;simpa using this
 .have:=(hc 2 Aaa).1;simpa using this
def uo (I:Nat->Nat) (l:List Sn):List Nat:=(List.range l.length).flatMap λi=>fp (I i) (l.getD i default).ids
theorem jE {I:Nat->Nat} {l:List Sn} {i:Nat} (hi:i < l.length):∀x∈fp (I i) l[i].ids,x∈uo I l:=by
 grind [uo]
theorem uK {I:Nat->Nat} {l:List Sn} {x:Nat} (h:x∈uo I l):∃i,∃hi:i < l.length,x=I i/\0 < l[i].ids.length:=by
 grind [uo,dz]
theorem fU.keeps {F:List Nat} {w w':World} {a:Option Addr} {g:Nat} {I:Nat->Nat} {l:List Sn} (h:fU w a g I l) (hk:aC F w w') (hg:∀x∈fp g l,x∉F) (hI:∀x∈uo I l,x∉F):fU w' a g I l:=by
 obtain⟨T,hT,hl,hr⟩:=h;refine⟨T,hT.keeps hk (λx hx=>hg x ?_),hl,λi hi=>?_⟩
 .grind [dH,dz]
 .obtain⟨b,c,ht,hi2⟩:=hr i hi;exact⟨b,c,ht,hi2.keeps hk (λx hx=>hI x (jE hi x hx))⟩
structure aR where
 k:Nat
 p:Nat
 o:Nat
 s:Nat
 r:Nat
 i:Nat->Nat
def aR.all (G:aR) (n:Nd):List Nat:=fp G.k n.kids++(fp G.p n.pu++(fp G.o n.out++(fp G.s n.seen++(uo G.i n.seen++fp G.r n.reqs))))
structure rT (w:World) (A:bg) (G:aR) (n:Nd):Prop where
 k:GR.W aW 1 w A.k G.k n.kids
 p:GR.W fO 4 w A.p G.p n.pu
 o:GR.W aN 4 w A.o G.o n.out
 s:fU w A.s G.s G.i n.seen
 r:GR.W aM 4 w A.r G.r n.reqs
theorem rT.at {w:World} {A:bg} {G:aR} {n:Nd} (h:rT w A G n):bX w A n:=⟨h.k.at,h.p.at,h.o.at,h.s.at,h.r.at⟩
theorem aR.mem_all {G:aR} {n:Nd} {x:Nat}:x∈G.all n↔x∈fp G.k n.kids\/x∈fp G.p n.pu\/x∈fp G.o n.out\/x∈fp G.s n.seen\/x∈uo G.i n.seen\/x∈fp G.r n.reqs:=by
 unfold aR.all;simp only[aE0]
theorem rT.keeps {F:List Nat} {w w':World} {A:bg} {G:aR} {n:Nd} (h:rT w A G n) (hk:aC F w w') (hd:∀x∈G.all n,x∉F):rT w' A G n:=
 ⟨h.k.keeps hk (λx hx=>hd x (aR.mem_all.2 (.inl hx))),h.p.keeps hk (λx hx=>hd x (aR.mem_all.2 (.inr (.inl hx)))),h.o.keeps hk (λx hx=>hd x (aR.mem_all.2 (.inr (.inr (.inl hx))))),h.s.keeps hk (λx hx=>hd x (aR.mem_all.2 (.inr (.inr (.inr (.inl hx)))))) (λx hx=>hd x (aR.mem_all.2 (.inr (.inr (.inr (.inr (.inl hx))))))),h.r.keeps hk (λx hx=>hd x (aR.mem_all.2 (.inr (.inr (.inr (.inr (.inr hx)))))))⟩
theorem rT.below {w w':World} {A:bg} {G:aR} {n:Nd} (h:rT w A G n) (hb:aG w w'):rT w' A G n:=h.keeps (F:=[]) (aC.of_below hb) (λ_ _=>Aac)
structure aR.Sep (G:aR) (n:Nd) (lo hi:Nat):Prop where
 nodup:(G.all n).Nodup
 rng:∀x∈G.all n,lo<=x/\x < hi
set_option maxRecDepth 100000
theorem Mth.has_snoc (l:List Int) (x:Int) (k:Nat) (h:k < l.length):hasB (l.take (k+1)) x=(hasB (l.take k) x||decide (l[k]=x)):=by
 unfold hasB;rw [aEF h,List.any_append];simp
theorem Mth.has_yes (l:List Int) (x:Int) (k:Nat) (h:k < l.length) (hx:l[k]=x):hasB l x=true:=by
 unfold hasB;rw [List.any_eq_true];exact⟨l[k],aEL h,Aak⟩
theorem Xu (a:Option Addr) (cap:Nat) (l:List Int) (x:Int) (w:World) (hl:l.length<=1048600) (ha:aK w a l):
 Calls prog 91 #[.slice a l.length cap,.int .i64 x] w λe w'=>e= .returned (.bool (hasB l x))/\w=w':=by
 have HA:=Hq ha;clear ha;go_in
 go_wp2_with fail;go_loop [5] (λi=>∃k:Nat,k<=l.length/\i= .int .i64 k/\hasB (l.take k) x=false) (λi=>l.length - (intOf i).toNat)
 case atStart=>exact⟨0,aEN _,rfl,rfl⟩
 case round=>
  obtain⟨k,hk,rfl,hno⟩:=hrel;have HN:=Hq hno;clear hno;by_cases hlt:k < l.length
  .obtain⟨g,off,rfl,hgw,q0⟩:=aK.one HA k hlt;by_cases hx:l[k]=x
   .have HY:=Hq (has_yes l x k hlt hx);rw [hx] at q0;clear hx;go_wp2_with fail;go_ret;exact⟨aF HY.symm,rfl⟩
   .have HS:=Hq (has_snoc l x k hlt);rw [aEw hx] at HS;exact ah4
  .open anp in exact xE
theorem GN (n:Nd) (A:bg) (x:Int) (w:World) (hl:n.kids.length<=1048600) (ha:aK w A.k n.kids):
 Calls prog 61 #[gP n A,.int .i64 x] w (dK w (.bool (dU n x))):=by
 have HH:=Hq (Xu A.k A.ck n.kids x (w.alloc (.cells (dR n A) 53)) hl (GR.At.below ha (au w _)));clear ha;by_cases h0:0<=x
 .by_cases h1:x=n.par
  .have HN:=Hq (show dU n x=true by unfold dU;rw [aEy h0,aEy h1];rfl);have h2:(x == n.par)=true:=Abc
   clear h1;go_in
   go_wp2_with fail;exact aa7
  .have HN:=Hq (show dU n x=hasB n.kids x by simp[dU,h1]);have h2:(x == n.par)=false:=Abc
   clear h1;exact aiG
 .have HN:=Hq (show dU n x=hasB n.kids x by simp[dU,h0]);exact aiG
theorem ajq (x:Int) (b:Bool) (hb:uH x=b) (W:World) (n:Nat):Calls prog 90 #[.int .i64 x] (W.drewN n) λe w''=>e= .returned (.bool b)/\∃m,w''=W.drewN m:=
 (nH x b _ hb).mono λ_ _ ⟨he,hw⟩=>⟨he,n,hw.symm⟩
theorem Mth.place_head {n:Nd} (h:(uH n.id&&decide (-1<=n.par/\n.par<=29)&&decide (n.par≠n.id)&&decide (n.kids.length<=30))=false):dX n=false:=by
 unfold dX;rw [h];rfl
theorem Mth.place_tail {n:Nd} (h1:uH n.id=true) (h2: -1<=n.par/\n.par<=29) (h3:n.par≠n.id) (h4:n.kids.length<=30):dX n=gL (jZ n.id n.par) iF n.kids:=by
 unfold dX;rw [h1,aEy h2,aEy h3,aEy h4];rfl
theorem Zz (n:Nd) (A:bg) (w:World) (hl:n.kids.length<=1048600) (ha:aK w A.k n.kids):
 Calls prog 56 #[gP n A] w (dK w (.bool (dX n))):=by
 have HA:=Hq ha;have HD:=Hq (@place_head n);have LJ:=Hq (@place_tail n);have xR:=Hq (λk h=>oV (jZ n.id n.par) iF n.kids k h);have OI:=Hq (rV (jZ n.id n.par) iF n.kids);have Ev:=Hq (vR (jZ n.id n.par) iF n.kids);clear ha;open aoJ in exact xG
theorem Yz (a:Option Addr) (cap:Nat) (l:List Int) (x:Int) (w:World) (hl:l.length<=1048600) (ha:aK w a l):
 Calls prog 259 #[.slice a l.length cap,.int .i64 x] w λe w'=>(∃i:Int,e= .returned (.int .i64 i)/\decide (0<=i)=hasB l x)/\w=w':=by
 have HA:=Hq ha;clear ha;go_in
 go_wp2_with fail;go_loop [8] (λi=>∃k:Nat,k<=l.length/\i= .int .i64 k/\hasB (l.take k) x=false) (λi=>l.length - (intOf i).toNat)
 case atStart=>exact⟨0,aEN _,rfl,rfl⟩
 case round=>
  obtain⟨k,hk,rfl,hno⟩:=hrel;have HN:=Hq hno;clear hno;by_cases hlt:k < l.length
  .obtain⟨g,off,rfl,hgw,q0⟩:=aK.one HA k hlt;by_cases hx:l[k]=x
   .have HY:=Hq (has_yes l x k hlt hx);rw [hx] at q0;clear hx;go_wp2_with fail;go_ret;exact⟨⟨k,rfl,by rw [ah HY];simp⟩,rfl⟩
   .have HS:=Hq (has_snoc l x k hlt);rw [aEw hx] at HS;have hx':¬(x=l[k]):=λh=>hx h.symm
    exact ah4
  .open anr in exact xE
theorem MC (a:Option Addr) (cap:Nat) (l:List Int) (x:Int) (w:World) (hl:l.length<=1048600) (ha:aK w a l):
 Calls prog 231 #[.slice a l.length cap,.int .i64 x] w λe w'=>e= .returned (.bool (hasB l x))/\w=w':=by
 have HI:=Hq (Yz a cap l x w hl ha);clear ha;go_in
 go_wp2_with fail;refine HI.mono ?_;rintro e w1 ⟨⟨i,rfl,hi⟩,rfl⟩;have HD:=Hq hi;clear hi;go_wp2_with fail;go_ret;exact⟨aF HD,rfl⟩
theorem Cc (n:Nd) (A:bg) (x:Int) (w:World) (hl:n.kids.length<=1048600) (ha:aK w A.k n.kids):
 Calls prog 211 #[gP n A,.int .i64 x] w (dK w (.bool (hasB n.kids x))):=by
 have HH:=Hq (MC A.k A.ck n.kids x (w.alloc (.cells (dR n A) 53)) hl (GR.At.below ha (au w _)));clear ha;go_in
 go_wp2_with (go_at_call 231;refine HH.mono ?_;rintro e w1 ⟨rfl,rfl⟩)
 go_ret;exact⟨rfl,au w _⟩
def Mth.nearI (n:Nd) (x:Int):Bool:=uH x&&(decide (x=n.par)||hasB n.kids x)
theorem Mth.near_same {n:Nd} (h:dX n=true) (x:Int):nearI n x=dU n x:=by
 obtain⟨h1,_,h3⟩:=qj h
 have hp:n.par<=29:=by
  unfold dX at h;simp only[aED] at h;exact(aEQ h.1.1.1.2).2
 unfold nearI dU;cases hh:hasB n.kids x
 .simp only[Bool.or_false];by_cases hx:x=n.par
  .by_cases h0:0<=x
   .simp[uH,hx];omega
   .simp[uH,hx];omega
  .simp[hx]
 .have h2:=h1 x ((zY _ _).1 hh);unfold jZ at h2;simp only[aED] at h2;rw [h2.1.1];simp
theorem Qi (n:Nd) (A:bg) (x:Int) (w:World) (hl:n.kids.length<=1048600) (ha:aK w A.k n.kids):
 Calls prog 194 #[gP n A,.int .i64 x] w (dK w (.bool (nearI n x))):=by
 have HK:=Hq (Cc n A x (w.alloc (.cells (dR n A) 53)) hl (GR.At.below ha (au w _)));clear ha;cases h0:uH x
 .have HN:=Hq (show nearI n x=false by simp[nearI,h0]);have HA:=Hq (λw1=>isNode x false w1 h0);clear h0;exact aiC
 .have HA:=Hq (λw1=>isNode x true w1 h0);by_cases h1:x=n.par
  .have HN:=Hq (show nearI n x=true by unfold nearI;rw [h0,aEy h1];rfl);have h2:(x == n.par)=true:=Abc
   clear h1 h0;exact aiC
  .have HN:=Hq (show nearI n x=hasB n.kids x by simp[nearI,h1,h0]);have h2:(x == n.par)=false:=Abc
   clear h1 h0;go_in
   go_wp2_with (first|(go_at_call 192;refine(HA _).mono ?_;rintro e w1 ⟨rfl,rfl⟩)|(go_at_call 211;refine HK.mono ?_;rintro e w2 ⟨rfl,hb2⟩))
   go_ret;exact⟨aF HN.symm,(au w _).trans (hb2.mono Aac)⟩
theorem GR.W.fourReq {w:World} {a:Option Addr} {g:Nat} {l:List Rq} (h:GR.W aM 4 w a g l) (i:Nat) (hi:i < l.length):a=some ⟨g,0,none⟩/\g < w.heap.size/\(w.cell? ⟨g,i*4,none⟩=some (.int .i64 l[i].no)/\w.cell? ⟨g,i*4+1,none⟩=some (.string l[i].k)/\w.cell? ⟨g,i*4+2,none⟩=some (.int .i64 l[i].n)/\w.cell? ⟨g,i*4+3,none⟩=some (.int .i64 l[i].s))/\w.frozen? ⟨g,i*4,none⟩=false/\w.frozen? ⟨g,i*4+1,none⟩=false/\w.frozen? ⟨g,i*4+2,none⟩=false/\w.frozen? ⟨g,i*4+3,none⟩=false:=by
 exact axK
theorem GR.W.one {w:World} {a:Option Addr} {g:Nat} {l:List Int} (h:GR.W aW 1 w a g l) (i:Nat) (hi:i < l.length):a=some ⟨g,0,none⟩/\g < w.heap.size/\w.cell? ⟨g,i,none⟩=some (.int .i64 l[i])/\w.frozen? ⟨g,i,none⟩=false:=by
 obtain⟨e,hg,hc⟩:=h i hi;exact⟨e,hg,by simpa using(hc 0 Aaa).1,by simpa using(hc 0 Aaa).2⟩
theorem fU.put {w:World} {a:Option Addr} {g:Nat} {I:Nat->Nat} {l:List Sn} (h:fU w a g I l) (k:Nat) (hk:k < l.length) (f lo:Int) (hne:∀x∈uo I l,x≠g):
 fU ((w.setCell ⟨g,k*3,none⟩ (.int .i64 f)).setCell ⟨g,k*3+1,none⟩ (.int .i64 lo)) a g I (l.set k ⟨f,lo,l[k].ids⟩):=by
 obtain⟨T,hT,hl,hr⟩:=h;obtain⟨b,c,ht,hi2⟩:=hr k hk;have Te:k < T.length:=Aaa
 have htk:T[k]=⟨l[k].f,l[k].l,.slice b l[k].ids.length c⟩:=by
  rw [aEB Te] at ht;exact aFe ht
 have hC:=((GR.W.toC bf Aaa hT).set (k*3) (.int .i64 f)).set (k*3+1) (.int .i64 lo);have hf:=GR.flat_set eF 3 bf T k ⟨f,lo,.slice b l[k].ids.length c⟩ Te;have h3:(((GR.flat eF T).set (k*3) (.int .i64 f)).set (k*3+1) (.int .i64 lo)).set (k*3+2) (.slice b l[k].ids.length c)=GR.flat eF (T.set k ⟨f,lo,.slice b l[k].ids.length c⟩):=hf;have hat:=GR.flat_at eF 3 bf T k Te 2 Aaa;rw [htk] at hat
 have h4:((GR.flat eF T).set (k*3) (.int .i64 f)).set (k*3+1) (.int .i64 lo)=GR.flat eF (T.set k ⟨f,lo,.slice b l[k].ids.length c⟩):=by
  rw [<-h3];apply List.ext_getElem?
  intro j;by_cases hj:j=k*3+2
  .subst hj;have hlt:k*3+2 < (GR.flat eF T).length:=by rw [GR.flat_length eF 3 bf];omega
   rw [aF7 (by simpa using hlt),aFK Aaa,aFK Aaa,hat];rfl
  .rw [aFK (i:=k*3+2) Aaa]
 rw [h4] at hC;have hK:aC [g] w ((w.setCell ⟨g,k*3,none⟩ (.int .i64 f)).setCell ⟨g,k*3+1,none⟩ (.int .i64 lo)):=(aC.set _).trans (aC.set _);refine⟨T.set k ⟨f,lo,.slice b l[k].ids.length c⟩,GR.C.toW bf Aaa hC,by simpa using hl,λi hi=>?_⟩;have hi':i < l.length:=Aas
 by_cases hik:i=k
 .subst hik;refine⟨b,c,?_,?_⟩
  .rw [aF7 Te];simp
  .rw [aFi];exact hi2.keeps hK (λx hx=>by simpa using hne x (jE hi' x hx))
 .obtain⟨b',c',ht',hi3⟩:=hr i hi';refine⟨b',c',?_,?_⟩
  .rw [aFK Aaa,ht',aE4 Aaa]
  .rw [aE4 Aaa];exact hi3.keeps hK (λx hx=>by simpa using hne x (jE hi' x hx))
theorem abN {I:Nat->Nat} {l:List Sn} (hnd:(uo I l).Nodup) {i k:Nat} (hi:i < l.length) (hk:k < l.length) (hik:i≠k) (h1:0 < l[i].ids.length) (h2:0 < l[k].ids.length):I i≠I k:=by
 intro he;have hd:∀j (hj:j < l.length),l.getD j default=l[j]:=λj hj=>by rw [aE7,aEB hj];rfl
 have key:∀a b,a < b->b < l.length->0 < (l.getD a default).ids.length->0 < (l.getD b default).ids.length->I a≠I b:=by
  intro a b hab hb ha1 hb1 hI;unfold uo at hnd
  have e1:List.range l.length=List.range b++(List.range (l.length - b)).map (b+·):=by
   rw [<-List.range_add];congr 1
   omega
  rw [e1,List.flatMap_append,aFY] at hnd;refine hnd.2.2 (I a) ?_ (I b) ?_ hI
  .rw [aFQ];exact⟨a,aFA.2 hab,dH ha1⟩
  .rw [aFQ];exact⟨b,aFS.2 ⟨0,aFA.2 Aaa,Aac⟩,dH hb1⟩
 rcases Nat.lt_or_gt_of_ne hik with h|h
 .exact key i k h hk (by rw [hd i hi];exact h1) (by rw [hd k hk];exact h2) he
 .exact key k i h hi (by rw [hd k hk];exact h2) (by rw [hd i hi];exact h1) he.symm
theorem fU.ids {w w':World} {a:Option Addr} {g:Nat} {I:Nat->Nat} {l:List Sn} (h:fU w a g I l) (k:Nat) (hk:k < l.length) (b:Option Addr) (c:Nat) (ids:List Int) (hb:w.cell? ⟨g,k*3+2,none⟩=some (.slice b l[k].ids.length c)) (hlen:ids.length=l[k].ids.length) (hw:GR.W aW 1 w' b (I k) ids) (hK:aC (fp (I k) l[k].ids) w w')
 (hne:∀x∈uo I l,x≠g) (hnd:(uo I l).Nodup):fU w' a g I (l.set k ⟨l[k].f,l[k].l,ids⟩):=by
 obtain⟨T,hT,hl,hr⟩:=h;have Te:k < T.length:=Aaa
 have aBV:∀x∈fp (I k) l[k].ids,x∈uo I l:=jE hk
 have hT':GR.W eF 3 w' a g T:=hT.keeps hK (λx hx hx2=>by
  rw [(dz hx).1] at hx2
  exact hne _ (aBV _ hx2) rfl)
 refine⟨T,hT',by simpa using hl,λi hi=>?_⟩;have hi':i < l.length:=Aas
 obtain⟨b',c',ht',hi3⟩:=hr i hi';by_cases hik:i=k
 .subst hik;obtain⟨_,_,hc⟩:=hT i Te;have h2:=(hc 2 Aaa).1;rw [aEB Te] at ht';rw [aFe ht'] at h2;have h2':w.cell? ⟨g,i*3+2,none⟩=some (.slice b' l[i].ids.length c'):=h2;rw [hb] at h2';injection h2' with h2'
  injection h2' with e1 e2 e3
  subst e1 e3;refine⟨b,c,?_,?_⟩
  .rw [aEB Te,aFe ht',aFi];simp[hlen]
  .rw [aFi];exact hw
 .refine⟨b',c',?_,?_⟩
  .rw [ht',aE4 Aaa]
  .rw [aE4 Aaa];refine hi3.keeps hK (λx hx hx2=>?_);have e1:=(dz hx).1;have e2:=(dz hx2).1;have hIk:I i=I k:=by rw [<-e1,<-e2]
   exact abN hnd hi' hk hik (dz hx).2 (dz hx2).2 hIk
theorem fU.three {w:World} {a:Option Addr} {g:Nat} {I:Nat->Nat} {l:List Sn} (h:fU w a g I l) (i:Nat) (hi:i < l.length):∃b c,a=some ⟨g,0,none⟩/\g < w.heap.size/\(w.cell? ⟨g,i*3,none⟩=some (.int .i64 l[i].f)/\w.cell? ⟨g,i*3+1,none⟩=some (.int .i64 l[i].l)/\w.cell? ⟨g,i*3+2,none⟩=some (.slice b l[i].ids.length c))/\(w.frozen? ⟨g,i*3,none⟩=false/\w.frozen? ⟨g,i*3+1,none⟩=false)/\GR.W aW 1 w b (I i) l[i].ids:=by
 obtain⟨T,hT,hl,hr⟩:=h;obtain⟨b,c,ht,hi2⟩:=hr i hi;have Te:i < T.length:=Aaa
 obtain⟨e,hg,hc⟩:=hT i Te;rw [aEB Te] at ht;rw [aFe ht] at hc;exact⟨b,c,e,hg,⟨by simpa using(hc 0 Aaa).1,by simpa using(hc 1 Aaa).1,by simpa using(hc 2 Aaa).1⟩,⟨by simpa using(hc 0 Aaa).2,(hc 1 Aaa).2⟩,hi2⟩
theorem fU.below {w w':World} {a:Option Addr} {g:Nat} {I:Nat->Nat} {l:List Sn} (h:fU w a g I l) (hb:aG w w'):fU w' a g I l:=h.keeps (F:=[]) (aC.of_below hb) (λ_ _=>Aac) (λ_ _=>Aac)
theorem av3 {α:Type} {enc:α->List Value} {sz:Nat} {w:World} {a:Option Addr} {g:Nat} {l:List α} (h:GR.W enc sz w a g l):∀x∈fp g l,x < w.heap.size:=λx hx=>by
 rw [(dz hx).1];exact(h 0 (dz hx).2).2.1
theorem Pp (w:World) (a b:Obj):((w.alloc a).alloc b).heap[w.heap.size]?=some a/\((w.alloc a).alloc b).heap[w.heap.size+1]?=some b/\Below w.heap.size w ((w.alloc a).alloc b):=by
 exact ahK
open Go.WideShapes
open Go.ChangeShapes
theorem fA:prog.cellsOf 3=1:=Aab
theorem iP:prog.cellsOf 9=1:=Aab
section
variable {H:Type} {enc:TypeId×Value->H} {W:World}
theorem iY {α:Type} {en:α->List Value} {sz:Nat} {ok:α->Prop} {t e:TypeId} {fuel:Nat} {cs:List Value} {x:DataW H×List MemPlace} (ht:prog.underlying t=some (.slice e)) (hc:prog.cellsOf e=sz) (hsz:0 < sz) (hs:∀y,(en y).length=sz)
 (hel:∀fuel cs' x,cs'.length=sz->DataW.trod enc prog W 0 (λ_=>true) true fuel e cs'=some x->∃y,ok y/\cs'=en y)
 (h:DataW.trod enc prog W 0 (λ_=>true) true fuel t cs=some x):
 ∃(a:Option Addr) (cap:Nat) (l:List α),cs=[.slice a l.length cap]/\l.length<=maxLen/\(∀y∈l,ok y)/\GR.At en sz W a l:=by
 rcases Deep.open_slice ht h with⟨hcs,_⟩|⟨x,len,cap,m,n,D,Pl,hcs,_,hlc,hcm,hm,_,hcell⟩
 .exact⟨none,0,[],hcs,Aac,λp hp=>by simp at hp,λi hi=>Aau⟩
 .have hm':m=cap:=by rw [hm];simp
  have each:∀i,i < len->∃q:α,ok q/\∀j,j < sz->W.cell? (x.add (i*sz+j))=(en q)[j]?:=by
   intro i hi;obtain⟨cs',h1,h2⟩:=hcell i Aaa;rw [hc] at h1;obtain⟨_,hlen,hcc⟩:=World.cells?_some h1;obtain⟨y,hy,rfl⟩:=hel _ _ _ hlen h2;refine⟨y,hy,λj hj=>?_⟩;have e:=hcc j Aaa;rw [Deep.add_add] at e;exact e
  have hd:Nonempty α\/len=0:=by
   by_cases h0:len=0
   .exact .inr h0
   .obtain⟨q,_⟩:=each 0 Aaa;exact .inl ⟨q⟩
  rcases hd with d|d
  .obtain⟨q,hq⟩:∃q:Nat->α,∀i,i < len->ok (q i)/\∀j,j < sz->W.cell? (x.add (i*sz+j))=(en (q i))[j]?:=by
    exact⟨λi=>if hi:i < len then(each i hi).choose else Classical.choice d,λi hi=>by simp only[dif_pos hi];exact(each i hi).choose_spec⟩
   refine⟨some x,cap,(List.range len).map q,by rw [hcs];simp,Aae,λp hp=>?_,λi hi=>?_⟩
   .obtain⟨i,hi,rfl⟩:=aFS.1 hp;exact(hq i (aFA.1 hi)).1
   .have hi':i < len:=Aas
    obtain⟨b,off,spot⟩:=x;have h0:=(hq 0 Aaa).2 0 hsz;have hne:∃v,(en (q 0))[0]?=some v:=⟨_,aEB (by rw [hs];exact hsz)⟩;obtain⟨v0,hv0⟩:=hne;rw [hv0] at h0;have hspot:spot=none:=by simpa [Addr.add] using World.cell?_spot h0
    subst hspot;have h1:=(hq i hi').2;have ea:∀k:Nat,(⟨b,off,none⟩:Addr).add k=⟨b,off+k,none⟩:=λk=>by unfold Addr.add;split<;>simp_all
    have h3:=h1 0 hsz;rw [ea,aEB (by rw [hs];exact hsz)] at h3;refine⟨b,off,rfl,aFC _ _ h3,λj hj=>?_⟩;have h2:=h1 j hj;rw [ea] at h2;simpa using h2
  .subst d;exact⟨some x,cap,[],by rw [hcs];simp,Aac,λp hp=>by simp at hp,λi hi=>Aau⟩
theorem open_ints' {fuel:Nat} {cs:List Value} {x:DataW H×List MemPlace} (h:DataW.trod enc prog W 0 (λ_=>true) true fuel 22 cs=some x):
 ∃(a:Option Addr) (cap:Nat) (l:List Int),cs=[.slice a l.length cap]/\l.length<=maxLen/\aK W a l:=by
 obtain⟨a,cap,l,h1,h2,_,h4⟩:=iY (en:=aW) (sz:=1) (ok:=λ_=>True) underlying22 fA Aaa aU (λfuel cs' x _ h=>by
  obtain⟨n,q,_⟩:=aEP underlying3 h
  exact⟨n,trivial,q⟩) h
 exact⟨a,cap,l,h1,h2,h4⟩
theorem Nh {fuel:Nat} {cs:List Value} {x:DataW H×List MemPlace} (h:DataW.trod enc prog W 0 (λ_=>true) true fuel 74 cs=some x):
 ∃(a:Option Addr) (cap:Nat) (l:List Pu),cs=[.slice a l.length cap]/\l.length<=maxLen/\(∀y∈l,y.k.size<=maxLen)/\aH W a l:=
 iY (en:=fO) (sz:=4) (ok:=λy=>y.k.size<=maxLen) underlying74 Aab Aaa aP (λfuel cs' x hlen h=>by
  obtain⟨xs,k,_,_,_,hxl,hfl⟩:=aFc underlying207 h
  match xs,hxl,cs',hlen with
  |[y0,y1,y2,y3],_,[v0,v1,v2,v3],_=>
   have g0:=hfl 0 _ rfl
   have g1:=hfl 1 _ rfl
   have g2:=hfl 2 _ rfl
   have g3:=hfl 3 _ rfl
   simp[fA,iP] at g0 g1 g2 g3
   obtain⟨s0,q0,_,hs0⟩:=aFJ underlying9 g0
   obtain⟨n1,q1,_⟩:=aEP underlying3 g1
   obtain⟨n2,q2,_⟩:=aEP underlying3 g2
   obtain⟨n3,q3,_⟩:=aEP underlying3 g3
   simp at q0 q1 q2 q3
   subst q0 q1 q2 q3
   exact⟨⟨s0,n1,n2,n3⟩,hs0,rfl⟩) h
theorem UW {fuel:Nat} {cs:List Value} {x:DataW H×List MemPlace} (h:DataW.trod enc prog W 0 (λ_=>true) true fuel 75 cs=some x):
 ∃(a:Option Addr) (cap:Nat) (l:List jI),cs=[.slice a l.length cap]/\l.length<=maxLen/\(∀y∈l,y.k.size<=maxLen)/\SentAt W a l:=
 iY (en:=aN) (sz:=4) (ok:=λy=>y.k.size<=maxLen) underlying75 Aab Aaa aX (λfuel cs' x hlen h=>by
  obtain⟨xs,k,_,_,_,hxl,hfl⟩:=aFc underlying209 h
  match xs,hxl,cs',hlen with
  |[y0,y1,y2,y3],_,[v0,v1,v2,v3],_=>
   have g0:=hfl 0 _ rfl
   have g1:=hfl 1 _ rfl
   have g2:=hfl 2 _ rfl
   have g3:=hfl 3 _ rfl
   simp[fA,iP] at g0 g1 g2 g3
   obtain⟨n0,q0,_⟩:=aEP underlying3 g0
   obtain⟨n1,q1,_⟩:=aEP underlying3 g1
   obtain⟨s2,q2,_,hs2⟩:=aFJ underlying9 g2
   obtain⟨n3,q3,_⟩:=aEP underlying3 g3
   simp at q0 q1 q2 q3
   subst q0 q1 q2 q3
   exact⟨⟨n0,n1,s2,n3⟩,hs2,rfl⟩) h
theorem YZ {fuel:Nat} {cs:List Value} {x:DataW H×List MemPlace} (h:DataW.trod enc prog W 0 (λ_=>true) true fuel 77 cs=some x):
 ∃(a:Option Addr) (cap:Nat) (l:List Rq),cs=[.slice a l.length cap]/\l.length<=maxLen/\(∀y∈l,y.k.size<=maxLen)/\fJ W a l:=
 iY (en:=aM) (sz:=4) (ok:=λy=>y.k.size<=maxLen) underlying77 Aab Aaa bQ (λfuel cs' x hlen h=>by
  obtain⟨xs,k,_,_,_,hxl,hfl⟩:=aFc underlying213 h
  match xs,hxl,cs',hlen with
  |[y0,y1,y2,y3],_,[v0,v1,v2,v3],_=>
   have g0:=hfl 0 _ rfl
   have g1:=hfl 1 _ rfl
   have g2:=hfl 2 _ rfl
   have g3:=hfl 3 _ rfl
   simp[fA,iP] at g0 g1 g2 g3
   obtain⟨n0,q0,_⟩:=aEP underlying3 g0
   obtain⟨s1,q1,_,hs1⟩:=aFJ underlying9 g1
   obtain⟨n2,q2,_⟩:=aEP underlying3 g2
   obtain⟨n3,q3,_⟩:=aEP underlying3 g3
   simp at q0 q1 q2 q3
   subst q0 q1 q2 q3
   exact⟨⟨n0,s1,n2,n3⟩,hs1,rfl⟩) h
theorem yT:prog.cellsOf 22=1:=Aab
theorem Y6 {fuel:Nat} {cs:List Value} {x:DataW H×List MemPlace} (h:DataW.trod enc prog W 0 (λ_=>true) true fuel 76 cs=some x):
 ∃(a:Option Addr) (cap:Nat) (l:List Sn),cs=[.slice a l.length cap]/\l.length<=maxLen/\(∀y∈l,y.ids.length<=maxLen)/\gT W a l:=by
 obtain⟨a,cap,l,h1,h2,h3,h4⟩:=iY (en:=eF) (sz:=3) (ok:=λy=>∃b c,∃ids:List Int,y.v= .slice b ids.length c/\ids.length<=maxLen/\aK W b ids) underlying76 Aab Aaa bf (λfuel cs' x hlen h=>by
  obtain⟨xs,k,_,_,_,hxl,hfl⟩:=aFc underlying211 h
  match xs,hxl,cs',hlen with
  |[y0,y1,y2],_,[v0,v1,v2],_=>
   have g0:=hfl 0 _ rfl
   have g1:=hfl 1 _ rfl
   have g2:=hfl 2 _ rfl
   simp[fA,yT] at g0 g1 g2
   obtain⟨n0,q0,_⟩:=aEP underlying3 g0
   obtain⟨n1,q1,_⟩:=aEP underlying3 g1
   obtain⟨b,c,ids,q2,hi1,hi2⟩:=open_ints' g2
   simp at q0 q1 q2
   subst q0 q1 q2
   exact⟨⟨n0,n1,.slice b ids.length c⟩,⟨b,c,ids,rfl,hi1,hi2⟩,rfl⟩) h
 have hex:∀y:R3,∃s:Sn,y∈l->(s.f=y.f/\s.l=y.l/\∃b c,y.v= .slice b s.ids.length c/\s.ids.length<=maxLen/\aK W b s.ids):=λy=>by
  by_cases hy:y∈l
  .obtain⟨b,c,ids,e1,e2,e3⟩:=h3 y hy;exact⟨⟨y.f,y.l,ids⟩,λ_=>⟨rfl,rfl,b,c,e1,e2,e3⟩⟩
  .exact⟨default,λh=>absurd h hy⟩
 refine⟨a,cap,l.map (λy=>(hex y).choose),by rw [h1];simp,Abm,?_,?_⟩
 .intro s hs;obtain⟨y,hy,rfl⟩:=aFS.1 hs;obtain⟨_,_,b,c,_,e2,_⟩:=(hex y).choose_spec hy;exact e2
 .intro i hi;have hi':i < l.length:=Aas
  obtain⟨g,off,e,hg,hc⟩:=h4 i hi';have hsp:=(hex l[i]).choose_spec (aEL hi');have hge:(l.map (λy=>(hex y).choose))[i]=(hex l[i]).choose:=Aac
  rw [hge];obtain⟨s1,s2,b,c,e1,e2,e3⟩:=hsp;refine⟨g,off,b,c,e,hg,?_,?_,?_,e3⟩
  .rw [s1];simpa using hc 0 Aaa
  .rw [s2];simpa [aE5] using hc 1 Aaa
  .rw [<-e1];simpa [aE5] using hc 2 Aaa
theorem afF:prog.cellsOf 79=9:=Aab
theorem ayL:prog.cellsOf 74=1:=Aab
theorem ayM:prog.cellsOf 75=1:=Aab
theorem ayN:prog.cellsOf 76=1:=Aab
theorem ayO:prog.cellsOf 77=1:=Aab
end
end Go.Proofs.YtfachhcijcjbpaaGreatDoor
