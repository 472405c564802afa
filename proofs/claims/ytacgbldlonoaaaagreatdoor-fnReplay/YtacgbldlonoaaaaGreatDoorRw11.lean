/- Parts. -/
import Derived.Test.YtacgbldlonoaaaaGreatDoorRw8
import Derived.Test.YtacgbldlonoaaaaGreatDoorRw9
namespace Go.Proofs.YtacgbldlonoaaaaGreatDoor
open Go.Proofs.Tryz
set_option maxHeartbeats 8000000
open Go.RowKit
open Mth
variable {w w':World} {g i:Nat} {a:Option Addr} {l:List Sn} {t:TypeId} {I:Nat->Nat} {n:Nd} {v0 v1 v2 v:Value} {cs:Array Value}
abbrev dX (w:World) (a:Option Addr) (l:List Int):Prop:=GR.At aS 1 w a l
theorem dX.one {l:List Int} (h:dX w a l) (i:Nat) (hi:i < l.length):∃g off,a=some ⟨g,off,none⟩/\g < w.heap.size/\w.cell? ⟨g,off+i,none⟩=some (.int .i64 l[i]):=by
 obtain⟨g,off,e,hg,hc⟩:=h i hi;refine⟨g,off,e,hg,?_⟩;simpa using hc 0 Aaa
abbrev aBQ (w:World) (g:Nat) (l:List Int):Prop:=GR.Blk aS 3 w g l
theorem uG:(prog.info? 3).map (λi=>(i.zero,i.size,i.bytes))=some (some (.int .i64 0),1,8):=Aab
abbrev SentAt (w:World) (a:Option Addr) (l:List lJ):Prop:=GR.At aW 4 w a l
abbrev ae8 (p:lJ):Value:= .agg (fI p.i p.t p.k p.n)
theorem SentAt.four {l:List lJ} (h:SentAt w a l) (i:Nat) (hi:i < l.length):∃g off,a=some ⟨g,off,none⟩/\g < w.heap.size/\w.cell? ⟨g,off+i*4,none⟩=some (.int .i64 l[i].i)/\w.cell? ⟨g,off+i*4+1,none⟩=some (.int .i64 l[i].t)/\w.cell? ⟨g,off+i*4+2,none⟩=some (.string l[i].k)/\w.cell? ⟨g,off+i*4+3,none⟩=some (.int .i64 l[i].n):=by
 exact ai8
abbrev ayE (w:World) (g:Nat) (l:List lJ):Prop:=GR.Blk aW 95 w g l
theorem PN:(prog.info? 95).map (λi=>(i.zero,i.size,i.bytes))=some (some (.agg (fI 0 0 ByteArray.empty 0)),4,40):=Aab
abbrev jf (w:World) (a:Option Addr) (l:List Rq):Prop:=GR.At aN 4 w a l
theorem jf.four {l:List Rq} (h:jf w a l) (i:Nat) (hi:i < l.length):∃g off,a=some ⟨g,off,none⟩/\g < w.heap.size/\w.cell? ⟨g,off+i*4,none⟩=some (.int .i64 l[i].no)/\w.cell? ⟨g,off+i*4+1,none⟩=some (.string l[i].k)/\w.cell? ⟨g,off+i*4+2,none⟩=some (.int .i64 l[i].n)/\w.cell? ⟨g,off+i*4+3,none⟩=some (.int .i64 l[i].s):=by
 exact ai8
abbrev aze (w:World) (g:Nat) (l:List Rq):Prop:=GR.Blk aN 97 w g l
theorem wS:(prog.info? 97).map (λi=>(i.zero,i.size,i.bytes))=some (some (.agg (eG 0 ByteArray.empty 0 0)),4,40):=Aab
def mW (w:World) (a:Option Addr) (l:List Sn):Prop:=∀i (hi:i < l.length),∃g off b c,a=some ⟨g,off,none⟩/\g < w.heap.size/\w.cell? ⟨g,off+i*3,none⟩=some (.int .i64 l[i].f)/\w.cell? ⟨g,off+i*3+1,none⟩=some (.int .i64 l[i].l)/\w.cell? ⟨g,off+i*3+2,none⟩=some (.slice b l[i].ids.length c)/\dX w b l[i].ids
theorem mW.below (h:mW w a l) (hb:Below w.heap.size w w'):mW w' a l:=λi hi=>by
 obtain⟨g,off,b,c,e,hg,h0,h1,h2,h3⟩:=h i hi;exact⟨g,off,b,c,e,Nat.lt_of_lt_of_le hg hb.size,(hb.cell (p:=⟨g,off+i*3,none⟩) hg).trans h0,(hb.cell (p:=⟨g,off+i*3+1,none⟩) hg).trans h1,(hb.cell (p:=⟨g,off+i*3+2,none⟩) hg).trans h2,GR.At.below h3 hb⟩
structure bC where
 k:Option Addr
 p:Option Addr
 o:Option Addr
 s:Option Addr
 r:Option Addr
 ck:Nat
 cp:Nat
 co:Nat
 cs:Nat
 cr:Nat
abbrev gH (i p:Int) (k:Option Addr) (k1 k2:Nat) (x:Int) (a:Option Addr) (a1 a2:Nat) (b:Option Addr) (b1 b2:Nat) (c:Option Addr) (c1 c2:Nat) (o:Int) (r:Option Addr) (r1 r2:Nat):Array Value:=#[.int .i64 i,.int .i64 p,.slice k k1 k2,.int .i64 x,.slice a a1 a2,.slice b b1 b2,.slice c c1 c2,.int .i64 o,.slice r r1 r2]
abbrev dD (n:Nd) (A:bC):Array Value:=#[.int .i64 n.id,.int .i64 n.par,.slice A.k n.kids.length A.ck,.int .i64 n.next,.slice A.p n.pu.length A.cp,.slice A.o n.out.length A.co,.slice A.s n.seen.length A.cs,.int .i64 n.old,.slice A.r n.reqs.length A.cr]
abbrev fT (n:Nd) (A:bC):Value:= .agg (dD n A)
structure bQ (w:World) (A:bC) (n:Nd):Prop where
 k:dX w A.k n.kids
 p:aI w A.p n.pu
 o:SentAt w A.o n.out
 s:mW w A.s n.seen
 r:jf w A.r n.reqs
theorem bQ.below {A:bC} (h:bQ w A n) (hb:Below w.heap.size w w'):bQ w' A n:=
 ⟨GR.At.below h.k hb,GR.At.below h.p hb,GR.At.below h.o hb,h.s.below hb,GR.At.below h.r hb⟩
structure eY (n:Nd) (b:Nat):Prop where
 k:n.kids.length<=b
 p:n.pu.length<=b
 o:n.out.length<=b
 s:n.seen.length<=b
 r:n.reqs.length<=b
 pk:∀x∈n.pu,x.k.size<=b
 ok:∀x∈n.out,x.k.size<=b
 sk:∀x∈n.seen,x.ids.length<=b
 rk:∀x∈n.reqs,x.k.size<=b
theorem eY.mono {a b:Nat} (h:eY n a) (hab:a<=b):eY n b:=
 ⟨Nat.le_trans h.k hab,Nat.le_trans h.p hab,Nat.le_trans h.o hab,Nat.le_trans h.s hab,Nat.le_trans h.r hab,λx hx=>Nat.le_trans (h.pk x hx) hab,λx hx=>Nat.le_trans (h.ok x hx) hab,λx hx=>Nat.le_trans (h.sk x hx) hab,λx hx=>Nat.le_trans (h.rk x hx) hab⟩
theorem ay {o:Obj} (h:w.heap[g]?=some o) (hb:Below w.heap.size w w'):w'.heap[g]?=some o:=by
 rw [hb.block g (aA h)];exact h
theorem nine {v3 v4 v5 v6 v7 v8:Value} (h:w.heap[g]?=some (.cells #[v0,v1,v2,v3,v4,v5,v6,v7,v8] t (0,0))):
 w.cell? ⟨g,0,none⟩=some v0/\w.cell? ⟨g,1,none⟩=some v1/\w.cell? ⟨g,2,none⟩=some v2/\w.cell? ⟨g,3,none⟩=some v3/\w.cell? ⟨g,4,none⟩=some v4/\w.cell? ⟨g,5,none⟩=some v5/\w.cell? ⟨g,6,none⟩=some v6/\w.cell? ⟨g,7,none⟩=some v7/\w.cell? ⟨g,8,none⟩=some v8:=by
 have hc:∀i,w.cell? ⟨g,i,none⟩=#[v0,v1,v2,v3,v4,v5,v6,v7,v8][i]?:=λi=>cell_of_row w g i _ t (0,0) h
 exact⟨hc 0,hc 1,hc 2,hc 3,hc 4,hc 5,hc 6,hc 7,hc 8⟩
theorem aj (h:w.heap[g]?=some (.cells cs t (0,0))) (i:Nat):w.frozen? ⟨g,i,none⟩=false:=by
 unfold World.frozen?;rw [h];simp
structure R3 where
 f:Int
 l:Int
 v:Value
abbrev eP (x:R3):List Value:=[.int .i64 x.f,.int .i64 x.l,x.v]
theorem eF (x:R3):(eP x).length=3:=rfl
def adG (w:World) (l:List Sn) (T:List R3) (I:Nat->Nat):Prop:=T.length=l.length/\∀i (hi:i < l.length),∃b c,T[i]?=some ⟨l[i].f,l[i].l,.slice b l[i].ids.length c⟩/\GR.W aS 1 w b (I i) l[i].ids
def jw (w:World) (a:Option Addr) (g:Nat) (I:Nat->Nat) (l:List Sn):Prop:=∃T,GR.W eP 3 w a g T/\adG w l T I
theorem jw.at (h:jw w a g I l):mW w a l:=λi hi=>by
 obtain⟨T,hT,hl,hr⟩:=h;obtain⟨b,c,ht,hi2⟩:=hr i hi;obtain⟨e,hg,hc⟩:=hT i Aaa
 have hti:T[i]' Aaa=⟨l[i].f,l[i].l,.slice b l[i].ids.length c⟩:=by
  have:=List.getElem?_eq_getElem (l:=T) (i:=i) Aaa;rw [this] at ht;exact Option.some.inj ht
 rw [hti] at hc;refine⟨g,0,b,c,e,hg,?_,?_,?_,hi2.at⟩
 .have:=(hc 0 Aaa).1;simpa using this
 .have:=(hc 1 Aaa).1;simpa using this
 .have:=(hc 2 Aaa).1;simpa using this
def vR (I:Nat->Nat) (l:List Sn):List Nat:=(List.range l.length).flatMap λi=>fp (I i) (l.getD i default).ids
theorem jH (hi:i < l.length):∀x∈fp (I i) l[i].ids,x∈vR I l:=by
 intro x hx;unfold vR;rw [List.mem_flatMap];refine⟨i,List.mem_range.2 hi,?_⟩;rw [List.getD_eq_getElem?_getD,List.getElem?_eq_getElem hi];exact hx
theorem uO {x:Nat} (h:x∈vR I l):∃i,∃hi:i < l.length,x=I i/\0 < l[i].ids.length:=by
 unfold vR at h;rw [List.mem_flatMap] at h;obtain⟨i,hi,hx⟩:=h;have hi':=List.mem_range.1 hi;rw [List.getD_eq_getElem?_getD,List.getElem?_eq_getElem hi'] at hx;exact⟨i,hi',gV hx⟩
structure bJ where
 k:Nat
 p:Nat
 o:Nat
 s:Nat
 r:Nat
 i:Nat->Nat
def bJ.all (G:bJ) (n:Nd):List Nat:=fp G.k n.kids++(fp G.p n.pu++(fp G.o n.out++(fp G.s n.seen++(vR G.i n.seen++fp G.r n.reqs))))
structure aB0 (w:World) (A:bC) (G:bJ) (n:Nd):Prop where
 k:GR.W aS 1 w A.k G.k n.kids
 p:GR.W fH 4 w A.p G.p n.pu
 o:GR.W aW 4 w A.o G.o n.out
 s:jw w A.s G.s G.i n.seen
 r:GR.W aN 4 w A.r G.r n.reqs
structure bJ.Sep (G:bJ) (n:Nd) (lo hi:Nat):Prop where
 nodup:(G.all n).Nodup
 rng:∀x∈G.all n,lo<=x/\x < hi
set_option maxRecDepth 100000
theorem Mth.has_snoc (l:List Int) (x:Int) (k:Nat) (h:k < l.length):hasB (l.take (k+1)) x=(hasB (l.take k) x||decide (l[k]=x)):=by
 unfold hasB;rw [List.take_succ_eq_append_getElem h,List.any_append];simp
theorem Mth.has_yes (l:List Int) (x:Int) (k:Nat) (h:k < l.length) (hx:l[k]=x):hasB l x=true:=by
 unfold hasB;rw [List.any_eq_true];exact⟨l[k],List.getElem_mem h,Aax⟩
theorem VR (a:Option Addr) (cap:Nat) (l:List Int) (x:Int) (w:World) (hl:l.length<=1048600) (ha:dX w a l):
 Calls prog 124 #[.slice a l.length cap,.int .i64 x] w λe w'=>e= .returned (.bool (hasB l x))/\w=w':=by
 have HA:=Hq ha;clear ha;go_in
 go_wp2_with fail;go_loop [5] (λi=>∃k:Nat,k<=l.length/\i= .int .i64 k/\hasB (l.take k) x=false) (λi=>l.length - (intOf i).toNat)
 case atStart=>exact⟨0,Nat.zero_le _,rfl,rfl⟩
 case round=>
  obtain⟨k,hk,rfl,hno⟩:=hrel;have HN:=Hq hno;clear hno;by_cases hlt:k < l.length
  .obtain⟨g,off,rfl,hgw,q0⟩:=dX.one HA k hlt;by_cases hx:l[k]=x
   .have HY:=Hq (has_yes l x k hlt hx);rw [hx] at q0;clear hx;go_wp2_with fail;go_ret;exact⟨aD HY.symm,rfl⟩
   .have HS:=Hq (has_snoc l x k hlt);rw [decide_eq_false hx] at HS;exact ag1
  .open anX in exact Hu
theorem AO (n:Nd) (A:bC) (x:Int) (w:World) (hl:n.kids.length<=1048600) (ha:dX w A.k n.kids):
 Calls prog 47 #[fT n A,.int .i64 x] w (fF w (.bool (dV n x))):=by
 have HH:=Hq (VR A.k A.ck n.kids x (w.alloc (.cells (dD n A) 30)) hl (GR.At.below ha (au w _)));clear ha;by_cases h0:0<=x
 .by_cases h1:x=n.par
  .have HN:=Hq (show dV n x=true by unfold dV;rw [decide_eq_true h0,decide_eq_true h1];rfl);have h2:(x == n.par)=true:=Abf
   clear h1;go_in
   go_wp2_with fail;exact aaA
  .have HN:=Hq (show dV n x=hasB n.kids x by simp[dV,h1]);have h2:(x == n.par)=false:=Abf
   clear h1;exact ahq
 .have HN:=Hq (show dV n x=hasB n.kids x by simp[dV,h0]);exact ahq
theorem nS (x:Int) (b:Bool) (hb:rZ x=b) (W:World) (n:Nat):Calls prog 134 #[.int .i64 x] (W.drewN n) λe w''=>e= .returned (.bool b)/\∃m,w''=W.drewN m:=
 (lW x b _ hb).mono λ_ _ ⟨he,hw⟩=>⟨he,n,hw.symm⟩
theorem Mth.place_head {n:Nd} (h:(rZ n.id&&decide (-1<=n.par/\n.par<=29)&&decide (n.par≠n.id)&&decide (n.kids.length<=30))=false):dH n=false:=by
 unfold dH;rw [h];rfl
theorem Mth.place_tail {n:Nd} (h1:rZ n.id=true) (h2: -1<=n.par/\n.par<=29) (h3:n.par≠n.id) (h4:n.kids.length<=30):dH n=iB (jN n.id n.par) iQ n.kids:=by
 unfold dH;rw [h1,decide_eq_true h2,decide_eq_true h3,decide_eq_true h4];rfl
theorem Yw (n:Nd) (A:bC) (w:World) (hl:n.kids.length<=1048600) (ha:dX w A.k n.kids):
 Calls prog 58 #[fT n A] w (fF w (.bool (dH n))):=by
 have HA:=Hq ha;have HD:=Hq (@place_head n);have Hl:=Hq (@place_tail n);have xG:=Hq (λk h=>qd (jN n.id n.par) iQ n.kids k h);have Dt:=Hq (sG (jN n.id n.par) iQ n.kids);have Ee:=Hq (vV (jN n.id n.par) iQ n.kids);clear ha;open aoK in exact yc
theorem cell_grown' {a:Addr} (h:w.cell? a=some v):∀d os,(Sort.grow (redrawn w d) os).cell? a=some v:=λd os=>cell_regrown h d os
theorem aij (n:Nd) (A:bC) (x:Int) (b:Bool) (wc:World) (hl:n.kids.length<=1048600) (ha:dX wc A.k n.kids) (hb:dV n x=b):∀d os,Calls prog 47 #[fT n A,.int .i64 x] (Sort.grow (redrawn wc d) os) λe w''=>e= .returned (.bool b)/\∃p:Regrown,w''=Sort.grow (redrawn wc p.d) p.os:=λd os=>by
 rw [<-hb];exact Calls.regrown_of (AO n A x _ hl (GR.At.below ha (below_regrown wc d os)))
theorem Kg (x:Int) (b:Bool) (wc:World) (hb:fV x=b):∀d os,Calls prog 61 #[.int .i64 x] (Sort.grow (redrawn wc d) os) λe w''=>e= .returned (.bool b)/\∃p:Regrown,w''=Sort.grow (redrawn wc p.d) p.os:=λ_ _=>
 Calls.regrown_of ((eU x b _ hb).mono λ_ _ ⟨he,hw⟩=>⟨he,hw▸Below.refl _ _⟩)
theorem qIn (x a b:Int) (r:Bool) (hb:decide (a<=x/\x<=b)=r) (W:World) (n:Nat):Calls prog 63 #[.int .i64 x,.int .i64 a,.int .i64 b] (W.drewN n) λe w''=>e= .returned (.bool r)/\∃m,w''=W.drewN m:=
 (uI x a b r _ hb).mono λ_ _ ⟨he,hw⟩=>⟨he,n,hw.symm⟩
theorem three (h:w.heap[g]?=some (.cells #[v0,v1,v2] t (0,0))):
 w.cell? ⟨g,0,none⟩=some v0/\w.cell? ⟨g,1,none⟩=some v1/\w.cell? ⟨g,2,none⟩=some v2:=by
 have hc:∀i,w.cell? ⟨g,i,none⟩=#[v0,v1,v2][i]?:=λi=>cell_of_row w g i _ t (0,0) h
 exact⟨hc 0,hc 1,hc 2⟩
theorem acU (n:Nd) (A:bC) (w:World) (hl:n.kids.length<=1048600) (hl2:n.seen.length<=1048600) (hl3:∀s∈n.seen,s.ids.length<=1048600) (ha:dX w A.k n.kids) (hs:mW w A.s n.seen):
 Calls prog 60 #[fT n A] w (fF w (.bool (pJ n))):=by
 have HA:=Hq ha;have HS:=Hq hs;have UK:=Hq hl3;have HD:Hid (pJ n=(decide ((n.seen.length:Int)=n.kids.length+(if 0<=n.par then 1 else 0))&&iB (λs=>dV n s.f&&vO s) (λs t=>iQ s.f t.f) n.seen)):=rfl;have xG:=Hq (λk h=>qd (λs=>dV n s.f&&vO s) (λs t=>iQ s.f t.f) n.seen k h);have Dt:=Hq (sG (λs=>dV n s.f&&vO s) (λs t=>iQ s.f t.f) n.seen);have Ee:=Hq (vV (λs=>dV n s.f&&vO s) (λs t=>iQ s.f t.f) n.seen);have Nu:=Hq (λx b wc (ha:dX wc A.k n.kids) (hb:dV n x=b)=>aij n A x b wc hl ha hb);have lU:=Hq (heap_alloc_new w (.cells (dD n A) 30));clear ha hs hl3;generalize hpp:(λs=>dV n s.f&&vO s)=PP at *;have HPP:Hid (∀s,PP s=(dV n s.f&&vO s)):=by intro s;rw [<-hpp]
 clear hpp;generalize hrr:(λs t:Sn=>iQ s.f t.f)=RR at *;have HRR:Hid (∀s t,RR s t=iQ s.f t.f):=by intro s t;rw [<-hrr]
 clear hrr;generalize hnn:dV n=NN at *;clear hnn;generalize htt:pJ n=TT at *;clear htt;open aoL in exact yc
theorem FJ:(prog.info? 90).map (λi=>(i.zero,i.size,i.bytes))=some (some (.agg #[.int .i64 0,.int .i64 0,.slice none 0 0]),3,40):=Aab
theorem aT {c:Nat} (h:w.heap[c]?=some (.cells cs t (0,0))) (i:Nat) (v:Value):(w.setCell ⟨c,i,none⟩ v).heap[c]?=some (.cells (cs.setIfInBounds i v) t (0,0)):=by
 exact WG
theorem oC {g':Nat} {o:Option Obj} (h:w.heap[g']?=o) (hne:g'≠g):(w.setCell ⟨g,i,none⟩ v).heap[g']?=o:=by rw [Below.heap_setCell _ _ _ _ hne,h]
theorem K7 (w:World) (a b c:Obj):(((w.alloc a).alloc b).alloc c).heap[w.heap.size]?=some a/\(((w.alloc a).alloc b).alloc c).heap[w.heap.size+1]?=some b/\(((w.alloc a).alloc b).alloc c).heap[w.heap.size+1+1]?=some c/\Below w.heap.size w (((w.alloc a).alloc b).alloc c):=by
 have e1:(w.alloc a).heap.size=w.heap.size+1:=Aac
 have e2:((w.alloc a).alloc b).heap.size=w.heap.size+1+1:=Aac
 have h1:=heap_alloc_new w a;have h2:=heap_alloc_new (w.alloc a) b;have h3:=heap_alloc_new ((w.alloc a).alloc b) c;rw [e1] at h2;rw [e2] at h3;refine⟨?_,?_,h3,((au w _).alloc Aac _).alloc Aaf _⟩
 .rw [Below.heap_alloc _ _ _ (by rw [e2];omega),Below.heap_alloc _ _ _ (by rw [e1];omega)];exact h1
 .rw [Below.heap_alloc _ _ _ (by rw [e2];omega)];exact h2
theorem aO {P:Program} {fn:Func} {Q:Ending->World->Prop} {x:Exit} {act:Act} {W:World} (h:∀W',W'=W->bodyPost P fn Q x act W'):bodyPost P fn Q x act W:=h W rfl
abbrev aB8 (w:World) (g:Nat) (T:List R3):Prop:=GR.Blk eP 90 w g T
theorem Ae {a0 a1 a2 a3 a4 a5 a6 a7 a8 b0 b1 b2 b3 b4 b5 b6 b7 b8:Value} (h:w.heap[g]?=some (.cells #[a0,a1,a2,a3,a4,a5,a6,a7,a8] t (0,0))):
 (((((((((w.setCell ⟨g,0,none⟩ b0).setCell ⟨g,1,none⟩ b1).setCell ⟨g,2,none⟩ b2).setCell ⟨g,3,none⟩ b3).setCell ⟨g,4,none⟩ b4).setCell ⟨g,5,none⟩ b5).setCell ⟨g,6,none⟩ b6).setCell ⟨g,7,none⟩ b7).setCell ⟨g,8,none⟩ b8).heap[g]?=some (.cells #[b0,b1,b2,b3,b4,b5,b6,b7,b8] t (0,0)):=by
 have h0:(w.setCell ⟨g,0,none⟩ b0).heap[g]?=some (.cells #[b0,a1,a2,a3,a4,a5,a6,a7,a8] t (0,0)):=aT h 0 b0;have h1:((w.setCell ⟨g,0,none⟩ b0).setCell ⟨g,1,none⟩ b1).heap[g]?=some (.cells #[b0,b1,a2,a3,a4,a5,a6,a7,a8] t (0,0)):=aT h0 1 b1;have h2:(((w.setCell ⟨g,0,none⟩ b0).setCell ⟨g,1,none⟩ b1).setCell ⟨g,2,none⟩ b2).heap[g]?=some (.cells #[b0,b1,b2,a3,a4,a5,a6,a7,a8] t (0,0)):=aT h1 2 b2;have h3:((((w.setCell ⟨g,0,none⟩ b0).setCell ⟨g,1,none⟩ b1).setCell ⟨g,2,none⟩ b2).setCell ⟨g,3,none⟩ b3).heap[g]?=some (.cells #[b0,b1,b2,b3,a4,a5,a6,a7,a8] t (0,0)):=aT h2 3 b3;have h4:(((((w.setCell ⟨g,0,none⟩ b0).setCell ⟨g,1,none⟩ b1).setCell ⟨g,2,none⟩ b2).setCell ⟨g,3,none⟩ b3).setCell ⟨g,4,none⟩ b4).heap[g]?=some (.cells #[b0,b1,b2,b3,b4,a5,a6,a7,a8] t (0,0)):=aT h3 4 b4;have h5:((((((w.setCell ⟨g,0,none⟩ b0).setCell ⟨g,1,none⟩ b1).setCell ⟨g,2,none⟩ b2).setCell ⟨g,3,none⟩ b3).setCell ⟨g,4,none⟩ b4).setCell ⟨g,5,none⟩ b5).heap[g]?=some (.cells #[b0,b1,b2,b3,b4,b5,a6,a7,a8] t (0,0)):=aT h4 5 b5;have h6:(((((((w.setCell ⟨g,0,none⟩ b0).setCell ⟨g,1,none⟩ b1).setCell ⟨g,2,none⟩ b2).setCell ⟨g,3,none⟩ b3).setCell ⟨g,4,none⟩ b4).setCell ⟨g,5,none⟩ b5).setCell ⟨g,6,none⟩ b6).heap[g]?=some (.cells #[b0,b1,b2,b3,b4,b5,b6,a7,a8] t (0,0)):=aT h5 6 b6;have h7:((((((((w.setCell ⟨g,0,none⟩ b0).setCell ⟨g,1,none⟩ b1).setCell ⟨g,2,none⟩ b2).setCell ⟨g,3,none⟩ b3).setCell ⟨g,4,none⟩ b4).setCell ⟨g,5,none⟩ b5).setCell ⟨g,6,none⟩ b6).setCell ⟨g,7,none⟩ b7).heap[g]?=some (.cells #[b0,b1,b2,b3,b4,b5,b6,b7,a8] t (0,0)):=aT h6 7 b7;have h8:(((((((((w.setCell ⟨g,0,none⟩ b0).setCell ⟨g,1,none⟩ b1).setCell ⟨g,2,none⟩ b2).setCell ⟨g,3,none⟩ b3).setCell ⟨g,4,none⟩ b4).setCell ⟨g,5,none⟩ b5).setCell ⟨g,6,none⟩ b6).setCell ⟨g,7,none⟩ b7).setCell ⟨g,8,none⟩ b8).heap[g]?=some (.cells #[b0,b1,b2,b3,b4,b5,b6,b7,b8] t (0,0)):=aT h7 8 b8;exact h8
theorem uN {b0 b1 b2 b3 b4 b5 b6 b7 b8:Value}:aC [g] w (((((((((w.setCell ⟨g,0,none⟩ b0).setCell ⟨g,1,none⟩ b1).setCell ⟨g,2,none⟩ b2).setCell ⟨g,3,none⟩ b3).setCell ⟨g,4,none⟩ b4).setCell ⟨g,5,none⟩ b5).setCell ⟨g,6,none⟩ b6).setCell ⟨g,7,none⟩ b7).setCell ⟨g,8,none⟩ b8):=
 ((((((((aC.set b0).trans (aC.set b1)).trans (aC.set b2)).trans (aC.set b3)).trans (aC.set b4)).trans (aC.set b5)).trans (aC.set b6)).trans (aC.set b7)).trans (aC.set b8)
structure TN (w W:World) (P R O:Obj) (rows:List (Nat×Obj)):Prop where
 par:W.heap[w.heap.size]?=some P
 res:W.heap[w.heap.size+1]?=some R
 out:W.heap[w.heap.size+1+1]?=some O
 rows:∀x∈rows,w.heap.size+1+1 < x.1/\W.heap[x.1]?=some x.2
 bel:aY w W
theorem GR.W.fourReq {l:List Rq} (h:GR.W aN 4 w a g l) (i:Nat) (hi:i < l.length):a=some ⟨g,0,none⟩/\g < w.heap.size/\(w.cell? ⟨g,i*4,none⟩=some (.int .i64 l[i].no)/\w.cell? ⟨g,i*4+1,none⟩=some (.string l[i].k)/\w.cell? ⟨g,i*4+2,none⟩=some (.int .i64 l[i].n)/\w.cell? ⟨g,i*4+3,none⟩=some (.int .i64 l[i].s))/\w.frozen? ⟨g,i*4,none⟩=false/\w.frozen? ⟨g,i*4+1,none⟩=false/\w.frozen? ⟨g,i*4+2,none⟩=false/\w.frozen? ⟨g,i*4+3,none⟩=false:=by
 exact axB
theorem jw.three (h:jw w a g I l) (i:Nat) (hi:i < l.length):∃b c,a=some ⟨g,0,none⟩/\g < w.heap.size/\(w.cell? ⟨g,i*3,none⟩=some (.int .i64 l[i].f)/\w.cell? ⟨g,i*3+1,none⟩=some (.int .i64 l[i].l)/\w.cell? ⟨g,i*3+2,none⟩=some (.slice b l[i].ids.length c))/\(w.frozen? ⟨g,i*3,none⟩=false/\w.frozen? ⟨g,i*3+1,none⟩=false)/\GR.W aS 1 w b (I i) l[i].ids:=by
 obtain⟨T,hT,hl,hr⟩:=h;obtain⟨b,c,ht,hi2⟩:=hr i hi;have hkT:i < T.length:=Aaa
 obtain⟨e,hg,hc⟩:=hT i hkT;rw [List.getElem?_eq_getElem hkT] at ht;rw [Option.some.inj ht] at hc;exact⟨b,c,e,hg,⟨by simpa using(hc 0 Aaa).1,by simpa using(hc 1 Aaa).1,by simpa using(hc 2 Aaa).1⟩,⟨by simpa using(hc 0 Aaa).2,(hc 1 Aaa).2⟩,hi2⟩
theorem Si {α:Type} {enc:α->List Value} {sz:Nat} {l:List α} (h:GR.W enc sz w a g l):∀x∈fp g l,x < w.heap.size:=λx hx=>by
 rw [(gV hx).1];exact(h 0 (gV hx).2).2.1
end Go.Proofs.YtacgbldlonoaaaaGreatDoor
