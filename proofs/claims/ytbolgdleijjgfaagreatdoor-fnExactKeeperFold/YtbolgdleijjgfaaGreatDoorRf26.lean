/- Parts. -/
import Derived.Test.YtbolgdleijjgfaaGreatDoorRf24
import Derived.Test.YtbolgdleijjgfaaGreatDoorRf20
import Derived.Test.YtbolgdleijjgfaaGreatDoorRf21
namespace Go.Proofs.YtbolgdleijjgfaaGreatDoor
open Go.Proofs.Tryz
open Go.RowKit
open Mth
variable {c I c':Nat->Nat} {n:Nd} {A:bq} {k B g x sz wb j gk gs Bo Br B':Nat} {w' w0 X:World} {G:aN} {a b:Option Addr} {v:Value} {l:List Sn} {L:List Mg} {ids:List Int} {α:Type} {enc:α->List Value} {e:TypeId} {xs:List Value} {F:List Nat}
structure KC (c:Nat->Nat) (k:Nat) (w w':World):Prop where
 os:w'.os=w.os
 tape:w'.tape=w.tape
 output:w'.output=w.output
 size:w.heap.size<=w'.heap.size
 block:∀x,x < w.heap.size->c x≠k->w'.heap[x]?=w.heap[x]?
theorem KC.of_below {w:World} (h:aH w w'):KC c k w w':=⟨h.os,h.tape,h.output,h.size,λx hx _=>h.block x hx⟩
theorem KC.trans {a b d:World} (h:KC c k a b) (h':KC c k b d):KC c k a d:=
 ⟨h'.os.trans h.os,h'.tape.trans h.tape,h'.output.trans h.output,aEU h.size h'.size,λx hx hc=>(h'.block x (aEZ hx h.size) hc).trans (h.block x hx hc)⟩
theorem KC.set {i:Nat} {w:World} (hc:c g=k):KC c k w (w.setCell ⟨g,i,none⟩ v):=
 ⟨rfl,rfl,rfl,Aaq,λx _ hx=>aFe _ _ _ _ (λe=>hx (by rw [e];exact hc))⟩
theorem KC.keeps {w:World} (h:aA F w w') (hF:∀x∈F,c x=k):KC c k w w':=⟨h.os,h.tape,h.output,h.size,λx hx hc=>h.block x hx (λhm=>hc (hF x hm))⟩
theorem KC.grown {row:Option Nat} {w:World} (h:w.grownBy w' row) (hF:∀x,row=some x->c x=k):KC c k w w':=⟨h.os,h.tape,h.output,h.size,λx hx hc=>h.block x hx (λhm=>hc (hF x hm.symm))⟩
theorem KC.below {a w:World} (hb:Below B a w) (h:KC c k w w') (hlo:∀x,x < B->c x=0) (hk:k≠0) (hB:B<=w.heap.size):Below B a w':=
 ⟨h.os.trans hb.os,h.tape.trans hb.tape,h.output.trans hb.output,aEU hb.size h.size,λx hx=>(h.block x Aaa (by rw [hlo x hx];omega)).trans (hb.block x hx)⟩
theorem KC.obj {w:World} {o:Obj} (h:KC c k w w') (ho:w.heap[g]?=some o) (hg:c g≠k):w'.heap[g]?=some o:=by rw [h.block g (ay ho) hg];exact ho
theorem KC.w {w:World} {l:List α} (h:KC c k w w') (hw:GR.W enc sz w a g l) (hc:∀x∈fp g l,c x=j) (hj:j≠k):GR.W enc sz w' a g l:=λi hi=>by
 obtain⟨e,hg,hcell⟩:=hw i hi;have hb:=h.block g hg (by rw [hc g (dK Aaa)];exact hj);exact⟨e,aEZ hg h.size,λq hq=>⟨(aFw (w:=w) hb).trans (hcell q hq).1,(aGv (w:=w) hb).trans (hcell q hq).2⟩⟩
theorem KC.own {w:World} {n:Nat} (h:KC c k w w') (ho:w.ownsRow B e sz v n xs) (hc:∀x,v.ownBlock=some x->c x=j) (hj:j≠k):w'.ownsRow B e sz v n xs:=by
 refine⟨ho.1,?_⟩;rcases ho.2 with hn|⟨g,cap,cur,rfl,hb,hgg,rest⟩
 .exact .inl hn
 .exact .inr ⟨g,cap,cur,rfl,hb,h.obj hgg (by rw [hc g rfl];exact hj),rest⟩
theorem KC.seen {w:World} (h:KC c k w w') (hs:eB w a g I l) (h4:∀x∈fp g l,c x=4) (h5:∀x∈nI I l,c x=5) (hk4:4≠k) (hk5:5≠k):eB w' a g I l:=by
 obtain⟨T,hT,hl,hr⟩:=hs;refine⟨T,h.w hT (λx hx=>h4 x ?_) hk4,hl,λi hi=>?_⟩
 .have:=dw hx;rw [this.1];exact dK Aaa
 .obtain⟨b,d,ht,hi2⟩:=hr i hi;exact⟨b,d,ht,h.w hi2 (λx hx=>h5 x (jD hi x hx)) hk5⟩
structure NO (w:World) (B:Nat) (n:Nd) (A:bq) (G:aN) (c:Nat->Nat):Prop where
 k:GR.W bg 1 w A.k G.k n.kids
 p:GR.W fA 4 w A.p G.p n.pu
 o:w.ownsRow B 145 4 (.slice A.o n.out.length A.co) n.out.length (GR.flat aM n.out)
 s:eB w A.s G.s G.i n.seen
 r:w.ownsRow B 148 4 (.slice A.r n.reqs.length A.cr) n.reqs.length (GR.flat aL n.reqs)
 lo:∀x,x < B->c x=0
 ck:∀x∈fp G.k n.kids,c x=1
 cp:∀x∈fp G.p n.pu,c x=2
 co:∀x,(Value.slice A.o n.out.length A.co).ownBlock=some x->c x=3
 c4:∀x∈fp G.s n.seen,c x=4
 ci:∀x∈nI G.i n.seen,c x=5
 cr:∀x,(Value.slice A.r n.reqs.length A.cr).ownBlock=some x->c x=6
 ni:(nI G.i n.seen).Nodup
theorem NO.kc {w:World} (h:NO w B n A G c) (hk:KC c k w w') (h7:6 < k):NO w' B n A G c:=
 ⟨hk.w h.k h.ck Aaa,hk.w h.p h.cp Aaa,hk.own h.o h.co Aaa,hk.seen h.s h.c4 h.ci Aaa Aaa,hk.own h.r h.cr Aaa,h.lo,h.ck,h.cp,h.co,h.c4,h.ci,h.cr,h.ni⟩
theorem uP {w:World} {l:List α} (h:GR.W enc sz w a g l):∀x∈fp g l,x < w.heap.size:=λx hx=>by
 have:=dw hx;rw [this.1];exact(h 0 this.2).2.1
theorem vI {w:World} (h:eB w a g I l):(∀x∈fp g l,x < w.heap.size)/\∀x∈nI I l,x < w.heap.size:=by
 obtain⟨T,hT,hl,hr⟩:=h;refine⟨λx hx=>uP hT x ?_,λx hx=>?_⟩
 .have:=dw hx;rw [this.1];exact dK Aaa
 .obtain⟨i,hi,rfl,hpos⟩:=sV hx;obtain⟨b,d,ht,hi2⟩:=hr i hi;exact uP hi2 _ (dK hpos)
theorem NO.recol {w:World} (h:NO w B n A G c) (hB:B<=w.heap.size) (hc:∀x,x < w.heap.size->c' x=c x):NO w B n A G c':=
 ⟨h.k,h.p,h.o,h.s,h.r,λx hx=>(hc x Aaa).trans (h.lo x hx),λx hx=>(hc x (uP h.k x hx)).trans (h.ck x hx),λx hx=>(hc x (uP h.p x hx)).trans (h.cp x hx),
  λx hx=>(hc x (h.o.lt x hx).2).trans (h.co x hx),λx hx=>(hc x ((vI h.s).1 x hx)).trans (h.c4 x hx),λx hx=>(hc x ((vI h.s).2 x hx)).trans (h.ci x hx),λx hx=>(hc x (h.r.lt x hx).2).trans (h.cr x hx),h.ni⟩
theorem NO.at {w:World} (h:NO w B n A G c):cK w A n:=by
 refine⟨h.k.at,h.p.at,?_,h.s.at,?_⟩
 .exact aiH
 .exact aiI
structure WK (w0 w:World) (wb:Nat) (n:Nd) (A:bq) (G:aN) (c:Nat->Nat) (v:Value) (L:List Mg):Prop where
 keep:aH w0 w
 blk:w.heap[wb]?=some (.cells (Xr n A v) 215 (0,0))
 no:NO w w0.heap.size n A G c
 m:w.ownsRow w0.heap.size 70 7 v L.length (GR.flat jC L)
 cm:∀x,v.ownBlock=some x->c x=7
 cw:c wb=8
theorem WK.kc {w:World} (h:WK w0 w wb n A G c v L) (hk:KC c k w w') (h8:8 < k):WK w0 w' wb n A G c v L:=
 ⟨hk.below h.keep h.no.lo Aaa h.keep.size,hk.obj h.blk (by rw [h.cw];omega),h.no.kc hk Aaa,hk.own h.m h.cm Aaa,h.cm,h.cw⟩
theorem WK.step {w:World} (h:WK w0 w wb n A G c v L) (hb:aH w w'):WK w0 w' wb n A G c v L:=h.kc (k:=9) (KC.of_below hb) Aaa
theorem WK.recol {w:World} (h:WK w0 w wb n A G c v L) (hc:∀x,x < w.heap.size->c' x=c x):WK w0 w wb n A G c' v L:=
 ⟨h.keep,h.blk,h.no.recol h.keep.size hc,h.m,λx hx=>(hc x (h.m.lt x hx).2).trans (h.cm x hx),(hc wb (ay h.blk)).trans h.cw⟩
theorem WK.lo {w:World} (h:WK w0 w wb n A G c v L):w0.heap.size<=wb:=by
 rcases aF2 wb w0.heap.size with h'|h'
 .have:=h.no.lo wb h';rw [h.cw] at this;cases this
 .exact h'
def newC (B k:Nat) (c:Nat->Nat):Nat->Nat:=λx=>if B<=x then k else c x
theorem fE (h:x < B):newC B k c x=c x:=by unfold newC;rw [aE2 Aaa]
theorem aY (h:B<=x):newC B k c x=k:=by unfold newC;rw [aFc h]
theorem NO.kc0 {w:World} (h:NO w B n A G c) (hk:KC c 0 w w'):NO w' B n A G c:=
 ⟨hk.w h.k h.ck Aaa,hk.w h.p h.cp Aaa,hk.own h.o h.co Aaa,hk.seen h.s h.c4 h.ci Aaa Aaa,hk.own h.r h.cr Aaa,h.lo,h.ck,h.cp,h.co,h.c4,h.ci,h.cr,h.ni⟩
theorem qB (I:Nat->Nat) (l:List Sn):(nI I l).Nodup↔∀i j (hi:i < l.length) (hj:j < l.length),i < j->0 < l[i].ids.length->0 < l[j].ids.length->I i≠I j:=by
 have hg:∀i (hi:i < l.length),l.getD i default=l[i]:=λi hi=>by rw [aFs,aEV hi];rfl
 unfold nI List.Nodup;rw [List.pairwise_flatMap];constructor
 .rintro⟨_,h⟩ i j hi hj hij h1 h2 e;rw [aFV] at h;have:=h i j Aat Abd hij;grind [dK]
 .intro h;refine⟨λi _=>jJ _ _,?_⟩;rw [aFV];grind [dw]
theorem FB (l:List Int):GR.flat bg l=l.map (Value.int .i64):=by
 induction l with
 |nil=>rfl
 |cons x l ih=>rw [GR.flat_cons,ih];rfl
theorem xE (q:Rq):∀u∈aL q,u.oneCell'=true:=by
 intro u hu;simp only[aL,aFd,aFW,or_false] at hu;rcases hu with rfl|rfl|rfl|rfl<;>rfl
theorem nN (l:List Rq):∀u∈GR.flat aL l,u.oneCell'=true:=by
 grind [GR.flat,xE]
theorem tH {a:Nat} {l m:List Nat} (hl:l.Nodup) (hm:m.Nodup) (h1:∀x∈l,c x=a) (h2:∀x∈m,c x≠a):(l++m).Nodup:=by
 rw [aF1];exact⟨hl,hm,λx hx y hy e=>h2 y hy (by rw [<-e];exact h1 x hx)⟩
theorem NO.full {w:World} (h:NO w B n A G c):
 ∃G2,gZ w A G2 n/\G2.Sep n B w.heap.size/\∀x∈G2.all n,c x≠0/\c x<=6:=by
 obtain⟨_,_,go,eo,hWo,hro,hoo⟩:=GR.W.of_own (enc:=aM) aT h.o;cases eo
 obtain⟨_,_,gr,er,hWr,hrr,hor⟩:=GR.W.of_own (enc:=aL) aW h.r;cases er
 have c1:=h.ck;have c2:=h.cp;have c3:∀x∈fp go n.out,c x=3:=λx hx=>h.co x (hoo x hx)
 have c4:=h.c4;have c5:=h.ci;have c6:∀x∈fp gr n.reqs,c x=6:=λx hx=>h.cr x (hor x hx)
 have Md:∀x∈aN.all ⟨G.k,G.p,go,G.s,gr,G.i⟩ n,c x≠0/\c x<=6:=λx hx=>by
  rcases aN.mem_all.1 hx with h1|h1|h1|h1|h1|h1
  .have:=c1 x h1;omega
  .have:=c2 x h1;omega
  .have:=c3 x h1;omega
  .have:=c4 x h1;omega
  .have:=c5 x h1;omega
  .have:=c6 x h1;omega
 refine⟨⟨G.k,G.p,go,G.s,gr,G.i⟩,⟨h.k,h.p,hWo,h.s,hWr⟩,⟨?_,λx hx=>⟨?_,?_⟩⟩,Md⟩
 .unfold aN.all;refine tH (c:=c) (a:=1) (jJ _ _) ?_ c1 (λx hx=>?_)
  .refine tH (c:=c) (a:=2) (jJ _ _) ?_ c2 (λx hx=>?_)
   .refine tH (c:=c) (a:=3) (jJ _ _) ?_ c3 (λx hx=>?_)
    .refine tH (c:=c) (a:=4) (jJ _ _) ?_ c4 (λx hx=>?_)
     .refine tH (c:=c) (a:=5) h.ni (jJ _ _) c5 (λx hx=>?_);have:=c6 x hx;omega
     .rcases aFb.1 hx with h1|h1
      .have:=c5 x h1;omega
      .have:=c6 x h1;omega
    .rcases aFb.1 hx with h1|h1
     .have:=c4 x h1;omega
     .exact ahR
   .rcases aFb.1 hx with h1|h1
    .have:=c3 x h1;omega
    .exact aiU
  .rcases aFb.1 hx with h1|h1
   .have:=c2 x h1;omega
   .rcases aFb.1 h1 with h1|h1
    .have:=c3 x h1;omega
    .exact aiU
 .by_cases hlt:x < B
  .have:=h.lo x hlt;have:=Md x hx;omega
  .omega
 .rcases aN.mem_all.1 hx with h1|h1|h1|h1|h1|h1
  .exact uP h.k x h1
  .exact uP h.p x h1
  .exact uP hWo x h1
  .exact(vI h.s).1 x h1
  .exact(vI h.s).2 x h1
  .exact uP hWr x h1
structure WO (w:World) (b:Option Addr) (c x:Nat) (ids:List Int):Prop where
 W:GR.W bg 1 w b x ids
 e:ids=[]->c=0
 o:ids≠[]->w.ownsRow 0 3 1 (.slice b ids.length c) ids.length (GR.flat bg ids)
theorem WO.of_own {w:World} {c:Nat} (hW:GR.W bg 1 w b x ids) (h:w.ownsRow B 3 1 (.slice b ids.length c) ids.length (GR.flat bg ids)) (h0:ids=[]->c=0):WO w b c x ids:=
 ⟨hW,h0,λ_=>GR.own_lower h (aE7 _)⟩
theorem WO.blk {w:World} {c y:Nat} (h:WO w b c x ids) (hn:ids≠[]) (hy:(Value.slice b ids.length c).ownBlock=some y):y=x/\0 < ids.length:=by
 have hpos:0 < ids.length:=by
  cases ids with
  |nil=>exact absurd rfl hn
  |cons _ _=>simp
 obtain⟨e,_,_⟩:=h.W 0 hpos;subst e;exact⟨by simpa [Value.ownBlock] using hy.symm,hpos⟩
theorem WO.keeps {w:World} {c:Nat} (h:WO w b c x ids) (hk:aA F w w') (hd:∀y∈fp x ids,y∉F):WO w' b c x ids:=by
 refine⟨h.W.keeps hk hd,h.e,λhn=>⟨(h.o hn).1,?_⟩⟩;rcases(h.o hn).2 with h1|⟨g,cap,cur,hv,hb,hgg,rest⟩
 .exact .inl h1
 .refine .inr ⟨g,cap,cur,hv,hb,hk.obj hgg (λhm=>?_),rest⟩;have h2:=h.blk hn (y:=g) (by rw [hv];rfl);rw [h2.1] at hm;exact hd x (dK h2.2) hm
theorem WO.below {w:World} {c:Nat} (h:WO w b c x ids) (hb:aH w w'):WO w' b c x ids:=h.keeps (F:=[]) (aA.of_below hb) (λ_ _=>Aac)
theorem WO.blocks {w:World} {c:Nat} (h:WO w b c x ids) (hs:w.heap.size<=w'.heap.size) (hb:∀y∈fp x ids,w'.heap[y]?=w.heap[y]?):WO w' b c x ids:=by
 refine⟨λi hi=>?_,h.e,λhn=>⟨(h.o hn).1,?_⟩⟩
 .obtain⟨e,hg,hc⟩:=h.W i hi;have hbx:=hb x (dK Aaa);exact ah4
 .rcases(h.o hn).2 with h1|⟨g,cap,cur,hv,hB,hgg,rest⟩
  .exact .inl h1
  .have h2:=h.blk hn (y:=g) (by rw [hv];rfl);exact .inr ⟨g,cap,cur,hv,hB,(by rw [h2.1];rw [h2.1] at hgg;exact(hb x (dK h2.2)).trans hgg),rest⟩
def aaz (w:World) (l:List Sn) (T:List R3) (I:Nat->Nat):Prop:=T.length=l.length/\∀i (hi:i < l.length),∃b c,T[i]?=some ⟨l[i].f,l[i].l,.slice b l[i].ids.length c⟩/\WO w b c (I i) l[i].ids
def qb (w:World) (a:Option Addr) (g:Nat) (I:Nat->Nat) (l:List Sn):Prop:=(∃T,GR.W eX 3 w a g T/\aaz w l T I)/\(0 < l.length->∃cs,w.heap[g]?=some (.cells cs 130 (0,0)))
theorem qb.w {w:World} (h:qb w a g I l):eB w a g I l:=by
 obtain⟨⟨T,hT,hl,hr⟩,_⟩:=h;refine⟨T,hT,hl,λi hi=>?_⟩;obtain⟨b,c,ht,ho⟩:=hr i hi;exact⟨b,c,ht,ho.W⟩
theorem qb.blocks {w:World} (h:qb w a g I l) (hs:w.heap.size<=w'.heap.size) (hb:∀x∈fp g l,w'.heap[x]?=w.heap[x]?) (hI:∀x∈nI I l,w'.heap[x]?=w.heap[x]?):qb w' a g I l:=by
 obtain⟨⟨T,hT,hl,hr⟩,hy⟩:=h;refine⟨⟨T,λi hi=>?_,hl,λi hi=>?_⟩,λhp=>?_⟩
 .obtain⟨e,hg,hc⟩:=hT i hi;have hbx:=hb g (dK Aaa);exact ah4
 .obtain⟨b,c,ht,ho⟩:=hr i hi;exact⟨b,c,ht,ho.blocks hs (λx hx=>hI x (jD hi x hx))⟩
 .grind [dK]
theorem KC.seenQ {w:World} (h:KC c k w w') (hs:qb w a g I l) (h4:∀x∈fp g l,c x=4) (h5:∀x∈nI I l,c x=5) (hk4:4≠k) (hk5:5≠k):qb w' a g I l:=
 hs.blocks h.size (λx hx=>h.block x ((vI hs.w).1 x hx) (by rw [h4 x hx];exact hk4)) (λx hx=>h.block x ((vI hs.w).2 x hx) (by rw [h5 x hx];exact hk5))
structure NQ (w:World) (B:Nat) (n:Nd) (A:bq) (G:aN) (c:Nat->Nat):Prop extends NO w B n A G c where
 sq:qb w A.s G.s G.i n.seen
theorem NQ.kc {w:World} (h:NQ w B n A G c) (hk:KC c k w w') (h7:6 < k):NQ w' B n A G c:=
 ⟨h.toNO.kc hk h7,hk.seenQ h.sq h.c4 h.ci Aaa Aaa⟩
theorem NQ.recol {w:World} (h:NQ w B n A G c) (hB:B<=w.heap.size) (hc:∀x,x < w.heap.size->c' x=c x):NQ w B n A G c':=⟨h.toNO.recol hB hc,h.sq⟩
structure RMc (w:World) (A:bq) (n:Nd) (gk gs:Nat) (I:Nat->Nat) (c:Nat->Nat):Prop where
 k:GR.W bg 1 w A.k gk n.kids
 p:aG w A.p n.pu
 o:w.ownsRow 0 145 4 (.slice A.o n.out.length A.co) n.out.length (GR.flat aM n.out)
 s:qb w A.s gs I n.seen
 r:w.ownsRow 0 148 4 (.slice A.r n.reqs.length A.cr) n.reqs.length (GR.flat aL n.reqs)
 ck:∀x∈fp gk n.kids,c x=1
 cp:∀g,A.p.map (λy=>y.block)=some g->0 < n.pu.length->c g=2
 co:∀x,(Value.slice A.o n.out.length A.co).ownBlock=some x->c x=3
 c4:∀x∈fp gs n.seen,c x=4
 ci:∀x∈nI I n.seen,c x=5
 cr:∀x,(Value.slice A.r n.reqs.length A.cr).ownBlock=some x->c x=6
 ni:(nI I n.seen).Nodup
def RM (w:World) (A:bq) (n:Nd):Prop:=∃gk gs I c,RMc w A n gk gs I c
theorem RMc.at {w:World} (h:RMc w A n gk gs I c):cK w A n:=by
 refine⟨h.k.at,h.p,?_,h.s.w.at,?_⟩
 .exact aiH
 .exact aiI
theorem RM.at {w:World} (h:RM w A n):cK w A n:=by
 obtain⟨_,_,_,_,h⟩:=h;exact h.at
theorem RM.of {w:World} (k:GR.W bg 1 w A.k gk n.kids) (ck:∀x∈fp gk n.kids,c x=1) (s:qb w A.s gs I n.seen) (c4:∀x∈fp gs n.seen,c x=4) (ci:∀x∈nI I n.seen,c x=5) (ni:(nI I n.seen).Nodup) (p:aG w A.p n.pu) (cp:∀g,A.p.map (λy=>y.block)=some g->0 < n.pu.length->c g=2\/6 < c g) (o:w.ownsRow Bo 145 4 (.slice A.o n.out.length A.co) n.out.length (GR.flat aM n.out)) (co:∀x,(Value.slice A.o n.out.length A.co).ownBlock=some x->c x=3\/6 < c x) (r:w.ownsRow Br 148 4 (.slice A.r n.reqs.length A.cr) n.reqs.length (GR.flat aL n.reqs)) (cr:∀x,(Value.slice A.r n.reqs.length A.cr).ownBlock=some x->c x=6\/6 < c x) (po:∀g,A.p.map (λy=>y.block)=some g->0 < n.pu.length->6 < c g->(Value.slice A.o n.out.length A.co).ownBlock≠some g/\(Value.slice A.r n.reqs.length A.cr).ownBlock≠some g) (or:∀x,(Value.slice A.o n.out.length A.co).ownBlock=some x->6 < c x->(Value.slice A.r n.reqs.length A.cr).ownBlock≠some x):RM w A n:=by
 have po2:∀g,A.p.map (λy=>y.block)=some g->0 < n.pu.length->(Value.slice A.o n.out.length A.co).ownBlock≠some g/\(Value.slice A.r n.reqs.length A.cr).ownBlock≠some g:=λg hg hp=>by grind
 have or2:∀x,(Value.slice A.o n.out.length A.co).ownBlock=some x->(Value.slice A.r n.reqs.length A.cr).ownBlock≠some x:=λx hx=>by grind
 refine⟨gk,gs,I,λx=>if A.p.map (λy=>y.block)=some x/\0 < n.pu.length then 2 else if (Value.slice A.o n.out.length A.co).ownBlock=some x then 3 else if (Value.slice A.r n.reqs.length A.cr).ownBlock=some x then 6 else c x,?_⟩;have same:∀x,c x=1\/c x=4\/c x=5->(if A.p.map (λy=>y.block)=some x/\0 < n.pu.length then 2 else if (Value.slice A.o n.out.length A.co).ownBlock=some x then 3 else if (Value.slice A.r n.reqs.length A.cr).ownBlock=some x then 6 else c x)=c x:=λx hx=>by grind
 refine⟨k,p,GR.own_lower o (aE7 _),s,GR.own_lower r (aE7 _),λx hx=>?_,λg hg hp=>?_,λx hx=>?_,λx hx=>?_,λx hx=>?_,λx hx=>?_,ni⟩
 .grind
 .grind
 .grind
 .grind
 .grind
 .grind
theorem aaB {w:World} {l:List α} (h:GR.W enc sz w a g l) (hp:0 < l.length):a.map (λy=>y.block)=some g:=by
 obtain⟨e,_,_⟩:=h 0 hp;rw [e];rfl
theorem NQ.rm {w:World} (h:NQ w B n A G c):RM w A n:=
 RM.of h.k h.ck h.sq h.c4 h.ci h.ni h.p.at (λg hg hp=>by rw [aaB h.p hp] at hg;cases hg;exact .inl (h.cp _ (dK hp))) h.o (λx hx=> .inl (h.co x hx)) h.r (λx hx=> .inl (h.cr x hx))
  (λg hg hp h6=>by rw [aaB h.p hp] at hg;cases hg;have:=h.cp _ (dK hp);omega) (λx hx h6=>by have:=h.co x hx;omega)
theorem tL {w:World} {c:Nat} {l:List α} (h:w.ownsRow B e sz (.slice a l.length c) l.length (GR.flat enc l)) (hg:a.map (λy=>y.block)=some g):(Value.slice a l.length c).ownBlock=some g:=by
 rcases h.2 with⟨hv,_⟩|⟨g',cap,cur,hv,_⟩
 .simp only[aFN] at hv;rw [hv.1] at hg;cases hg
 .simp only[aFN] at hv;rw [hv.1] at hg ⊢;cases hg
  rfl
theorem vD {w:World} (h:w.ownsRow B e sz v k xs) (hx:v.ownBlock=some x):B<=x:=by
 rcases h.2 with⟨rfl,_⟩|⟨g,cap,cur,rfl,hb,_⟩
 .simp[Value.ownBlock] at hx
 .have:g=x:=Abl
  omega
theorem CG {w:World} (h:w.ownsRow B e sz v k xs) (hx:v.ownBlock=some x):x < w.heap.size:=by
 rcases h.2 with⟨rfl,_⟩|⟨g,cap,cur,rfl,hb,hg,_⟩
 .simp[Value.ownBlock] at hx
 .have:g=x:=Abl
  rw [<-this];exact ay hg
theorem NQ.put {w:World} (h:NQ w B n A G c) (hc:NQ X B' n A G c') (n':Nd) (A':bq) (ek:n'.kids=n.kids) (es:n'.seen=n.seen) (ak:A'.k=A.k) (ea:A'.s=A.s) (p:aG w A'.p n'.pu) (cp:∀g,A'.p.map (λy=>y.block)=some g->0 < n'.pu.length->c' g=2\/6 < c' g) (o:w.ownsRow Bo 145 4 (.slice A'.o n'.out.length A'.co) n'.out.length (GR.flat aM n'.out)) (co:∀x,(Value.slice A'.o n'.out.length A'.co).ownBlock=some x->c' x=3\/6 < c' x) (r:w.ownsRow Br 148 4 (.slice A'.r n'.reqs.length A'.cr) n'.reqs.length (GR.flat aL n'.reqs)) (cr:∀x,(Value.slice A'.r n'.reqs.length A'.cr).ownBlock=some x->c' x=6\/6 < c' x) (po:∀g,A'.p.map (λy=>y.block)=some g->0 < n'.pu.length->6 < c' g->(Value.slice A'.o n'.out.length A'.co).ownBlock≠some g/\(Value.slice A'.r n'.reqs.length A'.cr).ownBlock≠some g) (or:∀x,(Value.slice A'.o n'.out.length A'.co).ownBlock=some x->6 < c' x->(Value.slice A'.r n'.reqs.length A'.cr).ownBlock≠some x):RM w A' n':=
 RM.of (c:=c') (gk:=G.k) (gs:=G.s) (I:=G.i) (by rw [ek,ak];exact h.k) (by rw [ek];exact hc.ck) (by rw [es,ea];exact h.sq) (by rw [es];exact hc.c4) (by rw [es];exact hc.ci) (by rw [es];exact hc.ni) p cp o co r cr po or
theorem NQ.cpB {w:World} (h:NQ w B n A G c) (hc:NQ X B' n A G c'):∀g,A.p.map (λy=>y.block)=some g->0 < n.pu.length->c' g=2:=λg hg hp=>by
 rw [aaB h.p hp] at hg;cases hg
 exact hc.cp _ (dK hp)
theorem WK.start {y W:World} (hb:aH w0 y) (hN:NO y w0.heap.size n A G c) (hs:y.heap.size<=wb) (hY:aH y W) (hblk:W.heap[wb]?=some (.cells (Xr n A (.slice none 0 0)) 215 (0,0))):WK w0 W wb n A G (newC y.heap.size 8 c) (.slice none 0 0) []:=by
 have h1:=(hN.recol (c':=newC y.heap.size 8 c) hb.size (λx hx=>fE hx)).kc (k:=9) (KC.of_below hY) Aaa;exact⟨hb.trans (hY.mono hb.size),hblk,h1,World.ownsRow_nil _ _ _ _,(λx hx=>by cases hx),aY hs⟩
theorem WK.mute {w:World} (h:WK w0 w wb n A G c v L):WK w0 (w.setCell ⟨wb,9,none⟩ (.slice none 0 0)) wb n A G c (.slice none 0 0) []:=by
 have hk:KC c 8 w (w.setCell ⟨wb,9,none⟩ (.slice none 0 0)):=KC.keeps (aA.set _) (λx hx=>by rw [aE6.1 hx];exact h.cw);exact⟨h.keep.setCell (p:=⟨wb,9,none⟩) h.lo _,aP h.blk 9 _,h.no.kc hk Aaa,World.ownsRow_nil _ _ _ _,(λx hx=>by cases hx),h.cw⟩
def vJ (I:Nat->Nat) (k gi:Nat):Nat->Nat:=λi=>if i=k then gi else I i
theorem eB.store {w:World} (h:eB w a g I l) (k:Nat) (hk:k < l.length) (s:Sn) (b:Option Addr) (cc gi:Nat) (hi:GR.W bg 1 w b gi s.ids) (hg4:∀x∈nI I l,x≠g) (hgi:∀x∈fp gi s.ids,x≠g):
 eB (GR.setW w g (k*3) [.int .i64 s.f,.int .i64 s.l,.slice b s.ids.length cc]) a g (vJ I k gi) (l.set k s):=by
 obtain⟨T,hT,hl,hr⟩:=h;have Sm:k < T.length:=Aaa
 have hkp:=gI (g:=g) [.int .i64 s.f,.int .i64 s.l,.slice b s.ids.length cc] w (k*3);refine⟨T.set k ⟨s.f,s.l,.slice b s.ids.length cc⟩,GR.W.set bE hT k ⟨s.f,s.l,.slice b s.ids.length cc⟩ Sm,by simpa using hl,λi hi'=>?_⟩;have hil:i < l.length:=by simpa using hi'
 by_cases e:i=k
 .subst e;refine⟨b,cc,?_,?_⟩
  .grind
  .exact aiz
 .obtain⟨b',c',ht,hi2⟩:=hr i hil;refine⟨b',c',?_,?_⟩
  .grind
  .exact aic
theorem KC.setW {o:Nat} {w:World} (vs:List Value) (hc:c g=k):KC c k w (GR.setW w g o vs):=KC.keeps (gI vs w o) (λx hx=>by have:x=g:=Aag;rw [this];exact hc)
theorem WK.setPu {w:World} {cp:Nat} {l:List Pu} (h:WK w0 w wb n A G c v L) (hb:aH w w') (hw:GR.W fA 4 w' a g l) (hg:∀x∈fp g l,w.heap.size<=x):
 WK w0 (w'.setCell ⟨wb,4,none⟩ (.slice a l.length cp)) wb (setPu n l) ⟨A.k,a,A.o,A.s,A.r,A.ck,cp,A.co,A.cs,A.cr⟩ ⟨G.k,g,G.o,G.s,G.r,G.i⟩ (newC w.heap.size 2 c) v L:=by
 have hwb:=ay h.blk;have h1:=(h.recol (c':=newC w.heap.size 2 c) (λx hx=>fE hx)).step hb;have hk:KC (newC w.heap.size 2 c) 8 w' (w'.setCell ⟨wb,4,none⟩ (.slice a l.length cp)):=KC.set h1.cw;have h2:=h1.no.kc hk Aaa;have hcp:∀x∈fp g l,newC w.heap.size 2 c x=2:=λx hx=>aY (hg x hx)
 refine⟨hk.below h1.keep h1.no.lo Aaa h1.keep.size,?_,⟨h2.k,hk.w hw hcp (show(2:Nat)≠8 by omega),h2.o,h2.s,h2.r,h2.lo,h2.ck,hcp,h2.co,h2.c4,h2.ci,h2.cr,h2.ni⟩,hk.own h1.m h1.cm Aaa,h1.cm,h1.cw⟩;exact aP h1.blk 4 (.slice a l.length cp)
end Go.Proofs.YtbolgdleijjgfaaGreatDoor

namespace Go.Proofs.YtbolgdleijjgfaaGreatDoor
open Go.Proofs.Tryz
set_option maxHeartbeats 4000000
set_option maxRecDepth 100000
open Go.RowKit
open Mth
variable {n:Nd} {w:World}
theorem WK.app {w0 w6:World} {wb:Nat} {A:bq} {G:aN} {c:Nat->Nat} {v v':Value} {L:List Mg} (h:WK w0 w wb n A G c v L) (m:Mg) (hown:w6.ownsRow w0.heap.size 70 7 v' (L.length+1) (GR.flat jC L++jC m)) (hg:w.grownBy w6 v.ownBlock) (hv:∀x,v'.ownBlock=some x->v.ownBlock=some x\/w.heap.size<=x):
 w6.heap[wb]?=some (.cells (Xr n A v) 215 (0,0))/\WK w0 (w6.setCell ⟨wb,9,none⟩ v') wb n A G (newC w.heap.size 7 c) v' (L++[m]):=by
 have h1:=h.recol (c':=newC w.heap.size 7 c) (λx hx=>fE hx);have hk1:KC (newC w.heap.size 7 c) 7 w w6:=KC.grown hg h1.cm;have hblk:=hk1.obj h1.blk (by rw [h1.cw];omega);have hno:=h1.no.kc hk1 Aaa;have hkeep:=hk1.below h1.keep h1.no.lo Aaa h1.keep.size;have hk2:KC (newC w.heap.size 7 c) 8 w6 (w6.setCell ⟨wb,9,none⟩ v'):=KC.set h1.cw
 have hcm:∀x,v'.ownBlock=some x->newC w.heap.size 7 c x=7:=λx hx=>by
  rcases hv x hx with hx'|hx'
  .exact h1.cm x hx'
  .exact aY hx'
 refine⟨hblk,hk2.below hkeep h1.no.lo Aaa hkeep.size,aP hblk 9 v',hno.kc hk2 Aaa,?_,hcm,h1.cw⟩;rw [aEW,jr];exact hk2.own hown hcm Aaa
theorem Xq (w0 w:World) (wb:Nat) (n:Nd) (A:bq) (G:aN) (c:Nat->Nat) (v:Value) (L:List Mg) (m:Mg) (hk:m.k.size<=1048600) (hL:L.length<=2097200) (h:WK w0 w wb n A G c v L):
 Calls prog 220 #[.pointer (some ⟨wb,0,none⟩),oJ m] w λe w'=>e= .returned (.tuple #[])/\∃c' v',WK w0 w' wb n A G c' v' (L++[m]):=by
 obtain⟨i0,hi,hz0,hz1,hz2⟩:=aFt WI;have HS:=Hq h;clear h;obtain⟨va,vc,hv,_⟩:=GR.own_at (enc:=jC) (sz:=7) (l:=L) ku HS.m;subst hv;obtain⟨mK,mF,mT,mI,mL,mk,mN⟩:=m;dsimp only at hk;have HX0:=Hq (aEP w (.cells (bX mK mF mT mI mL mk mN) 70));go_in
 go_wp2_with fail;refine(clone mk _ Aaa).mono ?_;rintro e w1 ⟨rfl,hb1⟩;have zK:=Hq (aj HX0 hb1);have HB1:=Hq ((au w _).trans (hb1.mono Aac));clear hb1 HX0;have Yw:=aC zK 5;obtain⟨x0,x1,x2,x3,x4,x5,x6⟩:=jS zK;go_upto_region 2 with fail;refine wp_at (λW hW=>?_);have HXW:Hid (W.heap[w.heap.size]?=some (.cells (bX mK mF mT mI mL mk mN) 70 (0,0))):=by rw [hW];exact aP zK 5 (.string mk)
 have iQ:Hid (aH w W):=by rw [hW];exact HB1.setCell (p:=⟨w.heap.size,5,none⟩) (aER _) _
 clear hW HB1 zK Yw x0 x1 x2 x3 x4 x5 x6;have HSW:=Hq (HS.step iQ);have hwl:=ay HS.blk;have hne:wb≠w.heap.size:=Aaa
 have hlW:=ay HXW;obtain⟨x0,x1,x2,x3,x4,x5,x6⟩:=jS HXW;obtain⟨c0,c1,c2,c3,c4,c5,c6,c7,c8,c9⟩:=jT HSW.blk;have y9:=aEQ c9;have z0:=aEQ x0;have z1:=aEQ x1;have z2:=aEQ x2;have z3:=aEQ x3;have z4:=aEQ x4;have z5:=aEQ x5;have z6:=aEQ x6;clear x0 x1 x2 x3 x4 x5 x6 c0 c1 c2 c3 c4 c5 c6 c7 c8 c9;refine mY Aab ?_;show xB _ _ _ _ 11 (Array.replicate 11 false) _ _
 open aqx in exact aj0
set_option maxHeartbeats 2000000
open Go.RowKit Go.Maps Go.Sort
theorem alh (m:Nat):AnyZI.SortsIn prog Tryz.sortedL_ren Fence.wide m:=
 ⟨λblk off cap ss W hH hblk hsz=>callsIn_wide.2 (AnyM.slices_Sort_int Tryz.sortL blk off cap ss W hH hblk hsz),
  λp cap W=>callsIn_wide.2 (AnyM.slices_Sort_int_none Tryz.sortL p cap W)⟩
theorem afj (mb:Option Nat) (W:World):Calls prog 281 #[.map mb] W λe w'=>e= .returned (.func (.func 298) #[] #[.pointer (some ⟨W.heap.size,0,none⟩)])/\w'=W.alloc (.cells #[.map mb] 304):=
 callsIn_wide.1 (AnyZI.keys_in Tryz.keysL Fence.wide 5 trivial rfl mb W)
theorem adz {l ss:List Int} (hp:l.Pairwise (· < ·)) (h:ss.Perm l):ss.mergeSort (λx y=>decide (x<=y))=l:=by
 have h1:ss.mergeSort leI=l.mergeSort leI:=mergeSort_of_perm_i h;refine h1.trans (List.mergeSort_of_pairwise ?_);exact hp.imp (λ{a b} h=>by simp only[leI,aFf];omega)
theorem Zz (B mb n:Nat) (l:List Int) (W:World) (hl:l.length<=1000) (hp:l.Pairwise (· < ·)) (hB:W.heap[B]?=some (.cells #[.map (some mb)] 304 (0,0))) (hs:fH W mb n l):
 Calls prog 280 #[.func (.func 298) #[] #[.pointer (some ⟨B,0,none⟩)]] W λe w'=>∃v,e= .returned v/\w'.ownsRow W.heap.size 3 1 v l.length (GR.flat bg l)/\aH W w':=by
 obtain⟨D,hown,ha⟩:=hs;have hk:=fH.keys hown ha (hp.imp (λh=>Aaa));have hsz:Maps.size D=l.length:=by rw [KV hown,hk.length_eq]
 have hcell:W.cell? ⟨B,0,none⟩=some (.map (some mb)):=aE1 W B 0 _ _ (0,0) hB
 have hseq:SeqGives Fence.wide 2 prog 298 #[.pointer (some ⟨B,0,none⟩)] encZ (λss=>ss.Perm (intKeys D)) (Maps.size D) W:=
  AnyZI.keys_gives (ρ:=Tryz.keysL_ren) {Tryz.keysL with} Fence.wide _ trivial rfl Aaa B mb n D _ (ay hB) hcell hown
 have cS:=AnyZI.sorted_in Tryz.sortedL Fence.wide 5 trivial trivial trivial trivial rfl Aaa (alh _) (enters_of func209 Aab rfl) 298 #[.pointer (some ⟨B,0,none⟩)] trivial (enters_of func298 Aab rfl) _ _ (by rw [hsz];unfold maxLen;omega) (by rw [hsz];omega) _ hseq;change CallsIn _ _ prog 280 _ _ _ at cS
 refine(callsIn_wide.1 cS).mono ?_;rintro e w' ⟨v,ss,rfl,hS,hrow,_,hb⟩;have hperm:ss.Perm l:=hS.trans hk.symm;rw [adz hp hperm,hperm.length_eq,<-FB] at hrow;exact⟨v,rfl,hrow,hb⟩
theorem Zt (sb mb n:Nat) (f low:Int) (l:List Int) (w:World) (hl:l.length<=1000) (hp:l.Pairwise (· < ·)) (hb:lI w sb mb low) (hs:fH w mb n l):
 Calls prog 252 #[.pointer (some ⟨sb,0,none⟩),.int .i64 f] w λe w'=>∃v,e= .returned (.agg #[.int .i64 f,.int .i64 low,v])/\w'.ownsRow w.heap.size 3 1 v l.length (GR.flat bg l)/\aH w w':=by
 have hsl:=ay hb;have HB:=Hq hb;have HS:=Hq hs;have Sy:=Hq afj;have HSO:=Hq (λB W (h1:W.heap[B]?=_) (h2:fH W mb n l)=>Zz B mb n l W hl hp h1 h2);have hb1:=aj hb (au w (.cells #[.int .i64 0,.int .i64 0,.slice none 0 0] 130));obtain⟨⟨m0,m1⟩,_⟩:=mW hb1;clear hb hs hb1;go_in
 go_upto_region 1 with fail;have y0:=aEQ m0;have y1:=aEQ m1;clear m0 m1;refine bC 12 Aab ?_;show fV _ _ _ _ _ 13 (Array.replicate 13 false) _ _
 refine tk [0,1,2,3,4,5,6,7,8] ?_;iterate 9 (refine lW (λK hK=>?_);go_simp;refine hK _ ?_;clear hK K)
 refine jh ?_;clear y0 y1;refine dP 9 rfl Aab Aad (λx hx=>?_);go_simp;have HX:=Hq hx;clear hx;refine(Sy (some mb) x).mono ?_;rintro e y ⟨rfl,rfl⟩;refine⟨au x _,?_⟩;refine dP 10 rfl Aab Aad (λx2 hx2=>?_);go_simp;have JV:=Hq hx2;have h1:x2.heap[x.heap.size]?=some (.cells #[.map (some mb)] 304 (0,0)):=aj (aEP x _) hx2;have HG:=Hq (Ge.trans (Ge.trans HX (au x _)) hx2);have h2:fH x2 mb n l:=HS.kept ((HG.block mb (by have:=HS.lt;simp;omega)).trans (aE4 _ _ _ HS.lt));have HCS:=Hq (HSO x.heap.size x2 h1 h2);clear hx2 h1 h2 Sy HSO JV;refine HCS.mono ?_;rintro e z ⟨v,rfl,hrow,hbz⟩;refine⟨hbz,?_⟩;obtain⟨av,cv,rfl,_⟩:=GR.own_at (enc:=bg) (sz:=1) aX hrow;have HRW:=Hq hrow;have HZ:=Hq (Ge.trans HG hbz);clear hrow hbz HCS;refine tk [11] ?_;(refine lW (λK hK=>?_);go_simp;refine hK _ ?_;clear hK K)
 refine jh ?_;refine aS Aab (λx3 hx3=>?_);have Ir:=Hq (Ge.trans HZ hx3);have HR3:=Hq (GR.own_below HRW hx3);have e3:x3.heap[w.heap.size]?=some (.cells #[.int .i64 0,.int .i64 0,.slice none 0 0] 130 (0,0)):=aj (aEP w _) Ir;have f0:=aC e3 0;have f1:=aC e3 1;have f2:=aC e3 2;have hw3:=ay e3;obtain⟨d0,d1,d2⟩:=three e3;have E3:=Hq e3;clear e3 hx3 HX HZ HRW;refine aI 12 rfl Aab Aad ?_;go_simp;refine wpAny_done Aab ?_;clear d0 d1 d2 f0 f1 f2;go_wp2_with fail;refine iE (λW' hW'=>?_)
 have e4:W'.heap[w.heap.size]?=some (.cells #[.int .i64 f,.int .i64 low,.slice av l.length cv] 130 (0,0)):=by
  rw [hW'];exact GR.setW_blk [.int .i64 f,.int .i64 low,.slice av l.length cv] (o:=0) (xs:=[.int .i64 0,.int .i64 0,.slice none 0 0]) E3
 have hsw:w.heap.size < x2.heap.size:=by have:=HG.size;simp at this;omega
 have hg:x3.grownBy W' (some w.heap.size):=by
  rw [hW'];exact⟨rfl,rfl,rfl,Aaq,λk _ hk=>GR.setW_other (g':=k) (λe=>hk Aap) [.int .i64 f,.int .i64 low,.slice av l.length cv] (o:=0)⟩
 have hne:∀k,(Value.slice av l.length cv).ownBlock=some k->k≠w.heap.size:=λk hk=>by have:=(HR3.lt k hk).1;omega
 have hrow:W'.ownsRow x2.heap.size 3 1 (.slice av l.length cv) l.length (GR.flat bg l):=by
  refine HR3.kept (row:=some w.heap.size) hg ?_;cases hv:(Value.slice av l.length cv).ownBlock with
  |none=>exact .inl rfl
  |some k=>exact .inr (λe=>hne k hv (by injection e))
 have hbel:aH w W':=by
  rw [hW'];exact GR.setW_below (aER _) [.int .i64 f,.int .i64 low,.slice av l.length cv] (o:=0) ((au w _).trans (Ir.mono Aac))
 have HRW:=Hq (ownsRow_base_a hrow (show w.heap.size<=x2.heap.size by omega));have iQ:=Hq hbel;obtain⟨d0,d1,d2⟩:=three e4;clear hW' e4 hg hrow hbel;exact aEY (v:= .agg #[.int .i64 f,.int .i64 low,.slice av l.length cv]) (by simp[results,results252,go_sem,d0,d1,d2]) rfl ⟨_,rfl,HRW,iQ⟩
theorem AR {s:ByteArray} (hs:keyOk s.data.toList=true):s.size<=1048576:=by
 rcases Classical.em (1<=s.data.toList.length/\s.data.toList.length<=10) with h|h
 .have e:s.size=s.data.toList.length:=by rw [aFB];rfl
  omega
 .rw [keyOk_len _ h] at hs;cases hs
theorem afw (hok:dV n=true):eG n 1048576:=by
 obtain⟨h1,h2,h3,h4,h5,h6⟩:=bJ hok;have hq:=iY h6;have ho:=tK h5;have hn:=wT h1;have hpl:=h1;unfold eD at hpl;simp only[aEX,aFf] at hpl;have htl:=h3;unfold oZ at htl;rw [aEX,aFf] at htl;have hps:=(kH n.pu).1 h2;refine⟨Aaa,Aaa,Aaa,by split at htl<;>omega,Aaa,λx hx=>?_,λx hx=>?_,λx hx=>?_,λx hx=>?_⟩
 .grind [iG,AR]
 .grind [wU,AR]
 .have:=Bv hok x hx;unfold wD at this;grind
 .exact AR (kK (hq.2.2.1 x hx)).2.2.1
theorem ayg {o:gP} (hz:eG n 1048576):eG (doN n o).1 1048576:=by
 cases hok:dV n
 .rw [LY hok];exact hz
 .exact afw (Xa hok)
set_option maxHeartbeats 4000000
def mkMsg (k:Nat):Mg:=⟨(k:Int),(k:Int)+1,(k:Int)+2,(k:Int)+3,(k:Int)+4,mark (k+5),(k:Int)+6⟩
theorem GR.W.sevenM {a:Option Addr} {g:Nat} {l:List Mg} (h:GR.W jC 7 w a g l) (i:Nat) (hi:i < l.length):a=some ⟨g,0,none⟩/\g < w.heap.size/\(w.cell? ⟨g,i*7,none⟩=some (.int .i64 l[i].K)/\w.cell? ⟨g,i*7+1,none⟩=some (.int .i64 l[i].F)/\w.cell? ⟨g,i*7+2,none⟩=some (.int .i64 l[i].T)/\w.cell? ⟨g,i*7+3,none⟩=some (.int .i64 l[i].I)/\w.cell? ⟨g,i*7+4,none⟩=some (.int .i64 l[i].L)/\w.cell? ⟨g,i*7+5,none⟩=some (.string l[i].k)/\w.cell? ⟨g,i*7+6,none⟩=some (.int .i64 l[i].N))/\w.frozen? ⟨g,i*7,none⟩=false/\w.frozen? ⟨g,i*7+1,none⟩=false/\w.frozen? ⟨g,i*7+2,none⟩=false/\w.frozen? ⟨g,i*7+3,none⟩=false/\w.frozen? ⟨g,i*7+4,none⟩=false/\w.frozen? ⟨g,i*7+5,none⟩=false/\w.frozen? ⟨g,i*7+6,none⟩=false:=by
 obtain⟨e,hg,hc⟩:=h i hi;exact⟨e,hg,⟨by simpa using(hc 0 Aaa).1,by simpa using(hc 1 Aaa).1,by simpa using(hc 2 Aaa).1,by simpa using(hc 3 Aaa).1,by simpa using(hc 4 Aaa).1,by simpa using(hc 5 Aaa).1,by simpa using(hc 6 Aaa).1⟩,by simpa using(hc 0 Aaa).2,(hc 1 Aaa).2,(hc 2 Aaa).2,(hc 3 Aaa).2,(hc 4 Aaa).2,(hc 5 Aaa).2,(hc 6 Aaa).2⟩
theorem acP (a:Option Addr) (g c s:Nat) (l:List Mg) (w:World) (hs0:0 < s) (hs1:s<=4000000000000000) (hl:l.length<=1048600) (ha:GR.W jC 7 w a g l):
 Calls prog 13 #[.slice a l.length c,.int .i64 s] w λe w'=>e= .returned (.int .i64 (s+7*(l.length:Int)))/\GR.W jC 7 w' a g (jW mkMsg 7 s l l.length)/\aA (fp g l) w w':=by
 have HA:=Hq ha;clear ha;go_in
 go_wp2_with fail;go_loopw [1,5] (λkk i wr=>∃k m:Nat,k<=l.length/\i= .int .i64 k/\kk= .int .i64 m/\m=s+7*k/\GR.W jC 7 wr a g (jW mkMsg 7 s l k)/\aA (fp g l) w wr) (λ_ i _=>l.length - (intOf i).toNat)
 case atStart=>exact X9
 case round=>
  open apJ in exact Te
theorem abV (a:Option Addr) (g c n s:Nat) (l:List Mg) (w:World) (hn:n=l.length) (hs0:0 < s) (hs1:s<=4000000000000000) (hl:l.length<=1048600) (ha:GR.W jC 7 w a g (jW mkMsg 7 s l l.length)):
 Calls prog 16 #[.slice a n c,.int .i64 s] w (dU w (.int .i64 (s+7*(l.length:Int)))):=by
 have HA:=Hq ha;clear ha;subst hn;go_in
 go_wp2_with fail;go_loopw [1,5] (λkk i wr=>∃k m:Nat,k<=l.length/\i= .int .i64 k/\kk= .int .i64 m/\m=s+7*k/\aH w wr) (λ_ i _=>l.length - (intOf i).toNat)
 case atStart=>exact Tp
 case round=>
  open ar1 in exact E8
end Go.Proofs.YtbolgdleijjgfaaGreatDoor
