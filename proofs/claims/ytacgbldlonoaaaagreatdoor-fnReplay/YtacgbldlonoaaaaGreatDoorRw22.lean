/- Parts. -/
import Derived.Test.YtacgbldlonoaaaaGreatDoorRw14
namespace Go.Proofs.YtacgbldlonoaaaaGreatDoor
open Go.Proofs.Tryz
set_option maxHeartbeats 4000000
set_option maxRecDepth 100000
open Go.RowKit
open Mth
variable {c I c':Nat->Nat} {w' w0 X:World} {k B g x sz wb j gk gs Bo Br B':Nat} {n:Nd} {A:bC} {G:bJ} {v:Value} {a b:Option Addr} {L:List Mg} {l:List Sn} {α:Type} {ids:List Int} {enc:α->List Value} {e:TypeId} {xs:List Value} {F:List Nat}
theorem Bv.of_own {w:World} {n:Nat} (hn:n=L.length) (h:w'.ownsRow B 32 7 v n (GR.flat lF L)) (hB:w.heap.size<=B) (hb:aY w w'):Bv w L (.returned v) w':=by
 subst hn;obtain⟨a,c,g,rfl,hW,hr,_⟩:=GR.W.of_own oW h;exact⟨a,c,rfl,g,hW,λx hx=>⟨Nat.le_trans hB (hr x hx).1,(hr x hx).2⟩,hb⟩
theorem jd (enc:α->List Value) (l:List α) (x:α):GR.flat enc (l++[x])=GR.flat enc l++enc x:=by
 rw [GR.flat_append];simp[GR.flat]
theorem acR (n:Nd) (A:bC) (w:World) (hsz:eY n 1048600) (ha:bQ w A n):
 Calls prog 17 #[fT n A] w (Bv w (acC n)):=by
 obtain⟨i0,hi,hz0,hz1,hz2⟩:=info_parts Vy;have lD:=Hq (λW (hb:aY w W)=>uU n A W hsz (ha.below hb));have EI:=Hq (λs W (hb:aY w W) w1 (h:w1.heap=W.heap)=>M8 n A s w1 hsz.o (GR.At.heap (GR.At.below ha.o hb) h));obtain⟨L,hL⟩:∃L,acC n=L:=⟨_,rfl⟩;have Ob:Hid (L=if dY n then n.out.map (pU n) else[]):=hL.symm;have KQ:=Hq (heap_alloc_new w (.cells (dD n A) 30));have HAO:=Hq ha.o;have hlo:=hsz.o;rw [hL];clear hL;generalize dY n=OK at *;generalize pU n=PM at *;clear ha hsz;open aoQ in exact yc
abbrev RI (n:Nd) (A:bC) (v:Value):Array Value:=#[.int .i64 n.id,.int .i64 n.par,.slice A.k n.kids.length A.ck,.int .i64 n.next,.slice A.p n.pu.length A.cp,.slice A.o n.out.length A.co,.slice A.s n.seen.length A.cs,.int .i64 n.old,.slice A.r n.reqs.length A.cr,v]
theorem jr {w:World} {v0 v1 v2 v3 v4 v5 v6 v7 v8 v9:Value} {t:TypeId} (h:w.heap[g]?=some (.cells #[v0,v1,v2,v3,v4,v5,v6,v7,v8,v9] t (0,0))):
 w.cell? ⟨g,0,none⟩=some v0/\w.cell? ⟨g,1,none⟩=some v1/\w.cell? ⟨g,2,none⟩=some v2/\w.cell? ⟨g,3,none⟩=some v3/\w.cell? ⟨g,4,none⟩=some v4/\w.cell? ⟨g,5,none⟩=some v5/\w.cell? ⟨g,6,none⟩=some v6/\w.cell? ⟨g,7,none⟩=some v7/\w.cell? ⟨g,8,none⟩=some v8/\w.cell? ⟨g,9,none⟩=some v9:=by
 have hc:∀i,w.cell? ⟨g,i,none⟩=#[v0,v1,v2,v3,v4,v5,v6,v7,v8,v9][i]?:=λi=>cell_of_row w g i _ t (0,0) h
 exact⟨hc 0,hc 1,hc 2,hc 3,hc 4,hc 5,hc 6,hc 7,hc 8,hc 9⟩
structure WS (w2 wr:World) (wb:Nat) (n:Nd) (A:bC) (v:Value) (L:List Mg):Prop where
 keep:aC [wb] w2 wr
 blk:wr.heap[wb]?=some (.cells (RI n A v) 74 (0,0))
 own:wr.ownsRow w2.heap.size 32 7 v L.length (GR.flat lF L)
 lt:wb < w2.heap.size
structure KC (c:Nat->Nat) (k:Nat) (w w':World):Prop where
 os:w'.os=w.os
 tape:w'.tape=w.tape
 output:w'.output=w.output
 size:w.heap.size<=w'.heap.size
 block:∀x,x < w.heap.size->c x≠k->w'.heap[x]?=w.heap[x]?
theorem KC.of_below {w:World} (h:aY w w'):KC c k w w':=⟨h.os,h.tape,h.output,h.size,λx hx _=>h.block x hx⟩
theorem KC.trans {a b d:World} (h:KC c k a b) (h':KC c k b d):KC c k a d:=
 ⟨h'.os.trans h.os,h'.tape.trans h.tape,h'.output.trans h.output,Nat.le_trans h.size h'.size,λx hx hc=>(h'.block x (Nat.lt_of_lt_of_le hx h.size) hc).trans (h.block x hx hc)⟩
theorem KC.set {i:Nat} {w:World} (hc:c g=k):KC c k w (w.setCell ⟨g,i,none⟩ v):=
 ⟨rfl,rfl,rfl,Aas,λx _ hx=>Below.heap_setCell _ _ _ _ (λe=>hx (by rw [e];exact hc))⟩
theorem KC.keeps {w:World} (h:aC F w w') (hF:∀x∈F,c x=k):KC c k w w':=⟨h.os,h.tape,h.output,h.size,λx hx hc=>h.block x hx (λhm=>hc (hF x hm))⟩
theorem KC.grown {row:Option Nat} {w:World} (h:w.grownBy w' row) (hF:∀x,row=some x->c x=k):KC c k w w':=⟨h.os,h.tape,h.output,h.size,λx hx hc=>h.block x hx (λhm=>hc (hF x hm.symm))⟩
theorem KC.below {a w:World} (hb:Below B a w) (h:KC c k w w') (hlo:∀x,x < B->c x=0) (hk:k≠0) (hB:B<=w.heap.size):Below B a w':=
 ⟨h.os.trans hb.os,h.tape.trans hb.tape,h.output.trans hb.output,Nat.le_trans hb.size h.size,λx hx=>(h.block x Aaa (by rw [hlo x hx];omega)).trans (hb.block x hx)⟩
theorem KC.obj {w:World} {o:Obj} (h:KC c k w w') (ho:w.heap[g]?=some o) (hg:c g≠k):w'.heap[g]?=some o:=by rw [h.block g (aA ho) hg];exact ho
theorem KC.w {w:World} {l:List α} (h:KC c k w w') (hw:GR.W enc sz w a g l) (hc:∀x∈fp g l,c x=j) (hj:j≠k):GR.W enc sz w' a g l:=λi hi=>by
 obtain⟨e,hg,hcell⟩:=hw i hi;have hb:=h.block g hg (by rw [hc g (dK Aaa)];exact hj);exact⟨e,Nat.lt_of_lt_of_le hg h.size,λq hq=>⟨(World.cell?_of_block (w:=w) hb).trans (hcell q hq).1,(World.frozen?_of_block (w:=w) hb).trans (hcell q hq).2⟩⟩
theorem KC.own {w:World} {n:Nat} (h:KC c k w w') (ho:w.ownsRow B e sz v n xs) (hc:∀x,v.ownBlock=some x->c x=j) (hj:j≠k):w'.ownsRow B e sz v n xs:=by
 refine⟨ho.1,?_⟩;rcases ho.2 with hn|⟨g,cap,cur,rfl,hb,hgg,rest⟩
 .exact .inl hn
 .exact .inr ⟨g,cap,cur,rfl,hb,h.obj hgg (by rw [hc g rfl];exact hj),rest⟩
theorem KC.seen {w:World} (h:KC c k w w') (hs:jw w a g I l) (h4:∀x∈fp g l,c x=4) (h5:∀x∈vR I l,c x=5) (hk4:4≠k) (hk5:5≠k):jw w' a g I l:=by
 obtain⟨T,hT,hl,hr⟩:=hs;refine⟨T,h.w hT (λx hx=>h4 x ?_) hk4,hl,λi hi=>?_⟩
 .have:=gV hx;rw [this.1];exact dK Aaa
 .obtain⟨b,d,ht,hi2⟩:=hr i hi;exact⟨b,d,ht,h.w hi2 (λx hx=>h5 x (jH hi x hx)) hk5⟩
structure NO (w:World) (B:Nat) (n:Nd) (A:bC) (G:bJ) (c:Nat->Nat):Prop where
 k:GR.W aS 1 w A.k G.k n.kids
 p:GR.W fH 4 w A.p G.p n.pu
 o:w.ownsRow B 95 4 (.slice A.o n.out.length A.co) n.out.length (GR.flat aW n.out)
 s:jw w A.s G.s G.i n.seen
 r:w.ownsRow B 97 4 (.slice A.r n.reqs.length A.cr) n.reqs.length (GR.flat aN n.reqs)
 lo:∀x,x < B->c x=0
 ck:∀x∈fp G.k n.kids,c x=1
 cp:∀x∈fp G.p n.pu,c x=2
 co:∀x,(Value.slice A.o n.out.length A.co).ownBlock=some x->c x=3
 c4:∀x∈fp G.s n.seen,c x=4
 ci:∀x∈vR G.i n.seen,c x=5
 cr:∀x,(Value.slice A.r n.reqs.length A.cr).ownBlock=some x->c x=6
 ni:(vR G.i n.seen).Nodup
theorem NO.kc {w:World} (h:NO w B n A G c) (hk:KC c k w w') (h7:6 < k):NO w' B n A G c:=
 ⟨hk.w h.k h.ck Aaa,hk.w h.p h.cp Aaa,hk.own h.o h.co Aaa,hk.seen h.s h.c4 h.ci Aaa Aaa,hk.own h.r h.cr Aaa,h.lo,h.ck,h.cp,h.co,h.c4,h.ci,h.cr,h.ni⟩
theorem Fj {w:World} {l:List α} (h:GR.W enc sz w a g l):∀x∈fp g l,x < w.heap.size:=λx hx=>by
 have:=gV hx;rw [this.1];exact(h 0 this.2).2.1
theorem jK {w:World} (h:jw w a g I l):(∀x∈fp g l,x < w.heap.size)/\∀x∈vR I l,x < w.heap.size:=by
 obtain⟨T,hT,hl,hr⟩:=h;refine⟨λx hx=>Fj hT x ?_,λx hx=>?_⟩
 .have:=gV hx;rw [this.1];exact dK Aaa
 .obtain⟨i,hi,rfl,hpos⟩:=uO hx;obtain⟨b,d,ht,hi2⟩:=hr i hi;exact Fj hi2 _ (dK hpos)
theorem NO.recol {w:World} (h:NO w B n A G c) (hB:B<=w.heap.size) (hc:∀x,x < w.heap.size->c' x=c x):NO w B n A G c':=
 ⟨h.k,h.p,h.o,h.s,h.r,λx hx=>(hc x Aaa).trans (h.lo x hx),λx hx=>(hc x (Fj h.k x hx)).trans (h.ck x hx),λx hx=>(hc x (Fj h.p x hx)).trans (h.cp x hx),
  λx hx=>(hc x (h.o.lt x hx).2).trans (h.co x hx),λx hx=>(hc x ((jK h.s).1 x hx)).trans (h.c4 x hx),λx hx=>(hc x ((jK h.s).2 x hx)).trans (h.ci x hx),λx hx=>(hc x (h.r.lt x hx).2).trans (h.cr x hx),h.ni⟩
theorem NO.at {w:World} (h:NO w B n A G c):bQ w A n:=by
 refine⟨h.k.at,h.p.at,?_,h.s.at,?_⟩
 .exact ahz
 .exact ahA
structure WK (w0 w:World) (wb:Nat) (n:Nd) (A:bC) (G:bJ) (c:Nat->Nat) (v:Value) (L:List Mg):Prop where
 keep:aY w0 w
 blk:w.heap[wb]?=some (.cells (RI n A v) 74 (0,0))
 no:NO w w0.heap.size n A G c
 m:w.ownsRow w0.heap.size 32 7 v L.length (GR.flat lF L)
 cm:∀x,v.ownBlock=some x->c x=7
 cw:c wb=8
theorem WK.kc {w:World} (h:WK w0 w wb n A G c v L) (hk:KC c k w w') (h8:8 < k):WK w0 w' wb n A G c v L:=
 ⟨hk.below h.keep h.no.lo Aaa h.keep.size,hk.obj h.blk (by rw [h.cw];omega),h.no.kc hk Aaa,hk.own h.m h.cm Aaa,h.cm,h.cw⟩
theorem WK.step {w:World} (h:WK w0 w wb n A G c v L) (hb:aY w w'):WK w0 w' wb n A G c v L:=h.kc (k:=9) (KC.of_below hb) Aaa
theorem WK.recol {w:World} (h:WK w0 w wb n A G c v L) (hc:∀x,x < w.heap.size->c' x=c x):WK w0 w wb n A G c' v L:=
 ⟨h.keep,h.blk,h.no.recol h.keep.size hc,h.m,λx hx=>(hc x (h.m.lt x hx).2).trans (h.cm x hx),(hc wb (aA h.blk)).trans h.cw⟩
theorem WK.lo {w:World} (h:WK w0 w wb n A G c v L):w0.heap.size<=wb:=by
 rcases Nat.lt_or_ge wb w0.heap.size with h'|h'
 .have:=h.no.lo wb h';rw [h.cw] at this;cases this
 .exact h'
def newC (B k:Nat) (c:Nat->Nat):Nat->Nat:=λx=>if B<=x then k else c x
theorem eT (h:x < B):newC B k c x=c x:=by unfold newC;rw [if_neg Aaa]
theorem aZ (h:B<=x):newC B k c x=k:=by unfold newC;rw [if_pos h]
theorem NO.kc0 {w:World} (h:NO w B n A G c) (hk:KC c 0 w w'):NO w' B n A G c:=
 ⟨hk.w h.k h.ck Aaa,hk.w h.p h.cp Aaa,hk.own h.o h.co Aaa,hk.seen h.s h.c4 h.ci Aaa Aaa,hk.own h.r h.cr Aaa,h.lo,h.ck,h.cp,h.co,h.c4,h.ci,h.cr,h.ni⟩
theorem WK.start {y W:World} (hb:aY w0 y) (hN:NO y w0.heap.size n A G c) (hs:y.heap.size<=wb) (hY:aY y W) (hblk:W.heap[wb]?=some (.cells (RI n A (.slice none 0 0)) 74 (0,0))):WK w0 W wb n A G (newC y.heap.size 8 c) (.slice none 0 0) []:=by
 have h1:=(hN.recol (c':=newC y.heap.size 8 c) hb.size (λx hx=>eT hx)).kc (k:=9) (KC.of_below hY) Aaa;exact⟨hb.trans (hY.mono hb.size),hblk,h1,World.ownsRow_nil _ _ _ _,(λx hx=>by cases hx),aZ hs⟩
theorem WK.mute {w:World} (h:WK w0 w wb n A G c v L):WK w0 (w.setCell ⟨wb,9,none⟩ (.slice none 0 0)) wb n A G c (.slice none 0 0) []:=by
 have hk:KC c 8 w (w.setCell ⟨wb,9,none⟩ (.slice none 0 0)):=KC.keeps (aC.set _) (λx hx=>by rw [List.mem_singleton.1 hx];exact h.cw);exact⟨h.keep.setCell (p:=⟨wb,9,none⟩) h.lo _,aT h.blk 9 _,h.no.kc hk Aaa,World.ownsRow_nil _ _ _ _,(λx hx=>by cases hx),h.cw⟩
theorem mq (I:Nat->Nat) (l:List Sn):(vR I l).Nodup↔∀i j (hi:i < l.length) (hj:j < l.length),i < j->0 < l[i].ids.length->0 < l[j].ids.length->I i≠I j:=by
 have hg:∀i (hi:i < l.length),l.getD i default=l[i]:=λi hi=>by rw [List.getD_eq_getElem?_getD,List.getElem?_eq_getElem hi];rfl
 unfold vR List.Nodup;rw [List.pairwise_flatMap];constructor
 .rintro⟨_,h⟩ i j hi hj hij h1 h2 e;rw [List.pairwise_iff_getElem] at h;have:=h i j Aaq Abd hij;rw [List.getElem_range,List.getElem_range,hg i hi,hg j hj] at this;exact this (I i) (dK h1) (I j) (dK h2) e
 .intro h;refine⟨λi _=>abe _ _,?_⟩;rw [List.pairwise_iff_getElem];intro i j hi hj hij x hx y hy;have hi':i < l.length:=Aaq
  have hj':j < l.length:=Abd
  rw [List.getElem_range,hg i hi'] at hx;rw [List.getElem_range,hg j hj'] at hy;obtain⟨rfl,h1⟩:=gV hx;obtain⟨rfl,h2⟩:=gV hy;exact h i j hi' hj' hij h1 h2
theorem Fh (l:List Int):GR.flat aS l=l.map (Value.int .i64):=by
 induction l with
 |nil=>rfl
 |cons x l ih=>rw [GR.flat_cons,ih];rfl
theorem ql (q:Rq):∀u∈aN q,u.oneCell'=true:=by
 intro u hu;simp only[aN,List.mem_cons,List.not_mem_nil,or_false] at hu;rcases hu with rfl|rfl|rfl|rfl<;>rfl
theorem iP (l:List Rq):∀u∈GR.flat aN l,u.oneCell'=true:=by
 intro u hu;unfold GR.flat at hu;obtain⟨q,_,hq⟩:=List.mem_flatMap.1 hu;exact ql q u hq
def lS (I:Nat->Nat) (k gi:Nat):Nat->Nat:=λi=>if i=k then gi else I i
theorem jw.store {w:World} (h:jw w a g I l) (k:Nat) (hk:k < l.length) (s:Sn) (b:Option Addr) (cc gi:Nat) (hi:GR.W aS 1 w b gi s.ids) (hg4:∀x∈vR I l,x≠g) (hgi:∀x∈fp gi s.ids,x≠g):
 jw (GR.setW w g (k*3) [.int .i64 s.f,.int .i64 s.l,.slice b s.ids.length cc]) a g (lS I k gi) (l.set k s):=by
 obtain⟨T,hT,hl,hr⟩:=h;have hkT:k < T.length:=Aaa
 have hkp:=aK (g:=g) [.int .i64 s.f,.int .i64 s.l,.slice b s.ids.length cc] w (k*3);refine⟨T.set k ⟨s.f,s.l,.slice b s.ids.length cc⟩,GR.W.set eF hT k ⟨s.f,s.l,.slice b s.ids.length cc⟩ hkT,by simpa using hl,λi hi'=>?_⟩;exact axr
theorem KC.setW {o:Nat} {w:World} (vs:List Value) (hc:c g=k):KC c k w (GR.setW w g o vs):=KC.keeps (aK vs w o) (λx hx=>by have:x=g:=Aag;rw [this];exact hc)
structure WO (w:World) (b:Option Addr) (c x:Nat) (ids:List Int):Prop where
 W:GR.W aS 1 w b x ids
 e:ids=[]->c=0
 o:ids≠[]->w.ownsRow 0 3 1 (.slice b ids.length c) ids.length (GR.flat aS ids)
theorem WO.of_own {w:World} {c:Nat} (hW:GR.W aS 1 w b x ids) (h:w.ownsRow B 3 1 (.slice b ids.length c) ids.length (GR.flat aS ids)) (h0:ids=[]->c=0):WO w b c x ids:=
 ⟨hW,h0,λ_=>GR.own_lower h (Nat.zero_le _)⟩
theorem WO.blk {w:World} {c y:Nat} (h:WO w b c x ids) (hn:ids≠[]) (hy:(Value.slice b ids.length c).ownBlock=some y):y=x/\0 < ids.length:=by
 have hpos:0 < ids.length:=by
  cases ids with
  |nil=>exact absurd rfl hn
  |cons _ _=>simp
 obtain⟨e,_,_⟩:=h.W 0 hpos;subst e;exact⟨by simpa [Value.ownBlock] using hy.symm,hpos⟩
theorem WO.keeps {w:World} {c:Nat} (h:WO w b c x ids) (hk:aC F w w') (hd:∀y∈fp x ids,y∉F):WO w' b c x ids:=by
 refine⟨h.W.keeps hk hd,h.e,λhn=>⟨(h.o hn).1,?_⟩⟩;rcases(h.o hn).2 with h1|⟨g,cap,cur,hv,hb,hgg,rest⟩
 .exact .inl h1
 .refine .inr ⟨g,cap,cur,hv,hb,hk.obj hgg (λhm=>?_),rest⟩;have h2:=h.blk hn (y:=g) (by rw [hv];rfl);rw [h2.1] at hm;exact hd x (dK h2.2) hm
theorem WO.below {w:World} {c:Nat} (h:WO w b c x ids) (hb:aY w w'):WO w' b c x ids:=h.keeps (F:=[]) (aC.of_below hb) (λ_ _=>Aac)
theorem WO.blocks {w:World} {c:Nat} (h:WO w b c x ids) (hs:w.heap.size<=w'.heap.size) (hb:∀y∈fp x ids,w'.heap[y]?=w.heap[y]?):WO w' b c x ids:=by
 refine⟨λi hi=>?_,h.e,λhn=>⟨(h.o hn).1,?_⟩⟩
 .obtain⟨e,hg,hc⟩:=h.W i hi;have hbx:=hb x (dK Aaa);exact ahb
 .rcases(h.o hn).2 with h1|⟨g,cap,cur,hv,hB,hgg,rest⟩
  .exact .inl h1
  .have h2:=h.blk hn (y:=g) (by rw [hv];rfl);exact .inr ⟨g,cap,cur,hv,hB,(by rw [h2.1];rw [h2.1] at hgg;exact(hb x (dK h2.2)).trans hgg),rest⟩
def ZR (w:World) (l:List Sn) (T:List R3) (I:Nat->Nat):Prop:=T.length=l.length/\∀i (hi:i < l.length),∃b c,T[i]?=some ⟨l[i].f,l[i].l,.slice b l[i].ids.length c⟩/\WO w b c (I i) l[i].ids
def nR (w:World) (a:Option Addr) (g:Nat) (I:Nat->Nat) (l:List Sn):Prop:=(∃T,GR.W eP 3 w a g T/\ZR w l T I)/\(0 < l.length->∃cs,w.heap[g]?=some (.cells cs 90 (0,0)))
theorem nR.w {w:World} (h:nR w a g I l):jw w a g I l:=by
 obtain⟨⟨T,hT,hl,hr⟩,_⟩:=h;refine⟨T,hT,hl,λi hi=>?_⟩;obtain⟨b,c,ht,ho⟩:=hr i hi;exact⟨b,c,ht,ho.W⟩
theorem nR.blocks {w:World} (h:nR w a g I l) (hs:w.heap.size<=w'.heap.size) (hb:∀x∈fp g l,w'.heap[x]?=w.heap[x]?) (hI:∀x∈vR I l,w'.heap[x]?=w.heap[x]?):nR w' a g I l:=by
 obtain⟨⟨T,hT,hl,hr⟩,hy⟩:=h;refine⟨⟨T,λi hi=>?_,hl,λi hi=>?_⟩,λhp=>?_⟩
 .obtain⟨e,hg,hc⟩:=hT i hi;have hbx:=hb g (dK Aaa);exact ahb
 .obtain⟨b,c,ht,ho⟩:=hr i hi;exact⟨b,c,ht,ho.blocks hs (λx hx=>hI x (jH hi x hx))⟩
 .obtain⟨cs,hc⟩:=hy hp;exact⟨cs,(hb g (dK hp)).trans hc⟩
theorem KC.seenQ {w:World} (h:KC c k w w') (hs:nR w a g I l) (h4:∀x∈fp g l,c x=4) (h5:∀x∈vR I l,c x=5) (hk4:4≠k) (hk5:5≠k):nR w' a g I l:=
 hs.blocks h.size (λx hx=>h.block x ((jK hs.w).1 x hx) (by rw [h4 x hx];exact hk4)) (λx hx=>h.block x ((jK hs.w).2 x hx) (by rw [h5 x hx];exact hk5))
structure NQ (w:World) (B:Nat) (n:Nd) (A:bC) (G:bJ) (c:Nat->Nat):Prop extends NO w B n A G c where
 sq:nR w A.s G.s G.i n.seen
theorem NQ.kc {w:World} (h:NQ w B n A G c) (hk:KC c k w w') (h7:6 < k):NQ w' B n A G c:=
 ⟨h.toNO.kc hk h7,hk.seenQ h.sq h.c4 h.ci Aaa Aaa⟩
theorem NQ.recol {w:World} (h:NQ w B n A G c) (hB:B<=w.heap.size) (hc:∀x,x < w.heap.size->c' x=c x):NQ w B n A G c':=⟨h.toNO.recol hB hc,h.sq⟩
structure Rx (w:World) (A:bC) (n:Nd) (gk gs:Nat) (I:Nat->Nat) (c:Nat->Nat):Prop where
 k:GR.W aS 1 w A.k gk n.kids
 p:aI w A.p n.pu
 o:w.ownsRow 0 95 4 (.slice A.o n.out.length A.co) n.out.length (GR.flat aW n.out)
 s:nR w A.s gs I n.seen
 r:w.ownsRow 0 97 4 (.slice A.r n.reqs.length A.cr) n.reqs.length (GR.flat aN n.reqs)
 ck:∀x∈fp gk n.kids,c x=1
 cp:∀g,A.p.map (λy=>y.block)=some g->0 < n.pu.length->c g=2
 co:∀x,(Value.slice A.o n.out.length A.co).ownBlock=some x->c x=3
 c4:∀x∈fp gs n.seen,c x=4
 ci:∀x∈vR I n.seen,c x=5
 cr:∀x,(Value.slice A.r n.reqs.length A.cr).ownBlock=some x->c x=6
 ni:(vR I n.seen).Nodup
def RM (w:World) (A:bC) (n:Nd):Prop:=∃gk gs I c,Rx w A n gk gs I c
theorem Rx.at {w:World} (h:Rx w A n gk gs I c):bQ w A n:=by
 refine⟨h.k.at,h.p,?_,h.s.w.at,?_⟩
 .exact ahz
 .exact ahA
theorem RM.at {w:World} (h:RM w A n):bQ w A n:=by
 obtain⟨_,_,_,_,h⟩:=h;exact h.at
theorem RM.of {w:World} (k:GR.W aS 1 w A.k gk n.kids) (ck:∀x∈fp gk n.kids,c x=1) (s:nR w A.s gs I n.seen) (c4:∀x∈fp gs n.seen,c x=4) (ci:∀x∈vR I n.seen,c x=5) (ni:(vR I n.seen).Nodup) (p:aI w A.p n.pu) (cp:∀g,A.p.map (λy=>y.block)=some g->0 < n.pu.length->c g=2\/6 < c g) (o:w.ownsRow Bo 95 4 (.slice A.o n.out.length A.co) n.out.length (GR.flat aW n.out)) (co:∀x,(Value.slice A.o n.out.length A.co).ownBlock=some x->c x=3\/6 < c x) (r:w.ownsRow Br 97 4 (.slice A.r n.reqs.length A.cr) n.reqs.length (GR.flat aN n.reqs)) (cr:∀x,(Value.slice A.r n.reqs.length A.cr).ownBlock=some x->c x=6\/6 < c x) (po:∀g,A.p.map (λy=>y.block)=some g->0 < n.pu.length->6 < c g->(Value.slice A.o n.out.length A.co).ownBlock≠some g/\(Value.slice A.r n.reqs.length A.cr).ownBlock≠some g) (or:∀x,(Value.slice A.o n.out.length A.co).ownBlock=some x->6 < c x->(Value.slice A.r n.reqs.length A.cr).ownBlock≠some x):RM w A n:=by
 have po2:∀g,A.p.map (λy=>y.block)=some g->0 < n.pu.length->(Value.slice A.o n.out.length A.co).ownBlock≠some g/\(Value.slice A.r n.reqs.length A.cr).ownBlock≠some g:=λg hg hp=>by
  rcases cp g hg hp with h|h
  .exact⟨λe=>by have:=co g e;omega,λe=>by have:=cr g e;omega⟩
  .exact po g hg hp h
 have or2:∀x,(Value.slice A.o n.out.length A.co).ownBlock=some x->(Value.slice A.r n.reqs.length A.cr).ownBlock≠some x:=λx hx=>by
  rcases co x hx with h|h
  .exact λe=>by have:=cr x e;omega
  .exact or x hx h
 refine⟨gk,gs,I,λx=>if A.p.map (λy=>y.block)=some x/\0 < n.pu.length then 2 else if (Value.slice A.o n.out.length A.co).ownBlock=some x then 3 else if (Value.slice A.r n.reqs.length A.cr).ownBlock=some x then 6 else c x,?_⟩
 have same:∀x,c x=1\/c x=4\/c x=5->(if A.p.map (λy=>y.block)=some x/\0 < n.pu.length then 2 else if (Value.slice A.o n.out.length A.co).ownBlock=some x then 3 else if (Value.slice A.r n.reqs.length A.cr).ownBlock=some x then 6 else c x)=c x:=λx hx=>by
  rw [if_neg (λh=>by have:=cp x h.1 h.2;omega),if_neg (λh=>by have:=co x h;omega),if_neg (λh=>by have:=cr x h;omega)]
 refine⟨k,p,GR.own_lower o (Nat.zero_le _),s,GR.own_lower r (Nat.zero_le _),λx hx=>?_,λg hg hp=>?_,λx hx=>?_,λx hx=>?_,λx hx=>?_,λx hx=>?_,ni⟩
 .have:=ck x hx;show(if _ then _ else _)=1
  rw [same x Aaa];exact this
 .show(if _ then _ else _)=2
  rw [if_pos ⟨hg,hp⟩]
 .show(if _ then _ else _)=3
  rw [if_neg (λh=>(po2 x h.1 h.2).1 hx),if_pos hx]
 .have:=c4 x hx;show(if _ then _ else _)=4
  rw [same x Aaa];exact this
 .have:=ci x hx;show(if _ then _ else _)=5
  rw [same x Aaa];exact this
 .show(if _ then _ else _)=6
  rw [if_neg (λh=>(po2 x h.1 h.2).2 hx),if_neg (λh=>or2 x h hx),if_pos hx]
theorem ZT {w:World} {l:List α} (h:GR.W enc sz w a g l) (hp:0 < l.length):a.map (λy=>y.block)=some g:=by
 obtain⟨e,_,_⟩:=h 0 hp;rw [e];rfl
theorem NQ.rm {w:World} (h:NQ w B n A G c):RM w A n:=
 RM.of h.k h.ck h.sq h.c4 h.ci h.ni h.p.at (λg hg hp=>by rw [ZT h.p hp] at hg;cases hg;exact .inl (h.cp _ (dK hp))) h.o (λx hx=> .inl (h.co x hx)) h.r (λx hx=> .inl (h.cr x hx))
  (λg hg hp h6=>by rw [ZT h.p hp] at hg;cases hg;have:=h.cp _ (dK hp);omega) (λx hx h6=>by have:=h.co x hx;omega)
theorem nD {w:World} {c:Nat} {l:List α} (h:w.ownsRow B e sz (.slice a l.length c) l.length (GR.flat enc l)) (hg:a.map (λy=>y.block)=some g):(Value.slice a l.length c).ownBlock=some g:=by
 rcases h.2 with⟨hv,_⟩|⟨g',cap,cur,hv,_⟩
 .simp only[Value.slice.injEq] at hv;rw [hv.1] at hg;cases hg
 .simp only[Value.slice.injEq] at hv;rw [hv.1] at hg ⊢;cases hg
  rfl
theorem uQ {w:World} (h:w.ownsRow B e sz v k xs) (hx:v.ownBlock=some x):B<=x:=by
 rcases h.2 with⟨rfl,_⟩|⟨g,cap,cur,rfl,hb,_⟩
 .simp[Value.ownBlock] at hx
 .have:g=x:=Abo
  omega
theorem Mr {w:World} (h:w.ownsRow B e sz v k xs) (hx:v.ownBlock=some x):x < w.heap.size:=by
 rcases h.2 with⟨rfl,_⟩|⟨g,cap,cur,rfl,hb,hg,_⟩
 .simp[Value.ownBlock] at hx
 .have:g=x:=Abo
  rw [<-this];exact aA hg
theorem NQ.put {w:World} (h:NQ w B n A G c) (hc:NQ X B' n A G c') (n':Nd) (A':bC) (ek:n'.kids=n.kids) (es:n'.seen=n.seen) (ak:A'.k=A.k) (ea:A'.s=A.s) (p:aI w A'.p n'.pu) (cp:∀g,A'.p.map (λy=>y.block)=some g->0 < n'.pu.length->c' g=2\/6 < c' g) (o:w.ownsRow Bo 95 4 (.slice A'.o n'.out.length A'.co) n'.out.length (GR.flat aW n'.out)) (co:∀x,(Value.slice A'.o n'.out.length A'.co).ownBlock=some x->c' x=3\/6 < c' x) (r:w.ownsRow Br 97 4 (.slice A'.r n'.reqs.length A'.cr) n'.reqs.length (GR.flat aN n'.reqs)) (cr:∀x,(Value.slice A'.r n'.reqs.length A'.cr).ownBlock=some x->c' x=6\/6 < c' x) (po:∀g,A'.p.map (λy=>y.block)=some g->0 < n'.pu.length->6 < c' g->(Value.slice A'.o n'.out.length A'.co).ownBlock≠some g/\(Value.slice A'.r n'.reqs.length A'.cr).ownBlock≠some g) (or:∀x,(Value.slice A'.o n'.out.length A'.co).ownBlock=some x->6 < c' x->(Value.slice A'.r n'.reqs.length A'.cr).ownBlock≠some x):RM w A' n':=
 RM.of (c:=c') (gk:=G.k) (gs:=G.s) (I:=G.i) (by rw [ek,ak];exact h.k) (by rw [ek];exact hc.ck) (by rw [es,ea];exact h.sq) (by rw [es];exact hc.c4) (by rw [es];exact hc.ci) (by rw [es];exact hc.ni) p cp o co r cr po or
theorem NQ.cpB {w:World} (h:NQ w B n A G c) (hc:NQ X B' n A G c'):∀g,A.p.map (λy=>y.block)=some g->0 < n.pu.length->c' g=2:=λg hg hp=>by
 rw [ZT h.p hp] at hg;cases hg
 exact hc.cp _ (dK hp)
end Go.Proofs.YtacgbldlonoaaaaGreatDoor
