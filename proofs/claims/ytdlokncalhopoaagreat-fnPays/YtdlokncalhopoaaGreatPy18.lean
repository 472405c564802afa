/- Parts. -/
import Derived.Test.YtdlokncalhopoaaGreatPy15
namespace Go.Proofs.YtdlokncalhopoaaGreat
open Go.RowKit
open Mth
structure WO (w:World) (b:Option Addr) (c x:Nat) (ids:List Int):Prop where
 W:GR.W encNum 1 w b x ids
 e:ids=[]→c=0
 o:ids≠[]→w.ownsRow 0 3 1 (.slice b ids.length c) ids.length (GR.flat encNum ids)
theorem WO.of_own {w:World} {B:Nat} {b:Option Addr} {c x:Nat} {ids:List Int} (hW:GR.W encNum 1 w b x ids) (h:w.ownsRow B 3 1 (.slice b ids.length c) ids.length (GR.flat encNum ids)) (h0:ids=[]→c=0):WO w b c x ids:=
 ⟨hW,h0,fun _=>GR.own_lower h (Nat.zero_le _)⟩
theorem WO.blk {w:World} {b:Option Addr} {c x y:Nat} {ids:List Int} (h:WO w b c x ids) (hn:ids≠[]) (hy:(Value.slice b ids.length c).ownBlock=some y):y=x∧0 < ids.length:=by
 have hpos:0 < ids.length:=by
  cases ids with
  |nil=>exact absurd rfl hn
  |cons _ _=>simp
 obtain⟨e,_,_⟩:=h.W 0 hpos
 subst e
 exact⟨by simpa [Value.ownBlock] using hy.symm,hpos⟩
theorem WO.keeps {F:List Nat} {w w':World} {b:Option Addr} {c x:Nat} {ids:List Int} (h:WO w b c x ids) (hk:KeepsL F w w') (hd:∀y∈fp x ids,y∉F):WO w' b c x ids:=by
 refine⟨h.W.keeps hk hd,h.e,fun hn=>⟨(h.o hn).1,?_⟩⟩
 rcases(h.o hn).2 with h1|⟨g,cap,cur,hv,hb,hgg,rest⟩
 ·exact .inl h1
 ·refine .inr ⟨g,cap,cur,hv,hb,hk.obj hgg (fun hm=>?_),rest⟩
  have h2:=h.blk hn (y:=g) (by rw [hv];rfl)
  rw [h2.1] at hm
  exact hd x (fp_mem h2.2) hm
theorem WO.below {w w':World} {b:Option Addr} {c x:Nat} {ids:List Int} (h:WO w b c x ids) (hb:Below w.heap.size w w'):WO w' b c x ids:=h.keeps (F:=[]) (KeepsL.of_below hb) (fun _ _=>by simp)
theorem WO.blocks {w w':World} {b:Option Addr} {c x:Nat} {ids:List Int} (h:WO w b c x ids) (hs:w.heap.size≤w'.heap.size) (hb:∀y∈fp x ids,w'.heap[y]?=w.heap[y]?):WO w' b c x ids:=by
 refine⟨fun i hi=>?_,h.e,fun hn=>⟨(h.o hn).1,?_⟩⟩
 ·obtain⟨e,hg,hc⟩:=h.W i hi
  have hbx:=hb x (fp_mem (by omega))
  exact⟨e,Nat.lt_of_lt_of_le hg hs,fun j hj=>⟨(World.cell?_of_block (w:=w) hbx).trans (hc j hj).1,(World.frozen?_of_block (w:=w) hbx).trans (hc j hj).2⟩⟩
 ·rcases(h.o hn).2 with h1|⟨g,cap,cur,hv,hB,hgg,rest⟩
  ·exact .inl h1
  ·have h2:=h.blk hn (y:=g) (by rw [hv];rfl)
   exact .inr ⟨g,cap,cur,hv,hB,(by rw [h2.1];rw [h2.1] at hgg;exact(hb x (fp_mem h2.2)).trans hgg),rest⟩
def SeenRowQ (w:World) (l:List Sn) (T:List R3) (I:Nat→Nat):Prop:=T.length=l.length∧∀i (hi:i < l.length),∃b c,T[i]?=some ⟨l[i].f,l[i].l,.slice b l[i].ids.length c⟩∧WO w b c (I i) l[i].ids
def SeenQ (w:World) (a:Option Addr) (g:Nat) (I:Nat→Nat) (l:List Sn):Prop:=(∃T,GR.W encR3 3 w a g T∧SeenRowQ w l T I)∧(0 < l.length→∃cs,w.heap[g]?=some (.cells cs 71 (0,0)))
theorem SeenQ.w {w:World} {a:Option Addr} {g:Nat} {I:Nat→Nat} {l:List Sn} (h:SeenQ w a g I l):SeenW w a g I l:=by
 obtain⟨⟨T,hT,hl,hr⟩,_⟩:=h
 refine⟨T,hT,hl,fun i hi=>?_⟩
 obtain⟨b,c,ht,ho⟩:=hr i hi
 exact⟨b,c,ht,ho.W⟩
theorem SeenQ.blocks {w w':World} {a:Option Addr} {g:Nat} {I:Nat→Nat} {l:List Sn} (h:SeenQ w a g I l) (hs:w.heap.size≤w'.heap.size) (hb:∀x∈fp g l,w'.heap[x]?=w.heap[x]?) (hI:∀x∈fpI I l,w'.heap[x]?=w.heap[x]?):SeenQ w' a g I l:=by
 obtain⟨⟨T,hT,hl,hr⟩,hy⟩:=h
 refine⟨⟨T,fun i hi=>?_,hl,fun i hi=>?_⟩,fun hp=>?_⟩
 ·obtain⟨e,hg,hc⟩:=hT i hi
  have hbx:=hb g (fp_mem (by omega))
  exact⟨e,Nat.lt_of_lt_of_le hg hs,fun j hj=>⟨(World.cell?_of_block (w:=w) hbx).trans (hc j hj).1,(World.frozen?_of_block (w:=w) hbx).trans (hc j hj).2⟩⟩
 ·obtain⟨b,c,ht,ho⟩:=hr i hi
  exact⟨b,c,ht,ho.blocks hs (fun x hx=>hI x (fpI_mem hi x hx))⟩
 ·obtain⟨cs,hc⟩:=hy hp
  exact⟨cs,(hb g (fp_mem hp)).trans hc⟩
theorem KC.seenQ {c:Nat→Nat} {k:Nat} {w w':World} {a:Option Addr} {g:Nat} {I:Nat→Nat} {l:List Sn} (h:KC c k w w') (hs:SeenQ w a g I l) (h4:∀x∈fp g l,c x=4) (h5:∀x∈fpI I l,c x=5) (hk4:4≠k) (hk5:5≠k):SeenQ w' a g I l:=
 hs.blocks h.size (fun x hx=>h.block x ((seen_lt hs.w).1 x hx) (by rw [h4 x hx];exact hk4)) (fun x hx=>h.block x ((seen_lt hs.w).2 x hx) (by rw [h5 x hx];exact hk5))
structure NQ (w:World) (B:Nat) (n:Nd) (A:Ads) (G:Blks) (c:Nat→Nat):Prop extends NO w B n A G c where
 sq:SeenQ w A.s G.s G.i n.seen
theorem NQ.kc {w w':World} {B:Nat} {n:Nd} {A:Ads} {G:Blks} {c:Nat→Nat} {k:Nat} (h:NQ w B n A G c) (hk:KC c k w w') (h7:6 < k):NQ w' B n A G c:=
 ⟨h.toNO.kc hk h7,hk.seenQ h.sq h.c4 h.ci (by omega) (by omega)⟩
theorem NQ.recol {w:World} {B:Nat} {n:Nd} {A:Ads} {G:Blks} {c c':Nat→Nat} (h:NQ w B n A G c) (hB:B≤w.heap.size) (hc:∀x,x < w.heap.size→c' x=c x):NQ w B n A G c':=⟨h.toNO.recol hB hc,h.sq⟩
structure RMc (w:World) (A:Ads) (n:Nd) (gk gs:Nat) (I:Nat→Nat) (c:Nat→Nat):Prop where
 k:GR.W encNum 1 w A.k gk n.kids
 p:PursesAt w A.p n.pu
 o:w.ownsRow 0 40 4 (.slice A.o n.out.length A.co) n.out.length (GR.flat encSnt n.out)
 s:SeenQ w A.s gs I n.seen
 r:w.ownsRow 0 56 4 (.slice A.r n.reqs.length A.cr) n.reqs.length (GR.flat encRq n.reqs)
 ck:∀x∈fp gk n.kids,c x=1
 cp:∀g,A.p.map (fun y=>y.block)=some g→0 < n.pu.length→c g=2
 co:∀x,(Value.slice A.o n.out.length A.co).ownBlock=some x→c x=3
 c4:∀x∈fp gs n.seen,c x=4
 ci:∀x∈fpI I n.seen,c x=5
 cr:∀x,(Value.slice A.r n.reqs.length A.cr).ownBlock=some x→c x=6
 ni:(fpI I n.seen).Nodup
def RM (w:World) (A:Ads) (n:Nd):Prop:=∃gk gs I c,RMc w A n gk gs I c
theorem RMc.at {w:World} {A:Ads} {n:Nd} {gk gs:Nat} {I:Nat→Nat} {c:Nat→Nat} (h:RMc w A n gk gs I c):NodeAt w A n:=by
 refine⟨h.k.at,h.p,?_,h.s.w.at,?_⟩
 ·obtain⟨a,cp,he,ha⟩:=GR.own_at (enc:=encSnt) (sz:=4) (l:=n.out) encSnt_length h.o
  cases he
  exact ha
 ·obtain⟨a,cp,he,ha⟩:=GR.own_at (enc:=encRq) (sz:=4) (l:=n.reqs) encRq_length h.r
  cases he
  exact ha
theorem RM.at {w:World} {A:Ads} {n:Nd} (h:RM w A n):NodeAt w A n:=by
 obtain⟨_,_,_,_,h⟩:=h
 exact h.at
theorem RM.of {w:World} {n:Nd} {A:Ads} {gk gs Bo Br:Nat} {I:Nat→Nat} {c:Nat→Nat} (k:GR.W encNum 1 w A.k gk n.kids) (ck:∀x∈fp gk n.kids,c x=1)
 (s:SeenQ w A.s gs I n.seen) (c4:∀x∈fp gs n.seen,c x=4) (ci:∀x∈fpI I n.seen,c x=5) (ni:(fpI I n.seen).Nodup)
 (p:PursesAt w A.p n.pu) (cp:∀g,A.p.map (fun y=>y.block)=some g→0 < n.pu.length→c g=2∨6 < c g)
 (o:w.ownsRow Bo 40 4 (.slice A.o n.out.length A.co) n.out.length (GR.flat encSnt n.out)) (co:∀x,(Value.slice A.o n.out.length A.co).ownBlock=some x→c x=3∨6 < c x)
 (r:w.ownsRow Br 56 4 (.slice A.r n.reqs.length A.cr) n.reqs.length (GR.flat encRq n.reqs)) (cr:∀x,(Value.slice A.r n.reqs.length A.cr).ownBlock=some x→c x=6∨6 < c x)
 (po:∀g,A.p.map (fun y=>y.block)=some g→0 < n.pu.length→6 < c g→(Value.slice A.o n.out.length A.co).ownBlock≠some g∧(Value.slice A.r n.reqs.length A.cr).ownBlock≠some g)
 (or:∀x,(Value.slice A.o n.out.length A.co).ownBlock=some x→6 < c x→(Value.slice A.r n.reqs.length A.cr).ownBlock≠some x):RM w A n:=by
 have po2:∀g,A.p.map (fun y=>y.block)=some g→0 < n.pu.length→(Value.slice A.o n.out.length A.co).ownBlock≠some g∧(Value.slice A.r n.reqs.length A.cr).ownBlock≠some g:=fun g hg hp=>by
  rcases cp g hg hp with h|h
  ·exact⟨fun e=>by have:=co g e;omega,fun e=>by have:=cr g e;omega⟩
  ·exact po g hg hp h
 have or2:∀x,(Value.slice A.o n.out.length A.co).ownBlock=some x→(Value.slice A.r n.reqs.length A.cr).ownBlock≠some x:=fun x hx=>by
  rcases co x hx with h|h
  ·exact fun e=>by have:=cr x e;omega
  ·exact or x hx h
 refine⟨gk,gs,I,fun x=>if A.p.map (fun y=>y.block)=some x∧0 < n.pu.length then 2 else if (Value.slice A.o n.out.length A.co).ownBlock=some x then 3 else if (Value.slice A.r n.reqs.length A.cr).ownBlock=some x then 6 else c x,?_⟩
 have same:∀x,c x=1∨c x=4∨c x=5→(if A.p.map (fun y=>y.block)=some x∧0 < n.pu.length then 2 else if (Value.slice A.o n.out.length A.co).ownBlock=some x then 3 else if (Value.slice A.r n.reqs.length A.cr).ownBlock=some x then 6 else c x)=c x:=fun x hx=>by
  rw [if_neg (fun h=>by have:=cp x h.1 h.2;omega),if_neg (fun h=>by have:=co x h;omega),if_neg (fun h=>by have:=cr x h;omega)]
 refine⟨k,p,GR.own_lower o (Nat.zero_le _),s,GR.own_lower r (Nat.zero_le _),fun x hx=>?_,fun g hg hp=>?_,fun x hx=>?_,fun x hx=>?_,fun x hx=>?_,fun x hx=>?_,ni⟩
 ·have:=ck x hx
  show(if _ then _ else _)=1
  rw [same x (by omega)]
  exact this
 ·show(if _ then _ else _)=2
  rw [if_pos ⟨hg,hp⟩]
 ·show(if _ then _ else _)=3
  rw [if_neg (fun h=>(po2 x h.1 h.2).1 hx),if_pos hx]
 ·have:=c4 x hx
  show(if _ then _ else _)=4
  rw [same x (by omega)]
  exact this
 ·have:=ci x hx
  show(if _ then _ else _)=5
  rw [same x (by omega)]
  exact this
 ·show(if _ then _ else _)=6
  rw [if_neg (fun h=>(po2 x h.1 h.2).2 hx),if_neg (fun h=>or2 x h hx),if_pos hx]
theorem W_blk {α:Type} {enc:α→List Value} {sz:Nat} {w:World} {a:Option Addr} {g:Nat} {l:List α} (h:GR.W enc sz w a g l) (hp:0 < l.length):a.map (fun y=>y.block)=some g:=by
 obtain⟨e,_,_⟩:=h 0 hp
 rw [e]
 rfl
theorem NQ.rm {w:World} {B:Nat} {n:Nd} {A:Ads} {G:Blks} {c:Nat→Nat} (h:NQ w B n A G c):RM w A n:=
 RM.of h.k h.ck h.sq h.c4 h.ci h.ni h.p.at (fun g hg hp=>by rw [W_blk h.p hp] at hg;cases hg;exact .inl (h.cp _ (fp_mem hp))) h.o (fun x hx=> .inl (h.co x hx)) h.r (fun x hx=> .inl (h.cr x hx))
  (fun g hg hp h6=>by rw [W_blk h.p hp] at hg;cases hg;have:=h.cp _ (fp_mem hp);omega) (fun x hx h6=>by have:=h.co x hx;omega)
theorem own_blkA {α:Type} {enc:α→List Value} {sz B:Nat} {w:World} {e:TypeId} {a:Option Addr} {c g:Nat} {l:List α} (h:w.ownsRow B e sz (.slice a l.length c) l.length (GR.flat enc l)) (hg:a.map (fun y=>y.block)=some g):(Value.slice a l.length c).ownBlock=some g:=by
 rcases h.2 with⟨hv,_⟩|⟨g',cap,cur,hv,_⟩
 ·simp only[Value.slice.injEq] at hv
  rw [hv.1] at hg
  cases hg
 ·simp only[Value.slice.injEq] at hv
  rw [hv.1] at hg ⊢
  cases hg
  rfl
theorem own_lo {w:World} {B sz k x:Nat} {e:TypeId} {v:Value} {xs:List Value} (h:w.ownsRow B e sz v k xs) (hx:v.ownBlock=some x):B≤x:=by
 rcases h.2 with⟨rfl,_⟩|⟨g,cap,cur,rfl,hb,_⟩
 ·simp[Value.ownBlock] at hx
 ·have:g=x:=by simpa [Value.ownBlock] using hx
  omega
theorem own_lt {w:World} {B sz k x:Nat} {e:TypeId} {v:Value} {xs:List Value} (h:w.ownsRow B e sz v k xs) (hx:v.ownBlock=some x):x < w.heap.size:=by
 rcases h.2 with⟨rfl,_⟩|⟨g,cap,cur,rfl,hb,hg,_⟩
 ·simp[Value.ownBlock] at hx
 ·have:g=x:=by simpa [Value.ownBlock] using hx
  rw [←this]
  exact obj_lt hg
theorem NQ.put {w X:World} {B B' Bo Br:Nat} {n:Nd} {A:Ads} {G:Blks} {c c':Nat→Nat} (h:NQ w B n A G c) (hc:NQ X B' n A G c') (n':Nd) (A':Ads) (ek:n'.kids=n.kids) (es:n'.seen=n.seen) (ak:A'.k=A.k) (ea:A'.s=A.s)
 (p:PursesAt w A'.p n'.pu) (cp:∀g,A'.p.map (fun y=>y.block)=some g→0 < n'.pu.length→c' g=2∨6 < c' g)
 (o:w.ownsRow Bo 40 4 (.slice A'.o n'.out.length A'.co) n'.out.length (GR.flat encSnt n'.out)) (co:∀x,(Value.slice A'.o n'.out.length A'.co).ownBlock=some x→c' x=3∨6 < c' x)
 (r:w.ownsRow Br 56 4 (.slice A'.r n'.reqs.length A'.cr) n'.reqs.length (GR.flat encRq n'.reqs)) (cr:∀x,(Value.slice A'.r n'.reqs.length A'.cr).ownBlock=some x→c' x=6∨6 < c' x)
 (po:∀g,A'.p.map (fun y=>y.block)=some g→0 < n'.pu.length→6 < c' g→(Value.slice A'.o n'.out.length A'.co).ownBlock≠some g∧(Value.slice A'.r n'.reqs.length A'.cr).ownBlock≠some g)
 (or:∀x,(Value.slice A'.o n'.out.length A'.co).ownBlock=some x→6 < c' x→(Value.slice A'.r n'.reqs.length A'.cr).ownBlock≠some x):RM w A' n':=
 RM.of (c:=c') (gk:=G.k) (gs:=G.s) (I:=G.i) (by rw [ek,ak];exact h.k) (by rw [ek];exact hc.ck) (by rw [es,ea];exact h.sq) (by rw [es];exact hc.c4) (by rw [es];exact hc.ci) (by rw [es];exact hc.ni) p cp o co r cr po or
theorem NQ.cpB {w:World} {B:Nat} {n:Nd} {A:Ads} {G:Blks} {c:Nat→Nat} {X:World} {B':Nat} {c':Nat→Nat} (h:NQ w B n A G c) (hc:NQ X B' n A G c'):∀g,A.p.map (fun y=>y.block)=some g→0 < n.pu.length→c' g=2:=fun g hg hp=>by
 rw [W_blk h.p hp] at hg
 cases hg
 exact hc.cp _ (fp_mem hp)
end Go.Proofs.YtdlokncalhopoaaGreat
