/- Parts. -/
import Derived.Test.YtacgbldlonoaaaaGreatDoorRa15
namespace Go.Proofs.YtacgbldlonoaaaaGreatDoor
open Go.RowKit
open Mth
theorem lH {P:Program} (w:World) (base:Nat) (t ty e:TypeId) (i:TypeInfo) (size:Nat) (ht:P.underlying t=some (.slice e)) (hi:P.info? e=some i)
 (v:Value) (n:Nat) (xs:List Value) (hown:w.ownsRow base e size v n xs) (a:Option Addr) (c:Nat):
 (Builtin.append_ #[t,t] ty #[v,.slice a 0 c]).run P w= .ok v w:=by
 rcases hown.2 with⟨rfl,rfl⟩|⟨g,cap,cur,rfl,_,_,hnc,_⟩
 ·cases a<;>simp[Builtin.append_,run_underlying ht,sizeOf,typeInfo,hi,Builtin.lenOf,Builtin.firstCells,loadCells,loadCellsFrom]
 ·cases a<;>simp[Builtin.append_,run_underlying ht,sizeOf,typeInfo,hi,Builtin.lenOf,Builtin.firstCells,loadCells,loadCellsFrom,hnc,storeCells]
theorem dX {P:Program} {α:Type} {enc:α→List Value} {sz:Nat} (hs:∀x,(enc x).length=sz) (hz:0 < sz) (w:World) (base:Nat) (t ty e:TypeId) (i:TypeInfo) (z:Value) (bytes:Nat) (ht:P.underlying t=some (.slice e)) (hi:P.info? e=some i) (hz0:i.zero=some z)
 (hsize:i.size=sz) (hby:i.bytes=bytes) (hzs:z.cells.size=sz) (v:Value) (n:Nat) (xs:List Value) (hown:w.ownsRow base e sz v n xs)
 (a:Option Addr) (l:List α) (c:Nat) (ha:GR.At enc sz w a l) (h1:∀u∈GR.flat enc l,u.oneCell'=true) (h63:n+l.length≤maxLen) (hbytes:(n+l.length)*bytes≤140737488355328) (hbase:base≤w.heap.size):
 ∃v' w',(Builtin.append_ #[t,t] ty #[v,.slice a l.length c]).run P w= .ok v' w'∧w'.ownsRow base e sz v' (n+l.length) (xs++GR.flat enc l)∧w.grownBy w' v.ownBlock∧∀x,v'.ownBlock=some x→v.ownBlock=some x∨w.heap.size≤x:=by
 by_cases hl:l.length=0
 ·have hn:l=[]:=List.eq_nil_of_length_eq_zero hl;subst hn;exact⟨v,w,lH w base t ty e i sz ht hi v n xs hown a c,by simpa [GR.flat] using hown,World.grownBy.refl _ _,fun x hx=> .inl hx⟩
 ·obtain⟨g,off,rfl,_⟩:=ha 0 (by omega);exact fu w base t ty e i z sz bytes ht hi hz0 hsize hby hzs hz v n xs hown ⟨g,off,none⟩ l.length c (GR.flat enc l) (GR.flat_length enc sz hs l) (Mq hs hz ha) h1 h63 hbytes hbase
theorem run_copy_row {P:Program} {α:Type} {enc:α→List Value} {sz:Nat} (hs:∀x,(enc x).length=sz) (hz:0 < sz) (w:World) (t e:TypeId) (i:TypeInfo) (z:Value) (bytes:Nat) (ht:P.underlying t=some (.slice e)) (hi:P.info? e=some i) (hz0:i.zero=some z)
 (hsize:i.size=sz) (hby:i.bytes=bytes) (hzs:z.cells.size=sz) (a:Option Addr) (l:List α) (c:Nat) (ha:GR.At enc sz w a l) (h1:∀u∈GR.flat enc l,u.oneCell'=true) (h63:l.length≤maxLen) (hbytes:l.length*bytes≤140737488355328):
 ∃a' c' w',(∀ty,(Builtin.append_ #[t,t] ty #[.slice (some ⟨w.heap.size,0,none⟩) 0 0,.slice a l.length c]).run P (w.alloc (.cells #[] e))= .ok (.slice a' l.length c') w')∧w'.ownsRow w.heap.size e sz (.slice a' l.length c') l.length (GR.flat enc l)∧Below w.heap.size w w'∧(∃g,a'=some ⟨g,0,none⟩)∧l.length≤c':=by
 open akG in exact Yq
theorem BJ {P:Program} {α:Type} {enc:α→List Value} {sz:Nat} (hs:∀x,(enc x).length=sz) (hz:0 < sz) (w:World) (t e:TypeId) (i:TypeInfo) (z:Value) (bytes:Nat) (ht:P.underlying t=some (.slice e)) (hi:P.info? e=some i) (hz0:i.zero=some z)
 (hsize:i.size=sz) (hby:i.bytes=bytes) (hzs:z.cells.size=sz) (a:Option Addr) (l:List α) (c:Nat) (ha:GR.At enc sz w a l) (h1:∀u∈GR.flat enc l,u.oneCell'=true) (h63:l.length≤maxLen) (hbytes:l.length*bytes≤140737488355328):
 ∃a' c' w',(∀ty,(Builtin.append_ #[t,t] ty #[.slice (some ⟨w.heap.size,0,none⟩) 0 0,.slice a l.length c]).run P (w.alloc (.cells #[] e))= .ok (.slice a' l.length c') w')∧w'.ownsRow w.heap.size e sz (.slice a' l.length c') l.length (GR.flat enc l)∧Below w.heap.size w w'∧(l=[]→c'=0):=by
 by_cases hl0:l.length=0
 ·have hn:l=[]:=List.eq_nil_of_length_eq_zero hl0;subst hn;open akF in exact Yq
 ·obtain⟨a',c',w',q1,q2,q3,_⟩:=run_copy_row hs hz w t e i z bytes ht hi hz0 hsize hby hzs a l c ha h1 h63 hbytes;exact⟨a',c',w',q1,q2,q3,fun e=>absurd (by rw [e];rfl) hl0⟩
theorem fA {P:Program} {w:World} {ops:Array Oper} {rest:List Oper} {o:Oper} {a:Act} {Q:Exit→Act→World→Prop} (hgd:o.guard=none) (s x:Operand) (t:TypeId)
 (ho:o.op= .call {callee:= .builtin .append,args:=#[s,x],argTypes:=#[t,t]}) (vs vx:Value) (hs:a.eval s=vs) (hx:a.eval x=vx) (v':Value) (w':World) (hrun:(Builtin.append_ #[t,t] o.type #[vs,vx]).run P w= .ok v' w')
 (h:wpList P ops Q rest (a.put o.dst v') w'):wpList P ops Q (o::rest) a w:=by
 refine wpList_plain hgd fun K hK=>?_
 unfold Oper.wp;simp[execOp,ho,resolve,invoke,builtin,hs,hx,hrun,Result.andThen];exact hK _ _ h
set_option maxHeartbeats 1000000
set_option maxRecDepth 100000
theorem EA (a:Option Addr) (cap:Nat) (l:List Pu) (w:World) (hl:l.length≤1048600) (hn:a=none→l.length=0∧cap=0) (ha:aH w a l):
 Calls Tryz.prog 114 #[.slice a l.length cap] w fun e w'=>∃v,e= .returned v∧v≠ .slice none 0 0∧w'.ownsRow w.heap.size 143 4 v l.length (GR.flat eG l)∧Below w.heap.size w w':=by
 obtain⟨i0,hi,hz0,hz1,hz2⟩:=info_parts zL;open akX in exact Yy
structure WO (w:World) (b:Option Addr) (c x:Nat) (ids:List Int):Prop where
 W:GR.W aR 1 w b x ids
 e:ids=[]→c=0
 o:ids≠[]→w.ownsRow 0 3 1 (.slice b ids.length c) ids.length (GR.flat aR ids)
theorem WO.of_own {w:World} {B:Nat} {b:Option Addr} {c x:Nat} {ids:List Int} (hW:GR.W aR 1 w b x ids) (h:w.ownsRow B 3 1 (.slice b ids.length c) ids.length (GR.flat aR ids)) (h0:ids=[]→c=0):WO w b c x ids:=
 ⟨hW,h0,fun _=>GR.own_lower h (Nat.zero_le _)⟩
theorem WO.blk {w:World} {b:Option Addr} {c x y:Nat} {ids:List Int} (h:WO w b c x ids) (hn:ids≠[]) (hy:(Value.slice b ids.length c).ownBlock=some y):y=x∧0 < ids.length:=by
 have hpos:0 < ids.length:=by
  cases ids with
  |nil=>exact absurd rfl hn
  |cons _ _=>simp
 obtain⟨e,_,_⟩:=h.W 0 hpos;subst e;exact⟨by simpa [Value.ownBlock] using hy.symm,hpos⟩
theorem WO.keeps {F:List Nat} {w w':World} {b:Option Addr} {c x:Nat} {ids:List Int} (h:WO w b c x ids) (hk:aC F w w') (hd:∀y∈fp x ids,y∉F):WO w' b c x ids:=by
 refine⟨h.W.keeps hk hd,h.e,fun hn=>⟨(h.o hn).1,?_⟩⟩;rcases(h.o hn).2 with h1|⟨g,cap,cur,hv,hb,hgg,rest⟩
 ·exact .inl h1
 ·refine .inr ⟨g,cap,cur,hv,hb,hk.obj hgg (fun hm=>?_),rest⟩;have h2:=h.blk hn (y:=g) (by rw [hv];rfl);rw [h2.1] at hm;exact hd x (dz h2.2) hm
theorem WO.below {w w':World} {b:Option Addr} {c x:Nat} {ids:List Int} (h:WO w b c x ids) (hb:Below w.heap.size w w'):WO w' b c x ids:=h.keeps (F:=[]) (aC.of_below hb) (fun _ _=>by simp)
theorem WO.blocks {w w':World} {b:Option Addr} {c x:Nat} {ids:List Int} (h:WO w b c x ids) (hs:w.heap.size≤w'.heap.size) (hb:∀y∈fp x ids,w'.heap[y]?=w.heap[y]?):WO w' b c x ids:=by
 refine⟨fun i hi=>?_,h.e,fun hn=>⟨(h.o hn).1,?_⟩⟩
 ·obtain⟨e,hg,hc⟩:=h.W i hi;have hbx:=hb x (dz (by omega));exact anu
 ·rcases(h.o hn).2 with h1|⟨g,cap,cur,hv,hB,hgg,rest⟩
  ·exact .inl h1
  ·have h2:=h.blk hn (y:=g) (by rw [hv];rfl);exact .inr ⟨g,cap,cur,hv,hB,(by rw [h2.1];rw [h2.1] at hgg;exact(hb x (dz h2.2)).trans hgg),rest⟩
def Qo (w:World) (l:List Sn) (T:List R3) (I:Nat→Nat):Prop:=T.length=l.length∧∀i (hi:i < l.length),∃b c,T[i]?=some ⟨l[i].f,l[i].l,.slice b l[i].ids.length c⟩∧WO w b c (I i) l[i].ids
def lJ (w:World) (a:Option Addr) (g:Nat) (I:Nat→Nat) (l:List Sn):Prop:=(∃T,GR.W cu 3 w a g T∧Qo w l T I)∧(0 < l.length→∃cs,w.heap[g]?=some (.cells cs 90 (0,0)))
theorem lJ.w {w:World} {a:Option Addr} {g:Nat} {I:Nat→Nat} {l:List Sn} (h:lJ w a g I l):eO w a g I l:=by
 obtain⟨⟨T,hT,hl,hr⟩,_⟩:=h;refine⟨T,hT,hl,fun i hi=>?_⟩;obtain⟨b,c,ht,ho⟩:=hr i hi;exact⟨b,c,ht,ho.W⟩
theorem lJ.blocks {w w':World} {a:Option Addr} {g:Nat} {I:Nat→Nat} {l:List Sn} (h:lJ w a g I l) (hs:w.heap.size≤w'.heap.size) (hb:∀x∈fp g l,w'.heap[x]?=w.heap[x]?) (hI:∀x∈nM I l,w'.heap[x]?=w.heap[x]?):lJ w' a g I l:=by
 obtain⟨⟨T,hT,hl,hr⟩,hy⟩:=h;refine⟨⟨T,fun i hi=>?_,hl,fun i hi=>?_⟩,fun hp=>?_⟩
 ·obtain⟨e,hg,hc⟩:=hT i hi;have hbx:=hb g (dz (by omega));exact anu
 ·obtain⟨b,c,ht,ho⟩:=hr i hi;exact⟨b,c,ht,ho.blocks hs (fun x hx=>hI x (iL hi x hx))⟩
 ·obtain⟨cs,hc⟩:=hy hp;exact⟨cs,(hb g (dz hp)).trans hc⟩
theorem KC.seenQ {c:Nat→Nat} {k:Nat} {w w':World} {a:Option Addr} {g:Nat} {I:Nat→Nat} {l:List Sn} (h:KC c k w w') (hs:lJ w a g I l) (h4:∀x∈fp g l,c x=4) (h5:∀x∈nM I l,c x=5) (hk4:4≠k) (hk5:5≠k):lJ w' a g I l:=
 hs.blocks h.size (fun x hx=>h.block x ((nI hs.w).1 x hx) (by rw [h4 x hx];exact hk4)) (fun x hx=>h.block x ((nI hs.w).2 x hx) (by rw [h5 x hx];exact hk5))
structure NQ (w:World) (B:Nat) (n:Nd) (A:bE) (G:aU) (c:Nat→Nat):Prop extends NO w B n A G c where
 sq:lJ w A.s G.s G.i n.seen
theorem NQ.kc {w w':World} {B:Nat} {n:Nd} {A:bE} {G:aU} {c:Nat→Nat} {k:Nat} (h:NQ w B n A G c) (hk:KC c k w w') (h7:6 < k):NQ w' B n A G c:=
 ⟨h.toNO.kc hk h7,hk.seenQ h.sq h.c4 h.ci (by omega) (by omega)⟩
theorem NQ.recol {w:World} {B:Nat} {n:Nd} {A:bE} {G:aU} {c c':Nat→Nat} (h:NQ w B n A G c) (hB:B≤w.heap.size) (hc:∀x,x < w.heap.size→c' x=c x):NQ w B n A G c':=⟨h.toNO.recol hB hc,h.sq⟩
structure RMc (w:World) (A:bE) (n:Nd) (gk gs:Nat) (I:Nat→Nat) (c:Nat→Nat):Prop where
 k:GR.W aR 1 w A.k gk n.kids
 p:aH w A.p n.pu
 o:w.ownsRow 0 95 4 (.slice A.o n.out.length A.co) n.out.length (GR.flat aS n.out)
 s:lJ w A.s gs I n.seen
 r:w.ownsRow 0 97 4 (.slice A.r n.reqs.length A.cr) n.reqs.length (GR.flat aK n.reqs)
 ck:∀x∈fp gk n.kids,c x=1
 cp:∀g,A.p.map (fun y=>y.block)=some g→0 < n.pu.length→c g=2
 co:∀x,(Value.slice A.o n.out.length A.co).ownBlock=some x→c x=3
 c4:∀x∈fp gs n.seen,c x=4
 ci:∀x∈nM I n.seen,c x=5
 cr:∀x,(Value.slice A.r n.reqs.length A.cr).ownBlock=some x→c x=6
 ni:(nM I n.seen).Nodup
def RM (w:World) (A:bE) (n:Nd):Prop:=∃gk gs I c,RMc w A n gk gs I c
theorem RMc.at {w:World} {A:bE} {n:Nd} {gk gs:Nat} {I:Nat→Nat} {c:Nat→Nat} (h:RMc w A n gk gs I c):dQ w A n:=by
 refine⟨h.k.at,h.p,?_,h.s.w.at,?_⟩
 ·exact Zn
 ·exact Zo
theorem RM.at {w:World} {A:bE} {n:Nd} (h:RM w A n):dQ w A n:=by
 obtain⟨_,_,_,_,h⟩:=h;exact h.at
theorem RM.of {w:World} {n:Nd} {A:bE} {gk gs Bo Br:Nat} {I:Nat→Nat} {c:Nat→Nat} (k:GR.W aR 1 w A.k gk n.kids) (ck:∀x∈fp gk n.kids,c x=1)
 (s:lJ w A.s gs I n.seen) (c4:∀x∈fp gs n.seen,c x=4) (ci:∀x∈nM I n.seen,c x=5) (ni:(nM I n.seen).Nodup)
 (p:aH w A.p n.pu) (cp:∀g,A.p.map (fun y=>y.block)=some g→0 < n.pu.length→c g=2∨6 < c g)
 (o:w.ownsRow Bo 95 4 (.slice A.o n.out.length A.co) n.out.length (GR.flat aS n.out)) (co:∀x,(Value.slice A.o n.out.length A.co).ownBlock=some x→c x=3∨6 < c x)
 (r:w.ownsRow Br 97 4 (.slice A.r n.reqs.length A.cr) n.reqs.length (GR.flat aK n.reqs)) (cr:∀x,(Value.slice A.r n.reqs.length A.cr).ownBlock=some x→c x=6∨6 < c x)
 (po:∀g,A.p.map (fun y=>y.block)=some g→0 < n.pu.length→6 < c g→(Value.slice A.o n.out.length A.co).ownBlock≠some g∧(Value.slice A.r n.reqs.length A.cr).ownBlock≠some g)
 (or:∀x,(Value.slice A.o n.out.length A.co).ownBlock=some x→6 < c x→(Value.slice A.r n.reqs.length A.cr).ownBlock≠some x):RM w A n:=by
 have po2:∀g,A.p.map (fun y=>y.block)=some g→0 < n.pu.length→(Value.slice A.o n.out.length A.co).ownBlock≠some g∧(Value.slice A.r n.reqs.length A.cr).ownBlock≠some g:=fun g hg hp=>by
  rcases cp g hg hp with h|h
  ·exact⟨fun e=>by have:=co g e;omega,fun e=>by have:=cr g e;omega⟩
  ·exact po g hg hp h
 have or2:∀x,(Value.slice A.o n.out.length A.co).ownBlock=some x→(Value.slice A.r n.reqs.length A.cr).ownBlock≠some x:=fun x hx=>by
  rcases co x hx with h|h
  ·exact fun e=>by have:=cr x e;omega
  ·exact or x hx h
 refine⟨gk,gs,I,fun x=>if A.p.map (fun y=>y.block)=some x∧0 < n.pu.length then 2 else if (Value.slice A.o n.out.length A.co).ownBlock=some x then 3 else if (Value.slice A.r n.reqs.length A.cr).ownBlock=some x then 6 else c x,?_⟩
 have same:∀x,c x=1∨c x=4∨c x=5→(if A.p.map (fun y=>y.block)=some x∧0 < n.pu.length then 2 else if (Value.slice A.o n.out.length A.co).ownBlock=some x then 3 else if (Value.slice A.r n.reqs.length A.cr).ownBlock=some x then 6 else c x)=c x:=fun x hx=>by
  rw [if_neg (fun h=>by have:=cp x h.1 h.2;omega),if_neg (fun h=>by have:=co x h;omega),if_neg (fun h=>by have:=cr x h;omega)]
 refine⟨k,p,GR.own_lower o (Nat.zero_le _),s,GR.own_lower r (Nat.zero_le _),fun x hx=>?_,fun g hg hp=>?_,fun x hx=>?_,fun x hx=>?_,fun x hx=>?_,fun x hx=>?_,ni⟩
 ·have:=ck x hx;show(if _ then _ else _)=1
  rw [same x (by omega)];exact this
 ·show(if _ then _ else _)=2
  rw [if_pos ⟨hg,hp⟩]
 ·show(if _ then _ else _)=3
  rw [if_neg (fun h=>(po2 x h.1 h.2).1 hx),if_pos hx]
 ·have:=c4 x hx;show(if _ then _ else _)=4
  rw [same x (by omega)];exact this
 ·have:=ci x hx;show(if _ then _ else _)=5
  rw [same x (by omega)];exact this
 ·show(if _ then _ else _)=6
  rw [if_neg (fun h=>(po2 x h.1 h.2).2 hx),if_neg (fun h=>or2 x h hx),if_pos hx]
theorem Qp {α:Type} {enc:α→List Value} {sz:Nat} {w:World} {a:Option Addr} {g:Nat} {l:List α} (h:GR.W enc sz w a g l) (hp:0 < l.length):a.map (fun y=>y.block)=some g:=by
 obtain⟨e,_,_⟩:=h 0 hp;rw [e];rfl
theorem NQ.rm {w:World} {B:Nat} {n:Nd} {A:bE} {G:aU} {c:Nat→Nat} (h:NQ w B n A G c):RM w A n:=
 RM.of h.k h.ck h.sq h.c4 h.ci h.ni h.p.at (fun g hg hp=>by rw [Qp h.p hp] at hg;cases hg;exact .inl (h.cp _ (dz hp))) h.o (fun x hx=> .inl (h.co x hx)) h.r (fun x hx=> .inl (h.cr x hx))
  (fun g hg hp h6=>by rw [Qp h.p hp] at hg;cases hg;have:=h.cp _ (dz hp);omega) (fun x hx h6=>by have:=h.co x hx;omega)
theorem lq {α:Type} {enc:α→List Value} {sz B:Nat} {w:World} {e:TypeId} {a:Option Addr} {c g:Nat} {l:List α} (h:w.ownsRow B e sz (.slice a l.length c) l.length (GR.flat enc l)) (hg:a.map (fun y=>y.block)=some g):(Value.slice a l.length c).ownBlock=some g:=by
 rcases h.2 with⟨hv,_⟩|⟨g',cap,cur,hv,_⟩
 ·simp only[Value.slice.injEq] at hv;rw [hv.1] at hg;cases hg
 ·simp only[Value.slice.injEq] at hv;rw [hv.1] at hg ⊢;cases hg
  rfl
theorem pU {w:World} {B sz k x:Nat} {e:TypeId} {v:Value} {xs:List Value} (h:w.ownsRow B e sz v k xs) (hx:v.ownBlock=some x):B≤x:=by
 rcases h.2 with⟨rfl,_⟩|⟨g,cap,cur,rfl,hb,_⟩
 ·simp[Value.ownBlock] at hx
 ·have:g=x:=by simpa [Value.ownBlock] using hx
  omega
theorem ED {w:World} {B sz k x:Nat} {e:TypeId} {v:Value} {xs:List Value} (h:w.ownsRow B e sz v k xs) (hx:v.ownBlock=some x):x < w.heap.size:=by
 rcases h.2 with⟨rfl,_⟩|⟨g,cap,cur,rfl,hb,hg,_⟩
 ·simp[Value.ownBlock] at hx
 ·have:g=x:=by simpa [Value.ownBlock] using hx
  rw [←this];exact aA hg
theorem NQ.put {w X:World} {B B' Bo Br:Nat} {n:Nd} {A:bE} {G:aU} {c c':Nat→Nat} (h:NQ w B n A G c) (hc:NQ X B' n A G c') (n':Nd) (A':bE) (ek:n'.kids=n.kids) (es:n'.seen=n.seen) (ak:A'.k=A.k) (ea:A'.s=A.s)
 (p:aH w A'.p n'.pu) (cp:∀g,A'.p.map (fun y=>y.block)=some g→0 < n'.pu.length→c' g=2∨6 < c' g)
 (o:w.ownsRow Bo 95 4 (.slice A'.o n'.out.length A'.co) n'.out.length (GR.flat aS n'.out)) (co:∀x,(Value.slice A'.o n'.out.length A'.co).ownBlock=some x→c' x=3∨6 < c' x)
 (r:w.ownsRow Br 97 4 (.slice A'.r n'.reqs.length A'.cr) n'.reqs.length (GR.flat aK n'.reqs)) (cr:∀x,(Value.slice A'.r n'.reqs.length A'.cr).ownBlock=some x→c' x=6∨6 < c' x)
 (po:∀g,A'.p.map (fun y=>y.block)=some g→0 < n'.pu.length→6 < c' g→(Value.slice A'.o n'.out.length A'.co).ownBlock≠some g∧(Value.slice A'.r n'.reqs.length A'.cr).ownBlock≠some g)
 (or:∀x,(Value.slice A'.o n'.out.length A'.co).ownBlock=some x→6 < c' x→(Value.slice A'.r n'.reqs.length A'.cr).ownBlock≠some x):RM w A' n':=
 RM.of (c:=c') (gk:=G.k) (gs:=G.s) (I:=G.i) (by rw [ek,ak];exact h.k) (by rw [ek];exact hc.ck) (by rw [es,ea];exact h.sq) (by rw [es];exact hc.c4) (by rw [es];exact hc.ci) (by rw [es];exact hc.ni) p cp o co r cr po or
theorem NQ.cpB {w:World} {B:Nat} {n:Nd} {A:bE} {G:aU} {c:Nat→Nat} {X:World} {B':Nat} {c':Nat→Nat} (h:NQ w B n A G c) (hc:NQ X B' n A G c'):∀g,A.p.map (fun y=>y.block)=some g→0 < n.pu.length→c' g=2:=fun g hg hp=>by
 rw [Qp h.p hp] at hg;cases hg
 exact hc.cp _ (dz hp)
end Go.Proofs.YtacgbldlonoaaaaGreatDoor
