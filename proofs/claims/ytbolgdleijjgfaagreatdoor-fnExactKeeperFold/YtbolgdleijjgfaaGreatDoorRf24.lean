/- Parts. -/
import Derived.Test.YtbolgdleijjgfaaGreatDoorRf23
namespace Go.Proofs.YtbolgdleijjgfaaGreatDoor
open Go.Proofs.Tryz
set_option maxHeartbeats 4000000
set_option maxRecDepth 100000
open Go.RowKit
open Mth
variable {w W w':World} {g B:Nat} {t:TypeId} {P R O:Obj} {rows:List (Nat×Obj)} {I:Nat->Nat} {l:List Sn} {α:Type}
theorem ac1 {a0 a1 a2 a3 a4 a5 a6 a7 a8 b0 b1 b2 b3 b4 b5 b6 b7 b8:Value} (h:w.heap[g]?=some (.cells #[a0,a1,a2,a3,a4,a5,a6,a7,a8] t (0,0))):
 (((((((((w.setCell ⟨g,0,none⟩ b0).setCell ⟨g,1,none⟩ b1).setCell ⟨g,2,none⟩ b2).setCell ⟨g,3,none⟩ b3).setCell ⟨g,4,none⟩ b4).setCell ⟨g,5,none⟩ b5).setCell ⟨g,6,none⟩ b6).setCell ⟨g,7,none⟩ b7).setCell ⟨g,8,none⟩ b8).heap[g]?=some (.cells #[b0,b1,b2,b3,b4,b5,b6,b7,b8] t (0,0)):=by
 exact ahZ
theorem UA {b0 b1 b2 b3 b4 b5 b6 b7 b8:Value}:aA [g] w (((((((((w.setCell ⟨g,0,none⟩ b0).setCell ⟨g,1,none⟩ b1).setCell ⟨g,2,none⟩ b2).setCell ⟨g,3,none⟩ b3).setCell ⟨g,4,none⟩ b4).setCell ⟨g,5,none⟩ b5).setCell ⟨g,6,none⟩ b6).setCell ⟨g,7,none⟩ b7).setCell ⟨g,8,none⟩ b8):=
 ((((((((aA.set b0).trans (aA.set b1)).trans (aA.set b2)).trans (aA.set b3)).trans (aA.set b4)).trans (aA.set b5)).trans (aA.set b6)).trans (aA.set b7)).trans (aA.set b8)
theorem aeL (w:World) (a b:Obj):((w.alloc a).alloc b).heap[w.heap.size]?=some a/\((w.alloc a).alloc b).heap[w.heap.size+1]?=some b/\Below w.heap.size w ((w.alloc a).alloc b):=by
 exact ahA
structure TN (w W:World) (P R O:Obj) (rows:List (Nat×Obj)):Prop where
 par:W.heap[w.heap.size]?=some P
 res:W.heap[w.heap.size+1]?=some R
 out:W.heap[w.heap.size+1+1]?=some O
 rows:∀x∈rows,w.heap.size+1+1 < x.1/\W.heap[x.1]?=some x.2
 bel:aH w W
theorem TN.step {W':World} (h:TN w W P R O rows) (hb:aH W W'):TN w W' P R O rows:=
 ⟨aj h.par hb,aj h.res hb,aj h.out hb,λx hx=>⟨(h.rows x hx).1,aj (h.rows x hx).2 hb⟩,h.bel.trans (hb.mono h.bel.size)⟩
theorem TN.add (h:TN w W P R O rows) (more:List (Nat×Obj)) (hm:∀x∈more,w.heap.size+1+1 < x.1/\W.heap[x.1]?=some x.2):TN w W P R O (rows++more):=
 ⟨h.par,h.res,h.out,λx hx=>by rcases aFb.1 hx with hx|hx;exact h.rows x hx;exact hm x hx,h.bel⟩
theorem TN.put {cs:Array Value} (h:TN w W P R (.cells cs t (0,0)) rows) (i:Nat) (v:Value):TN w (W.setCell ⟨w.heap.size+1+1,i,none⟩ v) P R (.cells (cs.setIfInBounds i v) t (0,0)) rows:=
 ⟨jq h.par Aaa,jq h.res Aaa,aP h.out i v,λx hx=>⟨(h.rows x hx).1,jq (h.rows x hx).2 (by have:=(h.rows x hx).1;omega)⟩,h.bel.setCell (p:=⟨w.heap.size+1+1,i,none⟩) (by show w.heap.size<=w.heap.size+1+1;omega) v⟩
theorem eB.of {T:List R3} (hT:Gs w g T) (hl:T.length=l.length) (h:∀i,i < l.length->T[i]?=some ⟨(l.getD i default).f,(l.getD i default).l,.slice (some ⟨I i,0,none⟩) (l.getD i default).ids.length (l.getD i default).ids.length⟩/\mJ w (I i) (l.getD i default).ids):eB w (some ⟨g,0,none⟩) g I l:=by
 refine⟨T,GR.W.of_blk bE hT,hl,λi hi=>?_⟩;have hd:l.getD i default=l[i]:=by rw [aFs,aEV hi];rfl
 obtain⟨h1,h2⟩:=h i hi;rw [hd] at h1 h2;exact⟨_,_,h1,GR.W.of_blk aX h2⟩
theorem ae1 (h:∀i j,i < j->j < l.length->I i < I j):(nI I l).Nodup:=by
 have key:∀m,m<=l.length->((List.range m).flatMap λi=>fp (I i) (l.getD i default).ids).Nodup:=by
  intro m;induction m with
  |zero=>intro _;simp
  |succ m ih=>
   intro hm;rw [aGV,List.flatMap_append,aF1];refine⟨ih Aaa,by simpa using jJ _ _,?_⟩;intro a ha b hb;rw [aGf] at ha;obtain⟨i,hi,hx⟩:=ha;have hi':=aFU.1 hi;have hb':b∈fp (I m) (l.getD m default).ids:=by simpa using hb
   rw [(dw hx).1,(dw hb').1];have:=h i m hi' Aaa;omega
 exact key l.length (aER _)
theorem adH (n:Nd) (A:bq) (w:World) (hz:eG n 1048576) (ha:cK w A n):
 Calls prog 25 #[gU n A] w λe w'=>∃A',e= .returned (gU n A')/\∃G,gZ w' A' G n/\G.Sep n w.heap.size w'.heap.size/\aH w w':=by
 have HZ:=Hq hz;have HA:=Hq ha;clear ha hz;have OM:=Hq (λW (hb:aH w W)=>adG A.k A.ck n.kids W HZ.k (HA.below hb).k);have HTP:=Hq (λW (hb:aH w W)=>adI A.p A.cp n.pu W HZ.p (HA.below hb).p);have Og:=Hq (λW (hb:aH w W)=>afT A.o A.co n.out W HZ.o (HA.below hb).o);have HTS:=Hq (λW (hb:aH w W)=>afS A.s A.cs n.seen W HZ.s HZ.sk (HA.below hb).s);have HTR:=Hq (λW (hb:aH w W)=>alp A.r A.cr n.reqs W HZ.r (HA.below hb).r);clear HA HZ;open anV in exact vY
theorem abA (n:Nd) (A A':bq) (w:World) (hz:eG n 1048600) (ha:cK w A n) (hb:cK w A' n):
 Calls prog 31 #[gU n A,gU n A'] w (dU w (.bool true)):=by
 have HK:=Hq (λw1 (h:aH w w1)=>aby A.k A'.k A.ck A'.ck n.kids w1 hz.k (ha.below h).k (hb.below h).k);have HP:=Hq (λw1 (h:aH w w1)=>abB A.p A'.p A.cp A'.cp n.pu w1 hz.p (ha.below h).p (hb.below h).p);have HO:=Hq (λw1 (h:aH w w1)=>aeZ A.o A'.o A.co A'.co n.out w1 hz.o (ha.below h).o (hb.below h).o);have HS:=Hq (λw1 (h:aH w w1)=>aeY A.s A'.s A.cs A'.cs n.seen w1 hz.s hz.sk (ha.below h).s (hb.below h).s);have HR:=Hq (λw1 (h:aH w w1)=>aks A.r A'.r A.cr A'.cr n.reqs w1 hz.r (ha.below h).r (hb.below h).r);obtain⟨hA0,hB0,hL0⟩:=aeL w (.cells (dD n A) 39) (.cells (dD n A') 39);have HA0:=Hq hA0;have HB0:=Hq hB0;have pY:=Hq hL0;clear ha hb hz hA0 hB0 hL0;open anU in exact vY
theorem CZ {P:Program} (w:World) {ops:Array Oper} {o:Oper} {a:Act} {K:Act->World->Prop} {Q:Exit->Act->World->Prop} {E:Prop} (hgd:o.guard=none) (s x:Operand) (t:TypeId)
 (ho:o.op= .call {callee:= .builtin .append,args:=#[s,x],argTypes:=#[t,t]})
 (base:Nat) (e:TypeId) (i:TypeInfo) (z:Value) (size bytes:Nat) (ht:P.underlying t=some (.slice e)) (hi:P.info? e=some i) (hz:i.zero=some z)
 (hsize:i.size=size) (hby:i.bytes=bytes) (hzs:z.cells.size=size) (hsz:0 < size)
 (v:Value) (n:Nat) (xs:List Value) (hs:a.eval s=v) (hown:w.ownsRow base e size v n xs)
 (ad:Addr) (m c:Nat) (news:List Value) (hx:a.eval x= .slice (some ad) m c) (hl:news.length=m*size) (hnews:∀j u,news[j]?=some u->w.cell? (ad.add j)=some u) (h1:∀u∈news,u.oneCell'=true)
 (h63:n+m<=maxLen) (hbytes:(n+m)*bytes<=140737488355328) (hbase:base<=w.heap.size)
 (h:∀v' w',w'.ownsRow base e size v' (n+m) (xs++news)->w.grownBy w' v.ownBlock->(v'= .slice none 0 0↔v= .slice none 0 0/\m=0)->K (a.put o.dst v') w'):
 if Region.wanted o (yielded ops a.tmps)=true then Oper.wp P o a w K Q else E:=by
 exact ahC
theorem Mc {row:Option Nat} (hk:w.grownBy w' row) (hg:∀k,row=some k->B<=k) (hB:B<=w.heap.size):Below B w w':=⟨hk.os,hk.tape,hk.output,hk.size,λk hl=>hk.block k Aaa (λe=>by have:=hg k e.symm;omega)⟩
theorem GR.At.heap {enc:α->List Value} {sz:Nat} {w1:World} {a:Option Addr} {l:List α} (h:GR.At enc sz w a l) (e:w1.heap=w.heap):GR.At enc sz w1 a l:=λi hi=>by
 obtain⟨g,off,e0,hg,hc⟩:=h i hi;exact⟨g,off,e0,by rw [e];exact hg,λj hj=>(aFw (w:=w) Aap).trans (hc j hj)⟩
def BM (w:World) (L:List Mg) (e:Ending) (w':World):Prop:=∃a c,e= .returned (.slice a L.length c)/\∃g,GR.W jC 7 w' a g L/\(∀x∈fp g L,w.heap.size<=x/\x < w'.heap.size)/\aH w w'
theorem Xl (n:Nd) (A:bq) (s:jI) (w:World) (hl:n.out.length<=1048600) (ha:SentAt w A.o n.out):
 Calls prog 157 #[gU n A,EZ s] w (dU w (oJ (qU n s))):=by
 obtain⟨hP,hR,hO,hB⟩:=Ag w (.cells (dD n A) 39) (.cells (gN s.i s.t s.k s.n) 145) (.cells zm7 70);have HPM:Hid (qU n s=⟨1,n.id,s.t,s.i,wS n.out s.t s.i,s.k,s.n⟩):=rfl;have HLW:=Hq (λW (hb:aH w W) w1 (h:w1.heap=W.heap)=>afL n A s.t s.i w1 hl (GR.At.heap (GR.At.below ha hb) h));rw [ah HPM];generalize wS n.out s.t s.i=LO at *;open an4 in exact vY
theorem BM.of_own {v:Value} {L:List Mg} {n:Nat} (hn:n=L.length) (h:w'.ownsRow B 70 7 v n (GR.flat jC L)) (hB:w.heap.size<=B) (hb:aH w w'):BM w L (.returned v) w':=by
 subst hn;obtain⟨a,c,g,rfl,hW,hr,_⟩:=GR.W.of_own ku h;exact⟨a,c,rfl,g,hW,λx hx=>⟨aEU hB (hr x hx).1,(hr x hx).2⟩,hb⟩
theorem jr (enc:α->List Value) (l:List α) (x:α):GR.flat enc (l++[x])=GR.flat enc l++enc x:=by
 rw [GR.flat_append];simp[GR.flat]
theorem adw (n:Nd) (A:bq) (w:World) (hsz:eG n 1048600) (ha:cK w A n):
 Calls prog 130 #[gU n A] w (BM w (ada n)):=by
 obtain⟨i0,hi,hz0,hz1,hz2⟩:=aFt WI;have nH:=Hq (λW (hb:aH w W)=>ru n A W hsz (ha.below hb));have IG:=Hq (λs W (hb:aH w W) w1 (h:w1.heap=W.heap)=>Xl n A s w1 hsz.o (GR.At.heap (GR.At.below ha.o hb) h));obtain⟨L,hL⟩:∃L,ada n=L:=⟨_,rfl⟩;have Oc:Hid (L=if dV n then n.out.map (qU n) else[]):=hL.symm;have Lr:=Hq (aEP w (.cells (dD n A) 39));have HAO:=Hq ha.o;have hlo:=hsz.o;rw [hL];clear hL;generalize dV n=OK at *;generalize qU n=PM at *;clear ha hsz;open an5 in exact vY
abbrev Xr (n:Nd) (A:bq) (v:Value):Array Value:=#[.int .i64 n.id,.int .i64 n.par,.slice A.k n.kids.length A.ck,.int .i64 n.next,.slice A.p n.pu.length A.cp,.slice A.o n.out.length A.co,.slice A.s n.seen.length A.cs,.int .i64 n.old,.slice A.r n.reqs.length A.cr,v]
theorem jT {v0 v1 v2 v3 v4 v5 v6 v7 v8 v9:Value} (h:w.heap[g]?=some (.cells #[v0,v1,v2,v3,v4,v5,v6,v7,v8,v9] t (0,0))):
 w.cell? ⟨g,0,none⟩=some v0/\w.cell? ⟨g,1,none⟩=some v1/\w.cell? ⟨g,2,none⟩=some v2/\w.cell? ⟨g,3,none⟩=some v3/\w.cell? ⟨g,4,none⟩=some v4/\w.cell? ⟨g,5,none⟩=some v5/\w.cell? ⟨g,6,none⟩=some v6/\w.cell? ⟨g,7,none⟩=some v7/\w.cell? ⟨g,8,none⟩=some v8/\w.cell? ⟨g,9,none⟩=some v9:=by
 have hc:∀i,w.cell? ⟨g,i,none⟩=#[v0,v1,v2,v3,v4,v5,v6,v7,v8,v9][i]?:=λi=>aE1 w g i _ t (0,0) h
 exact⟨hc 0,hc 1,hc 2,hc 3,hc 4,hc 5,hc 6,hc 7,hc 8,hc 9⟩
structure WS (w2 wr:World) (wb:Nat) (n:Nd) (A:bq) (v:Value) (L:List Mg):Prop where
 keep:aA [wb] w2 wr
 blk:wr.heap[wb]?=some (.cells (Xr n A v) 215 (0,0))
 own:wr.ownsRow w2.heap.size 70 7 v L.length (GR.flat jC L)
 lt:wb < w2.heap.size
theorem Xn (n:Nd) (A:bq) (z:Int) (w:World) (g0:0<=z) (g1:z<=1048576) (hz:eG n maxLen) (ha:cK w A n):
 Calls prog 20 #[gU n A,.int .i64 z] w λe w'=>∃r:Int,e= .returned (.int .i64 r)/\aH w w'/\(r= -1\/0<=r/\r<=1048576/\eG n 1048576):=by
 have HK:=Hq (λz w1 (h0:0<=z) (h1:z<=1048576)=>adC A.k A.ck n.kids z w1 h0 h1 hz.k);have HP:=Hq (λz w1 (hb:aH w w1) (h0:0<=z) (h1:z<=1048576)=>ZK A.p A.cp n.pu z w1 h0 h1 hz.p hz.pk (ha.below hb).p);have HO:=Hq (λz w1 (hb:aH w w1) (h0:0<=z) (h1:z<=1048576)=>afQ A.o A.co n.out z w1 h0 h1 hz.o hz.ok (ha.below hb).o);have HS:=Hq (λz w1 (hb:aH w w1) (h0:0<=z) (h1:z<=1048576)=>afP A.s A.cs n.seen z w1 h0 h1 hz.s hz.sk (ha.below hb).s);have HR:=Hq (λz w1 (hb:aH w w1) (h0:0<=z) (h1:z<=1048576)=>alj A.r A.cr n.reqs z w1 h0 h1 hz.r hz.rk (ha.below hb).r);have HQ:Hid ((n.kids.length<=1048576)->(n.pu.length<=1048576/\∀p∈n.pu,p.k.size<=1048576)->(n.out.length<=1048576/\∀p∈n.out,p.k.size<=1048576)->(n.seen.length<=1048576/\∀p∈n.seen,p.ids.length<=1048576)->(n.reqs.length<=1048576/\∀p∈n.reqs,p.k.size<=1048576)->eG n 1048576):=λh1 h2 h3 h4 h5=>⟨h1,h2.1,h3.1,h4.1,h5.1,h2.2,h3.2,h4.2,h5.2⟩
 have jO:=Hq (aEP w (.cells (dD n A) 28));have hkl:=hz.k;clear ha hz;generalize eG n 1048576=NZ at *;open an6 in exact vY
end Go.Proofs.YtbolgdleijjgfaaGreatDoor
