/- Parts. -/
import Derived.Test.YtfachhcijcjbpaaGreatDoorRw21
import Derived.Test.YtfachhcijcjbpaaGreatDoorRw23
namespace Go.Proofs.YtfachhcijcjbpaaGreatDoor
open Go.Proofs.Tryz
set_option maxHeartbeats 4000000
set_option maxRecDepth 100000
open Go.RowKit
open Mth
variable {n:Nd} {o:gD} {w w':World} {l:List Rq} {s:Sn} {α:Type} {q:Rq} {no a x low:Int} {i g B:Nat} {m:Mg} {key:ByteArray} {t:TypeId} {p:α->Bool} {f:α->Int}
namespace Mth
instance:Inhabited Mg:=⟨⟨0,0,0,0,0,ByteArray.empty,0⟩⟩
abbrev lQ (m:Mg):List Value:=[.int .i64 m.K,.int .i64 m.F,.int .i64 m.T,.int .i64 m.I,.int .i64 m.L,.string m.k,.int .i64 m.N]
theorem qX (m:Mg):(lQ m).length=7:=rfl
theorem PO:∀(m:Mg),∀u∈lQ m,u.oneCell'=true:=by
 intro m u hu;simp only[lQ,aET,aFt,or_false] at hu;rcases hu with rfl|rfl|rfl|rfl|rfl|rfl|rfl<;>rfl
def vY (l:List jI) (t ab:Int):Int:=((l.find? λo=>decide (o.t=t)).map (·.i)).getD ab
def qh (n:Nd) (s:jI):Mg:=⟨1,n.id,s.t,s.i,vY n.out s.t s.i,s.k,s.n⟩
def adf (n:Nd):List Mg:=if dQ n then n.out.map (qh n) else[]
theorem Fg (f:α->Bool) (l:List α) (i:Nat) (hi:i < l.length) (h:(l.take i).find? f=none):(f l[i]=true->l.find? f=some l[i])/\(f l[i]=false->(l.take (i+1)).find? f=none):=by
 exact axD
theorem Xh {l:List jI} {t ab:Int} {k:Nat} (hk:k < l.length) (h:(l.take k).find? (λo=>decide (o.t=t))=none) (ht:(l[k]).t=t):vY l t ab=(l[k]).i:=by
 unfold vY;rw [(Fg _ l k hk h).1 (aEy ht)];rfl
theorem QE {l:List jI} {t:Int} {k:Nat} (hk:k < l.length) (h:(l.take k).find? (λo=>decide (o.t=t))=none) (ht:¬(l[k]).t=t):(l.take (k+1)).find? (λo=>decide (o.t=t))=none:=
 (Fg _ l k hk h).2 (aEw ht)
theorem acP {l:List jI} {t ab:Int} (h:(l.take l.length).find? (λo=>decide (o.t=t))=none):vY l t ab=ab:=by
 rw [aEW] at h;unfold vY;rw [h];rfl
end Mth
theorem Xd:(Tryz.prog.info? 104).map (λi=>(i.zero,i.size,i.bytes))=some (some (.agg (bH 0 0 0 0 0 ByteArray.empty 0)),7,64):=Aab
theorem jA {v0 v1 v2 v3 v4 v5 v6:Value} (h:w.heap[g]?=some (.cells #[v0,v1,v2,v3,v4,v5,v6] t (0,0))):
 w.cell? ⟨g,0,none⟩=some v0/\w.cell? ⟨g,1,none⟩=some v1/\w.cell? ⟨g,2,none⟩=some v2/\w.cell? ⟨g,3,none⟩=some v3/\w.cell? ⟨g,4,none⟩=some v4/\w.cell? ⟨g,5,none⟩=some v5/\w.cell? ⟨g,6,none⟩=some v6:=by
 have hc:∀i,w.cell? ⟨g,i,none⟩=#[v0,v1,v2,v3,v4,v5,v6][i]?:=λi=>aEz w g i _ t (0,0) h
 exact⟨hc 0,hc 1,hc 2,hc 3,hc 4,hc 5,hc 6⟩
theorem zl {a0 a1 a2 a3 a4 a5 a6 b0 b1 b2 b3 b4 b5 b6:Value} (h:w.heap[g]?=some (.cells #[a0,a1,a2,a3,a4,a5,a6] t (0,0))):
 (((((((w.setCell ⟨g,0,none⟩ b0).setCell ⟨g,1,none⟩ b1).setCell ⟨g,2,none⟩ b2).setCell ⟨g,3,none⟩ b3).setCell ⟨g,4,none⟩ b4).setCell ⟨g,5,none⟩ b5).setCell ⟨g,6,none⟩ b6).heap[g]?=some (.cells #[b0,b1,b2,b3,b4,b5,b6] t (0,0)):=by
 exact(aT (aT (aT (aT (aT (aT (aT h 0 b0) 1 b1) 2 b2) 3 b3) 4 b4) 5 b5) 6 b6).trans Aab
theorem uR {b0 b1 b2 b3 b4 b5 b6:Value}:aC [g] w (((((((w.setCell ⟨g,0,none⟩ b0).setCell ⟨g,1,none⟩ b1).setCell ⟨g,2,none⟩ b2).setCell ⟨g,3,none⟩ b3).setCell ⟨g,4,none⟩ b4).setCell ⟨g,5,none⟩ b5).setCell ⟨g,6,none⟩ b6):=
 ((((((aC.set b0).trans (aC.set b1)).trans (aC.set b2)).trans (aC.set b3)).trans (aC.set b4)).trans (aC.set b5)).trans (aC.set b6)
abbrev zm7:Array Value:=(bH 0 0 0 0 0 ⟨#[]⟩ 0)
theorem afV (n:Nd) (A:bg) (t ab:Int) (w:World) (hl:n.out.length<=1048600) (ha:SentAt w A.o n.out):
 Calls Tryz.prog 168 #[gP n A,.int .i64 t,.int .i64 ab] w (dK w (.int .i64 (vY n.out t ab))):=by
 have HA:=Hq (GR.At.below ha (au w (.cells (dR n A) 53)));have hblk:=aEu w (.cells (dR n A) 53);obtain⟨c0,c1,c2,c3,c4,c5,c6,c7,c8⟩:=nine hblk;have HLY:=Hq (λk hk h=> @Xh n.out t ab k hk h);have zo:=Hq (λk hk h=> @QE n.out t k hk h);have zy:=Hq (@acP n.out t ab);clear ha hblk;generalize vY n.out t ab=LO at *;open aoW in exact xG
theorem Kk (n:Nd) (A:bg) (s:jI) (w:World) (hl:n.out.length<=1048600) (ha:SentAt w A.o n.out):
 Calls Tryz.prog 227 #[gP n A,EM s] w (dK w (nT (qh n s))):=by
 have HA:=Hq ha;have HLY:=Hq (λk hk h=> @Xh n.out s.t s.i k hk h);have zo:=Hq (λk hk h=> @QE n.out s.t k hk h);have zy:=Hq (@acP n.out s.t s.i);have Ii:Hid (qh n s=⟨1,n.id,s.t,s.i,vY n.out s.t s.i,s.k,s.n⟩):=rfl;obtain⟨hP,hR,hO,hB⟩:=zM w (.cells (dR n A) 53) (.cells (gB s.i s.t s.k s.n) 129) (.cells zm7 104);have HP:=Hq hP;have HR:=Hq hR;have HO:=Hq hO;have HB:=Hq hB;clear ha hP hR hO hB;rw [ah Ii];generalize vY n.out s.t s.i=LO at *;open aoV in exact xG
theorem CJ {P:Program} (w:World) {ops:Array Oper} {o:Oper} {a:Act} {K:Act->World->Prop} {Q:Exit->Act->World->Prop} {E:Prop} (hgd:o.guard=none) (s x:Operand) (t:TypeId)
 (ho:o.op= .call {callee:= .builtin .append,args:=#[s,x],argTypes:=#[t,t]})
 (base:Nat) (e:TypeId) (i:TypeInfo) (z:Value) (size bytes:Nat) (ht:P.underlying t=some (.slice e)) (hi:P.info? e=some i) (hz:i.zero=some z)
 (hsize:i.size=size) (hby:i.bytes=bytes) (hzs:z.cells.size=size) (hsz:0 < size)
 (v:Value) (n:Nat) (xs:List Value) (hs:a.eval s=v) (hown:w.ownsRow base e size v n xs)
 (ad:Addr) (m c:Nat) (news:List Value) (hx:a.eval x= .slice (some ad) m c) (hl:news.length=m*size) (hnews:∀j u,news[j]?=some u->w.cell? (ad.add j)=some u) (h1:∀u∈news,u.oneCell'=true)
 (h63:n+m<=maxLen) (hbytes:(n+m)*bytes<=140737488355328) (hbase:base<=w.heap.size)
 (h:∀v' w',w'.ownsRow base e size v' (n+m) (xs++news)->w.grownBy w' v.ownBlock->(v'= .slice none 0 0↔v= .slice none 0 0/\m=0)->K (a.put o.dst v') w'):
 if Region.wanted o (yielded ops a.tmps)=true then Oper.wp P o a w K Q else E:=by
 exact ahO
theorem Mk {row:Option Nat} (hk:w.grownBy w' row) (hg:∀k,row=some k->B<=k) (hB:B<=w.heap.size):Below B w w':=⟨hk.os,hk.tape,hk.output,hk.size,λk hl=>hk.block k Aaa (λe=>by have:=hg k e.symm;omega)⟩
theorem GR.At.heap {enc:α->List Value} {sz:Nat} {w1:World} {a:Option Addr} {l:List α} (h:GR.At enc sz w a l) (e:w1.heap=w.heap):GR.At enc sz w1 a l:=λi hi=>by
 obtain⟨g,off,e0,hg,hc⟩:=h i hi;exact⟨g,off,e0,by rw [e];exact hg,λj hj=>(aE6 (w:=w) Aao).trans (hc j hj)⟩
def Bz (w:World) (L:List Mg) (e:Ending) (w':World):Prop:=∃a c,e= .returned (.slice a L.length c)/\∃g,GR.W lQ 7 w' a g L/\(∀x∈fp g L,w.heap.size<=x/\x < w'.heap.size)/\aG w w'
theorem Xv (n:Nd) (A:bg) (s:jI) (w:World) (hl:n.out.length<=1048600) (ha:SentAt w A.o n.out):
 Calls Tryz.prog 141 #[gP n A,EM s] w (dK w (nT (qh n s))):=by
 obtain⟨hP,hR,hO,hB⟩:=zM w (.cells (dR n A) 53) (.cells (gB s.i s.t s.k s.n) 129) (.cells zm7 104);have Ii:Hid (qh n s=⟨1,n.id,s.t,s.i,vY n.out s.t s.i,s.k,s.n⟩):=rfl;have HLW:=Hq (λW (hb:aG w W) w1 (h:w1.heap=W.heap)=>afV n A s.t s.i w1 hl (GR.At.heap (GR.At.below ha hb) h));rw [ah Ii];generalize vY n.out s.t s.i=LO at *;open aoX in exact xG
theorem Bz.of_own {v:Value} {L:List Mg} {n:Nat} (hn:n=L.length) (h:w'.ownsRow B 104 7 v n (GR.flat lQ L)) (hB:w.heap.size<=B) (hb:aG w w'):Bz w L (.returned v) w':=by
 subst hn;obtain⟨a,c,g,rfl,hW,hr,_⟩:=GR.W.of_own qX h;exact⟨a,c,rfl,g,hW,λx hx=>⟨aEA hB (hr x hx).1,(hr x hx).2⟩,hb⟩
theorem iX (enc:α->List Value) (l:List α) (x:α):GR.flat enc (l++[x])=GR.flat enc l++enc x:=by
 rw [GR.flat_append];simp[GR.flat]
theorem adE (n:Nd) (A:bg) (w:World) (hsz:eH n 1048600) (ha:bX w A n):
 Calls Tryz.prog 100 #[gP n A] w (Bz w (adf n)):=by
 obtain⟨i0,hi,hz0,hz1,hz2⟩:=aEY Xd;have nD:=Hq (λW (hb:aG w W)=>qA n A W hsz (ha.below hb));have IB:=Hq (λs W (hb:aG w W) w1 (h:w1.heap=W.heap)=>Xv n A s w1 hsz.o (GR.At.heap (GR.At.below ha.o hb) h));obtain⟨L,hL⟩:∃L,adf n=L:=⟨_,rfl⟩;have DC:Hid (L=if dQ n then n.out.map (qh n) else[]):=hL.symm;have LH:=Hq (aEu w (.cells (dR n A) 53));have HAO:=Hq ha.o;have hlo:=hsz.o;rw [hL];clear hL;generalize dQ n=OK at *;generalize qh n=PM at *;clear ha hsz;open aoY in exact xG
abbrev XB (n:Nd) (A:bg) (v:Value):Array Value:=#[.int .i64 n.id,.int .i64 n.par,.slice A.k n.kids.length A.ck,.int .i64 n.next,.slice A.p n.pu.length A.cp,.slice A.o n.out.length A.co,.slice A.s n.seen.length A.cs,.int .i64 n.old,.slice A.r n.reqs.length A.cr,v]
theorem jB {v0 v1 v2 v3 v4 v5 v6 v7 v8 v9:Value} (h:w.heap[g]?=some (.cells #[v0,v1,v2,v3,v4,v5,v6,v7,v8,v9] t (0,0))):
 w.cell? ⟨g,0,none⟩=some v0/\w.cell? ⟨g,1,none⟩=some v1/\w.cell? ⟨g,2,none⟩=some v2/\w.cell? ⟨g,3,none⟩=some v3/\w.cell? ⟨g,4,none⟩=some v4/\w.cell? ⟨g,5,none⟩=some v5/\w.cell? ⟨g,6,none⟩=some v6/\w.cell? ⟨g,7,none⟩=some v7/\w.cell? ⟨g,8,none⟩=some v8/\w.cell? ⟨g,9,none⟩=some v9:=by
 have hc:∀i,w.cell? ⟨g,i,none⟩=#[v0,v1,v2,v3,v4,v5,v6,v7,v8,v9][i]?:=λi=>aEz w g i _ t (0,0) h
 exact⟨hc 0,hc 1,hc 2,hc 3,hc 4,hc 5,hc 6,hc 7,hc 8,hc 9⟩
structure WS (w2 wr:World) (wb:Nat) (n:Nd) (A:bg) (v:Value) (L:List Mg):Prop where
 keep:aC [wb] w2 wr
 blk:wr.heap[wb]?=some (.cells (XB n A v) 254 (0,0))
 own:wr.ownsRow w2.heap.size 104 7 v L.length (GR.flat lQ L)
 lt:wb < w2.heap.size
namespace Mth
theorem EY {l:List α} (h:gL p (λs t=>iF (f s) (f t)) l=true):l.Pairwise (λs t=>f s < f t):=by
 grind [iF,uh,mY]
def setPu (n:Nd) (l:List Pu):Nd:=⟨n.id,n.par,n.kids,n.next,l,n.out,n.seen,n.old,n.reqs⟩
def setOut (n:Nd) (l:List jI):Nd:=⟨n.id,n.par,n.kids,n.next,n.pu,l,n.seen,n.old,n.reqs⟩
def dS (n:Nd) (l:List Sn):Nd:=⟨n.id,n.par,n.kids,n.next,n.pu,n.out,l,n.old,n.reqs⟩
def eD (n:Nd) (l:List Rq):Nd:=⟨n.id,n.par,n.kids,n.next,n.pu,n.out,n.seen,n.old,l⟩
def oz (n:Nd) (x:Int):Nd:=⟨n.id,n.par,n.kids,n.next,n.pu,n.out,n.seen,x,n.reqs⟩
def afR (n:Nd) (x:Int):Nd:=⟨n.id,n.par,n.kids,x,n.pu,n.out,n.seen,n.old,n.reqs⟩
def qO (n:Nd) (key:ByteArray) (most:Int):Int:=if (aD n.pu key).f < most then(aD n.pu key).f else most
def QW (n:Nd) (gI:Int):Bool:=decide (1<=gI/\n.out.length < 40/\n.next < 1000000000)
def sJ (n:Nd) (dst:Int) (key:ByteArray) (gI:Int):Nd:=⟨n.id,n.par,n.kids,n.next+1,(cK n.pu key 0 (-1) 0 gI).1,n.out++[⟨n.next,dst,key,gI⟩],n.seen,n.old,n.reqs⟩
def eU (n:Nd) (dst:Int) (key:ByteArray) (most:Int):Nd×List Mg×Bool:=
 if QW n (qO n key most)=true then(sJ n dst key (qO n key most),[qh (sJ n dst key (qO n key most)) ⟨n.next,dst,key,qO n key most⟩],true) else(n,[],false)
def dV (l:List Rq) (no:Int):Nat:=(l.takeWhile (λr=>decide (r.no < no))).length
def nW (l:List Rq) (no:Int):Bool:=(l[dV l no]?).elim false (λr=>decide (r.no=no))
def vX (l:List Rq) (q:Rq):List Rq:=l.take (dV l q.no)++q::l.drop (dV l q.no)
def qY (n:Nd) (q:Rq):Nd:=if 30 < (vX n.reqs q).length then eD (oz n ((vX n.reqs q).headD default).no) (vX n.reqs q).tail else eD n (vX n.reqs q)
def Gp (r:Rq) (key:ByteArray) (a:Int):Bool:=decide (r.s=0)&&(r.k.toList == key.toList)&&decide (r.n=a)
def fE (n:Nd) (no:Int) (key:ByteArray) (a:Int):Nd×Int:=
 if no<=n.old then(n,2)
 else if nW n.reqs no=true then(n,if Gp (n.reqs.getD (dV n.reqs no) default) key a=true then 0 else 1)
 else(qY (setPu n (cK n.pu key 0 (-1) 1 a).1) ⟨no,key,a,if (cK n.pu key 0 (-1) 1 a).2=true then 0 else 1⟩,if (cK n.pu key 0 (-1) 1 a).2=true then 0 else 1)
def pz (r:Rq):Rq:=⟨r.no,r.k,r.n,2⟩
def aQ (n:Nd) (no:Int):Nd×Int:=
 if no<=n.old then(n,2)
 else if nW n.reqs no=false then(n,1)
 else if (n.reqs.getD (dV n.reqs no) default).s=1 then(n,1)
 else if (n.reqs.getD (dV n.reqs no) default).s=2 then(n,0)
 else if (cK n.pu (n.reqs.getD (dV n.reqs no) default).k 0 1 (-1) (n.reqs.getD (dV n.reqs no) default).n).2=true then
  (eD (setPu n (cK n.pu (n.reqs.getD (dV n.reqs no) default).k 0 1 (-1) (n.reqs.getD (dV n.reqs no) default).n).1) (n.reqs.set (dV n.reqs no) (pz (n.reqs.getD (dV n.reqs no) default))),0)
 else(n,1)
def iH (l:List Sn) (f:Int):Nat:=l.findIdx (λs=>decide (s.f=f))
def fH (s:Sn) (low:Int):Int:=if s.l < low then low else s.l
def bV (s:Sn) (low:Int):List Int:=s.ids.filter (λx=>decide (fH s low<=x))
def rX (s:Sn) (low i:Int):Bool:=decide (i < fH s low)||hasB (bV s low) i
def kW (l:List Int) (x:Int):List Int:=l.takeWhile (λy=>decide (y < x))++x::l.dropWhile (λy=>decide (y < x))
def XY (n:Nd) (m:Mg):Mg:=⟨2,n.id,m.F,m.I,0,ByteArray.empty,0⟩
def lS (n:Nd) (s:Sn) (m:Mg):Bool:=(cK n.pu m.k 0 1 0 m.N).2&&decide ((bV s m.L).length < 40)
def takeN (n:Nd) (m:Mg):Nd×Bool:=
 if rX (n.seen.getD (iH n.seen m.F) default) m.L m.I=true then
  (dS n (n.seen.set (iH n.seen m.F) ⟨m.F,fH (n.seen.getD (iH n.seen m.F) default) m.L,bV (n.seen.getD (iH n.seen m.F) default) m.L⟩),true)
 else if lS n (n.seen.getD (iH n.seen m.F) default) m=true then
  (dS (setPu n (cK n.pu m.k 0 1 0 m.N).1) (n.seen.set (iH n.seen m.F) ⟨m.F,fH (n.seen.getD (iH n.seen m.F) default) m.L,kW (bV (n.seen.getD (iH n.seen m.F) default) m.L) m.I⟩),true)
 else(dS n (n.seen.set (iH n.seen m.F) ⟨m.F,fH (n.seen.getD (iH n.seen m.F) default) m.L,bV (n.seen.getD (iH n.seen m.F) default) m.L⟩),false)
def iJ (m:Mg) (s:jI):Bool:=decide (s.i=m.I/\s.t=m.F)
def fF (n:Nd) (m:Mg):Nd×List Mg×Int:=
 if m.K=1 then((takeN n m).1,if (takeN n m).2=true then[XY n m] else[],if (takeN n m).2=true then 0 else 1)
 else if m.K=2 then(setOut n (n.out.filter (λs=> !iJ m s)),[],0)
 else if hasB n.kids m.F=true then((eU n m.F m.k m.N).1,(eU n m.F m.k m.N).2.1,0)
 else(n,[],1)
def Lj (n:Nd) (o:gD):Mg:=⟨0,n.id,n.par,0,0,o.k,o.n⟩
def eZ (n:Nd) (o:gD):Nd×List Mg×Int:=
 if o.K=0 then(if n.par= -1/\(cK n.pu o.k 1 1 0 o.n).2=true then(setPu n (cK n.pu o.k 1 1 0 o.n).1,[],0) else(n,[],1))
 else if o.K=1 then((fE n o.no o.k o.n).1,[],(fE n o.no o.k o.n).2)
 else if o.K=2 then((aQ n o.no).1,[],(aQ n o.no).2)
 else if o.K=3 then(if n.par= -1 then(n,[],1) else(n,[Lj n o],0))
 else if o.K=4 then(if n.par= -1 then(n,[],1) else((eU n n.par o.k o.n).1,(eU n n.par o.k o.n).2.1,if (eU n n.par o.k o.n).2.2=true then 0 else 1))
 else if o.K=5 then(n,n.out.map (qh n),0)
 else fF n o.m
def xX (n:Nd) (o:gD):Bool:= !decide (o.K=6)||(decide (o.m.T=n.id)&&dU n o.m.F)
def nC (n:Nd) (o:gD):Nd×List Mg×Int:=if bC o&&xX n o then eZ n o else(n,[],3)
def doN (n:Nd) (o:gD):Nd×List Mg×Int:=if dQ n then nC n o else(n,[],3)
theorem Mh (h:dQ n=false):doN n o=(n,[],3):=by unfold doN;rw [h];rfl
theorem Ue (h:dQ n=true):doN n o=nC n o:=by unfold doN;rw [h];rfl
theorem bq (h:dQ n=true):dX n=true/\iZ n.pu=true/\nZ n=true/\fC n.next=true/\sD n=true/\gQ n=true:=by
 unfold dQ at h;simp only[aED] at h;exact⟨h.1.1.1.1.1,h.1.1.1.1.2,h.1.1.1.2,h.1.1.2,h.1.2,h.2⟩
theorem iL (h:gQ n=true):n.reqs.Pairwise (λs t=>s.no < t.no)/\n.reqs.length<=30/\(∀q∈n.reqs,sV n q=true)/\0<=n.old/\n.old<=1000000000:=by
 unfold gQ at h;simp only[aED,aES] at h;obtain⟨⟨h1,h2⟩,h3⟩:=h;have h1':0<=n.old/\n.old<=1000000000:=by simpa [qM] using h1
 exact⟨EY (f:=λr:Rq=>r.no) h3,h2,zP h3,h1'.1,h1'.2⟩
theorem sG (h:sD n=true):n.out.Pairwise (λs t=>s.i < t.i)/\n.out.length<=40/\(∀q∈n.out,wm n q=true):=by
 unfold sD at h;simp only[aED,aES] at h;exact⟨EY (f:=λr:jI=>r.i) h.2,h.1,zP h.2⟩
theorem jS (h:sV n q=true):n.old+1<=q.no/\q.no<=1000000000/\keyOk q.k.data.toList=true/\fC q.n=true/\0<=q.s/\q.s<=2:=by
 grind [sV]
theorem wU (l:List Rq) (no:Int):dV l no<=l.length:=by
 unfold dV;exact(aFW _).length_le
theorem zi (l:List Rq) (no:Int):∀i (hi:i < l.length),i < dV l no->l[i].no < no:=by
 induction l with
 |nil=>intro i hi;simp at hi
 |cons x l ih=>
  intro i hi h;by_cases hx:x.no < no
  .grind [dV,List.takeWhile_cons_of_pos]
  .grind [dV,List.takeWhile_cons_of_neg]
theorem zh {l:List Rq} {no:Int} (hp:l.Pairwise (λs t=>s.no < t.no)):∀i (hi:i < l.length),dV l no<=i->no<=l[i].no:=by
 induction l with
 |nil=>intro i hi;simp at hi
 |cons x l ih=>
  intro i hi h;have hp':=aFu.1 hp;by_cases hx:x.no < no
  .grind [dV,List.length_cons,List.takeWhile_cons_of_pos]
  .grind
theorem Ns (hp:l.Pairwise (λs t=>s.no < t.no)) (hi:i<=l.length) (h1:∀j (hj:j < l.length),j < i->l[j].no < no) (h2:∀j (hj:j < l.length),i<=j->no<=l[j].no):dV l no=i:=by
 have hle:=wU l no;rcases Nat.lt_trichotomy (dV l no) i with h|h|h
 .grind [dV,zh]
 .exact h
 .have a:=h2 i Aaa (aEx _);have b:=zi l no i Aaa h;omega
theorem nX (l:List Rq) (no:Int):nW l no=true↔∃h:dV l no < l.length,l[dV l no].no=no:=by
 grind [nW,dV]
theorem Rc (hp:l.Pairwise (λs t=>s.no < t.no)) (hi:i < l.length) (h:l[i].no=no):dV l no=i/\nW l no=true:=by
 have e:dV l no=i:=by
  refine Ns hp Aaa (λj hj hlt=>?_) (λj hj hle=>?_)
  .have:=aFx.1 hp j i hj hi hlt;omega
  .grind [List.pairwise_iff_getElem,Nat.lt_or_ge]
 grind [nX]
theorem Zh (h:∀q∈l,q.no≠no):nW l no=false:=by
 grind [nX]
theorem afK {l:List Pu} (h:iZ l=true) (hk:keyOk key.data.toList=true) (h1:1<=a) (h2:a<=(aD l key).f) (h3:a<=1000000000):(cK l key 0 (-1) 0 a).2=true:=by
 rw [LW h ⟨h1,h3⟩];have hp:=yZ h hk;have hk':=pW l key;have hfd:found l key=true:=by grind [found,vW,Aj,place,aD,Py,jq,BR,Ac,head_take,lV,jQ,qZ,Nn,List.drop_eq_getElem_cons,List.getElem?_eq_getElem,List.lt_irrefl,List.mem_iff_getElem,List.mem_take_iff_getElem,List.pairwise_iff_getElem,Nat.lt_trichotomy]
 grind [qM,gZ,aD,iQ,eT,jQ,sQ]
end Mth
namespace Mth
theorem AL (h1:dX n=true) (h2:iZ n.pu=true) (h3:nZ n=true) (h4:fC n.next=true) (h5:sD n=true) (h6:gQ n=true):dQ n=true:=by
 unfold dQ;rw [h1,h2,h3,h4,h5,h6];rfl
theorem rU {l:List Pu} {dm df ds n:Int} (h:iZ l=true):iZ (cK l key dm df ds n).1=true:=by
 grind [cK,rC]
theorem uI {l:List Pu} (h:dQ n=true) (hl:iZ l=true):dQ (setPu n l)=true:=by
 obtain⟨h1,_,h3,h4,h5,h6⟩:=bq h;exact AL h1 hl h3 h4 h5 h6
theorem Me {l:List α} (h1:∀x∈l,p x=true) (h2:l.Pairwise (λs t=>f s < f t)):gL p (λs t=>iF (f s) (f t)) l=true:=
 (uh (p:=p) (r:=λs t=>iF (f s) (f t)) (λa b c h1 h2=>mY _ _ _ h1 h2)).2 ⟨h1,h2.imp (λh=>by simpa [iF] using h)⟩
theorem afP (h1:0<=n.old) (h2:n.old<=1000000000) (h3:n.reqs.length<=30) (h4:n.reqs.Pairwise (λs t=>s.no < t.no)) (h5:∀q∈n.reqs,sV n q=true):gQ n=true:=by
 unfold gQ;rw [Me (f:=λr:Rq=>r.no) h5 h4];simp[qM,h1,h2,h3]
theorem Nr (h1:n.old < q.no) (h2:q.no<=1000000000) (h3:keyOk q.k.data.toList=true) (h4:fC q.n=true) (h5:0<=q.s) (h6:q.s<=2):sV n q=true:=by
 grind [sV]
theorem Qw (l:List Rq) (q:Rq):(vX l q).length=l.length+1:=by
 have:=wU l q.no;unfold vX;simp;omega
theorem acG {r:Rq} (h:r∈vX l q):r=q\/r∈l:=by
 grind [vX]
theorem acF (hp:l.Pairwise (λs t=>s.no < t.no)) (hf:nW l q.no=false):(vX l q).Pairwise (λs t=>s.no < t.no):=by
 have hlt:∀i (hi:i < l.length),dV l q.no<=i->q.no < l[i].no:=λi hi hle=>by
  have h1:=zh (no:=q.no) hp i hi hle
  grind [Rc]
 unfold vX;rw [List.pairwise_append,aFu];refine⟨hp.sublist (List.take_sublist _ _),⟨λr hr=>?_,hp.sublist (List.drop_sublist _ _)⟩,λr hr s hs=>?_⟩
 .obtain⟨i,hi,rfl⟩:=aFE.1 hr;rw [List.getElem_drop];exact hlt _ _ Aaa
 .obtain⟨i,hi,rfl⟩:=aFE.1 hr;rw [List.getElem_take];have hi':i < dV l q.no:=Abq
  have hil:i < l.length:=by have:=wU l q.no;omega
  have h1:=zi l q.no i hil hi';rcases aET.1 hs with rfl|hs
  .exact h1
  .obtain⟨j,hj,rfl⟩:=aFE.1 hs;rw [List.getElem_drop];grind
theorem uJ (h:dQ n=true) (h1:0<=x) (h2:x<=1000000000) (h3:l.length<=30) (h4:l.Pairwise (λs t=>s.no < t.no)) (h5:∀q∈l,sV (oz n x) q=true):dQ (eD (oz n x) l)=true:=by
 obtain⟨g1,g2,g3,g4,g5,_⟩:=bq h;exact AL g1 g2 g3 g4 g5 (afP h1 h2 h3 h4 h5)
theorem YR (h:dQ n=true) (hf:nW n.reqs q.no=false) (h1:n.old < q.no) (h2:q.no<=1000000000) (h3:keyOk q.k.data.toList=true) (h4:fC q.n=true) (h5:0<=q.s) (h6:q.s<=2):dQ (qY n q)=true:=by
 obtain⟨_,_,_,_,_,g6⟩:=bq h;obtain⟨a1,a2,a3,a4,a5⟩:=iL g6;have hasc:=acF a1 hf;have hlen:=Qw n.reqs q;have hall:∀r∈vX n.reqs q,sV n r=true:=λr hr=>by grind [acG,Nr]
 unfold qY;split
 .cases hc:vX n.reqs q with
  |nil=>rw [hc] at hlen;simp at hlen
  |cons r l=>
   rw [hc] at hasc hall hlen;have hp:=aFu.1 hasc;have hr:=jS (hall r Aac);simp only[List.headD_cons,List.tail_cons];refine uJ h Aaa hr.2.1 (by simp at hlen;omega) hp.2 (λs hs=>?_);have b:=jS (hall s (by simp[hs]));exact Nr (hp.1 s hs) b.2.1 b.2.2.1 b.2.2.2.1 b.2.2.2.2.1 b.2.2.2.2.2
 .rename_i hc
  have e:eD n (vX n.reqs q)=eD (oz n n.old) (vX n.reqs q):=rfl;rw [e];exact uJ h a4 a5 Aaa hasc hall
theorem UO (h:dQ n=true) (h2:no<=1000000000) (h3:keyOk key.data.toList=true) (h4:fC a=true):dQ (fE n no key a).1=true:=by
 unfold fE;split
 .exact h
 .split
  .exact h
  .rename_i hs hf
   have hpu:=uI (l:=(cK n.pu key 0 (-1) 1 a).1) h (rU (bq h).2.1);refine YR hpu ?_ ?_ h2 h3 h4 ?_ ?_
   .show nW n.reqs no=false
    simpa using hf
   .show n.old < no
    omega
   .dsimp only;split<;>omega
   .dsimp only;split<;>omega
theorem abX (hi:i < l.length):l.getD i default=l[i]:=by rw [aE7,aEB hi];rfl
theorem M4 (h:dQ n=true):dQ (aQ n no).1=true:=by
 unfold aQ;split
 .exact h
 .split
  .exact h
  .split
   .exact h
   .split
    .exact h
    .split
     .rename_i hf _ _ hp
      obtain⟨hi,hno⟩:=(nX n.reqs no).1 Abz;have hpu:=uI (l:=(cK n.pu (n.reqs.getD (dV n.reqs no) default).k 0 1 (-1) (n.reqs.getD (dV n.reqs no) default).n).1) h (rU (bq h).2.1);obtain⟨_,_,_,_,_,g6⟩:=bq h;obtain⟨a1,a2,a3,a4,a5⟩:=iL g6;rw [abX hi] at hpu ⊢;have hb:=jS (a3 _ (aEL hi));have e:∀l,eD (setPu n l) (n.reqs.set (dV n.reqs no) (pz n.reqs[dV n.reqs no]))=eD (oz (setPu n l) (setPu n l).old) (n.reqs.set (dV n.reqs no) (pz n.reqs[dV n.reqs no])):=λ_=>rfl
      rw [e];refine uJ hpu a4 a5 (by simpa using a2) ?_ ?_
      .rw [aFx] at a1 ⊢;intro i j hi' hj' hij
       have e2:∀k (hk:k < (n.reqs.set (dV n.reqs no) (pz n.reqs[dV n.reqs no])).length),((n.reqs.set (dV n.reqs no) (pz n.reqs[dV n.reqs no]))[k]).no=(n.reqs[k]' Abt).no:=λk hk=>by
        rw [List.getElem_set]
        split
        .rename_i he;subst he;rfl
        .rfl
       rw [e2 i hi',e2 j hj'];exact a1 i j (by simpa using hi') (by simpa using hj') hij
      .intro q hq;rcases List.mem_or_eq_of_mem_set hq with hq|rfl
       .exact a3 q hq
       .exact Nr (show n.old < _ by have:=hb.1;simp only[pz];omega) hb.2.1 hb.2.2.1 hb.2.2.2.1 (by simp[pz]) (by simp[pz])
     .exact h
theorem Kr {dst:Int} (h:dQ n=true) (hd:dU n dst=true) (hk:keyOk key.data.toList=true) (ha:a<=1000000000):dQ (eU n dst key a).1=true:=by
 unfold eU;split
 .rename_i hp
  obtain⟨g1,g2,g3,g4,g5,g6⟩:=bq h;obtain⟨o1,o2,o3⟩:=sG g5;unfold QW at hp;have hp:=aEQ hp;have hn:1<=n.next/\n.next<=1000000000:=by simpa [fC] using g4
  have hle:qO n key a<=1000000000:=by unfold qO;split<;>omega
  refine AL g1 (rU g2) g3 ?_ ?_ g6
  .show fC (n.next+1)=true
   unfold fC;grind
  .unfold sD;have e:(sJ n dst key (qO n key a)).out=n.out++[⟨n.next,dst,key,qO n key a⟩]:=rfl;rw [e];rw [Me (f:=λr:jI=>r.i)]
   .simp;omega
   .grind [qO,keyOk,dU,wm,sJ,fC]
   .grind [qO,wm]
 .exact h
theorem Gq (h:dQ n=true) {f:Int} (hf:dU n f=true):∃hi:iH n.seen f < n.seen.length,n.seen[iH n.seen f].f=f:=by
 obtain⟨g1,_,g3,_,_,_⟩:=bq h;rw [wZ g1,aED,aES] at g3;have hm:f∈n.seen.map (·.f):=by rw [g3.1,NY];exact(F8 g1 f).1 hf
 grind [iH]
theorem AZ (h:dQ n=true):∀s∈n.seen,vK s=true:=by
 obtain⟨g1,_,g3,_,_,_⟩:=bq h;grind [wZ]
theorem tJ (h:vK s=true):1<=s.l/\s.l<=1000000000/\s.ids.length<=40/\(∀x∈s.ids,s.l<=x/\x<=1000000000)/\s.ids.Pairwise (· < ·):=by
 grind [DW,iF,fC,vK,uh,mY]
theorem adz (h1:1<=s.l) (h2:s.l<=1000000000) (h3:s.ids.length<=40) (h4:∀x∈s.ids,s.l<=x/\x<=1000000000) (h5:s.ids.Pairwise (· < ·)):vK s=true:=by
 grind [DW,iF,fC,vK,uh,mY]
theorem AO (hi:i < n.seen.length) (h:dQ n=true) (hf:s.f=n.seen[i].f) (hs:vK s=true):dQ (dS n (n.seen.set i s))=true:=by
 obtain⟨g1,g2,g3,g4,g5,g6⟩:=bq h;refine AL g1 g2 ?_ g4 g5 g6;have g1':dX (dS n (n.seen.set i s))=true:=g1;rw [wZ g1',aED,aES];rw [wZ g1,aED,aES] at g3;refine⟨?_,?_⟩
 .show(n.seen.set i s).map (·.f)=ZE (qQ n)
  rw [<-g3.1,List.map_set,hf];apply List.ext_getElem?
  grind
 .show(n.seen.set i s).all vK=true
  rw [aF0];grind
theorem Xg (h:vK s=true) (h1:low<=1000000000):1<=fH s low/\fH s low<=1000000000/\s.l<=fH s low/\low<=fH s low:=by
 have:=tJ h;unfold fH;split<;>omega
theorem Mw (h:vK s=true) (h1:low<=1000000000):vK ⟨s.f,fH s low,bV s low⟩=true:=by
 have hl:=Xg h h1;obtain⟨a1,a2,a3,a4,a5⟩:=tJ h;refine adz hl.1 hl.2.1 ?_ ?_ ?_
 .exact aEA (aGa _ _) a3
 .intro x hx;have:=aGn.1 hx;grind
 .exact a5.sublist List.filter_sublist
theorem Ob (x:Int):∀(l:List Int),∀y∈l.takeWhile (λy=>decide (y < x)),y < x:=by
 intro l;induction l with
 |nil=>intro y hy;simp at hy
 |cons z l ih=>
  intro y hy;by_cases hz:z < x
  .rw [List.takeWhile_cons_of_pos (by simpa using hz)] at hy;rcases aET.1 hy with rfl|hy
   .exact hz
   .exact ih y hy
  .grind [List.takeWhile_cons_of_neg]
theorem zT (x:Int):∀(l:List Int),l.Pairwise (· < ·)->∀y∈l.dropWhile (λy=>decide (y < x)),x<=y:=by
 intro l;induction l with
 |nil=>intro _ y hy;simp at hy
 |cons z l ih=>
  intro hp y hy;by_cases hz:z < x
  .grind [List.dropWhile_cons_of_pos,List.pairwise_cons]
  .rw [List.dropWhile_cons_of_neg (by simpa using hz)] at hy;rcases aET.1 hy with rfl|hy
   .omega
   .have:=(aFu.1 hp).1 y hy;omega
theorem C9 (l:List Int) (x:Int):(kW l x).length=l.length+1:=by
 grind [kW,List.length_append,List.length_cons,List.takeWhile_append_dropWhile]
theorem Qu {l:List Int} {y:Int}:y∈kW l x↔y=x\/y∈l:=by
 unfold kW;have e:=aGe (p:=λy=>decide (y < x)) (l:=l);grind
theorem Qt {l:List Int} (hp:l.Pairwise (· < ·)) (hx:x∉l):(kW l x).Pairwise (· < ·):=by
 unfold kW;rw [List.pairwise_append,aFu];refine⟨hp.sublist (aFW _),⟨λy hy=>?_,hp.sublist (aFL _)⟩,λy hy z hz=>?_⟩
 .have h1:=zT x l hp y hy;have h2:y≠x:=λe=>hx (e▸(aFL _).mem hy)
  omega
 .have h1:=Ob x l y hy;rcases aET.1 hz with rfl|hz
  .exact h1
  .have h2:=zT x l hp z hz;omega
theorem Xa {i:Int} (h:rX s low i=false):fH s low<=i/\i∉bV s low:=by
 grind [rX,zY]
theorem Eo {l:List Sn} (hi:i < l.length):l.getD i default=l[i]:=by rw [aE7,aEB hi];rfl
theorem YT (h:dQ n=true) (hd:dU n m.F=true) (hL:m.L<=1000000000) (hI:m.I<=1000000000):dQ (takeN n m).1=true:=by
 obtain⟨hi,hf⟩:=Gq h hd;have hs:=AZ h _ (aEL hi);unfold takeN;rw [Eo hi];split
 .exact aiZ
 .split
  .rename_i h1 h2
   have h1':rX n.seen[iH n.seen m.F] m.L m.I=false:=Aap
   obtain⟨b1,b2⟩:=Xa h1';have ho:=tJ (Mw hs hL);have hl:=Xg hs hL;unfold lS at h2;simp only[aED,aES] at h2;have hpu:=uI (l:=(cK n.pu m.k 0 1 0 m.N).1) h (rU (bq h).2.1);refine AO (n:=setPu n (cK n.pu m.k 0 1 0 m.N).1) hi hpu hf.symm ?_;refine adz hl.1 hl.2.1 ?_ ?_ ?_
   .show(kW (bV n.seen[iH n.seen m.F] m.L) m.I).length<=40
    rw [C9];omega
   .intro x hx;rcases Qu.1 hx with rfl|hx
    .exact⟨b1,hI⟩
    .exact ho.2.2.2.1 x hx
   .exact Qt ho.2.2.2.2 b2
  .exact aiZ
theorem QI {p:jI->Bool} (h:dQ n=true):dQ (setOut n (n.out.filter p))=true:=by
 obtain⟨g1,g2,g3,g4,g5,g6⟩:=bq h;obtain⟨o1,o2,o3⟩:=sG g5;refine AL g1 g2 g3 g4 ?_ g6;unfold sD;have e:(setOut n (n.out.filter p)).out=n.out.filter p:=rfl;rw [e,Me (f:=λr:jI=>r.i)]
 .grind
 .intro s hs;exact o3 s (aGn.1 hs).1
 .exact o1.sublist List.filter_sublist
theorem F7 (h:bJ m=true) (hK:m.K=1):1<=m.I/\m.I<=1000000000/\1<=m.L/\m.L<=1000000000/\keyOk m.k.data.toList=true/\1<=m.N/\m.N<=1000000000:=by
 grind [bJ,fC]
theorem Kn (h:bJ m=true) (hK:m.K=0):keyOk m.k.data.toList=true/\1<=m.N/\m.N<=1000000000:=by
 grind [bJ,fC]
theorem Kl (h:bJ m=true):m.K=0\/m.K=1\/m.K=2:=by
 grind [bJ]
theorem YQ (h:dQ n=true) (hm:bJ m=true) (hd:dU n m.F=true):dQ (fF n m).1=true:=by
 unfold fF;split
 .rename_i hK
  have hp:=F7 hm hK;exact YT h hd hp.2.2.2.1 hp.2.1
 .grind [Kl,Kn,QI,Kr]
theorem ac0 (h:dQ n=true) (hp:¬n.par= -1):dU n n.par=true:=by
 grind [dU,bq,qj]
theorem QK (h:bC o=true) (hK:o.K=0\/o.K=3\/o.K=4):keyOk o.k.data.toList=true/\1<=o.n/\o.n<=1000000000:=by
 grind [bC,fC]
theorem F9 (h:bC o=true) (hK:o.K=1):keyOk o.k.data.toList=true/\1<=o.n/\o.n<=1000000000/\1<=o.no/\o.no<=1000000000:=by
 grind [bC,fC]
theorem M9 (h:bC o=true) (hK:o.K=2):1<=o.no/\o.no<=1000000000:=by
 grind [bC,fC]
theorem Kw (h:bC o=true) (hK:o.K=6):bJ o.m=true:=by
 grind [bC]
theorem Kz (h:bC o=true):o.K=0\/o.K=1\/o.K=2\/o.K=3\/o.K=4\/o.K=5\/o.K=6:=by
 grind [bC]
theorem EU (h:xX n o=true) (hK:o.K=6):o.m.T=n.id/\dU n o.m.F=true:=by
 unfold xX at h;simpa [hK] using h
theorem acZ (h:dQ n=true) (ho:bC o=true) (ha:xX n o=true):dQ (eZ n o).1=true:=by
 unfold eZ;split
 .split
  .exact uI h (rU (bq h).2.1)
  .exact h
 .split
  .grind [fC,UO,F9]
  .split
   .exact M4 h
   .split
    .grind
    .split
     .grind [Kr,ac0,QK]
     .split
      .exact h
      .have hK:o.K=6:=by rcases Kz ho with h|h|h|h|h|h|h<;>omega
       exact YQ h (Kw ho hK) (EU ha hK).2
theorem ac1 (h:dQ n=true):dQ (nC n o).1=true:=by
 grind [nC,acZ]
theorem Xj (h:dQ n=true):dQ (doN n o).1=true:=by rw [Ue h];exact ac1 h
end Mth
end Go.Proofs.YtfachhcijcjbpaaGreatDoor
