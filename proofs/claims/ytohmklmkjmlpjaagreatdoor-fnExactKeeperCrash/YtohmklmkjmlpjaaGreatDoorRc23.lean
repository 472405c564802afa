/- Parts. -/
import Derived.Test.YtohmklmkjmlpjaaGreatDoorRc21
import Derived.Test.YtohmklmkjmlpjaaGreatDoorRc19
namespace Go.Proofs.YtohmklmkjmlpjaaGreatDoor
open Go.Proofs.Tryz
set_option maxHeartbeats 4000000
set_option maxRecDepth 100000
open Go.RowKit
open Mth
variable {w w':World} {g B:Nat} {α:Type} {t:TypeId}
namespace Mth
instance:Inhabited Mg:=⟨⟨0,0,0,0,0,ByteArray.empty,0⟩⟩
abbrev mE (m:Mg):List Value:=[.int .i64 m.K,.int .i64 m.F,.int .i64 m.T,.int .i64 m.I,.int .i64 m.L,.string m.k,.int .i64 m.N]
theorem rH (m:Mg):(mE m).length=7:=rfl
theorem Px:∀(m:Mg),∀u∈mE m,u.oneCell'=true:=by
 intro m u hu;simp only[mE,aGF,aHx,or_false] at hu;rcases hu with rfl|rfl|rfl|rfl|rfl|rfl|rfl<;>rfl
def wL (l:List jM) (t ab:Int):Int:=((l.find? λo=>decide (o.t=t)).map (·.i)).getD ab
def qO (n:Nd) (s:jM):Mg:=⟨1,n.id,s.t,s.i,wL n.out s.t s.i,s.k,s.n⟩
def adB (n:Nd):List Mg:=if eH n then n.out.map (qO n) else[]
theorem Fq (f:α->Bool) (l:List α) (i:Nat) (hi:i < l.length) (h:(l.take i).find? f=none):(f l[i]=true->l.find? f=some l[i])/\(f l[i]=false->(l.take (i+1)).find? f=none):=by
 exact azV
theorem Xa {l:List jM} {t ab:Int} {k:Nat} (hk:k < l.length) (h:(l.take k).find? (λo=>decide (o.t=t))=none) (ht:(l[k]).t=t):wL l t ab=(l[k]).i:=by
 unfold wL;rw [(Fq _ l k hk h).1 (aGk ht)];rfl
theorem Qy {l:List jM} {t:Int} {k:Nat} (hk:k < l.length) (h:(l.take k).find? (λo=>decide (o.t=t))=none) (ht:¬(l[k]).t=t):(l.take (k+1)).find? (λo=>decide (o.t=t))=none:=
 (Fq _ l k hk h).2 (aGi ht)
theorem ac7 {l:List jM} {t ab:Int} (h:(l.take l.length).find? (λo=>decide (o.t=t))=none):wL l t ab=ab:=by
 rw [aGL] at h;unfold wL;rw [h];rfl
end Mth
theorem WV:(Tryz.prog.info? 98).map (λi=>(i.zero,i.size,i.bytes))=some (some (.agg (bX 0 0 0 0 0 ByteArray.empty 0)),7,64):=Aab
theorem jV {v0 v1 v2 v3 v4 v5 v6:Value} (h:w.heap[g]?=some (.cells #[v0,v1,v2,v3,v4,v5,v6] t (0,0))):
 w.cell? ⟨g,0,none⟩=some v0/\w.cell? ⟨g,1,none⟩=some v1/\w.cell? ⟨g,2,none⟩=some v2/\w.cell? ⟨g,3,none⟩=some v3/\w.cell? ⟨g,4,none⟩=some v4/\w.cell? ⟨g,5,none⟩=some v5/\w.cell? ⟨g,6,none⟩=some v6:=by
 have hc:∀i,w.cell? ⟨g,i,none⟩=#[v0,v1,v2,v3,v4,v5,v6][i]?:=λi=>aGu w g i _ t (0,0) h
 exact⟨hc 0,hc 1,hc 2,hc 3,hc 4,hc 5,hc 6⟩
theorem zk {a0 a1 a2 a3 a4 a5 a6 b0 b1 b2 b3 b4 b5 b6:Value} (h:w.heap[g]?=some (.cells #[a0,a1,a2,a3,a4,a5,a6] t (0,0))):
 (((((((w.setCell ⟨g,0,none⟩ b0).setCell ⟨g,1,none⟩ b1).setCell ⟨g,2,none⟩ b2).setCell ⟨g,3,none⟩ b3).setCell ⟨g,4,none⟩ b4).setCell ⟨g,5,none⟩ b5).setCell ⟨g,6,none⟩ b6).heap[g]?=some (.cells #[b0,b1,b2,b3,b4,b5,b6] t (0,0)):=by
 exact(aT (aT (aT (aT (aT (aT (aT h 0 b0) 1 b1) 2 b2) 3 b3) 4 b4) 5 b5) 6 b6).trans (by kernel_rfl)
theorem vF {b0 b1 b2 b3 b4 b5 b6:Value}:aC [g] w (((((((w.setCell ⟨g,0,none⟩ b0).setCell ⟨g,1,none⟩ b1).setCell ⟨g,2,none⟩ b2).setCell ⟨g,3,none⟩ b3).setCell ⟨g,4,none⟩ b4).setCell ⟨g,5,none⟩ b5).setCell ⟨g,6,none⟩ b6):=
 ((((((aC.set b0).trans (aC.set b1)).trans (aC.set b2)).trans (aC.set b3)).trans (aC.set b4)).trans (aC.set b5)).trans (aC.set b6)
abbrev zm7:Array Value:=(bX 0 0 0 0 0 ⟨#[]⟩ 0)
theorem af5 (n:Nd) (A:bV) (t ab:Int) (w:World) (hl:n.out.length<=1048600) (ha:SentAt w A.o n.out):
 Calls Tryz.prog 183 #[gP n A,.int .i64 t,.int .i64 ab] w (dZ w (.int .i64 (wL n.out t ab))):=by
 have HA:=Hq (GR.At.below ha (ay w (.cells (dG n A) 40)));have hblk:=aGg w (.cells (dG n A) 40);obtain⟨c0,c1,c2,c3,c4,c5,c6,c7,c8⟩:=nine hblk;have HLY:=Hq (λk hk h=> @Xa n.out t ab k hk h);have zw:=Hq (λk hk h=> @Qy n.out t k hk h);have El:=Hq (@ac7 n.out t ab);clear ha hblk;generalize wL n.out t ab=LO at *;open aps in exact vU
theorem Kj (n:Nd) (A:bV) (s:jM) (w:World) (hl:n.out.length<=1048600) (ha:SentAt w A.o n.out):
 Calls Tryz.prog 217 #[gP n A,EX s] w (dZ w (oz (qO n s))):=by
 have HA:=Hq ha;have HLY:=Hq (λk hk h=> @Xa n.out s.t s.i k hk h);have zw:=Hq (λk hk h=> @Qy n.out s.t k hk h);have El:=Hq (@ac7 n.out s.t s.i);have HPM:Hid (qO n s=⟨1,n.id,s.t,s.i,wL n.out s.t s.i,s.k,s.n⟩):=rfl;obtain⟨hP,hR,hO,hB⟩:=zO w (.cells (dG n A) 40) (.cells (gV s.i s.t s.k s.n) 91) (.cells zm7 98);have HP:=Hq hP;have HR:=Hq hR;have HO:=Hq hO;have HB:=Hq hB;clear ha hP hR hO hB;rw [ah HPM];generalize wL n.out s.t s.i=LO at *;open apr in exact vU
theorem CS {P:Program} (w:World) {ops:Array Oper} {o:Oper} {a:Act} {K:Act->World->Prop} {Q:Exit->Act->World->Prop} {E:Prop} (hgd:o.guard=none) (s x:Operand) (t:TypeId)
 (ho:o.op= .call {callee:= .builtin .append,args:=#[s,x],argTypes:=#[t,t]})
 (base:Nat) (e:TypeId) (i:TypeInfo) (z:Value) (size bytes:Nat) (ht:P.underlying t=some (.slice e)) (hi:P.info? e=some i) (hz:i.zero=some z)
 (hsize:i.size=size) (hby:i.bytes=bytes) (hzs:z.cells.size=size) (hsz:0 < size)
 (v:Value) (n:Nat) (xs:List Value) (hs:a.eval s=v) (hown:w.ownsRow base e size v n xs)
 (ad:Addr) (m c:Nat) (news:List Value) (hx:a.eval x= .slice (some ad) m c) (hl:news.length=m*size) (hnews:∀j u,news[j]?=some u->w.cell? (ad.add j)=some u) (h1:∀u∈news,u.oneCell'=true)
 (h63:n+m<=maxLen) (hbytes:(n+m)*bytes<=140737488355328) (hbase:base<=w.heap.size)
 (h:∀v' w',w'.ownsRow base e size v' (n+m) (xs++news)->w.grownBy w' v.ownBlock->(v'= .slice none 0 0↔v= .slice none 0 0/\m=0)->K (a.put o.dst v') w'):
 if Region.wanted o (yielded ops a.tmps)=true then Oper.wp P o a w K Q else E:=by
 exact ain
theorem Mi {row:Option Nat} (hk:w.grownBy w' row) (hg:∀k,row=some k->B<=k) (hB:B<=w.heap.size):Below B w w':=⟨hk.os,hk.tape,hk.output,hk.size,λk hl=>hk.block k Aaa (λe=>by have:=hg k e.symm;omega)⟩
theorem GR.At.heap {enc:α->List Value} {sz:Nat} {w1:World} {a:Option Addr} {l:List α} (h:GR.At enc sz w a l) (e:w1.heap=w.heap):GR.At enc sz w1 a l:=λi hi=>by
 obtain⟨g,off,e0,hg,hc⟩:=h i hi;exact⟨g,off,e0,by rw [e];exact hg,λj hj=>(aG0 (w:=w) Aap).trans (hc j hj)⟩
def BD (w:World) (L:List Mg) (e:Ending) (w':World):Prop:=∃a c,e= .returned (.slice a L.length c)/\∃g,GR.W mE 7 w' a g L/\(∀x∈fp g L,w.heap.size<=x/\x < w'.heap.size)/\aI w w'
theorem Xr (n:Nd) (A:bV) (s:jM) (w:World) (hl:n.out.length<=1048600) (ha:SentAt w A.o n.out):
 Calls Tryz.prog 149 #[gP n A,EX s] w (dZ w (oz (qO n s))):=by
 obtain⟨hP,hR,hO,hB⟩:=zO w (.cells (dG n A) 40) (.cells (gV s.i s.t s.k s.n) 91) (.cells zm7 98);have HPM:Hid (qO n s=⟨1,n.id,s.t,s.i,wL n.out s.t s.i,s.k,s.n⟩):=rfl;have HLW:=Hq (λW (hb:aI w W) w1 (h:w1.heap=W.heap)=>af5 n A s.t s.i w1 hl (GR.At.heap (GR.At.below ha hb) h));rw [ah HPM];generalize wL n.out s.t s.i=LO at *;open apv in exact vU
theorem BD.of_own {v:Value} {L:List Mg} {n:Nat} (hn:n=L.length) (h:w'.ownsRow B 98 7 v n (GR.flat mE L)) (hB:w.heap.size<=B) (hb:aI w w'):BD w L (.returned v) w':=by
 subst hn;obtain⟨a,c,g,rfl,hW,hr,_⟩:=GR.W.of_own rH h;exact⟨a,c,rfl,g,hW,λx hx=>⟨aGm hB (hr x hx).1,(hr x hx).2⟩,hb⟩
theorem jB (enc:α->List Value) (l:List α) (x:α):GR.flat enc (l++[x])=GR.flat enc l++enc x:=by
 rw [GR.flat_append];simp[GR.flat]
theorem adS (n:Nd) (A:bV) (w:World) (hsz:eG n 1048600) (ha:dD w A n):
 Calls Tryz.prog 109 #[gP n A] w (BD w (adB n)):=by
 obtain⟨i0,hi,hz0,hz1,hz2⟩:=aGV WV;have oN:=Hq (λW (hb:aI w W)=>zl n A W hsz (ha.below hb));have Il:=Hq (λs W (hb:aI w W) w1 (h:w1.heap=W.heap)=>Xr n A s w1 hsz.o (GR.At.heap (GR.At.below ha.o hb) h));obtain⟨L,hL⟩:∃L,adB n=L:=⟨_,rfl⟩;have Om:Hid (L=if eH n then n.out.map (qO n) else[]):=hL.symm;have Lv:=Hq (aGg w (.cells (dG n A) 40));have HAO:=Hq ha.o;have hlo:=hsz.o;rw [hL];clear hL;generalize eH n=OK at *;generalize qO n=PM at *;clear ha hsz;open apw in exact vU
abbrev Xx (n:Nd) (A:bV) (v:Value):Array Value:=#[.int .i64 n.id,.int .i64 n.par,.slice A.k n.kids.length A.ck,.int .i64 n.next,.slice A.p n.pu.length A.cp,.slice A.o n.out.length A.co,.slice A.s n.seen.length A.cs,.int .i64 n.old,.slice A.r n.reqs.length A.cr,v]
theorem jW {v0 v1 v2 v3 v4 v5 v6 v7 v8 v9:Value} (h:w.heap[g]?=some (.cells #[v0,v1,v2,v3,v4,v5,v6,v7,v8,v9] t (0,0))):
 w.cell? ⟨g,0,none⟩=some v0/\w.cell? ⟨g,1,none⟩=some v1/\w.cell? ⟨g,2,none⟩=some v2/\w.cell? ⟨g,3,none⟩=some v3/\w.cell? ⟨g,4,none⟩=some v4/\w.cell? ⟨g,5,none⟩=some v5/\w.cell? ⟨g,6,none⟩=some v6/\w.cell? ⟨g,7,none⟩=some v7/\w.cell? ⟨g,8,none⟩=some v8/\w.cell? ⟨g,9,none⟩=some v9:=by
 have hc:∀i,w.cell? ⟨g,i,none⟩=#[v0,v1,v2,v3,v4,v5,v6,v7,v8,v9][i]?:=λi=>aGu w g i _ t (0,0) h
 exact⟨hc 0,hc 1,hc 2,hc 3,hc 4,hc 5,hc 6,hc 7,hc 8,hc 9⟩
structure WS (w2 wr:World) (wb:Nat) (n:Nd) (A:bV) (v:Value) (L:List Mg):Prop where
 keep:aC [wb] w2 wr
 blk:wr.heap[wb]?=some (.cells (Xx n A v) 192 (0,0))
 own:wr.ownsRow w2.heap.size 98 7 v L.length (GR.flat mE L)
 lt:wb < w2.heap.size
end Go.Proofs.YtohmklmkjmlpjaaGreatDoor
