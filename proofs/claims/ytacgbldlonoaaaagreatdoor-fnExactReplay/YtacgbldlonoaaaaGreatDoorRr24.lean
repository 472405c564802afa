/- Parts. -/
import Derived.Test.YtacgbldlonoaaaaGreatDoorRr15
import Derived.Test.YtacgbldlonoaaaaGreatDoorRr16
namespace Go.Proofs.YtacgbldlonoaaaaGreatDoor
set_option maxHeartbeats 4000000
set_option maxRecDepth 100000
open Go.RowKit
open Mth
namespace Mth
instance:Inhabited Mg:=⟨⟨0,0,0,0,0,ByteArray.empty,0⟩⟩
abbrev jF (m:Mg):List Value:=[.int .i64 m.K,.int .i64 m.F,.int .i64 m.T,.int .i64 m.I,.int .i64 m.L,.string m.k,.int .i64 m.N]
theorem mX (m:Mg):(jF m).length=7:=rfl
theorem LW:∀(m:Mg),∀u∈jF m,u.oneCell'=true:=by
 intro m u hu;simp only[jF,List.mem_cons,List.not_mem_nil,or_false] at hu;rcases hu with rfl|rfl|rfl|rfl|rfl|rfl|rfl<;>rfl
def uD (l:List kC) (t ab:Int):Int:=((l.find? λo=>decide (o.t=t)).map (·.i)).getD ab
def nI (n:Nd) (s:kC):Mg:=⟨1,n.id,s.t,s.i,uD n.out s.t s.i,s.k,s.n⟩
def Zi (n:Nd):List Mg:=if dU n then n.out.map (nI n) else[]
theorem CZ {α:Type} (f:α->Bool) (l:List α) (i:Nat) (hi:i < l.length) (h:(l.take i).find? f=none):(f l[i]=true->l.find? f=some l[i])/\(f l[i]=false->(l.take (i+1)).find? f=none):=by
 exact asF
theorem R5 {l:List kC} {t ab:Int} {k:Nat} (hk:k < l.length) (h:(l.take k).find? (λo=>decide (o.t=t))=none) (ht:(l[k]).t=t):uD l t ab=(l[k]).i:=by
 unfold uD;rw [(CZ _ l k hk h).1 (decide_eq_true ht)];rfl
theorem Ng {l:List kC} {t:Int} {k:Nat} (hk:k < l.length) (h:(l.take k).find? (λo=>decide (o.t=t))=none) (ht:¬(l[k]).t=t):(l.take (k+1)).find? (λo=>decide (o.t=t))=none:=
 (CZ _ l k hk h).2 (decide_eq_false ht)
theorem YW {l:List kC} {t ab:Int} (h:(l.take l.length).find? (λo=>decide (o.t=t))=none):uD l t ab=ab:=by
 rw [List.take_length] at h;unfold uD;rw [h];rfl
end Mth
theorem RV:(Tryz.prog.info? 32).map (λi=>(i.zero,i.size,i.bytes))=some (some (.agg (bJ 0 0 0 0 0 ByteArray.empty 0)),7,64):=Aab
theorem jr {w:World} {g:Nat} {v0 v1 v2 v3 v4 v5 v6:Value} {t:TypeId} (h:w.heap[g]?=some (.cells #[v0,v1,v2,v3,v4,v5,v6] t (0,0))):
 w.cell? ⟨g,0,none⟩=some v0/\w.cell? ⟨g,1,none⟩=some v1/\w.cell? ⟨g,2,none⟩=some v2/\w.cell? ⟨g,3,none⟩=some v3/\w.cell? ⟨g,4,none⟩=some v4/\w.cell? ⟨g,5,none⟩=some v5/\w.cell? ⟨g,6,none⟩=some v6:=by
 have hc:∀i,w.cell? ⟨g,i,none⟩=#[v0,v1,v2,v3,v4,v5,v6][i]?:=λi=>cell_of_row w g i _ t (0,0) h
 exact⟨hc 0,hc 1,hc 2,hc 3,hc 4,hc 5,hc 6⟩
theorem wV {w:World} {g:Nat} {a0 a1 a2 a3 a4 a5 a6 b0 b1 b2 b3 b4 b5 b6:Value} {t:TypeId} (h:w.heap[g]?=some (.cells #[a0,a1,a2,a3,a4,a5,a6] t (0,0))):
 (((((((w.setCell ⟨g,0,none⟩ b0).setCell ⟨g,1,none⟩ b1).setCell ⟨g,2,none⟩ b2).setCell ⟨g,3,none⟩ b3).setCell ⟨g,4,none⟩ b4).setCell ⟨g,5,none⟩ b5).setCell ⟨g,6,none⟩ b6).heap[g]?=some (.cells #[b0,b1,b2,b3,b4,b5,b6] t (0,0)):=by
 have h0:(w.setCell ⟨g,0,none⟩ b0).heap[g]?=some (.cells #[b0,a1,a2,a3,a4,a5,a6] t (0,0)):=bC h 0 b0;have h1:((w.setCell ⟨g,0,none⟩ b0).setCell ⟨g,1,none⟩ b1).heap[g]?=some (.cells #[b0,b1,a2,a3,a4,a5,a6] t (0,0)):=bC h0 1 b1;have h2:(((w.setCell ⟨g,0,none⟩ b0).setCell ⟨g,1,none⟩ b1).setCell ⟨g,2,none⟩ b2).heap[g]?=some (.cells #[b0,b1,b2,a3,a4,a5,a6] t (0,0)):=bC h1 2 b2;have h3:((((w.setCell ⟨g,0,none⟩ b0).setCell ⟨g,1,none⟩ b1).setCell ⟨g,2,none⟩ b2).setCell ⟨g,3,none⟩ b3).heap[g]?=some (.cells #[b0,b1,b2,b3,a4,a5,a6] t (0,0)):=bC h2 3 b3;have h4:(((((w.setCell ⟨g,0,none⟩ b0).setCell ⟨g,1,none⟩ b1).setCell ⟨g,2,none⟩ b2).setCell ⟨g,3,none⟩ b3).setCell ⟨g,4,none⟩ b4).heap[g]?=some (.cells #[b0,b1,b2,b3,b4,a5,a6] t (0,0)):=bC h3 4 b4;have h5:((((((w.setCell ⟨g,0,none⟩ b0).setCell ⟨g,1,none⟩ b1).setCell ⟨g,2,none⟩ b2).setCell ⟨g,3,none⟩ b3).setCell ⟨g,4,none⟩ b4).setCell ⟨g,5,none⟩ b5).heap[g]?=some (.cells #[b0,b1,b2,b3,b4,b5,a6] t (0,0)):=bC h4 5 b5;exact bC h5 6 b6
theorem sK {w:World} {g:Nat} {b0 b1 b2 b3 b4 b5 b6:Value}:aC [g] w (((((((w.setCell ⟨g,0,none⟩ b0).setCell ⟨g,1,none⟩ b1).setCell ⟨g,2,none⟩ b2).setCell ⟨g,3,none⟩ b3).setCell ⟨g,4,none⟩ b4).setCell ⟨g,5,none⟩ b5).setCell ⟨g,6,none⟩ b6):=
 ((((((aC.set b0).trans (aC.set b1)).trans (aC.set b2)).trans (aC.set b3)).trans (aC.set b4)).trans (aC.set b5)).trans (aC.set b6)
abbrev zm7:Array Value:=(bJ 0 0 0 0 0 ⟨#[]⟩ 0)
theorem abz (n:Nd) (A:bH) (t ab:Int) (w:World) (hl:n.out.length<=1048600) (ha:SentAt w A.o n.out):
 Calls Tryz.prog 127 #[fI n A,.int .i64 t,.int .i64 ab] w (eP w (.int .i64 (uD n.out t ab))):=by
 have HA:=Hq (GR.At.below ha (aj w (.cells (dH n A) 30)));have hblk:=heap_alloc_new w (.cells (dH n A) 30);obtain⟨c0,c1,c2,c3,c4,c5,c6,c7,c8⟩:=nine hblk;have HLY:=Hq (λk hk h=> @R5 n.out t ab k hk h);have wZ:=Hq (λk hk h=> @Ng n.out t k hk h);have BZ:=Hq (@YW n.out t ab);clear ha hblk;generalize uD n.out t ab=LO at *;open akD in exact zB
theorem Hf (n:Nd) (A:bH) (s:kC) (w:World) (hl:n.out.length<=1048600) (ha:SentAt w A.o n.out):
 Calls Tryz.prog 126 #[fI n A,abU s] w (eP w (nS (nI n s))):=by
 have HA:=Hq ha;have HLY:=Hq (λk hk h=> @R5 n.out s.t s.i k hk h);have wZ:=Hq (λk hk h=> @Ng n.out s.t k hk h);have BZ:=Hq (@YW n.out s.t s.i);have Vo:Hid (nI n s=⟨1,n.id,s.t,s.i,uD n.out s.t s.i,s.k,s.n⟩):=rfl;obtain⟨hP,hR,hO,hB⟩:=I7 w (.cells (dH n A) 30) (.cells (eU s.i s.t s.k s.n) 95) (.cells zm7 32);have HP:=Hq hP;have HR:=Hq hR;have HO:=Hq hO;have HB:=Hq hB;clear ha hP hR hO hB;rw [ah Vo];generalize uD n.out s.t s.i=LO at *;open akC in exact zB
theorem Al {P:Program} (w:World) {ops:Array Oper} {o:Oper} {a:Act} {K:Act->World->Prop} {Q:Exit->Act->World->Prop} {E:Prop} (hgd:o.guard=none) (s x:Operand) (t:TypeId)
 (ho:o.op= .call {callee:= .builtin .append,args:=#[s,x],argTypes:=#[t,t]})
 (base:Nat) (e:TypeId) (i:TypeInfo) (z:Value) (size bytes:Nat) (ht:P.underlying t=some (.slice e)) (hi:P.info? e=some i) (hz:i.zero=some z)
 (hsize:i.size=size) (hby:i.bytes=bytes) (hzs:z.cells.size=size) (hsz:0 < size)
 (v:Value) (n:Nat) (xs:List Value) (hs:a.eval s=v) (hown:w.ownsRow base e size v n xs)
 (ad:Addr) (m c:Nat) (news:List Value) (hx:a.eval x= .slice (some ad) m c) (hl:news.length=m*size) (hnews:∀j u,news[j]?=some u->w.cell? (ad.add j)=some u) (h1:∀u∈news,u.oneCell'=true)
 (h63:n+m<=maxLen) (hbytes:(n+m)*bytes<=140737488355328) (hbase:base<=w.heap.size)
 (h:∀v' w',w'.ownsRow base e size v' (n+m) (xs++news)->w.grownBy w' v.ownBlock->(v'= .slice none 0 0↔v= .slice none 0 0/\m=0)->K (a.put o.dst v') w'):
 if Region.wanted o (yielded ops a.tmps)=true then Oper.wp P o a w K Q else E:=by
 exact asN
theorem Je {w w':World} {B:Nat} {row:Option Nat} (hk:w.grownBy w' row) (hg:∀k,row=some k->B<=k) (hB:B<=w.heap.size):Below B w w':=⟨hk.os,hk.tape,hk.output,hk.size,λk hl=>hk.block k Aaa (λe=>by have:=hg k e.symm;omega)⟩
theorem GR.At.heap {α:Type} {enc:α->List Value} {sz:Nat} {w w1:World} {a:Option Addr} {l:List α} (h:GR.At enc sz w a l) (e:w1.heap=w.heap):GR.At enc sz w1 a l:=λi hi=>by
 obtain⟨g,off,e0,hg,hc⟩:=h i hi;exact⟨g,off,e0,by rw [e];exact hg,λj hj=>(World.cell?_of_block (w:=w) Aan).trans (hc j hj)⟩
theorem ate {w:World} {g h i:Nat} {u b0 b1 b2 b3 b4 b5 b6:Value} (hne:g≠h) (e:w.cell? ⟨h,i,none⟩=some u):
 (((((((w.setCell ⟨g,0,none⟩ b0).setCell ⟨g,1,none⟩ b1).setCell ⟨g,2,none⟩ b2).setCell ⟨g,3,none⟩ b3).setCell ⟨g,4,none⟩ b4).setCell ⟨g,5,none⟩ b5).setCell ⟨g,6,none⟩ b6).cell? ⟨h,i,none⟩=some u:=by
 rw [World.cell?_setCell_far _ _ _ _ hne,World.cell?_setCell_far _ _ _ _ hne,World.cell?_setCell_far _ _ _ _ hne,World.cell?_setCell_far _ _ _ _ hne,World.cell?_setCell_far _ _ _ _ hne,World.cell?_setCell_far _ _ _ _ hne,World.cell?_setCell_far _ _ _ _ hne];exact e
def zk (w:World) (L:List Mg) (e:Ending) (w':World):Prop:=∃a c,e= .returned (.slice a L.length c)/\∃g,GR.W jF 7 w' a g L/\(∀x∈fp g L,w.heap.size<=x/\x < w'.heap.size)/\aX w w'
theorem J6 (n:Nd) (A:bH) (s:kC) (w:World) (hl:n.out.length<=1048600) (ha:SentAt w A.o n.out):
 Calls Tryz.prog 51 #[fI n A,abU s] w (eP w (nS (nI n s))):=by
 obtain⟨hP,hR,hO,hB⟩:=I7 w (.cells (dH n A) 30) (.cells (eU s.i s.t s.k s.n) 95) (.cells zm7 32);have Vo:Hid (nI n s=⟨1,n.id,s.t,s.i,uD n.out s.t s.i,s.k,s.n⟩):=rfl;have HLW:=Hq (λW (hb:aX w W) w1 (h:w1.heap=W.heap)=>abz n A s.t s.i w1 hl (GR.At.heap (GR.At.below ha hb) h));rw [ah Vo];generalize uD n.out s.t s.i=LO at *;open akE in exact zB
theorem zk.of_own {w w':World} {B:Nat} {v:Value} {L:List Mg} {n:Nat} (hn:n=L.length) (h:w'.ownsRow B 32 7 v n (GR.flat jF L)) (hB:w.heap.size<=B) (hb:aX w w'):zk w L (.returned v) w':=by
 subst hn;obtain⟨a,c,g,rfl,hW,hr,_⟩:=GR.W.of_own mX h;exact⟨a,c,rfl,g,hW,λx hx=>⟨Nat.le_trans hB (hr x hx).1,(hr x hx).2⟩,hb⟩
theorem ig {α:Type} (enc:α->List Value) (l:List α) (x:α):GR.flat enc (l++[x])=GR.flat enc l++enc x:=by
 rw [GR.flat_append];simp[GR.flat]
theorem ZA (n:Nd) (A:bH) (w:World) (hsz:fu n 1048600) (ha:dK w A n):
 Calls Tryz.prog 17 #[fI n A] w (zk w (Zi n)):=by
 obtain⟨i0,hi,hz0,hz1,hz2⟩:=info_parts RV;have lS:=Hq (λW (hb:aX w W)=>Ei n A W hsz (ha.below hb));have CG:=Hq (λs W (hb:aX w W) w1 (h:w1.heap=W.heap)=>J6 n A s w1 hsz.o (GR.At.heap (GR.At.below ha.o hb) h));obtain⟨L,hL⟩:∃L,Zi n=L:=⟨_,rfl⟩;have KW:Hid (L=if dU n then n.out.map (nI n) else[]):=hL.symm;have IU:=Hq (heap_alloc_new w (.cells (dH n A) 30));have HAO:=Hq ha.o;have hlo:=hsz.o;rw [hL];clear hL;generalize dU n=OK at *;generalize nI n=PM at *;clear ha hsz;open akF in exact zB
abbrev Kz (n:Nd) (A:bH) (v:Value):Array Value:=#[.int .i64 n.id,.int .i64 n.par,.slice A.k n.kids.length A.ck,.int .i64 n.next,.slice A.p n.pu.length A.cp,.slice A.o n.out.length A.co,.slice A.s n.seen.length A.cs,.int .i64 n.old,.slice A.r n.reqs.length A.cr,v]
theorem iQ {w:World} {g:Nat} {v0 v1 v2 v3 v4 v5 v6 v7 v8 v9:Value} {t:TypeId} (h:w.heap[g]?=some (.cells #[v0,v1,v2,v3,v4,v5,v6,v7,v8,v9] t (0,0))):
 w.cell? ⟨g,0,none⟩=some v0/\w.cell? ⟨g,1,none⟩=some v1/\w.cell? ⟨g,2,none⟩=some v2/\w.cell? ⟨g,3,none⟩=some v3/\w.cell? ⟨g,4,none⟩=some v4/\w.cell? ⟨g,5,none⟩=some v5/\w.cell? ⟨g,6,none⟩=some v6/\w.cell? ⟨g,7,none⟩=some v7/\w.cell? ⟨g,8,none⟩=some v8/\w.cell? ⟨g,9,none⟩=some v9:=by
 have hc:∀i,w.cell? ⟨g,i,none⟩=#[v0,v1,v2,v3,v4,v5,v6,v7,v8,v9][i]?:=λi=>cell_of_row w g i _ t (0,0) h
 exact⟨hc 0,hc 1,hc 2,hc 3,hc 4,hc 5,hc 6,hc 7,hc 8,hc 9⟩
structure WS (w2 wr:World) (wb:Nat) (n:Nd) (A:bH) (v:Value) (L:List Mg):Prop where
 keep:aC [wb] w2 wr
 blk:wr.heap[wb]?=some (.cells (Kz n A v) 74 (0,0))
 own:wr.ownsRow w2.heap.size 32 7 v L.length (GR.flat jF L)
 lt:wb < w2.heap.size
theorem WS.step {w2 wr w':World} {wb:Nat} {n:Nd} {A:bH} {v:Value} {L:List Mg} (h:WS w2 wr wb n A v L) (hb:aX wr w'):WS w2 w' wb n A v L:=
 ⟨h.keep.trans (aC.of_below hb),ay h.blk hb,GR.own_below h.own hb,h.lt⟩
theorem WS.set {w2 wr:World} {wb g i:Nat} {n:Nd} {A:bH} {v u:Value} {L:List Mg} (h:WS w2 wr wb n A v L) (hg:w2.heap.size<=g) (hv:v.ownBlock≠some g):WS w2 (wr.setCell ⟨g,i,none⟩ u) wb n A v L:=by
 have hlt:=h.lt;refine⟨?_,?_,?_,hlt⟩
 .refine⟨h.keep.os,h.keep.tape,h.keep.output,by have:=h.keep.size;simpa [World.setCell] using this,λk hk hkn=>?_⟩;have hkg:k≠g:=Aaa
  rw [Below.heap_setCell _ _ _ _ hkg];exact h.keep.block k hk hkn
 .have hkg:wb≠g:=Aaa
  rw [Below.heap_setCell _ _ _ _ hkg];exact h.blk
 .refine h.own.kept (row:=some g) ⟨rfl,rfl,rfl,Aao,λk _ hk=>Below.heap_setCell _ _ _ _ (λe=>hk Aan)⟩ ?_;cases hv':v.ownBlock with
  |none=>exact .inl rfl
  |some k=>exact .inr (λe=>hv (by rw [hv',e]))
theorem WS.app {w2 wr w6:World} {wb:Nat} {n:Nd} {A:bH} {v v':Value} {L:List Mg} {o:Obj} (h:WS w2 wr wb n A v L) (m:Mg)
 (hown:w6.ownsRow w2.heap.size 32 7 v' (L.length+1) (GR.flat jF L++jF m)) (hg:(wr.alloc o).grownBy w6 v.ownBlock):
 w6.heap[wb]?=some (.cells (Kz n A v) 74 (0,0))/\WS w2 (w6.setCell ⟨wb,9,none⟩ v') wb n A v' (L++[m]):=by
 have hvb:∀k,v.ownBlock=some k->w2.heap.size<=k:=λk hk=>(h.own.lt k hk).1
 have hlt:=h.lt;have hsz:=h.keep.size
 have hblk6:w6.heap[wb]?=some (.cells (Kz n A v) 74 (0,0)):=by
  rw [hg.block wb Aag (λe=>by have:=hvb wb e.symm;omega),Below.heap_alloc _ _ _ Aaa];exact h.blk
 have hne:∀k,v'.ownBlock=some k->k≠wb:=λk hk=>by have:=(hown.lt k hk).1;omega
 refine⟨hblk6,?_,?_,?_,hlt⟩
 .refine⟨hg.os.trans h.keep.os,hg.tape.trans h.keep.tape,hg.output.trans h.keep.output,?_,λk hk hkn=>?_⟩
  .have:=hg.size;simp[World.setCell] at this ⊢;omega
  .have hkn':k≠wb:=by simpa using hkn
   exact adL
 .exact bC hblk6 9 v'
 .rw [List.length_append,ig];refine hown.kept (row:=some wb) ⟨rfl,rfl,rfl,Aao,λk _ hk=>Below.heap_setCell _ _ _ _ (λe=>hk Aan)⟩ ?_;exact aeg
structure KC (c:Nat->Nat) (k:Nat) (w w':World):Prop where
 os:w'.os=w.os
 tape:w'.tape=w.tape
 output:w'.output=w.output
 size:w.heap.size<=w'.heap.size
 block:∀x,x < w.heap.size->c x≠k->w'.heap[x]?=w.heap[x]?
theorem KC.of_below {c:Nat->Nat} {k:Nat} {w w':World} (h:aX w w'):KC c k w w':=⟨h.os,h.tape,h.output,h.size,λx hx _=>h.block x hx⟩
theorem KC.trans {c:Nat->Nat} {k:Nat} {a b d:World} (h:KC c k a b) (h':KC c k b d):KC c k a d:=
 ⟨h'.os.trans h.os,h'.tape.trans h.tape,h'.output.trans h.output,Nat.le_trans h.size h'.size,λx hx hc=>(h'.block x (Nat.lt_of_lt_of_le hx h.size) hc).trans (h.block x hx hc)⟩
theorem KC.set {c:Nat->Nat} {k g i:Nat} {w:World} {v:Value} (hc:c g=k):KC c k w (w.setCell ⟨g,i,none⟩ v):=
 ⟨rfl,rfl,rfl,Aao,λx _ hx=>Below.heap_setCell _ _ _ _ (λe=>hx (by rw [e];exact hc))⟩
theorem KC.keeps {c:Nat->Nat} {k:Nat} {F:List Nat} {w w':World} (h:aC F w w') (hF:∀x∈F,c x=k):KC c k w w':=⟨h.os,h.tape,h.output,h.size,λx hx hc=>h.block x hx (λhm=>hc (hF x hm))⟩
theorem KC.grown {c:Nat->Nat} {k:Nat} {row:Option Nat} {w w':World} (h:w.grownBy w' row) (hF:∀x,row=some x->c x=k):KC c k w w':=⟨h.os,h.tape,h.output,h.size,λx hx hc=>h.block x hx (λhm=>hc (hF x hm.symm))⟩
theorem KC.below {c:Nat->Nat} {k B:Nat} {a w w':World} (hb:Below B a w) (h:KC c k w w') (hlo:∀x,x < B->c x=0) (hk:k≠0) (hB:B<=w.heap.size):Below B a w':=
 ⟨h.os.trans hb.os,h.tape.trans hb.tape,h.output.trans hb.output,Nat.le_trans hb.size h.size,λx hx=>(h.block x Aaa (by rw [hlo x hx];omega)).trans (hb.block x hx)⟩
theorem KC.obj {c:Nat->Nat} {k g:Nat} {w w':World} {o:Obj} (h:KC c k w w') (ho:w.heap[g]?=some o) (hg:c g≠k):w'.heap[g]?=some o:=by rw [h.block g (aA ho) hg];exact ho
theorem KC.w {α:Type} {enc:α->List Value} {sz:Nat} {c:Nat->Nat} {k j:Nat} {w w':World} {a:Option Addr} {g:Nat} {l:List α} (h:KC c k w w') (hw:GR.W enc sz w a g l) (hc:∀x∈fp g l,c x=j) (hj:j≠k):GR.W enc sz w' a g l:=λi hi=>by
 obtain⟨e,hg,hcell⟩:=hw i hi;have hb:=h.block g hg (by rw [hc g (dQ Aaa)];exact hj);exact⟨e,Nat.lt_of_lt_of_le hg h.size,λq hq=>⟨(World.cell?_of_block (w:=w) hb).trans (hcell q hq).1,(World.frozen?_of_block (w:=w) hb).trans (hcell q hq).2⟩⟩
theorem KC.own {c:Nat->Nat} {k j B:Nat} {w w':World} {e:TypeId} {sz n:Nat} {v:Value} {xs:List Value} (h:KC c k w w') (ho:w.ownsRow B e sz v n xs) (hc:∀x,v.ownBlock=some x->c x=j) (hj:j≠k):w'.ownsRow B e sz v n xs:=by
 refine⟨ho.1,?_⟩;rcases ho.2 with hn|⟨g,cap,cur,rfl,hb,hgg,rest⟩
 .exact .inl hn
 .exact .inr ⟨g,cap,cur,rfl,hb,h.obj hgg (by rw [hc g rfl];exact hj),rest⟩
theorem KC.seen {c:Nat->Nat} {k:Nat} {w w':World} {a:Option Addr} {g:Nat} {I:Nat->Nat} {l:List Sn} (h:KC c k w w') (hs:fP w a g I l) (h4:∀x∈fp g l,c x=4) (h5:∀x∈qw I l,c x=5) (hk4:4≠k) (hk5:5≠k):fP w' a g I l:=by
 obtain⟨T,hT,hl,hr⟩:=hs;refine⟨T,h.w hT (λx hx=>h4 x ?_) hk4,hl,λi hi=>?_⟩
 .exact Xv
 .obtain⟨b,d,ht,hi2⟩:=hr i hi;exact⟨b,d,ht,h.w hi2 (λx hx=>h5 x (jw hi x hx)) hk5⟩
structure NO (w:World) (B:Nat) (n:Nd) (A:bH) (G:aV) (c:Nat->Nat):Prop where
 k:GR.W aW 1 w A.k G.k n.kids
 p:GR.W fE 4 w A.p G.p n.pu
 o:w.ownsRow B 95 4 (.slice A.o n.out.length A.co) n.out.length (GR.flat aR n.out)
 s:fP w A.s G.s G.i n.seen
 r:w.ownsRow B 97 4 (.slice A.r n.reqs.length A.cr) n.reqs.length (GR.flat aM n.reqs)
 lo:∀x,x < B->c x=0
 ck:∀x∈fp G.k n.kids,c x=1
 cp:∀x∈fp G.p n.pu,c x=2
 co:∀x,(Value.slice A.o n.out.length A.co).ownBlock=some x->c x=3
 c4:∀x∈fp G.s n.seen,c x=4
 ci:∀x∈qw G.i n.seen,c x=5
 cr:∀x,(Value.slice A.r n.reqs.length A.cr).ownBlock=some x->c x=6
 ni:(qw G.i n.seen).Nodup
theorem NO.kc {w w':World} {B:Nat} {n:Nd} {A:bH} {G:aV} {c:Nat->Nat} {k:Nat} (h:NO w B n A G c) (hk:KC c k w w') (h7:6 < k):NO w' B n A G c:=
 ⟨hk.w h.k h.ck Aaa,hk.w h.p h.cp Aaa,hk.own h.o h.co Aaa,hk.seen h.s h.c4 h.ci Aaa Aaa,hk.own h.r h.cr Aaa,h.lo,h.ck,h.cp,h.co,h.c4,h.ci,h.cr,h.ni⟩
theorem Da {α:Type} {enc:α->List Value} {sz:Nat} {w:World} {a:Option Addr} {g:Nat} {l:List α} (h:GR.W enc sz w a g l):∀x∈fp g l,x < w.heap.size:=λx hx=>by
 have:=gH hx;rw [this.1];exact(h 0 this.2).2.1
theorem qh {w:World} {a:Option Addr} {g:Nat} {I:Nat->Nat} {l:List Sn} (h:fP w a g I l):(∀x∈fp g l,x < w.heap.size)/\∀x∈qw I l,x < w.heap.size:=by
 obtain⟨T,hT,hl,hr⟩:=h;refine⟨λx hx=>Da hT x ?_,λx hx=>?_⟩
 .exact Xv
 .obtain⟨i,hi,rfl,hpos⟩:=uG hx;obtain⟨b,d,ht,hi2⟩:=hr i hi;exact Da hi2 _ (dQ hpos)
theorem NO.recol {w:World} {B:Nat} {n:Nd} {A:bH} {G:aV} {c c':Nat->Nat} (h:NO w B n A G c) (hB:B<=w.heap.size) (hc:∀x,x < w.heap.size->c' x=c x):NO w B n A G c':=
 ⟨h.k,h.p,h.o,h.s,h.r,λx hx=>(hc x Aaa).trans (h.lo x hx),λx hx=>(hc x (Da h.k x hx)).trans (h.ck x hx),λx hx=>(hc x (Da h.p x hx)).trans (h.cp x hx),
  λx hx=>(hc x (h.o.lt x hx).2).trans (h.co x hx),λx hx=>(hc x ((qh h.s).1 x hx)).trans (h.c4 x hx),λx hx=>(hc x ((qh h.s).2 x hx)).trans (h.ci x hx),λx hx=>(hc x (h.r.lt x hx).2).trans (h.cr x hx),h.ni⟩
theorem NO.at {w:World} {B:Nat} {n:Nd} {A:bH} {G:aV} {c:Nat->Nat} (h:NO w B n A G c):dK w A n:=by
 refine⟨h.k.at,h.p.at,?_,h.s.at,?_⟩
 .exact aeh
 .exact aei
structure WK (w0 w:World) (wb:Nat) (n:Nd) (A:bH) (G:aV) (c:Nat->Nat) (v:Value) (L:List Mg):Prop where
 keep:aX w0 w
 blk:w.heap[wb]?=some (.cells (Kz n A v) 74 (0,0))
 no:NO w w0.heap.size n A G c
 m:w.ownsRow w0.heap.size 32 7 v L.length (GR.flat jF L)
 cm:∀x,v.ownBlock=some x->c x=7
 cw:c wb=8
theorem WK.kc {w0 w w':World} {wb:Nat} {n:Nd} {A:bH} {G:aV} {c:Nat->Nat} {v:Value} {L:List Mg} {k:Nat} (h:WK w0 w wb n A G c v L) (hk:KC c k w w') (h8:8 < k):WK w0 w' wb n A G c v L:=
 ⟨hk.below h.keep h.no.lo Aaa h.keep.size,hk.obj h.blk (by rw [h.cw];omega),h.no.kc hk Aaa,hk.own h.m h.cm Aaa,h.cm,h.cw⟩
theorem WK.step {w0 w w':World} {wb:Nat} {n:Nd} {A:bH} {G:aV} {c:Nat->Nat} {v:Value} {L:List Mg} (h:WK w0 w wb n A G c v L) (hb:aX w w'):WK w0 w' wb n A G c v L:=h.kc (k:=9) (KC.of_below hb) Aaa
theorem WK.recol {w0 w:World} {wb:Nat} {n:Nd} {A:bH} {G:aV} {c c':Nat->Nat} {v:Value} {L:List Mg} (h:WK w0 w wb n A G c v L) (hc:∀x,x < w.heap.size->c' x=c x):WK w0 w wb n A G c' v L:=
 ⟨h.keep,h.blk,h.no.recol h.keep.size hc,h.m,λx hx=>(hc x (h.m.lt x hx).2).trans (h.cm x hx),(hc wb (aA h.blk)).trans h.cw⟩
theorem WK.lo {w0 w:World} {wb:Nat} {n:Nd} {A:bH} {G:aV} {c:Nat->Nat} {v:Value} {L:List Mg} (h:WK w0 w wb n A G c v L):w0.heap.size<=wb:=by
 rcases Nat.lt_or_ge wb w0.heap.size with h'|h'
 .have:=h.no.lo wb h';rw [h.cw] at this;cases this
 .exact h'
def newC (B k:Nat) (c:Nat->Nat):Nat->Nat:=λx=>if B<=x then k else c x
theorem dW {B k x:Nat} {c:Nat->Nat} (h:x < B):newC B k c x=c x:=by unfold newC;rw [if_neg Aaa]
theorem aS {B k x:Nat} {c:Nat->Nat} (h:B<=x):newC B k c x=k:=by unfold newC;rw [if_pos h]
theorem NO.kc0 {w w':World} {B:Nat} {n:Nd} {A:bH} {G:aV} {c:Nat->Nat} (h:NO w B n A G c) (hk:KC c 0 w w'):NO w' B n A G c:=
 ⟨hk.w h.k h.ck Aaa,hk.w h.p h.cp Aaa,hk.own h.o h.co Aaa,hk.seen h.s h.c4 h.ci Aaa Aaa,hk.own h.r h.cr Aaa,h.lo,h.ck,h.cp,h.co,h.c4,h.ci,h.cr,h.ni⟩
theorem nZ (I:Nat->Nat) (l:List Sn):(qw I l).Nodup↔∀i j (hi:i < l.length) (hj:j < l.length),i < j->0 < l[i].ids.length->0 < l[j].ids.length->I i≠I j:=by
 have hg:∀i (hi:i < l.length),l.getD i default=l[i]:=λi hi=>by rw [List.getD_eq_getElem?_getD,List.getElem?_eq_getElem hi];rfl
 unfold qw List.Nodup;rw [List.pairwise_flatMap];constructor
 .rintro⟨_,h⟩ i j hi hj hij h1 h2 e;rw [List.pairwise_iff_getElem] at h;have:=h i j Aap Aat hij;rw [List.getElem_range,List.getElem_range,hg i hi,hg j hj] at this;exact this (I i) (dQ h1) (I j) (dQ h2) e
 .intro h;refine⟨λi _=>Db _ _,?_⟩;rw [List.pairwise_iff_getElem];intro i j hi hj hij x hx y hy;have hi':i < l.length:=Aap
  have hj':j < l.length:=Aat
  rw [List.getElem_range,hg i hi'] at hx;rw [List.getElem_range,hg j hj'] at hy;obtain⟨rfl,h1⟩:=gH hx;obtain⟨rfl,h2⟩:=gH hy;exact h i j hi' hj' hij h1 h2
theorem C9 (l:List Int):GR.flat aW l=l.map (Value.int .i64):=by
 induction l with
 |nil=>rfl
 |cons x l ih=>rw [GR.flat_cons,ih];rfl
theorem nX (q:Rq):∀u∈aM q,u.oneCell'=true:=by
 intro u hu;simp only[aM,List.mem_cons,List.not_mem_nil,or_false] at hu;rcases hu with rfl|rfl|rfl|rfl<;>rfl
theorem iy (l:List Rq):∀u∈GR.flat aM l,u.oneCell'=true:=by
 intro u hu;unfold GR.flat at hu;obtain⟨q,_,hq⟩:=List.mem_flatMap.1 hu;exact nX q u hq
theorem R8 {α:Type} {enc:α->List Value} {sz:Nat} (hs:∀x,(enc x).length=sz) (hz:0 < sz) {w:World} {x:Addr} {l:List α} (h:GR.At enc sz w (some x) l):∀j u,(GR.flat enc l)[j]?=some u->w.cell? (x.add j)=some u:=by
 intro j u hu
 have hj:j < l.length*sz:=by
  have:=(List.getElem?_eq_some_iff.1 hu).1;rwa [GR.flat_length enc sz hs] at this
 have hi:j / sz < l.length:=Nat.div_lt_of_lt_mul (by rw [Nat.mul_comm];exact hj);have hr:j % sz < sz:=Nat.mod_lt _ hz;have ej:j / sz*sz+j % sz=j:=by rw [Nat.mul_comm];exact Nat.div_add_mod j sz
 obtain⟨g,off,e,hg,hc⟩:=h (j / sz) hi;have hf:=GR.flat_at enc sz hs l (j / sz) hi (j % sz) hr;rw [ej] at hf;have h2:=hc (j % sz) hr;rw [ej,<-hf,hu] at h2;injection e with e
 subst e;rw [Addr.add_lit];exact h2
theorem Av (l:List kC):∀u∈GR.flat aR l,u.oneCell'=true:=by
 intro u hu;unfold GR.flat at hu;rw [List.mem_flatMap] at hu;obtain⟨p,_,hp⟩:=hu;simp only[aR,List.mem_cons,List.not_mem_nil,or_false] at hp;rcases hp with rfl|rfl|rfl|rfl<;>rfl
theorem yH {α:Type} {enc:α->List Value} {sz:Nat} {w:World} {B:Nat} {t:TypeId} {a:Option Addr} {cp:Nat} {l:List α} (h:w.ownsRow B t sz (.slice a l.length cp) l.length (GR.flat enc l)) (hl:0 < l.length):∃g rest,a=some ⟨g,0,none⟩/\B<=g/\w.heap[g]?=some (.cells (GR.flat enc l++rest).toArray t (0,0)):=by
 rcases h.2 with⟨_,hy⟩|⟨g,cp',cur,hx,hbg,hgg,hnc,hcm,hcs,htk⟩
 .omega
 simp only[Value.slice.injEq] at hx;obtain⟨rfl,_,rfl⟩:=hx;refine⟨g,cur.toList.drop (l.length*sz),rfl,hbg,?_⟩;rw [<-htk,List.take_append_drop,Array.toArray_toList];exact hgg
theorem DR {α:Type} {enc:α->List Value} {sz:Nat} (hs:∀x,(enc x).length=sz) {w:World} {g:Nat} {l:List α} {t:TypeId} {rest:List Value} (h:w.heap[g]?=some (.cells (GR.flat enc l++rest).toArray t (0,0))) (i:Nat) (hi:i < l.length) (j:Nat) (hj:j < sz):w.cell? ⟨g,i*sz+j,none⟩=(enc l[i])[j]?:=by
 have hlt:i*sz+j < (GR.flat enc l).length:=by
  rw [GR.flat_length enc sz hs];have:(i+1)*sz<=l.length*sz:=Nat.mul_le_mul_right sz hi;exact Xz
 rw [cell_of_row w g _ _ t (0,0) h,List.getElem?_toArray,List.getElem?_append_left hlt];exact GR.flat_at enc sz hs l i hi j hj
theorem CU {w:World} {g i:Nat} {v:Value} {cs:Array Value} {t:TypeId} {fr:Nat×Nat} (h:w.heap[g]?=some (.cells cs t fr)) (hc:w.cell? ⟨g,i,none⟩=some v):Below w.heap.size w (w.setCell ⟨g,i,none⟩ v):=by
 refine⟨rfl,rfl,rfl,Aao,λk hk=>?_⟩;by_cases e:k=g
 .subst e;have h1:w.cell? ⟨k,i,none⟩=cs[i]?:=cell_of_row w k i cs t fr h;rw [hc] at h1;unfold World.setCell;simp only[Array.getElem?_modify];rw [if_pos trivial,h]
  have h2:cs.setIfInBounds i v=cs:=by
   apply Array.ext_getElem?
   intro q;rw [Array.getElem?_setIfInBounds];split
   .rename_i e
    subst e;split
    .exact h1
    .rw [Array.getElem?_eq_none Aaa]
   .rfl
  simp[h2]
 .exact Below.heap_setCell _ _ _ _ e
theorem XF (a:Option Addr) (cap:Nat) (l:List kC) (w:World) (hl:l.length<=1048600) (hv:∀u∈GR.flat aR l,u.oneCell'=true) (ha:GR.At aR 4 w a l):
 Calls Tryz.prog 101 #[.slice a l.length cap] w λe w'=>∃v,e= .returned v/\w'.ownsRow w.heap.size 95 4 v l.length (GR.flat aR l)/\aX w w':=by
 obtain⟨i0,hi,hz0,hz1,hz2⟩:=info_parts MO;have q22:∀(w:World) (a:Option Addr) (n c n' c':Nat),(binOp .eql 26 (.slice a n c) (.slice none n' c')).run Tryz.prog w= .ok (.bool a.isNone) w:=λw a n c n' c'=>Lib.run_eql_slice_nil w _ _ a n c n' c' Tryz.underlying26
 have hlit:(w.alloc (.cells #[] 95)).ownsRow w.heap.size 95 4 (.slice (some ⟨w.heap.size,0,none⟩) 0 0) 0 []:=World.ownsRow_lit (base:=w.heap.size) (e:=95) (size:=4) w #[] 0 (Nat.le_refl _) Aae rfl;cases a with
 |none=>
  have hl0:l=[]:=GR.none_nil ha
  subst hl0
  clear ha hlit hv
  go_enter Tryz.func101,Tryz.ntmps101
  go_wp2_with fail
  go_ret
  exact⟨_,rfl,World.ownsRow_nil _ _ _ _,Below.refl _ _⟩
 |some x=>
  have HN:=Hq (R8 cZ Aaa (GR.At.below ha (aj w (.cells #[] 95))))
  have HV:=Hq hv
  clear ha hv
  go_enter Tryz.func101,Tryz.ntmps101
  go_wp2_with (at_builtin;refine wpList_append_own _ rfl _ _ 26 rfl w.heap.size 95 i0 (.agg (eU 0 0 ByteArray.empty 0)) 4 40 Tryz.underlying26 hi hz0 hz1 hz2 rfl Aae _ 0 [] rfl hlit x l.length cap (GR.flat aR l) rfl ?c0 ?c1 ?c2 ?c3 ?c4 ?c5 ?_)
  case c0=>exact GR.flat_length aR 4 cZ l
  case c1=>exact HN
  case c2=>exact HV
  case c3=>unfold maxLen;omega
  case c4=>omega
  case c5=>simp
  intro v' w1 hown' hgrow _
  have HO:=Hq (show w1.ownsRow w.heap.size 95 4 v' l.length (GR.flat aR l) by simpa using hown')
  have hb:aX w w1:=(aj w _).grown hgrow Aac (λk hk=>Abp)
  clear hown' hgrow hlit
  go_wp2
  go_ret
  exact⟨_,rfl,HO,hb⟩
theorem aaW (a:Option Addr) (cap:Nat) (l:List Rq) (w:World) (hl:l.length<=1048600) (hv:∀u∈GR.flat aM l,u.oneCell'=true) (ha:GR.At aM 4 w a l):
 Calls Tryz.prog 104 #[.slice a l.length cap] w λe w'=>∃v,e= .returned v/\w'.ownsRow w.heap.size 97 4 v l.length (GR.flat aM l)/\aX w w':=by
 obtain⟨i0,hi,hz0,hz1,hz2⟩:=info_parts yg;have q22:∀(w:World) (a:Option Addr) (n c n' c':Nat),(binOp .eql 28 (.slice a n c) (.slice none n' c')).run Tryz.prog w= .ok (.bool a.isNone) w:=λw a n c n' c'=>Lib.run_eql_slice_nil w _ _ a n c n' c' Tryz.underlying28
 have hlit:(w.alloc (.cells #[] 97)).ownsRow w.heap.size 97 4 (.slice (some ⟨w.heap.size,0,none⟩) 0 0) 0 []:=World.ownsRow_lit (base:=w.heap.size) (e:=97) (size:=4) w #[] 0 (Nat.le_refl _) Aae rfl;cases a with
 |none=>
  have hl0:l=[]:=GR.none_nil ha
  subst hl0
  clear ha hlit hv
  go_enter Tryz.func104,Tryz.ntmps104
  go_wp2_with fail
  go_ret
  exact⟨_,rfl,World.ownsRow_nil _ _ _ _,Below.refl _ _⟩
 |some x=>
  have HN:=Hq (R8 bg Aaa (GR.At.below ha (aj w (.cells #[] 97))))
  have HV:=Hq hv
  clear ha hv
  go_enter Tryz.func104,Tryz.ntmps104
  go_wp2_with (at_builtin;refine wpList_append_own _ rfl _ _ 28 rfl w.heap.size 97 i0 (.agg (dX 0 ByteArray.empty 0 0)) 4 40 Tryz.underlying28 hi hz0 hz1 hz2 rfl Aae _ 0 [] rfl hlit x l.length cap (GR.flat aM l) rfl ?c0 ?c1 ?c2 ?c3 ?c4 ?c5 ?_)
  case c0=>exact GR.flat_length aM 4 bg l
  case c1=>exact HN
  case c2=>exact HV
  case c3=>unfold maxLen;omega
  case c4=>omega
  case c5=>simp
  intro v' w1 hown' hgrow _
  have HO:=Hq (show w1.ownsRow w.heap.size 97 4 v' l.length (GR.flat aM l) by simpa using hown')
  have hb:aX w w1:=(aj w _).grown hgrow Aac (λk hk=>Abp)
  clear hown' hgrow hlit
  go_wp2
  go_ret
  exact⟨_,rfl,HO,hb⟩
theorem aaV (a:Option Addr) (cap:Nat) (l:List R3) (w:World) (hl:l.length<=1048600) (hv:∀u∈GR.flat eG l,u.oneCell'=true) (ha:GR.At eG 3 w a l):
 Calls Tryz.prog 103 #[.slice a l.length cap] w λe w'=>∃v,e= .returned v/\w'.ownsRow w.heap.size 90 3 v l.length (GR.flat eG l)/\aX w w':=by
 obtain⟨i0,hi,hz0,hz1,hz2⟩:=info_parts MK;have q22:∀(w:World) (a:Option Addr) (n c n' c':Nat),(binOp .eql 27 (.slice a n c) (.slice none n' c')).run Tryz.prog w= .ok (.bool a.isNone) w:=λw a n c n' c'=>Lib.run_eql_slice_nil w _ _ a n c n' c' Tryz.underlying27
 have hlit:(w.alloc (.cells #[] 90)).ownsRow w.heap.size 90 3 (.slice (some ⟨w.heap.size,0,none⟩) 0 0) 0 []:=World.ownsRow_lit (base:=w.heap.size) (e:=90) (size:=3) w #[] 0 (Nat.le_refl _) Aae rfl;cases a with
 |none=>
  have hl0:l=[]:=GR.none_nil ha
  subst hl0
  clear ha hlit hv
  go_enter Tryz.func103,Tryz.ntmps103
  go_wp2_with fail
  go_ret
  exact⟨_,rfl,World.ownsRow_nil _ _ _ _,Below.refl _ _⟩
 |some x=>
  have HN:=Hq (R8 bZ Aaa (GR.At.below ha (aj w (.cells #[] 90))))
  have HV:=Hq hv
  clear ha hv
  go_enter Tryz.func103,Tryz.ntmps103
  go_wp2_with (at_builtin;refine wpList_append_own _ rfl _ _ 27 rfl w.heap.size 90 i0 (.agg #[.int .i64 0,.int .i64 0,.slice none 0 0]) 3 40 Tryz.underlying27 hi hz0 hz1 hz2 rfl Aae _ 0 [] rfl hlit x l.length cap (GR.flat eG l) rfl ?c0 ?c1 ?c2 ?c3 ?c4 ?c5 ?_)
  case c0=>exact GR.flat_length eG 3 bZ l
  case c1=>exact HN
  case c2=>exact HV
  case c3=>unfold maxLen;omega
  case c4=>omega
  case c5=>simp
  intro v' w1 hown' hgrow _
  have HO:=Hq (show w1.ownsRow w.heap.size 90 3 v' l.length (GR.flat eG l) by simpa using hown')
  have hb:aX w w1:=(aj w _).grown hgrow Aac (λk hk=>Abp)
  clear hown' hgrow hlit
  go_wp2
  go_ret
  exact⟨_,rfl,HO,hb⟩
theorem Zw {w:World} {a:Option Addr} {l:List Sn} (h:lu w a l):∃T:List R3,T.length=l.length/\GR.At eG 3 w a T/\(∀u∈GR.flat eG T,u.oneCell'=true)/\∀i (hi:i < l.length),∃b c,T[i]?=some ⟨l[i].f,l[i].l,.slice b l[i].ids.length c⟩/\eu w b l[i].ids:=by
 have hk:∀k,k<=l.length->∃T:List R3,T.length=k/\(∀i (hi:i < T.length) (hl:i < l.length),∃b c,T[i]=⟨l[i].f,l[i].l,.slice b l[i].ids.length c⟩/\eu w b l[i].ids/\∃g off,a=some ⟨g,off,none⟩/\g < w.heap.size/\w.cell? ⟨g,off+i*3,none⟩=some (.int .i64 l[i].f)/\w.cell? ⟨g,off+i*3+1,none⟩=some (.int .i64 l[i].l)/\w.cell? ⟨g,off+i*3+2,none⟩=some (.slice b l[i].ids.length c)):=by
  intro k;induction k with
  |zero=>intro _;exact⟨[],rfl,λi hi=>Aas⟩
  |succ k ih=>
   intro hk
   obtain⟨T,hT,hr⟩:=ih Aaa
   obtain⟨g,off,b,c,e,hg,h0,h1,h2,h3⟩:=h k Aaa
   refine⟨T++[⟨l[k].f,l[k].l,.slice b l[k].ids.length c⟩],by simp[hT],λi hi hl=>?_⟩
   by_cases hik:i < T.length
   .rw [List.getElem_append_left hik];exact hr i hik hl
   .have hi':i=k:=Abn
    subst hi';refine⟨b,c,?_,h3,g,off,e,hg,h0,h1,h2⟩;rw [List.getElem_append_right Aaa];simp[hT]
 obtain⟨T,hT,hr⟩:=hk l.length (Nat.le_refl _);refine⟨T,hT,λi hi=>?_,λu hu=>?_,λi hi=>?_⟩
 .obtain⟨b,c,e,_,g,off,ea,hg,h0,h1,h2⟩:=hr i hi Aaa;refine⟨g,off,ea,hg,λj hj=>?_⟩;rw [e];match j,hj with
  |0,_=>exact h0
  |1,_=>rw [<-Nat.add_assoc];exact h1
  |2,_=>rw [<-Nat.add_assoc];exact h2
 .unfold GR.flat at hu;rw [List.mem_flatMap] at hu;obtain⟨p,hp,hq⟩:=hu;obtain⟨i,hi,rfl⟩:=List.mem_iff_getElem.1 hp;obtain⟨b,c,e,_⟩:=hr i hi Aaa;rw [e] at hq;simp only[eG,List.mem_cons,List.not_mem_nil,or_false] at hq;rcases hq with rfl|rfl|rfl<;>rfl
 .obtain⟨b,c,e,hI,_⟩:=hr i Aaa hi;exact⟨b,c,by rw [List.getElem?_eq_getElem Aaa,e],hI⟩
def qZ (I:Nat->Nat) (k gi:Nat):Nat->Nat:=λi=>if i=k then gi else I i
theorem fP.store {w:World} {a:Option Addr} {g:Nat} {I:Nat->Nat} {l:List Sn} (h:fP w a g I l) (k:Nat) (hk:k < l.length) (s:Sn) (b:Option Addr) (cc gi:Nat) (hi:GR.W aW 1 w b gi s.ids) (hg4:∀x∈qw I l,x≠g) (hgi:∀x∈fp gi s.ids,x≠g):
 fP (GR.setW w g (k*3) [.int .i64 s.f,.int .i64 s.l,.slice b s.ids.length cc]) a g (qZ I k gi) (l.set k s):=by
 obtain⟨T,hT,hl,hr⟩:=h;have O6:k < T.length:=Aaa
 have hkp:=aL (g:=g) [.int .i64 s.f,.int .i64 s.l,.slice b s.ids.length cc] w (k*3);refine⟨T.set k ⟨s.f,s.l,.slice b s.ids.length cc⟩,GR.W.set bZ hT k ⟨s.f,s.l,.slice b s.ids.length cc⟩ O6,Aci,λi hi'=>?_⟩;exact asD
theorem KC.setW {c:Nat->Nat} {k g o:Nat} {w:World} (vs:List Value) (hc:c g=k):KC c k w (GR.setW w g o vs):=KC.keeps (aL vs w o) (λx hx=>by have:x=g:=Aaf;rw [this];exact hc)
end Go.Proofs.YtacgbldlonoaaaaGreatDoor
