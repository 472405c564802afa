/- Parts. -/
import Derived.Test.YtacgbldlonoaaaaGreatDoorRa2
namespace Go.Proofs.YtacgbldlonoaaaaGreatDoor
open Go.RowKit
open Mth
abbrev iA (w:World) (a:Option Addr) (l:List Rq):Prop:=GR.At aK 4 w a l
theorem iA.four {w:World} {a:Option Addr} {l:List Rq} (h:iA w a l) (i:Nat) (hi:i < l.length):∃g off,a=some ⟨g,off,none⟩∧g < w.heap.size∧w.cell? ⟨g,off+i*4,none⟩=some (.int .i64 l[i].no)∧w.cell? ⟨g,off+i*4+1,none⟩=some (.string l[i].k)∧w.cell? ⟨g,off+i*4+2,none⟩=some (.int .i64 l[i].n)∧w.cell? ⟨g,off+i*4+3,none⟩=some (.int .i64 l[i].s):=by
 exact aaZ
abbrev wQ (w:World) (g:Nat) (l:List Rq):Prop:=GR.Blk aK 97 w g l
theorem wQ.four {w:World} {g:Nat} {l:List Rq} (h:wQ w g l) (i:Nat) (hi:i < l.length):w.cell? ⟨g,i*4,none⟩=some (.int .i64 l[i].no)∧w.cell? ⟨g,i*4+1,none⟩=some (.string l[i].k)∧w.cell? ⟨g,i*4+2,none⟩=some (.int .i64 l[i].n)∧w.cell? ⟨g,i*4+3,none⟩=some (.int .i64 l[i].s):=
 ⟨by simpa using GR.Blk.cell h aY i hi 0 (by omega),by simpa using GR.Blk.cell h aY i hi 1 (by omega),by simpa using GR.Blk.cell h aY i hi 2 (by omega),by simpa using GR.Blk.cell h aY i hi 3 (by omega)⟩
theorem wQ.step {w w':World} {g:Nat} {l:List Rq} (h:wQ w g l) (hb:Below w.heap.size w w'):wQ w' g l:=by
 have hl:=GR.Blk.lt h;unfold wQ GR.Blk at *;rw [hb.block g hl];exact h
theorem vF:(Tryz.prog.info? 97).map (fun i=>(i.zero,i.size,i.bytes))=some (some (.agg #[.int .i64 0,.string ByteArray.empty,.int .i64 0,.int .i64 0]),4,40):=by kernel_rfl
def bv (c:UInt8):Value:= .int .u8 (c.toNat:Int)
theorem abe {P:Program} {w:World} {base:Nat} {e:TypeId} {v:Value} {l:List UInt8} (src dst:TypeId) (hs:P.underlying src=some (.slice e)) (he:P.underlying e=some (.int .u8)) (hd:P.underlying dst=some .string)
 (h:w.ownsRow base e 1 v l.length (l.map bv)):(convert src dst v).run P w= .ok (.string ⟨l.toArray⟩) w:=by
 rcases h.2 with⟨rfl,hn⟩|⟨g,cap,cur,rfl,_⟩
 ·rw [run_convert_bytes_string w src dst e none 0 0 hs he hd];have:l=[]:=List.length_eq_zero_iff.1 hn;subst this;rfl
 ·apply run_convert_bytes_back w src dst e _ cap l hs he hd
  intro j hj;exact h.cells rfl j (bv l[j]) (by simp[hj])
theorem an9 {w:World} {base:Nat} {e:TypeId} {v:Value} {l:List UInt8} {z:Int} (b:UInt8) (hz:z=b.toNat) (h:w.ownsRow base e 1 v (l.length+1) (l.map bv++[.int .u8 z])):
 w.ownsRow base e 1 v (l++[b]).length ((l++[b]).map bv):=by
 subst hz;have e1:(l++[b]).map bv=l.map bv++[.int .u8 (b.toNat:Int)]:=by simp[bv]
 rw [e1];simpa using h
theorem below_append {w wr w1:World} {e:TypeId} {v:Value} {n:Nat} {xs:List Value} {o:Obj} (hb:Below w.heap.size w wr) (hown:wr.ownsRow w.heap.size e 1 v n xs) (hg:(wr.alloc o).grownBy w1 v.ownBlock):Below w.heap.size w w1:=
 (hb.alloc (by have:=hb.size;omega) o).grown hg (by have:=hb.size;simp;omega) (fun k hk=>(hown.lt k hk).1)
namespace GR
open Go.RowKit
variable {α:Type} {enc:α→List Value} {sz:Nat}
theorem At.news {w:World} {x:Addr} {l:List α} (hs:∀y,(enc y).length=sz) (hz:0 < sz) (h:At enc sz w (some x) l):∀j u,(flat enc l)[j]?=some u→w.cell? (x.add j)=some u:=by
 intro j u hu
 have hj:j < l.length*sz:=by
  have:=(List.getElem?_eq_some_iff.1 hu).1;rwa [flat_length enc sz hs] at this
 have hq:j / sz < l.length:=Nat.div_lt_of_lt_mul (by rw [Nat.mul_comm];exact hj);have hr:j % sz < sz:=Nat.mod_lt _ hz;obtain⟨g,off,e,hg,hc⟩:=h (j / sz) hq;have hf:=flat_at enc sz hs l (j / sz) hq (j % sz) hr;have ej:j / sz*sz+j % sz=j:=Nat.div_add_mod' j sz;rw [ej] at hf;have h2:=hc (j % sz) hr;exact anr
theorem flat_oneCell (h1:∀y,∀u∈enc y,u.oneCell'=true) (l:List α):∀u∈flat enc l,u.oneCell'=true:=by
 intro u hu;unfold flat at hu;rw [List.mem_flatMap] at hu;obtain⟨p,_,hp⟩:=hu;exact h1 p u hp
theorem own_below {w w':World} {B:Nat} {e:TypeId} {sz:Nat} {v:Value} {n:Nat} {xs:List Value} (h:w.ownsRow B e sz v n xs) (hb:Below w.heap.size w w'):w'.ownsRow B e sz v n xs:=
 h.kept (row:=none) ⟨hb.os,hb.tape,hb.output,hb.size,fun k hk _=>hb.block k hk⟩ (by cases v.ownBlock with|none=>exact .inl rfl|some k=>exact .inr (by simp))
theorem own_lower {w:World} {b b':Nat} {e:TypeId} {sz:Nat} {v:Value} {n:Nat} {xs:List Value} (h:w.ownsRow b e sz v n xs) (hb:b'≤b):w.ownsRow b' e sz v n xs:=by
 exact Zb
theorem below_append {w wr w1:World} {B:Nat} {e:TypeId} {sz:Nat} {v:Value} {n:Nat} {xs:List Value} {o:Obj} (hb:Below B w wr) (hB:B≤wr.heap.size) (hown:wr.ownsRow B e sz v n xs) (hg:(wr.alloc o).grownBy w1 v.ownBlock):Below B w w1:=
 (hb.alloc hB o).grown hg (by simp;omega) (fun k hk=>(hown.lt k hk).1)
theorem none_nil {w:World} {l:List α} (h:At enc sz w none l):l=[]:=by
 cases l with
 |nil=>rfl
 |cons y l=>
  obtain⟨g,off,e,_⟩:=h 0 (by simp)
  cases e
end GR
theorem aA {w:World} {g:Nat} {o:Obj} (h:w.heap[g]?=some o):g < w.heap.size:=by
 exact aa6
structure aC (F:List Nat) (w w':World):Prop where
 os:w'.os=w.os
 tape:w'.tape=w.tape
 output:w'.output=w.output
 size:w.heap.size≤w'.heap.size
 block:∀k,k < w.heap.size→k∉F→w'.heap[k]?=w.heap[k]?
theorem aC.refl (F:List Nat) (w:World):aC F w w:=⟨rfl,rfl,rfl,Nat.le_refl _,fun _ _ _=>rfl⟩
theorem aC.trans {F:List Nat} {a b c:World} (h:aC F a b) (k:aC F b c):aC F a c:=
 ⟨k.os.trans h.os,k.tape.trans h.tape,k.output.trans h.output,Nat.le_trans h.size k.size,fun i hi hg=>(k.block i (Nat.lt_of_lt_of_le hi h.size) hg).trans (h.block i hi hg)⟩
theorem aC.mono {F F':List Nat} {a b:World} (h:aC F a b) (hs:∀x∈F,x∈F'):aC F' a b:=
 ⟨h.os,h.tape,h.output,h.size,fun i hi hg=>h.block i hi (fun hx=>hg (hs i hx))⟩
theorem aC.of_below {F:List Nat} {w w':World} (h:Below w.heap.size w w'):aC F w w':=⟨h.os,h.tape,h.output,h.size,fun k hk _=>h.block k hk⟩
theorem aC.set {g i:Nat} {w:World} (v:Value):aC [g] w (w.setCell ⟨g,i,none⟩ v):=
 ⟨rfl,rfl,rfl,by simp[World.setCell],fun k _ hg=>Below.heap_setCell _ _ _ _ (by simpa using hg)⟩
theorem aC.below {F:List Nat} {B:Nat} {w w':World} (h:aC F w w') (hB:∀x∈F,B≤x) (hs:B≤w.heap.size):Below B w w':=
 ⟨h.os,h.tape,h.output,h.size,fun k hk=>h.block k (by omega) (fun hx=>by have:=hB k hx;omega)⟩
theorem aC.obj {F:List Nat} {w w':World} {g:Nat} {o:Obj} (hk:aC F w w') (h:w.heap[g]?=some o) (hg:g∉F):w'.heap[g]?=some o:=by
 rw [hk.block g (aA h) hg];exact h
def fp {α:Type} (g:Nat) (l:List α):List Nat:=if l.isEmpty then[] else[g]
theorem dz {α:Type} {g:Nat} {l:List α} (h:0 < l.length):g∈fp g l:=by
 unfold fp;cases l with
 |nil=>simp at h
 |cons x l=>simp
theorem gD {α:Type} {g x:Nat} {l:List α} (h:x∈fp g l):x=g∧0 < l.length:=by
 unfold fp at h;cases l with
 |nil=>simp at h
 |cons y l=>simpa using h
theorem zB {α:Type} (g:Nat) (l:List α):(fp g l).Nodup:=by unfold fp;split<;>simp
namespace GR
variable {α:Type}
def W (enc:α→List Value) (sz:Nat) (w:World) (a:Option Addr) (g:Nat) (l:List α):Prop:=∀i (hi:i < l.length),a=some ⟨g,0,none⟩∧g < w.heap.size∧∀j,j < sz→w.cell? ⟨g,i*sz+j,none⟩=(enc l[i])[j]?∧w.frozen? ⟨g,i*sz+j,none⟩=false
variable {enc:α→List Value} {sz:Nat}
theorem W.at {w:World} {a:Option Addr} {g:Nat} {l:List α} (h:W enc sz w a g l):At enc sz w a l:=fun i hi=>
 ⟨g,0,(h i hi).1,(h i hi).2.1,fun j hj=>by rw [Nat.zero_add];exact((h i hi).2.2 j hj).1⟩
theorem W.of_blk {w:World} {t:TypeId} {g:Nat} {l:List α} (hs:∀x,(enc x).length=sz) (h:Blk enc t w g l):W enc sz w (some ⟨g,0,none⟩) g l:=fun i hi=>
 ⟨rfl,Blk.lt h,fun j hj=>⟨Blk.cell h hs i hi j hj,Blk.free h _⟩⟩
theorem W.nil {w:World} {a:Option Addr} {g:Nat}:W enc sz w a g []:=fun i hi=>by simp at hi
theorem W.keeps {F:List Nat} {w w':World} {a:Option Addr} {g:Nat} {l:List α} (h:W enc sz w a g l) (hk:aC F w w') (hd:∀x∈fp g l,x∉F):W enc sz w' a g l:=fun i hi=>by
 obtain⟨e,hg,hc⟩:=h i hi;have hne:g∉F:=hd g (dz (by omega));exact anh
theorem W.below {w w':World} {a:Option Addr} {g:Nat} {l:List α} (h:W enc sz w a g l) (hb:Below w.heap.size w w'):W enc sz w' a g l:=h.keeps (F:=[]) (aC.of_below hb) (fun _ _=>by simp)
theorem W.of_own {w:World} {B:Nat} {t:TypeId} {v:Value} {l:List α} (hs:∀x,(enc x).length=sz) (h:w.ownsRow B t sz v l.length (flat enc l)):∃a c g,v= .slice a l.length c∧W enc sz w a g l∧(∀x∈fp g l,B≤x∧x < w.heap.size)∧(∀x∈fp g l,v.ownBlock=some x):=by
 obtain⟨a,c,rfl,hat⟩:=own_at hs h;rcases h.2 with⟨hv,hn⟩|⟨g,cap,cur,hv,hg,hblk,_⟩
 ·have hl:l=[]:=List.eq_nil_of_length_eq_zero hn;subst hl;exact⟨_,_,0,rfl,W.nil,fun x hx=>by simp[fp] at hx,fun x hx=>by simp[fp] at hx⟩
 ·cases hv
  refine⟨_,_,g,rfl,fun i hi=>?_,fun x hx=>?_,fun x hx=>?_⟩
  ·exact anl
  ·rw [(gD hx).1];exact⟨hg,aA hblk⟩
  ·rw [(gD hx).1];rfl
end GR
def jL (w:World) (a:Option Addr) (l:List Sn):Prop:=∀i (hi:i < l.length),∃g off b c,a=some ⟨g,off,none⟩∧g < w.heap.size∧w.cell? ⟨g,off+i*3,none⟩=some (.int .i64 l[i].f)∧w.cell? ⟨g,off+i*3+1,none⟩=some (.int .i64 l[i].l)∧w.cell? ⟨g,off+i*3+2,none⟩=some (.slice b l[i].ids.length c)∧dK w b l[i].ids
theorem jL.below {w w':World} {a:Option Addr} {l:List Sn} (h:jL w a l) (hb:Below w.heap.size w w'):jL w' a l:=fun i hi=>by
 obtain⟨g,off,b,c,e,hg,h0,h1,h2,h3⟩:=h i hi;exact⟨g,off,b,c,e,Nat.lt_of_lt_of_le hg hb.size,(hb.cell (p:=⟨g,off+i*3,none⟩) hg).trans h0,(hb.cell (p:=⟨g,off+i*3+1,none⟩) hg).trans h1,(hb.cell (p:=⟨g,off+i*3+2,none⟩) hg).trans h2,GR.At.below h3 hb⟩
structure bE where
 k:Option Addr
 p:Option Addr
 o:Option Addr
 s:Option Addr
 r:Option Addr
 ck:Nat
 cp:Nat
 co:Nat
 cs:Nat
 cr:Nat
abbrev fZ (n:Nd) (A:bE):Array Value:=#[.int .i64 n.id,.int .i64 n.par,.slice A.k n.kids.length A.ck,.int .i64 n.next,.slice A.p n.pu.length A.cp,.slice A.o n.out.length A.co,.slice A.s n.seen.length A.cs,.int .i64 n.old,.slice A.r n.reqs.length A.cr]
abbrev gu (n:Nd) (A:bE):Value:= .agg (fZ n A)
structure dQ (w:World) (A:bE) (n:Nd):Prop where
 k:dK w A.k n.kids
 p:aH w A.p n.pu
 o:SentAt w A.o n.out
 s:jL w A.s n.seen
 r:iA w A.r n.reqs
theorem dQ.below {w w':World} {A:bE} {n:Nd} (h:dQ w A n) (hb:Below w.heap.size w w'):dQ w' A n:=
 ⟨GR.At.below h.k hb,GR.At.below h.p hb,GR.At.below h.o hb,h.s.below hb,GR.At.below h.r hb⟩
structure eH (n:Nd) (b:Nat):Prop where
 k:n.kids.length≤b
 p:n.pu.length≤b
 o:n.out.length≤b
 s:n.seen.length≤b
 r:n.reqs.length≤b
 pk:∀x∈n.pu,x.k.size≤b
 ok:∀x∈n.out,x.k.size≤b
 sk:∀x∈n.seen,x.ids.length≤b
 rk:∀x∈n.reqs,x.k.size≤b
theorem eH.mono {n:Nd} {a b:Nat} (h:eH n a) (hab:a≤b):eH n b:=
 ⟨Nat.le_trans h.k hab,Nat.le_trans h.p hab,Nat.le_trans h.o hab,Nat.le_trans h.s hab,Nat.le_trans h.r hab,fun x hx=>Nat.le_trans (h.pk x hx) hab,fun x hx=>Nat.le_trans (h.ok x hx) hab,fun x hx=>Nat.le_trans (h.sk x hx) hab,fun x hx=>Nat.le_trans (h.rk x hx) hab⟩
theorem aj {w w':World} {g:Nat} {o:Obj} (h:w.heap[g]?=some o) (hb:Below w.heap.size w w'):w'.heap[g]?=some o:=by
 rw [hb.block g (aA h)];exact h
theorem nine {w:World} {g:Nat} {v0 v1 v2 v3 v4 v5 v6 v7 v8:Value} {t:TypeId} (h:w.heap[g]?=some (.cells #[v0,v1,v2,v3,v4,v5,v6,v7,v8] t (0,0))):
 w.cell? ⟨g,0,none⟩=some v0∧w.cell? ⟨g,1,none⟩=some v1∧w.cell? ⟨g,2,none⟩=some v2∧w.cell? ⟨g,3,none⟩=some v3∧w.cell? ⟨g,4,none⟩=some v4∧w.cell? ⟨g,5,none⟩=some v5∧w.cell? ⟨g,6,none⟩=some v6∧w.cell? ⟨g,7,none⟩=some v7∧w.cell? ⟨g,8,none⟩=some v8:=by
 have hc:∀i,w.cell? ⟨g,i,none⟩=#[v0,v1,v2,v3,v4,v5,v6,v7,v8][i]?:=fun i=>cell_of_row w g i _ t (0,0) h
 exact⟨hc 0,hc 1,hc 2,hc 3,hc 4,hc 5,hc 6,hc 7,hc 8⟩
theorem ay {w:World} {g:Nat} {cs:Array Value} {t:TypeId} (h:w.heap[g]?=some (.cells cs t (0,0))) (i:Nat):w.frozen? ⟨g,i,none⟩=false:=by
 unfold World.frozen?;rw [h];simp
structure R3 where
 f:Int
 l:Int
 v:Value
abbrev cu (x:R3):List Value:=[.int .i64 x.f,.int .i64 x.l,x.v]
theorem bC (x:R3):(cu x).length=3:=rfl
def Vb (w:World) (l:List Sn) (T:List R3) (I:Nat→Nat):Prop:=T.length=l.length∧∀i (hi:i < l.length),∃b c,T[i]?=some ⟨l[i].f,l[i].l,.slice b l[i].ids.length c⟩∧GR.W aR 1 w b (I i) l[i].ids
def eO (w:World) (a:Option Addr) (g:Nat) (I:Nat→Nat) (l:List Sn):Prop:=∃T,GR.W cu 3 w a g T∧Vb w l T I
theorem eO.at {w:World} {a:Option Addr} {g:Nat} {I:Nat→Nat} {l:List Sn} (h:eO w a g I l):jL w a l:=fun i hi=>by
 obtain⟨T,hT,hl,hr⟩:=h;obtain⟨b,c,ht,hi2⟩:=hr i hi;obtain⟨e,hg,hc⟩:=hT i (by omega)
 have hti:T[i]'(by omega)=⟨l[i].f,l[i].l,.slice b l[i].ids.length c⟩:=by
  have:=List.getElem?_eq_getElem (l:=T) (i:=i) (by omega);rw [this] at ht;exact Option.some.inj ht
 rw [hti] at hc;refine⟨g,0,b,c,e,hg,?_,?_,?_,hi2.at⟩
 ·have:=(hc 0 (by omega)).1;simpa using this
 ·have:=(hc 1 (by omega)).1;simpa using this
 ·have:=(hc 2 (by omega)).1;simpa using this
def nM (I:Nat→Nat) (l:List Sn):List Nat:=(List.range l.length).flatMap fun i=>fp (I i) (l.getD i default).ids
theorem iL {I:Nat→Nat} {l:List Sn} {i:Nat} (hi:i < l.length):∀x∈fp (I i) l[i].ids,x∈nM I l:=by
 intro x hx;unfold nM;rw [List.mem_flatMap];refine⟨i,List.mem_range.2 hi,?_⟩;rw [List.getD_eq_getElem?_getD,List.getElem?_eq_getElem hi];exact hx
theorem uf {I:Nat→Nat} {l:List Sn} {x:Nat} (h:x∈nM I l):∃i,∃hi:i < l.length,x=I i∧0 < l[i].ids.length:=by
 unfold nM at h;rw [List.mem_flatMap] at h;obtain⟨i,hi,hx⟩:=h;have hi':=List.mem_range.1 hi;rw [List.getD_eq_getElem?_getD,List.getElem?_eq_getElem hi'] at hx;exact⟨i,hi',gD hx⟩
theorem eO.keeps {F:List Nat} {w w':World} {a:Option Addr} {g:Nat} {I:Nat→Nat} {l:List Sn} (h:eO w a g I l) (hk:aC F w w') (hg:∀x∈fp g l,x∉F) (hI:∀x∈nM I l,x∉F):eO w' a g I l:=by
 obtain⟨T,hT,hl,hr⟩:=h;refine⟨T,hT.keeps hk (fun x hx=>hg x ?_),hl,fun i hi=>?_⟩
 ·exact QV
 ·obtain⟨b,c,ht,hi2⟩:=hr i hi;exact⟨b,c,ht,hi2.keeps hk (fun x hx=>hI x (iL hi x hx))⟩
structure aU where
 k:Nat
 p:Nat
 o:Nat
 s:Nat
 r:Nat
 i:Nat→Nat
def aU.all (G:aU) (n:Nd):List Nat:=fp G.k n.kids++(fp G.p n.pu++(fp G.o n.out++(fp G.s n.seen++(nM G.i n.seen++fp G.r n.reqs))))
structure kW (w:World) (A:bE) (G:aU) (n:Nd):Prop where
 k:GR.W aR 1 w A.k G.k n.kids
 p:GR.W eG 4 w A.p G.p n.pu
 o:GR.W aS 4 w A.o G.o n.out
 s:eO w A.s G.s G.i n.seen
 r:GR.W aK 4 w A.r G.r n.reqs
theorem kW.at {w:World} {A:bE} {G:aU} {n:Nd} (h:kW w A G n):dQ w A n:=⟨h.k.at,h.p.at,h.o.at,h.s.at,h.r.at⟩
theorem aU.mem_all {G:aU} {n:Nd} {x:Nat}:x∈G.all n↔x∈fp G.k n.kids∨x∈fp G.p n.pu∨x∈fp G.o n.out∨x∈fp G.s n.seen∨x∈nM G.i n.seen∨x∈fp G.r n.reqs:=by
 unfold aU.all;simp only[List.mem_append]
theorem kW.keeps {F:List Nat} {w w':World} {A:bE} {G:aU} {n:Nd} (h:kW w A G n) (hk:aC F w w') (hd:∀x∈G.all n,x∉F):kW w' A G n:=
 ⟨h.k.keeps hk (fun x hx=>hd x (aU.mem_all.2 (.inl hx))),h.p.keeps hk (fun x hx=>hd x (aU.mem_all.2 (.inr (.inl hx)))),h.o.keeps hk (fun x hx=>hd x (aU.mem_all.2 (.inr (.inr (.inl hx))))),h.s.keeps hk (fun x hx=>hd x (aU.mem_all.2 (.inr (.inr (.inr (.inl hx)))))) (fun x hx=>hd x (aU.mem_all.2 (.inr (.inr (.inr (.inr (.inl hx))))))),h.r.keeps hk (fun x hx=>hd x (aU.mem_all.2 (.inr (.inr (.inr (.inr (.inr hx)))))))⟩
theorem kW.below {w w':World} {A:bE} {G:aU} {n:Nd} (h:kW w A G n) (hb:Below w.heap.size w w'):kW w' A G n:=h.keeps (F:=[]) (aC.of_below hb) (fun _ _=>by simp)
structure aU.Sep (G:aU) (n:Nd) (lo hi:Nat):Prop where
 nodup:(G.all n).Nodup
 rng:∀x∈G.all n,lo≤x∧x < hi
set_option maxHeartbeats 1000000
set_option maxRecDepth 100000
theorem Mth.has_snoc (l:List Int) (x:Int) (k:Nat) (h:k < l.length):hasB (l.take (k+1)) x=(hasB (l.take k) x||decide (l[k]=x)):=by
 unfold hasB;rw [List.take_succ_eq_append_getElem h,List.any_append];simp
theorem Mth.has_yes (l:List Int) (x:Int) (k:Nat) (h:k < l.length) (hx:l[k]=x):hasB l x=true:=by
 unfold hasB;rw [List.any_eq_true];exact⟨l[k],List.getElem_mem h,by simp[hx]⟩
theorem MC (a:Option Addr) (cap:Nat) (l:List Int) (x:Int) (w:World) (hl:l.length≤1048600) (ha:dK w a l):
 Calls Tryz.prog 124 #[.slice a l.length cap,.int .i64 x] w fun e w'=>e= .returned (.bool (hasB l x))∧w=w':=by
 have HA:=hide ha;clear ha;go_enter Tryz.func124,Tryz.ntmps124
 go_wp2_with fail;go_loop [5] (fun i=>∃k:Nat,k≤l.length∧i= .int .i64 k∧hasB (l.take k) x=false) (fun i=>l.length - (intOf i).toNat)
 case atStart=>exact⟨0,Nat.zero_le _,rfl,rfl⟩
 case round=>
  obtain⟨k,hk,rfl,hno⟩:=hrel;have HN:=hide hno;clear hno;by_cases hlt:k < l.length
  ·obtain⟨g,off,rfl,hgw,q0⟩:=dK.one HA k hlt;by_cases hx:l[k]=x
   ·have HY:=hide (has_yes l x k hlt hx);rw [hx] at q0;clear hx;go_wp2_with fail;go_ret;exact⟨aD HY.symm,rfl⟩
   ·have HS:=hide (has_snoc l x k hlt);rw [decide_eq_false hx] at HS;exact anm
  ·open afT in exact DZ
theorem Aq (n:Nd) (A:bE) (x:Int) (w:World) (hl:n.kids.length≤1048600) (ha:dK w A.k n.kids):
 Calls Tryz.prog 47 #[gu n A,.int .i64 x] w fun e w'=>e= .returned (.bool (dB n x))∧Below w.heap.size w w':=by
 have HH:=hide (MC A.k A.ck n.kids x (w.alloc (.cells (fZ n A) 30)) hl (GR.At.below ha (au w _)));clear ha;by_cases h0:0≤x
 ·by_cases h1:x=n.par
  ·have HN:=hide (show dB n x=true by unfold dB;rw [decide_eq_true h0,decide_eq_true h1];rfl);have h2:(x == n.par)=true:=by simp[h1]
   clear h1;go_enter Tryz.func47,Tryz.ntmps47
   go_wp2_with fail;exact aa8
  ·have HN:=hide (show dB n x=hasB n.kids x by simp[dB,h1]);have h2:(x == n.par)=false:=by simp[h1]
   clear h1;exact Zh
 ·have HN:=hide (show dB n x=hasB n.kids x by simp[dB,h0]);exact Zh
set_option maxHeartbeats 4000000
theorem j6 (x:Int) (b:Bool) (hb:nY x=b) (W:World) (n:Nat):Calls Tryz.prog 134 #[.int .i64 x] (W.drewN n) fun e w''=>e= .returned (.bool b)∧∃m,w''=W.drewN m:=
 (jv x b _ hb).mono fun _ _ ⟨he,hw⟩=>⟨he,n,hw.symm⟩
theorem Mth.place_head {n:Nd} (h:(nY n.id&&decide (-1≤n.par∧n.par≤29)&&decide (n.par≠n.id)&&decide (n.kids.length≤30))=false):bQ n=false:=by
 unfold bQ;rw [h];rfl
theorem Mth.place_tail {n:Nd} (h1:nY n.id=true) (h2: -1≤n.par∧n.par≤29) (h3:n.par≠n.id) (h4:n.kids.length≤30):bQ n=fT (iE n.id n.par) gJ n.kids:=by
 unfold bQ;rw [h1,decide_eq_true h2,decide_eq_true h3,decide_eq_true h4];rfl
theorem OP (n:Nd) (A:bE) (w:World) (hl:n.kids.length≤1048600) (ha:dK w A.k n.kids):
 Calls Tryz.prog 58 #[gu n A] w fun e w'=>e= .returned (.bool (bQ n))∧Below w.heap.size w w':=by
 have HA:=hide ha;have HD:=hide (@place_head n);have AY:=hide (@place_tail n);have rX:=hide (fun k h=>lQ (iE n.id n.par) gJ n.kids k h);have yg:=hide (nS (iE n.id n.par) gJ n.kids);have yK:=hide (qE (iE n.id n.par) gJ n.kids);clear ha;open af6 in exact wS
set_option maxHeartbeats 8000000
theorem cell_grown' {w:World} {a:Addr} {v:Value} (h:w.cell? a=some v):∀d os,(Sort.grow (redrawn w d) os).cell? a=some v:=fun d os=>cell_regrown h d os
theorem aag (n:Nd) (A:bE) (x:Int) (b:Bool) (wc:World) (hl:n.kids.length≤1048600) (ha:dK wc A.k n.kids) (hb:dB n x=b):∀d os,Calls Tryz.prog 47 #[gu n A,.int .i64 x] (Sort.grow (redrawn wc d) os) fun e w''=>e= .returned (.bool b)∧∃p:Regrown,w''=Sort.grow (redrawn wc p.d) p.os:=fun d os=>by
 rw [←hb];exact Calls.regrown_of (Aq n A x _ hl (GR.At.below ha (below_regrown wc d os)))
theorem Dl (x:Int) (b:Bool) (wc:World) (hb:eD x=b):∀d os,Calls Tryz.prog 61 #[.int .i64 x] (Sort.grow (redrawn wc d) os) fun e w''=>e= .returned (.bool b)∧∃p:Regrown,w''=Sort.grow (redrawn wc p.d) p.os:=fun _ _=>
 Calls.regrown_of ((dM x b _ hb).mono fun _ _ ⟨he,hw⟩=>⟨he,hw▸Below.refl _ _⟩)
theorem Ug (x a b:Int) (r:Bool) (hb:decide (a≤x∧x≤b)=r) (W:World) (n:Nat):Calls Tryz.prog 63 #[.int .i64 x,.int .i64 a,.int .i64 b] (W.drewN n) fun e w''=>e= .returned (.bool r)∧∃m,w''=W.drewN m:=
 (pz x a b r _ hb).mono fun _ _ ⟨he,hw⟩=>⟨he,n,hw.symm⟩
theorem three {w:World} {g:Nat} {v0 v1 v2:Value} {t:TypeId} (h:w.heap[g]?=some (.cells #[v0,v1,v2] t (0,0))):
 w.cell? ⟨g,0,none⟩=some v0∧w.cell? ⟨g,1,none⟩=some v1∧w.cell? ⟨g,2,none⟩=some v2:=by
 have hc:∀i,w.cell? ⟨g,i,none⟩=#[v0,v1,v2][i]?:=fun i=>cell_of_row w g i _ t (0,0) h
 exact⟨hc 0,hc 1,hc 2⟩
theorem Tz (n:Nd) (A:bE) (w:World) (hl:n.kids.length≤1048600) (hl2:n.seen.length≤1048600) (hl3:∀s∈n.seen,s.ids.length≤1048600) (ha:dK w A.k n.kids) (hs:jL w A.s n.seen):
 Calls Tryz.prog 60 #[gu n A] w fun e w'=>e= .returned (.bool (lC n))∧Below w.heap.size w w':=by
 have HA:=hide ha;have HS:=hide hs;have Lf:=hide hl3;have HD:Hid (lC n=(decide ((n.seen.length:Int)=n.kids.length+(if 0≤n.par then 1 else 0))&&fT (fun s=>dB n s.f&&qz s) (fun s t=>gJ s.f t.f) n.seen)):=rfl;have rX:=hide (fun k h=>lQ (fun s=>dB n s.f&&qz s) (fun s t=>gJ s.f t.f) n.seen k h);have yg:=hide (nS (fun s=>dB n s.f&&qz s) (fun s t=>gJ s.f t.f) n.seen);have yK:=hide (qE (fun s=>dB n s.f&&qz s) (fun s t=>gJ s.f t.f) n.seen);have Js:=hide (fun x b wc (ha:dK wc A.k n.kids) (hb:dB n x=b)=>aag n A x b wc hl ha hb);have jy:=hide (heap_alloc_new w (.cells (fZ n A) 30));clear ha hs hl3;generalize hpp:(fun s=>dB n s.f&&qz s)=PP at *;have HPP:Hid (∀s,PP s=(dB n s.f&&qz s)):=by intro s;rw [←hpp]
 clear hpp;generalize hrr:(fun s t:Sn=>gJ s.f t.f)=RR at *;have HRR:Hid (∀s t,RR s t=gJ s.f t.f):=by intro s t;rw [←hrr]
 clear hrr;generalize hnn:dB n=NN at *;clear hnn;generalize htt:lC n=TT at *;clear htt;open af7 in exact wS
theorem zM:(Tryz.prog.info? 90).map (fun i=>(i.zero,i.size,i.bytes))=some (some (.agg #[.int .i64 0,.int .i64 0,.slice none 0 0]),3,40):=by kernel_rfl
theorem bg {w:World} {c:Nat} {cs:Array Value} {t:TypeId} (h:w.heap[c]?=some (.cells cs t (0,0))) (i:Nat) (v:Value):(w.setCell ⟨c,i,none⟩ v).heap[c]?=some (.cells (cs.setIfInBounds i v) t (0,0)):=by
 exact abb
theorem jd {w:World} {g g' i:Nat} {v:Value} {o:Option Obj} (h:w.heap[g']?=o) (hne:g'≠g):(w.setCell ⟨g,i,none⟩ v).heap[g']?=o:=by rw [Below.heap_setCell _ _ _ _ hne,h]
theorem D8 (w:World) (a b c:Obj):(((w.alloc a).alloc b).alloc c).heap[w.heap.size]?=some a∧(((w.alloc a).alloc b).alloc c).heap[w.heap.size+1]?=some b∧(((w.alloc a).alloc b).alloc c).heap[w.heap.size+1+1]?=some c∧Below w.heap.size w (((w.alloc a).alloc b).alloc c):=by
 have e1:(w.alloc a).heap.size=w.heap.size+1:=by simp
 have e2:((w.alloc a).alloc b).heap.size=w.heap.size+1+1:=by simp
 have h1:=heap_alloc_new w a;have h2:=heap_alloc_new (w.alloc a) b;have h3:=heap_alloc_new ((w.alloc a).alloc b) c;rw [e1] at h2;rw [e2] at h3;refine⟨?_,?_,h3,((au w _).alloc (by simp) _).alloc (by simp;omega) _⟩
 ·rw [Below.heap_alloc _ _ _ (by rw [e2];omega),Below.heap_alloc _ _ _ (by rw [e1];omega)];exact h1
 ·rw [Below.heap_alloc _ _ _ (by rw [e2];omega)];exact h2
theorem aO {P:Program} {fn:Func} {Q:Ending→World→Prop} {x:Exit} {act:Act} {W:World} (h:∀W',W'=W→bodyPost P fn Q x act W'):bodyPost P fn Q x act W:=h W rfl
abbrev Tg (w:World) (g:Nat) (T:List R3):Prop:=GR.Blk cu 90 w g T
theorem Tg.three {w:World} {g:Nat} {l:List R3} (h:Tg w g l) (i:Nat) (hi:i < l.length):w.cell? ⟨g,i*3,none⟩=some (.int .i64 l[i].f)∧w.cell? ⟨g,i*3+1,none⟩=some (.int .i64 l[i].l)∧w.cell? ⟨g,i*3+2,none⟩=some l[i].v:=
 ⟨by simpa using GR.Blk.cell h bC i hi 0 (by omega),by simpa using GR.Blk.cell h bC i hi 1 (by omega),by simpa using GR.Blk.cell h bC i hi 2 (by omega)⟩
end Go.Proofs.YtacgbldlonoaaaaGreatDoor
