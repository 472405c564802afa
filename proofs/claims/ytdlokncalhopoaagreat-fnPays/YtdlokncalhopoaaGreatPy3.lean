/- Parts. -/
import Derived.Test.YtdlokncalhopoaaGreatPy1
import Derived.Test.YtdlokncalhopoaaGreatPy2
import Derived.Deep.RegionHeld
import Derived.Laws.IdiomStrings
import Derived.Laws.BytesString
import Derived.Laws.AppendOwnNone
import Derived.Maps.AppendAt
import Derived.Laws.OwnMore
namespace Go.Proofs.YtdlokncalhopoaaGreat
open Go.RowKit
open Mth
abbrev IntsAt (w:World) (a:Option Addr) (l:List Int):Prop:=GR.At encNum 1 w a l
theorem IntsAt.one {w:World} {a:Option Addr} {l:List Int} (h:IntsAt w a l) (i:Nat) (hi:i < l.length):∃g off,a=some ⟨g,off,none⟩∧g < w.heap.size∧w.cell? ⟨g,off+i,none⟩=some (.int .i64 l[i]):=by
 obtain⟨g,off,e,hg,hc⟩:=h i hi
 refine⟨g,off,e,hg,?_⟩
 simpa using hc 0 (by omega)
abbrev intBlk (w:World) (g:Nat) (l:List Int):Prop:=GR.Blk encNum 3 w g l
theorem intBlk.one {w:World} {g:Nat} {l:List Int} (h:intBlk w g l) (i:Nat) (hi:i < l.length):w.cell? ⟨g,i,none⟩=some (.int .i64 l[i]):=by
 simpa using GR.Blk.cell h encNum_length i hi 0 (by omega)
theorem intBlk.step {w w':World} {g:Nat} {l:List Int} (h:intBlk w g l) (hb:Below w.heap.size w w'):intBlk w' g l:=by
 have hl:=GR.Blk.lt h
 unfold intBlk GR.Blk at *
 rw [hb.block g hl]
 exact h
theorem infoInt:(Tryz.prog.info? 3).map (fun i=>(i.zero,i.size,i.bytes))=some (some (.int .i64 0),1,8):=by kernel_rfl
abbrev SentAt (w:World) (a:Option Addr) (l:List Snt):Prop:=GR.At encSnt 4 w a l
abbrev SentV (p:Snt):Value:= .agg #[.int .i64 p.i,.int .i64 p.t,.string p.k,.int .i64 p.n]
theorem SentAt.four {w:World} {a:Option Addr} {l:List Snt} (h:SentAt w a l) (i:Nat) (hi:i < l.length):∃g off,a=some ⟨g,off,none⟩∧g < w.heap.size∧w.cell? ⟨g,off+i*4,none⟩=some (.int .i64 l[i].i)∧w.cell? ⟨g,off+i*4+1,none⟩=some (.int .i64 l[i].t)∧w.cell? ⟨g,off+i*4+2,none⟩=some (.string l[i].k)∧w.cell? ⟨g,off+i*4+3,none⟩=some (.int .i64 l[i].n):=by
 obtain⟨g,off,e,hg,hc⟩:=h i hi
 refine⟨g,off,e,hg,?_,?_,?_,?_⟩
 ·simpa using hc 0 (by omega)
 ·simpa [Nat.add_assoc] using hc 1 (by omega)
 ·simpa [Nat.add_assoc] using hc 2 (by omega)
 ·simpa [Nat.add_assoc] using hc 3 (by omega)
abbrev SentBlk (w:World) (g:Nat) (l:List Snt):Prop:=GR.Blk encSnt 40 w g l
theorem SentBlk.four {w:World} {g:Nat} {l:List Snt} (h:SentBlk w g l) (i:Nat) (hi:i < l.length):w.cell? ⟨g,i*4,none⟩=some (.int .i64 l[i].i)∧w.cell? ⟨g,i*4+1,none⟩=some (.int .i64 l[i].t)∧w.cell? ⟨g,i*4+2,none⟩=some (.string l[i].k)∧w.cell? ⟨g,i*4+3,none⟩=some (.int .i64 l[i].n):=
 ⟨by simpa using GR.Blk.cell h encSnt_length i hi 0 (by omega),by simpa using GR.Blk.cell h encSnt_length i hi 1 (by omega),by simpa using GR.Blk.cell h encSnt_length i hi 2 (by omega),by simpa using GR.Blk.cell h encSnt_length i hi 3 (by omega)⟩
theorem SentBlk.step {w w':World} {g:Nat} {l:List Snt} (h:SentBlk w g l) (hb:Below w.heap.size w w'):SentBlk w' g l:=by
 have hl:=GR.Blk.lt h
 unfold SentBlk GR.Blk at *
 rw [hb.block g hl]
 exact h
theorem infoSent:(Tryz.prog.info? 40).map (fun i=>(i.zero,i.size,i.bytes))=some (some (.agg #[.int .i64 0,.int .i64 0,.string ByteArray.empty,.int .i64 0]),4,40):=by kernel_rfl
abbrev ReqAt (w:World) (a:Option Addr) (l:List Rq):Prop:=GR.At encRq 4 w a l
theorem ReqAt.four {w:World} {a:Option Addr} {l:List Rq} (h:ReqAt w a l) (i:Nat) (hi:i < l.length):∃g off,a=some ⟨g,off,none⟩∧g < w.heap.size∧w.cell? ⟨g,off+i*4,none⟩=some (.int .i64 l[i].no)∧w.cell? ⟨g,off+i*4+1,none⟩=some (.string l[i].k)∧w.cell? ⟨g,off+i*4+2,none⟩=some (.int .i64 l[i].n)∧w.cell? ⟨g,off+i*4+3,none⟩=some (.int .i64 l[i].s):=by
 obtain⟨g,off,e,hg,hc⟩:=h i hi
 refine⟨g,off,e,hg,?_,?_,?_,?_⟩
 ·simpa using hc 0 (by omega)
 ·simpa [Nat.add_assoc] using hc 1 (by omega)
 ·simpa [Nat.add_assoc] using hc 2 (by omega)
 ·simpa [Nat.add_assoc] using hc 3 (by omega)
abbrev ReqBlk (w:World) (g:Nat) (l:List Rq):Prop:=GR.Blk encRq 56 w g l
theorem ReqBlk.four {w:World} {g:Nat} {l:List Rq} (h:ReqBlk w g l) (i:Nat) (hi:i < l.length):w.cell? ⟨g,i*4,none⟩=some (.int .i64 l[i].no)∧w.cell? ⟨g,i*4+1,none⟩=some (.string l[i].k)∧w.cell? ⟨g,i*4+2,none⟩=some (.int .i64 l[i].n)∧w.cell? ⟨g,i*4+3,none⟩=some (.int .i64 l[i].s):=
 ⟨by simpa using GR.Blk.cell h encRq_length i hi 0 (by omega),by simpa using GR.Blk.cell h encRq_length i hi 1 (by omega),by simpa using GR.Blk.cell h encRq_length i hi 2 (by omega),by simpa using GR.Blk.cell h encRq_length i hi 3 (by omega)⟩
theorem ReqBlk.step {w w':World} {g:Nat} {l:List Rq} (h:ReqBlk w g l) (hb:Below w.heap.size w w'):ReqBlk w' g l:=by
 have hl:=GR.Blk.lt h
 unfold ReqBlk GR.Blk at *
 rw [hb.block g hl]
 exact h
theorem infoReq:(Tryz.prog.info? 56).map (fun i=>(i.zero,i.size,i.bytes))=some (some (.agg #[.int .i64 0,.string ByteArray.empty,.int .i64 0,.int .i64 0]),4,40):=by kernel_rfl
def bv (c:UInt8):Value:= .int .u8 (c.toNat:Int)
theorem below_append {w wr w1:World} {e:TypeId} {v:Value} {n:Nat} {xs:List Value} {o:Obj} (hb:Below w.heap.size w wr) (hown:wr.ownsRow w.heap.size e 1 v n xs) (hg:(wr.alloc o).grownBy w1 v.ownBlock):Below w.heap.size w w1:=
 (hb.alloc (by have:=hb.size;omega) o).grown hg (by have:=hb.size;simp;omega) (fun k hk=>(hown.lt k hk).1)
namespace GR
open Go.RowKit
variable {α:Type} {enc:α→List Value} {sz:Nat}
theorem At.news {w:World} {x:Addr} {l:List α} (hs:∀y,(enc y).length=sz) (hz:0 < sz) (h:At enc sz w (some x) l):∀j u,(flat enc l)[j]?=some u→w.cell? (x.add j)=some u:=by
 intro j u hu
 have hj:j < l.length*sz:=by
  have:=(List.getElem?_eq_some_iff.1 hu).1
  rwa [flat_length enc sz hs] at this
 have hq:j / sz < l.length:=Nat.div_lt_of_lt_mul (by rw [Nat.mul_comm];exact hj)
 have hr:j % sz < sz:=Nat.mod_lt _ hz
 obtain⟨g,off,e,hg,hc⟩:=h (j / sz) hq
 have hf:=flat_at enc sz hs l (j / sz) hq (j % sz) hr
 have ej:j / sz*sz+j % sz=j:=Nat.div_add_mod' j sz
 rw [ej] at hf
 have h2:=hc (j % sz) hr
 rw [ej,←hf,hu] at h2
 injection e with e
 subst e
 have ea:(⟨g,off,none⟩:Addr).add j=⟨g,off+j,none⟩:=by unfold Addr.add;split<;>simp_all
 rw [ea]
 exact h2
theorem flat_oneCell (h1:∀y,∀u∈enc y,u.oneCell'=true) (l:List α):∀u∈flat enc l,u.oneCell'=true:=by
 intro u hu
 unfold flat at hu
 rw [List.mem_flatMap] at hu
 obtain⟨p,_,hp⟩:=hu
 exact h1 p u hp
theorem own_below {w w':World} {B:Nat} {e:TypeId} {sz:Nat} {v:Value} {n:Nat} {xs:List Value} (h:w.ownsRow B e sz v n xs) (hb:Below w.heap.size w w'):w'.ownsRow B e sz v n xs:=
 h.kept (row:=none) ⟨hb.os,hb.tape,hb.output,hb.size,fun k hk _=>hb.block k hk⟩ (by cases v.ownBlock with|none=>exact .inl rfl|some k=>exact .inr (by simp))
theorem own_lower {w:World} {b b':Nat} {e:TypeId} {sz:Nat} {v:Value} {n:Nat} {xs:List Value} (h:w.ownsRow b e sz v n xs) (hb:b'≤b):w.ownsRow b' e sz v n xs:=by
 refine⟨h.1,?_⟩
 rcases h.2 with h2|⟨g,cap,cur,hv,hg,hr⟩
 ·exact .inl h2
 ·exact .inr ⟨g,cap,cur,hv,Nat.le_trans hb hg,hr⟩
theorem below_append {w wr w1:World} {B:Nat} {e:TypeId} {sz:Nat} {v:Value} {n:Nat} {xs:List Value} {o:Obj} (hb:Below B w wr) (hB:B≤wr.heap.size) (hown:wr.ownsRow B e sz v n xs) (hg:(wr.alloc o).grownBy w1 v.ownBlock):Below B w w1:=
 (hb.alloc hB o).grown hg (by simp;omega) (fun k hk=>(hown.lt k hk).1)
theorem none_nil {w:World} {l:List α} (h:At enc sz w none l):l=[]:=by
 cases l with
 |nil=>rfl
 |cons y l=>
  obtain⟨g,off,e,_⟩:=h 0 (by simp)
  cases e
end GR
theorem obj_lt {w:World} {g:Nat} {o:Obj} (h:w.heap[g]?=some o):g < w.heap.size:=by
 rcases Nat.lt_or_ge g w.heap.size with h'|h'
 ·exact h'
 ·rw [Array.getElem?_eq_none h'] at h;cases h
structure KeepsL (F:List Nat) (w w':World):Prop where
 os:w'.os=w.os
 tape:w'.tape=w.tape
 output:w'.output=w.output
 size:w.heap.size≤w'.heap.size
 block:∀k,k < w.heap.size→k∉F→w'.heap[k]?=w.heap[k]?
theorem KeepsL.refl (F:List Nat) (w:World):KeepsL F w w:=⟨rfl,rfl,rfl,Nat.le_refl _,fun _ _ _=>rfl⟩
theorem KeepsL.trans {F:List Nat} {a b c:World} (h:KeepsL F a b) (k:KeepsL F b c):KeepsL F a c:=
 ⟨k.os.trans h.os,k.tape.trans h.tape,k.output.trans h.output,Nat.le_trans h.size k.size,fun i hi hg=>(k.block i (Nat.lt_of_lt_of_le hi h.size) hg).trans (h.block i hi hg)⟩
theorem KeepsL.mono {F F':List Nat} {a b:World} (h:KeepsL F a b) (hs:∀x∈F,x∈F'):KeepsL F' a b:=
 ⟨h.os,h.tape,h.output,h.size,fun i hi hg=>h.block i hi (fun hx=>hg (hs i hx))⟩
theorem KeepsL.of_below {F:List Nat} {w w':World} (h:Below w.heap.size w w'):KeepsL F w w':=⟨h.os,h.tape,h.output,h.size,fun k hk _=>h.block k hk⟩
theorem KeepsL.set {g i:Nat} {w:World} (v:Value):KeepsL [g] w (w.setCell ⟨g,i,none⟩ v):=
 ⟨rfl,rfl,rfl,by simp[World.setCell],fun k _ hg=>Below.heap_setCell _ _ _ _ (by simpa using hg)⟩
theorem KeepsL.below {F:List Nat} {B:Nat} {w w':World} (h:KeepsL F w w') (hB:∀x∈F,B≤x) (hs:B≤w.heap.size):Below B w w':=
 ⟨h.os,h.tape,h.output,h.size,fun k hk=>h.block k (by omega) (fun hx=>by have:=hB k hx;omega)⟩
theorem KeepsL.obj {F:List Nat} {w w':World} {g:Nat} {o:Obj} (hk:KeepsL F w w') (h:w.heap[g]?=some o) (hg:g∉F):w'.heap[g]?=some o:=by
 rw [hk.block g (obj_lt h) hg];exact h
def fp {α:Type} (g:Nat) (l:List α):List Nat:=if l.isEmpty then[] else[g]
theorem fp_mem {α:Type} {g:Nat} {l:List α} (h:0 < l.length):g∈fp g l:=by
 unfold fp
 cases l with
 |nil=>simp at h
 |cons x l=>simp
theorem of_fp {α:Type} {g x:Nat} {l:List α} (h:x∈fp g l):x=g∧0 < l.length:=by
 unfold fp at h
 cases l with
 |nil=>simp at h
 |cons y l=>simpa using h
theorem fp_nodup {α:Type} (g:Nat) (l:List α):(fp g l).Nodup:=by unfold fp;split<;>simp
namespace GR
variable {α:Type}
def W (enc:α→List Value) (sz:Nat) (w:World) (a:Option Addr) (g:Nat) (l:List α):Prop:=∀i (hi:i < l.length),a=some ⟨g,0,none⟩∧g < w.heap.size∧∀j,j < sz→w.cell? ⟨g,i*sz+j,none⟩=(enc l[i])[j]?∧w.frozen? ⟨g,i*sz+j,none⟩=false
variable {enc:α→List Value} {sz:Nat}
theorem W.at {w:World} {a:Option Addr} {g:Nat} {l:List α} (h:W enc sz w a g l):At enc sz w a l:=fun i hi=>
 ⟨g,0,(h i hi).1,(h i hi).2.1,fun j hj=>by rw [Nat.zero_add];exact((h i hi).2.2 j hj).1⟩
theorem W.of_blk {w:World} {t:TypeId} {g:Nat} {l:List α} (hs:∀x,(enc x).length=sz) (h:Blk enc t w g l):W enc sz w (some ⟨g,0,none⟩) g l:=fun i hi=>
 ⟨rfl,Blk.lt h,fun j hj=>⟨Blk.cell h hs i hi j hj,Blk.free h _⟩⟩
theorem W.nil {w:World} {a:Option Addr} {g:Nat}:W enc sz w a g []:=fun i hi=>by simp at hi
theorem W.keeps {F:List Nat} {w w':World} {a:Option Addr} {g:Nat} {l:List α} (h:W enc sz w a g l) (hk:KeepsL F w w') (hd:∀x∈fp g l,x∉F):W enc sz w' a g l:=fun i hi=>by
 obtain⟨e,hg,hc⟩:=h i hi
 have hne:g∉F:=hd g (fp_mem (by omega))
 exact⟨e,Nat.lt_of_lt_of_le hg hk.size,fun j hj=>⟨(World.cell?_of_block (w:=w) (hk.block g hg hne)).trans (hc j hj).1,(World.frozen?_of_block (w:=w) (hk.block g hg hne)).trans (hc j hj).2⟩⟩
theorem W.below {w w':World} {a:Option Addr} {g:Nat} {l:List α} (h:W enc sz w a g l) (hb:Below w.heap.size w w'):W enc sz w' a g l:=h.keeps (F:=[]) (KeepsL.of_below hb) (fun _ _=>by simp)
theorem W.of_own {w:World} {B:Nat} {t:TypeId} {v:Value} {l:List α} (hs:∀x,(enc x).length=sz) (h:w.ownsRow B t sz v l.length (flat enc l)):∃a c g,v= .slice a l.length c∧W enc sz w a g l∧(∀x∈fp g l,B≤x∧x < w.heap.size)∧(∀x∈fp g l,v.ownBlock=some x):=by
 obtain⟨a,c,rfl,hat⟩:=own_at hs h
 rcases h.2 with⟨hv,hn⟩|⟨g,cap,cur,hv,hg,hblk,_⟩
 ·have hl:l=[]:=List.eq_nil_of_length_eq_zero hn
  subst hl
  exact⟨_,_,0,rfl,W.nil,fun x hx=>by simp[fp] at hx,fun x hx=>by simp[fp] at hx⟩
 ·cases hv
  refine⟨_,_,g,rfl,fun i hi=>?_,fun x hx=>?_,fun x hx=>?_⟩
  ·obtain⟨g',off',e,hg',hc⟩:=hat i hi
   cases e
   refine⟨rfl,hg',fun j hj=>⟨?_,?_⟩⟩
   ·have:=hc j hj
    rwa [Nat.zero_add] at this
   ·unfold World.frozen?;rw [hblk];simp
  ·rw [(of_fp hx).1];exact⟨hg,obj_lt hblk⟩
  ·rw [(of_fp hx).1];rfl
end GR
def SeenAt (w:World) (a:Option Addr) (l:List Sn):Prop:=∀i (hi:i < l.length),∃g off b c,a=some ⟨g,off,none⟩∧g < w.heap.size∧w.cell? ⟨g,off+i*3,none⟩=some (.int .i64 l[i].f)∧w.cell? ⟨g,off+i*3+1,none⟩=some (.int .i64 l[i].l)∧w.cell? ⟨g,off+i*3+2,none⟩=some (.slice b l[i].ids.length c)∧IntsAt w b l[i].ids
theorem SeenAt.below {w w':World} {a:Option Addr} {l:List Sn} (h:SeenAt w a l) (hb:Below w.heap.size w w'):SeenAt w' a l:=fun i hi=>by
 obtain⟨g,off,b,c,e,hg,h0,h1,h2,h3⟩:=h i hi
 exact⟨g,off,b,c,e,Nat.lt_of_lt_of_le hg hb.size,(hb.cell (p:=⟨g,off+i*3,none⟩) hg).trans h0,(hb.cell (p:=⟨g,off+i*3+1,none⟩) hg).trans h1,(hb.cell (p:=⟨g,off+i*3+2,none⟩) hg).trans h2,GR.At.below h3 hb⟩
structure Ads where
 k:Option Addr
 p:Option Addr
 o:Option Addr
 s:Option Addr
 r:Option Addr
 ck:Nat
 cp:Nat
 co:Nat
 cs:Nat
 cr:Nat
abbrev ndc (n:Nd) (A:Ads):Array Value:=#[.int .i64 n.id,.int .i64 n.par,.slice A.k n.kids.length A.ck,.int .i64 n.next,.slice A.p n.pu.length A.cp,.slice A.o n.out.length A.co,.slice A.s n.seen.length A.cs,.int .i64 n.old,.slice A.r n.reqs.length A.cr]
abbrev ndv (n:Nd) (A:Ads):Value:= .agg (ndc n A)
structure NodeAt (w:World) (A:Ads) (n:Nd):Prop where
 k:IntsAt w A.k n.kids
 p:PursesAt w A.p n.pu
 o:SentAt w A.o n.out
 s:SeenAt w A.s n.seen
 r:ReqAt w A.r n.reqs
theorem NodeAt.below {w w':World} {A:Ads} {n:Nd} (h:NodeAt w A n) (hb:Below w.heap.size w w'):NodeAt w' A n:=
 ⟨GR.At.below h.k hb,GR.At.below h.p hb,GR.At.below h.o hb,h.s.below hb,GR.At.below h.r hb⟩
structure NdSz (n:Nd) (b:Nat):Prop where
 k:n.kids.length≤b
 p:n.pu.length≤b
 o:n.out.length≤b
 s:n.seen.length≤b
 r:n.reqs.length≤b
 pk:∀x∈n.pu,x.k.size≤b
 ok:∀x∈n.out,x.k.size≤b
 sk:∀x∈n.seen,x.ids.length≤b
 rk:∀x∈n.reqs,x.k.size≤b
theorem NdSz.mono {n:Nd} {a b:Nat} (h:NdSz n a) (hab:a≤b):NdSz n b:=
 ⟨Nat.le_trans h.k hab,Nat.le_trans h.p hab,Nat.le_trans h.o hab,Nat.le_trans h.s hab,Nat.le_trans h.r hab,fun x hx=>Nat.le_trans (h.pk x hx) hab,fun x hx=>Nat.le_trans (h.ok x hx) hab,fun x hx=>Nat.le_trans (h.sk x hx) hab,fun x hx=>Nat.le_trans (h.rk x hx) hab⟩
theorem obj_step {w w':World} {g:Nat} {o:Obj} (h:w.heap[g]?=some o) (hb:Below w.heap.size w w'):w'.heap[g]?=some o:=by
 rw [hb.block g (obj_lt h)]
 exact h
theorem nine {w:World} {g:Nat} {v0 v1 v2 v3 v4 v5 v6 v7 v8:Value} {t:TypeId} (h:w.heap[g]?=some (.cells #[v0,v1,v2,v3,v4,v5,v6,v7,v8] t (0,0))):
 w.cell? ⟨g,0,none⟩=some v0∧w.cell? ⟨g,1,none⟩=some v1∧w.cell? ⟨g,2,none⟩=some v2∧w.cell? ⟨g,3,none⟩=some v3∧w.cell? ⟨g,4,none⟩=some v4∧w.cell? ⟨g,5,none⟩=some v5∧w.cell? ⟨g,6,none⟩=some v6∧w.cell? ⟨g,7,none⟩=some v7∧w.cell? ⟨g,8,none⟩=some v8:=by
 have hc:∀i,w.cell? ⟨g,i,none⟩=#[v0,v1,v2,v3,v4,v5,v6,v7,v8][i]?:=fun i=>cell_of_row w g i _ t (0,0) h
 exact⟨hc 0,hc 1,hc 2,hc 3,hc 4,hc 5,hc 6,hc 7,hc 8⟩
theorem obj_free {w:World} {g:Nat} {cs:Array Value} {t:TypeId} (h:w.heap[g]?=some (.cells cs t (0,0))) (i:Nat):w.frozen? ⟨g,i,none⟩=false:=by
 unfold World.frozen?;rw [h];simp
structure R3 where
 f:Int
 l:Int
 v:Value
abbrev encR3 (x:R3):List Value:=[.int .i64 x.f,.int .i64 x.l,x.v]
theorem encR3_length (x:R3):(encR3 x).length=3:=rfl
def SeenRow (w:World) (l:List Sn) (T:List R3) (I:Nat→Nat):Prop:=T.length=l.length∧∀i (hi:i < l.length),∃b c,T[i]?=some ⟨l[i].f,l[i].l,.slice b l[i].ids.length c⟩∧GR.W encNum 1 w b (I i) l[i].ids
def SeenW (w:World) (a:Option Addr) (g:Nat) (I:Nat→Nat) (l:List Sn):Prop:=∃T,GR.W encR3 3 w a g T∧SeenRow w l T I
theorem SeenW.at {w:World} {a:Option Addr} {g:Nat} {I:Nat→Nat} {l:List Sn} (h:SeenW w a g I l):SeenAt w a l:=fun i hi=>by
 obtain⟨T,hT,hl,hr⟩:=h
 obtain⟨b,c,ht,hi2⟩:=hr i hi
 obtain⟨e,hg,hc⟩:=hT i (by omega)
 have hti:T[i]'(by omega)=⟨l[i].f,l[i].l,.slice b l[i].ids.length c⟩:=by
  have:=List.getElem?_eq_getElem (l:=T) (i:=i) (by omega)
  rw [this] at ht
  exact Option.some.inj ht
 rw [hti] at hc
 refine⟨g,0,b,c,e,hg,?_,?_,?_,hi2.at⟩
 ·have:=(hc 0 (by omega)).1
  simpa using this
 ·have:=(hc 1 (by omega)).1
  simpa using this
 ·have:=(hc 2 (by omega)).1
  simpa using this
def fpI (I:Nat→Nat) (l:List Sn):List Nat:=(List.range l.length).flatMap fun i=>fp (I i) (l.getD i default).ids
theorem fpI_mem {I:Nat→Nat} {l:List Sn} {i:Nat} (hi:i < l.length):∀x∈fp (I i) l[i].ids,x∈fpI I l:=by
 intro x hx
 unfold fpI
 rw [List.mem_flatMap]
 refine⟨i,List.mem_range.2 hi,?_⟩
 rw [List.getD_eq_getElem?_getD,List.getElem?_eq_getElem hi]
 exact hx
theorem of_fpI {I:Nat→Nat} {l:List Sn} {x:Nat} (h:x∈fpI I l):∃i,∃hi:i < l.length,x=I i∧0 < l[i].ids.length:=by
 unfold fpI at h
 rw [List.mem_flatMap] at h
 obtain⟨i,hi,hx⟩:=h
 have hi':=List.mem_range.1 hi
 rw [List.getD_eq_getElem?_getD,List.getElem?_eq_getElem hi'] at hx
 exact⟨i,hi',of_fp hx⟩
theorem SeenW.keeps {F:List Nat} {w w':World} {a:Option Addr} {g:Nat} {I:Nat→Nat} {l:List Sn} (h:SeenW w a g I l) (hk:KeepsL F w w') (hg:∀x∈fp g l,x∉F) (hI:∀x∈fpI I l,x∉F):SeenW w' a g I l:=by
 obtain⟨T,hT,hl,hr⟩:=h
 refine⟨T,hT.keeps hk (fun x hx=>hg x ?_),hl,fun i hi=>?_⟩
 ·have:=of_fp hx
  rw [this.1]
  exact fp_mem (by omega)
 ·obtain⟨b,c,ht,hi2⟩:=hr i hi
  exact⟨b,c,ht,hi2.keeps hk (fun x hx=>hI x (fpI_mem hi x hx))⟩
structure Blks where
 k:Nat
 p:Nat
 o:Nat
 s:Nat
 r:Nat
 i:Nat→Nat
def Blks.all (G:Blks) (n:Nd):List Nat:=fp G.k n.kids++(fp G.p n.pu++(fp G.o n.out++(fp G.s n.seen++(fpI G.i n.seen++fp G.r n.reqs))))
structure NodeW (w:World) (A:Ads) (G:Blks) (n:Nd):Prop where
 k:GR.W encNum 1 w A.k G.k n.kids
 p:GR.W encP 4 w A.p G.p n.pu
 o:GR.W encSnt 4 w A.o G.o n.out
 s:SeenW w A.s G.s G.i n.seen
 r:GR.W encRq 4 w A.r G.r n.reqs
theorem NodeW.at {w:World} {A:Ads} {G:Blks} {n:Nd} (h:NodeW w A G n):NodeAt w A n:=⟨h.k.at,h.p.at,h.o.at,h.s.at,h.r.at⟩
theorem Blks.mem_all {G:Blks} {n:Nd} {x:Nat}:x∈G.all n↔x∈fp G.k n.kids∨x∈fp G.p n.pu∨x∈fp G.o n.out∨x∈fp G.s n.seen∨x∈fpI G.i n.seen∨x∈fp G.r n.reqs:=by
 unfold Blks.all
 simp only[List.mem_append]
theorem NodeW.keeps {F:List Nat} {w w':World} {A:Ads} {G:Blks} {n:Nd} (h:NodeW w A G n) (hk:KeepsL F w w') (hd:∀x∈G.all n,x∉F):NodeW w' A G n:=
 ⟨h.k.keeps hk (fun x hx=>hd x (Blks.mem_all.2 (.inl hx))),h.p.keeps hk (fun x hx=>hd x (Blks.mem_all.2 (.inr (.inl hx)))),h.o.keeps hk (fun x hx=>hd x (Blks.mem_all.2 (.inr (.inr (.inl hx))))),h.s.keeps hk (fun x hx=>hd x (Blks.mem_all.2 (.inr (.inr (.inr (.inl hx)))))) (fun x hx=>hd x (Blks.mem_all.2 (.inr (.inr (.inr (.inr (.inl hx))))))),h.r.keeps hk (fun x hx=>hd x (Blks.mem_all.2 (.inr (.inr (.inr (.inr (.inr hx)))))))⟩
theorem NodeW.below {w w':World} {A:Ads} {G:Blks} {n:Nd} (h:NodeW w A G n) (hb:Below w.heap.size w w'):NodeW w' A G n:=h.keeps (F:=[]) (KeepsL.of_below hb) (fun _ _=>by simp)
structure Blks.Sep (G:Blks) (n:Nd) (lo hi:Nat):Prop where
 nodup:(G.all n).Nodup
 rng:∀x∈G.all n,lo≤x∧x < hi
set_option maxHeartbeats 1000000
set_option maxRecDepth 100000
theorem Mth.has_snoc (l:List Int) (x:Int) (k:Nat) (h:k < l.length):hasB (l.take (k+1)) x=(hasB (l.take k) x||decide (l[k]=x)):=by
 unfold hasB
 rw [List.take_succ_eq_append_getElem h,List.any_append]
 simp
theorem Mth.has_yes (l:List Int) (x:Int) (k:Nat) (h:k < l.length) (hx:l[k]=x):hasB l x=true:=by
 unfold hasB
 rw [List.any_eq_true]
 exact⟨l[k],List.getElem_mem h,by simp[hx]⟩
theorem specHas (a:Option Addr) (cap:Nat) (l:List Int) (x:Int) (w:World) (hl:l.length≤1048600) (ha:IntsAt w a l):
 Calls Tryz.prog 41 #[.slice a l.length cap,.int .i64 x] w fun e w'=>e= .returned (.bool (hasB l x))∧w=w':=by
 have HA:=hide ha
 clear ha
 go_enter Tryz.func41,Tryz.ntmps41
 go_wp2_with fail
 go_loop [5] (fun i=>∃k:Nat,k≤l.length∧i= .int .i64 k∧hasB (l.take k) x=false) (fun i=>l.length - (intOf i).toNat)
 case atStart=>exact⟨0,Nat.zero_le _,rfl,rfl⟩
 case round=>
  obtain⟨k,hk,rfl,hno⟩:=hrel
  have HN:=hide hno
  clear hno
  by_cases hlt:k < l.length
  ·obtain⟨g,off,rfl,hgw,q0⟩:=IntsAt.one (unhide HA) k hlt
   by_cases hx:l[k]=x
   ·have HY:=hide (has_yes l x k hlt hx)
    rw [hx] at q0
    clear hx
    go_wp2_with fail
    go_ret
    exact⟨ret_bool (unhide HY).symm,rfl⟩
   ·have HS:=hide (has_snoc l x k hlt)
    rw [decide_eq_false hx] at HS
    generalize l[k]=y at *
    go_wp2_with fail
    go_round
    case rel=>exact⟨k+1,by omega,by go_num,by rw [unhide HS,unhide HN];rfl⟩
    case measure=>simp[intOf];omega
  ·have hke:k=l.length:=by omega
   subst hke
   have hnlt:decide ((l.length:Int) < (l.length:Int))=false:=by simp
   have h:=unhide HN
   rw [List.take_length] at h
   have HF:=hide h
   clear h
   go_wp2_with fail
   go_ret
   exact⟨ret_bool (unhide HF).symm,rfl⟩
theorem specNear (n:Nd) (A:Ads) (x:Int) (w:World) (hl:n.kids.length≤1048600) (ha:IntsAt w A.k n.kids):
 Calls Tryz.prog 22 #[ndv n A,.int .i64 x] w fun e w'=>e= .returned (.bool (nearB n x))∧Below w.heap.size w w':=by
 have HH:=hide (specHas A.k A.ck n.kids x (w.alloc (.cells (ndc n A) 30)) hl (GR.At.below ha (below_one w _)))
 clear ha
 by_cases h0:0≤x
 ·by_cases h1:x=n.par
  ·have HN:=hide (show nearB n x=true by unfold nearB;rw [decide_eq_true h0,decide_eq_true h1];rfl)
   have h2:(x == n.par)=true:=by simp[h1]
   clear h1
   go_enter Tryz.func22,Tryz.ntmps22
   go_wp2_with fail
   go_ret
   exact⟨ret_bool (unhide HN).symm,below_one w _⟩
  ·have HN:=hide (show nearB n x=hasB n.kids x by simp[nearB,h1])
   have h2:(x == n.par)=false:=by simp[h1]
   clear h1
   go_enter Tryz.func22,Tryz.ntmps22
   go_wp2_with (go_at_call 41;refine(unhide HH).mono ?_;rintro e w1 ⟨rfl,rfl⟩)
   go_ret
   exact⟨ret_bool (unhide HN).symm,below_one w _⟩
 ·have HN:=hide (show nearB n x=hasB n.kids x by simp[nearB,h0])
  go_enter Tryz.func22,Tryz.ntmps22
  go_wp2_with (go_at_call 41;refine(unhide HH).mono ?_;rintro e w1 ⟨rfl,rfl⟩)
  go_ret
  exact⟨ret_bool (unhide HN).symm,below_one w _⟩
end Go.Proofs.YtdlokncalhopoaaGreat
