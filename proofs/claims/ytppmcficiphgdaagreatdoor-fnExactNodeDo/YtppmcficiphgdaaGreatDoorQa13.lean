/-
  NdK, PmFive, MgI, Elevens, NdMint.
-/
import Derived.Test.YtppmcficiphgdaaGreatDoorQa8
import Derived.Test.YtppmcficiphgdaaGreatDoorQa9
import Derived.Test.YtppmcficiphgdaaGreatDoorQa12
import Derived.Test.YtppmcficiphgdaaGreatDoorQaZ3
import Derived.Test.YtppmcficiphgdaaGreatDoorQa2
import Derived.Test.YtppmcficiphgdaaGreatDoorQa1
namespace Go.Proofs.YtppmcficiphgdaaGreatDoor
open Go.RowKit
open Mth
structure KC (c:Nat→Nat) (k:Nat) (w w':World):Prop where
 os:w'.os=w.os
 tape:w'.tape=w.tape
 output:w'.output=w.output
 size:w.heap.size≤w'.heap.size
 block:∀x,x < w.heap.size→c x≠k→w'.heap[x]?=w.heap[x]?
theorem KC.of_below {c:Nat→Nat} {k:Nat} {w w':World} (h:Below w.heap.size w w'):KC c k w w':=⟨h.os,h.tape,h.output,h.size,fun x hx _=>h.block x hx⟩
theorem KC.trans {c:Nat→Nat} {k:Nat} {a b d:World} (h:KC c k a b) (h':KC c k b d):KC c k a d:=
 ⟨h'.os.trans h.os,h'.tape.trans h.tape,h'.output.trans h.output,Nat.le_trans h.size h'.size,fun x hx hc=>(h'.block x (Nat.lt_of_lt_of_le hx h.size) hc).trans (h.block x hx hc)⟩
theorem KC.set {c:Nat→Nat} {k g i:Nat} {w:World} {v:Value} (hc:c g=k):KC c k w (w.setCell ⟨g,i,none⟩ v):=
 ⟨rfl,rfl,rfl,by simp[World.setCell],fun x _ hx=>Below.heap_setCell _ _ _ _ (fun e=>hx (by rw [e];exact hc))⟩
theorem KC.keeps {c:Nat→Nat} {k:Nat} {F:List Nat} {w w':World} (h:KeepsL F w w') (hF:∀x∈F,c x=k):KC c k w w':=⟨h.os,h.tape,h.output,h.size,fun x hx hc=>h.block x hx (fun hm=>hc (hF x hm))⟩
theorem KC.grown {c:Nat→Nat} {k:Nat} {row:Option Nat} {w w':World} (h:w.grownBy w' row) (hF:∀x,row=some x→c x=k):KC c k w w':=⟨h.os,h.tape,h.output,h.size,fun x hx hc=>h.block x hx (fun hm=>hc (hF x hm.symm))⟩
theorem KC.below {c:Nat→Nat} {k B:Nat} {a w w':World} (hb:Below B a w) (h:KC c k w w') (hlo:∀x,x < B→c x=0) (hk:k≠0) (hB:B≤w.heap.size):Below B a w':=
 ⟨h.os.trans hb.os,h.tape.trans hb.tape,h.output.trans hb.output,Nat.le_trans hb.size h.size,fun x hx=>(h.block x (by omega) (by rw [hlo x hx];omega)).trans (hb.block x hx)⟩
theorem KC.obj {c:Nat→Nat} {k g:Nat} {w w':World} {o:Obj} (h:KC c k w w') (ho:w.heap[g]?=some o) (hg:c g≠k):w'.heap[g]?=some o:=by rw [h.block g (obj_lt ho) hg];exact ho
theorem KC.w {α:Type} {enc:α→List Value} {sz:Nat} {c:Nat→Nat} {k j:Nat} {w w':World} {a:Option Addr} {g:Nat} {l:List α} (h:KC c k w w') (hw:GR.W enc sz w a g l) (hc:∀x∈fp g l,c x=j) (hj:j≠k):GR.W enc sz w' a g l:=fun i hi=>by
 obtain⟨e,hg,hcell⟩:=hw i hi;have hb:=h.block g hg (by rw [hc g (fp_mem (by omega))];exact hj);exact⟨e,Nat.lt_of_lt_of_le hg h.size,fun q hq=>⟨(World.cell?_of_block (w:=w) hb).trans (hcell q hq).1,(World.frozen?_of_block (w:=w) hb).trans (hcell q hq).2⟩⟩
theorem KC.own {c:Nat→Nat} {k j B:Nat} {w w':World} {e:TypeId} {sz n:Nat} {v:Value} {xs:List Value} (h:KC c k w w') (ho:w.ownsRow B e sz v n xs) (hc:∀x,v.ownBlock=some x→c x=j) (hj:j≠k):w'.ownsRow B e sz v n xs:=by
 refine⟨ho.1,?_⟩;rcases ho.2 with hn|⟨g,cap,cur,rfl,hb,hgg,rest⟩
 ·exact .inl hn
 ·exact .inr ⟨g,cap,cur,rfl,hb,h.obj hgg (by rw [hc g rfl];exact hj),rest⟩
theorem KC.seen {c:Nat→Nat} {k:Nat} {w w':World} {a:Option Addr} {g:Nat} {I:Nat→Nat} {l:List Sn} (h:KC c k w w') (hs:SeenW w a g I l) (h4:∀x∈fp g l,c x=4) (h5:∀x∈fpI I l,c x=5) (hk4:4≠k) (hk5:5≠k):SeenW w' a g I l:=by
 obtain⟨T,hT,hl,hr⟩:=hs;refine⟨T,h.w hT (fun x hx=>h4 x ?_) hk4,hl,fun i hi=>?_⟩
 ·exact Za102
 ·obtain⟨b,d,ht,hi2⟩:=hr i hi;exact⟨b,d,ht,h.w hi2 (fun x hx=>h5 x (fpI_mem hi x hx)) hk5⟩
structure NO (w:World) (B:Nat) (n:Nd) (A:Ads) (G:Blks) (c:Nat→Nat):Prop where
 k:GR.W encNum 1 w A.k G.k n.kids
 p:GR.W encP 4 w A.p G.p n.pu
 o:w.ownsRow B 79 4 (.slice A.o n.out.length A.co) n.out.length (GR.flat encSnt n.out)
 s:SeenW w A.s G.s G.i n.seen
 r:w.ownsRow B 49 4 (.slice A.r n.reqs.length A.cr) n.reqs.length (GR.flat encRq n.reqs)
 lo:∀x,x < B→c x=0
 ck:∀x∈fp G.k n.kids,c x=1
 cp:∀x∈fp G.p n.pu,c x=2
 co:∀x,(Value.slice A.o n.out.length A.co).ownBlock=some x→c x=3
 c4:∀x∈fp G.s n.seen,c x=4
 ci:∀x∈fpI G.i n.seen,c x=5
 cr:∀x,(Value.slice A.r n.reqs.length A.cr).ownBlock=some x→c x=6
 ni:(fpI G.i n.seen).Nodup
theorem NO.kc {w w':World} {B:Nat} {n:Nd} {A:Ads} {G:Blks} {c:Nat→Nat} {k:Nat} (h:NO w B n A G c) (hk:KC c k w w') (h7:6 < k):NO w' B n A G c:=
 ⟨hk.w h.k h.ck (by omega),hk.w h.p h.cp (by omega),hk.own h.o h.co (by omega),hk.seen h.s h.c4 h.ci (by omega) (by omega),hk.own h.r h.cr (by omega),h.lo,h.ck,h.cp,h.co,h.c4,h.ci,h.cr,h.ni⟩
theorem fpW_lt {α:Type} {enc:α→List Value} {sz:Nat} {w:World} {a:Option Addr} {g:Nat} {l:List α} (h:GR.W enc sz w a g l):∀x∈fp g l,x < w.heap.size:=fun x hx=>by
 have:=of_fp hx;rw [this.1];exact(h 0 this.2).2.1
theorem seen_lt {w:World} {a:Option Addr} {g:Nat} {I:Nat→Nat} {l:List Sn} (h:SeenW w a g I l):(∀x∈fp g l,x < w.heap.size)∧∀x∈fpI I l,x < w.heap.size:=by
 obtain⟨T,hT,hl,hr⟩:=h;refine⟨fun x hx=>fpW_lt hT x ?_,fun x hx=>?_⟩
 ·exact Za102
 ·obtain⟨i,hi,rfl,hpos⟩:=of_fpI hx;obtain⟨b,d,ht,hi2⟩:=hr i hi;exact fpW_lt hi2 _ (fp_mem hpos)
theorem NO.recol {w:World} {B:Nat} {n:Nd} {A:Ads} {G:Blks} {c c':Nat→Nat} (h:NO w B n A G c) (hB:B≤w.heap.size) (hc:∀x,x < w.heap.size→c' x=c x):NO w B n A G c':=
 ⟨h.k,h.p,h.o,h.s,h.r,fun x hx=>(hc x (by omega)).trans (h.lo x hx),fun x hx=>(hc x (fpW_lt h.k x hx)).trans (h.ck x hx),fun x hx=>(hc x (fpW_lt h.p x hx)).trans (h.cp x hx),
  fun x hx=>(hc x (h.o.lt x hx).2).trans (h.co x hx),fun x hx=>(hc x ((seen_lt h.s).1 x hx)).trans (h.c4 x hx),fun x hx=>(hc x ((seen_lt h.s).2 x hx)).trans (h.ci x hx),fun x hx=>(hc x (h.r.lt x hx).2).trans (h.cr x hx),h.ni⟩
theorem NO.at {w:World} {B:Nat} {n:Nd} {A:Ads} {G:Blks} {c:Nat→Nat} (h:NO w B n A G c):NodeAt w A n:=by
 refine⟨h.k.at,h.p.at,?_,h.s.at,?_⟩
 ·obtain⟨a,cp,he,ha⟩:=GR.own_at (enc:=encSnt) (sz:=4) (l:=n.out) encSnt_length h.o;cases he
  exact ha
 ·obtain⟨a,cp,he,ha⟩:=GR.own_at (enc:=encRq) (sz:=4) (l:=n.reqs) encRq_length h.r;cases he
  exact ha
structure WK (w0 w:World) (wb:Nat) (n:Nd) (A:Ads) (G:Blks) (c:Nat→Nat) (v:Value) (L:List Mg):Prop where
 keep:Below w0.heap.size w0 w
 blk:w.heap[wb]?=some (.cells (wkc n A v) 74 (0,0))
 no:NO w w0.heap.size n A G c
 m:w.ownsRow w0.heap.size 32 7 v L.length (GR.flat encM L)
 cm:∀x,v.ownBlock=some x→c x=7
 cw:c wb=8
theorem WK.kc {w0 w w':World} {wb:Nat} {n:Nd} {A:Ads} {G:Blks} {c:Nat→Nat} {v:Value} {L:List Mg} {k:Nat} (h:WK w0 w wb n A G c v L) (hk:KC c k w w') (h8:8 < k):WK w0 w' wb n A G c v L:=
 ⟨hk.below h.keep h.no.lo (by omega) h.keep.size,hk.obj h.blk (by rw [h.cw];omega),h.no.kc hk (by omega),hk.own h.m h.cm (by omega),h.cm,h.cw⟩
theorem WK.step {w0 w w':World} {wb:Nat} {n:Nd} {A:Ads} {G:Blks} {c:Nat→Nat} {v:Value} {L:List Mg} (h:WK w0 w wb n A G c v L) (hb:Below w.heap.size w w'):WK w0 w' wb n A G c v L:=h.kc (k:=9) (KC.of_below hb) (by omega)
theorem WK.recol {w0 w:World} {wb:Nat} {n:Nd} {A:Ads} {G:Blks} {c c':Nat→Nat} {v:Value} {L:List Mg} (h:WK w0 w wb n A G c v L) (hc:∀x,x < w.heap.size→c' x=c x):WK w0 w wb n A G c' v L:=
 ⟨h.keep,h.blk,h.no.recol h.keep.size hc,h.m,fun x hx=>(hc x (h.m.lt x hx).2).trans (h.cm x hx),(hc wb (obj_lt h.blk)).trans h.cw⟩
theorem WK.lo {w0 w:World} {wb:Nat} {n:Nd} {A:Ads} {G:Blks} {c:Nat→Nat} {v:Value} {L:List Mg} (h:WK w0 w wb n A G c v L):w0.heap.size≤wb:=by
 rcases Nat.lt_or_ge wb w0.heap.size with h'|h'
 ·have:=h.no.lo wb h';rw [h.cw] at this;cases this
 ·exact h'
def newC (B k:Nat) (c:Nat→Nat):Nat→Nat:=fun x=>if B≤x then k else c x
theorem newC_old {B k x:Nat} {c:Nat→Nat} (h:x < B):newC B k c x=c x:=by unfold newC;rw [if_neg (by omega)]
theorem newC_new {B k x:Nat} {c:Nat→Nat} (h:B≤x):newC B k c x=k:=by unfold newC;rw [if_pos h]
theorem WK.setPu {w0 w w':World} {wb:Nat} {n:Nd} {A:Ads} {G:Blks} {c:Nat→Nat} {v:Value} {L:List Mg} {a:Option Addr} {cp g:Nat} {l:List Pu} (h:WK w0 w wb n A G c v L) (hb:Below w.heap.size w w') (hw:GR.W encP 4 w' a g l) (hg:∀x∈fp g l,w.heap.size≤x):
 WK w0 (w'.setCell ⟨wb,4,none⟩ (.slice a l.length cp)) wb (setPu n l) ⟨A.k,a,A.o,A.s,A.r,A.ck,cp,A.co,A.cs,A.cr⟩ ⟨G.k,g,G.o,G.s,G.r,G.i⟩ (newC w.heap.size 2 c) v L:=by
 have hwb:=obj_lt h.blk;have h1:=(h.recol (c':=newC w.heap.size 2 c) (fun x hx=>newC_old hx)).step hb;have hk:KC (newC w.heap.size 2 c) 8 w' (w'.setCell ⟨wb,4,none⟩ (.slice a l.length cp)):=KC.set h1.cw;have h2:=h1.no.kc hk (by omega);have hcp:∀x∈fp g l,newC w.heap.size 2 c x=2:=fun x hx=>newC_new (hg x hx)
 refine⟨hk.below h1.keep h1.no.lo (by omega) h1.keep.size,?_,⟨h2.k,hk.w hw hcp (show(2:Nat)≠8 by omega),h2.o,h2.s,h2.r,h2.lo,h2.ck,hcp,h2.co,h2.c4,h2.ci,h2.cr,h2.ni⟩,hk.own h1.m h1.cm (by omega),h1.cm,h1.cw⟩;exact blk_setO h1.blk 4 (.slice a l.length cp)
set_option maxHeartbeats 2000000
set_option maxRecDepth 100000
open Go.RowKit Go.Maps
theorem Mth.addP_no {l:List Pu} {key:ByteArray} {dm df ds n:Int} (h:(addP l key dm df ds n).2=false):(addP l key dm df ds n).1=l:=by
 exact Za121
def GivesP (w:World) (r:List Pu×Bool) (e:Ending) (w':World):Prop:=∃a c g,w.heap.size≤g∧e= .returned (.tuple #[.slice a r.1.length c,.bool r.2])∧PuW w' a g r.1∧Below w.heap.size w w'
theorem implMos (a:Option Addr) (cap:Nat) (l:List Pu) (key:ByteArray) (dm df ds n:Int) (E:Nat→Addr) (w:World) (hl:l.length≤1048576) (hks:∀p∈l,p.k.size≤1048576) (hkey:key.size≤1048576)
 (hd1:dm= -1∨dm=0∨dm=1) (hd2:df= -1∨df=0∨df=1) (hd3:ds= -1∨ds=0∨ds=1) (ha:PursesAt w a l) (he:Errs w E):
 Calls Tryz.prog 185 #[.slice a l.length cap,.string key,.int .i64 n,shv dm df ds] w (GivesP w (addP l key dm df ds n)):=by
 have hb0:=below_one' w (.cells #[.int .i64 dm,.int .i64 df,.int .i64 ds] 213);have HMV:=hide (implMoved a cap l key dm df ds n E _ hl hks hkey hd1 hd2 hd3 (GR.At.below ha hb0) (he.below hb0));have HE:=hide he;have HCP:=hide (fun w1 (hb:Below w.heap.size w w1)=>implCopy a cap l w1 hl hks (GR.At.below ha hb));have HNO:=hide (addP_no (l:=l) (key:=key) (dm:=dm) (df:=df) (ds:=ds) (n:=n));clear ha he hks hb0 hd1 hd2 hd3;generalize addP l key dm df ds n=r at *;obtain⟨L,bo⟩:=r;dsimp only at HMV HNO;unfold GivesP;go_enter Tryz.func185,Tryz.ntmps185
 go_wp2_with fail;refine HMV.mono ?_;rintro e w1 ⟨hb1,hcase⟩;have HB1:=hide (Fo.one_block hb1).2.2;have HS:=hide hb1.size;clear hb1 HMV;rcases hcase with⟨hno,i,hi,rfl⟩|⟨hyes,g,hg,rfl,hblk⟩
 ·have hL:=unhide HNO hno;subst hno hL;have HIR:=hide (isRefusal_at (HE.below HB1) i hi);have HCX:=hide (HCP _ HB1);clear HCP HNO;go_wp2_with fail;refine HIR.mono ?_;rintro e w2 ⟨rfl,rfl⟩;go_wp2_with fail;refine HCX.mono ?_;rintro e w3 ⟨a3,c3,g3,hg3,rfl,hblk3,hb3⟩;have HK3:=hide hblk3;have HB3:=hide (HB1.trans (hb3.mono HB1.size));clear hblk3 hb3;go_wp2_with fail;go_ret2
  exact⟨_,_,g3,Nat.le_trans HB1.size hg3,rfl,HK3,HB3⟩
 ·subst hyes;have HIR:=hide (isRefusal_nil (HE.below HB1));have HK:=hide hblk;have hge:w.heap.size≤g:=by have:=unhide HS;simp at hg;omega
  clear HCP HNO hblk;go_wp2_with fail;refine HIR.mono ?_;rintro e w2 ⟨rfl,rfl⟩;go_wp2_with fail;go_ret2
  exact⟨_,_,g,hge,rfl,PuW.of_blk HK,HB1⟩
theorem implMint (a:Option Addr) (cap:Nat) (l:List Pu) (key:ByteArray) (n:Int) (E:Nat→Addr) (w:World) (hl:l.length≤1048576) (hks:∀p∈l,p.k.size≤1048576) (hkey:key.size≤1048576) (ha:PursesAt w a l) (he:Errs w E):
 Calls Tryz.prog 159 #[.slice a l.length cap,.string key,.int .i64 n] w (GivesP w (addP l key (1) (1) (0) n)):=by
 have H:=hide (implMos a cap l key (1) (1) (0) n E w hl hks hkey (by omega) (by omega) (by omega) ha he);clear ha he hks;generalize addP l key (1) (1) (0) n=r at *;unfold GivesP at *;go_enter Tryz.func159,Tryz.ntmps159
 exact Za17
theorem implGain (a:Option Addr) (cap:Nat) (l:List Pu) (key:ByteArray) (n:Int) (E:Nat→Addr) (w:World) (hl:l.length≤1048576) (hks:∀p∈l,p.k.size≤1048576) (hkey:key.size≤1048576) (ha:PursesAt w a l) (he:Errs w E):
 Calls Tryz.prog 224 #[.slice a l.length cap,.string key,.int .i64 n] w (GivesP w (addP l key (0) (1) (0) n)):=by
 have H:=hide (implMos a cap l key (0) (1) (0) n E w hl hks hkey (by omega) (by omega) (by omega) ha he);clear ha he hks;generalize addP l key (0) (1) (0) n=r at *;unfold GivesP at *;go_enter Tryz.func224,Tryz.ntmps224
 exact Za17
theorem implPart (a:Option Addr) (cap:Nat) (l:List Pu) (key:ByteArray) (n:Int) (E:Nat→Addr) (w:World) (hl:l.length≤1048576) (hks:∀p∈l,p.k.size≤1048576) (hkey:key.size≤1048576) (ha:PursesAt w a l) (he:Errs w E):
 Calls Tryz.prog 191 #[.slice a l.length cap,.string key,.int .i64 n] w (GivesP w (addP l key (0) (-1) (0) n)):=by
 have H:=hide (implMos a cap l key (0) (-1) (0) n E w hl hks hkey (by omega) (by omega) (by omega) ha he);clear ha he hks;generalize addP l key (0) (-1) (0) n=r at *;unfold GivesP at *;go_enter Tryz.func191,Tryz.ntmps191
 exact Za17
theorem implSpend (a:Option Addr) (cap:Nat) (l:List Pu) (key:ByteArray) (n:Int) (E:Nat→Addr) (w:World) (hl:l.length≤1048576) (hks:∀p∈l,p.k.size≤1048576) (hkey:key.size≤1048576) (ha:PursesAt w a l) (he:Errs w E):
 Calls Tryz.prog 161 #[.slice a l.length cap,.string key,.int .i64 n] w (GivesP w (addP l key (0) (-1) (1) n)):=by
 have H:=hide (implMos a cap l key (0) (-1) (1) n E w hl hks hkey (by omega) (by omega) (by omega) ha he);clear ha he hks;generalize addP l key (0) (-1) (1) n=r at *;unfold GivesP at *;go_enter Tryz.func161,Tryz.ntmps161
 exact Za17
theorem implUnspend (a:Option Addr) (cap:Nat) (l:List Pu) (key:ByteArray) (n:Int) (E:Nat→Addr) (w:World) (hl:l.length≤1048576) (hks:∀p∈l,p.k.size≤1048576) (hkey:key.size≤1048576) (ha:PursesAt w a l) (he:Errs w E):
 Calls Tryz.prog 163 #[.slice a l.length cap,.string key,.int .i64 n] w (GivesP w (addP l key (0) (1) (-1) n)):=by
 have H:=hide (implMos a cap l key (0) (1) (-1) n E w hl hks hkey (by omega) (by omega) (by omega) ha he);clear ha he hks;generalize addP l key (0) (1) (-1) n=r at *;unfold GivesP at *;go_enter Tryz.func163,Tryz.ntmps163
 exact Za17
set_option maxHeartbeats 2000000
theorem blk_lt {w:World} {g:Nat} {o:Obj} (h:w.heap[g]?=some o):g < w.heap.size:=by
 exact Za49
theorem blk_step {w w':World} {g:Nat} {o:Obj} (h:w.heap[g]?=some o) (hb:Below w.heap.size w w'):w'.heap[g]?=some o:=by
 rw [hb.block g (blk_lt h)];exact h
theorem cells3 {w:World} {g:Nat} {a0 a1 a2:Value} {t:TypeId} (h:w.heap[g]?=some (.cells #[a0,a1,a2] t (0,0))):
 w.cell? ⟨g,0,none⟩=some a0∧w.cell? ⟨g,1,none⟩=some a1∧w.cell? ⟨g,2,none⟩=some a2:=by
 have hc:∀i,w.cell? ⟨g,i,none⟩=#[a0,a1,a2][i]?:=fun i=>cell_of_row w g i _ t (0,0) h
 exact⟨hc 0,hc 1,hc 2⟩
theorem cells4 {w:World} {g:Nat} {a0 a1 a2 a3:Value} {t:TypeId} (h:w.heap[g]?=some (.cells #[a0,a1,a2,a3] t (0,0))):
 w.cell? ⟨g,0,none⟩=some a0∧w.cell? ⟨g,1,none⟩=some a1∧w.cell? ⟨g,2,none⟩=some a2∧w.cell? ⟨g,3,none⟩=some a3:=by
 have hc:∀i,w.cell? ⟨g,i,none⟩=#[a0,a1,a2,a3][i]?:=fun i=>cell_of_row w g i _ t (0,0) h
 exact⟨hc 0,hc 1,hc 2,hc 3⟩
theorem cells6 {w:World} {g:Nat} {a0 a1 a2 a3 a4 a5:Value} {t:TypeId} (h:w.heap[g]?=some (.cells #[a0,a1,a2,a3,a4,a5] t (0,0))):
 w.cell? ⟨g,0,none⟩=some a0∧w.cell? ⟨g,1,none⟩=some a1∧w.cell? ⟨g,2,none⟩=some a2∧w.cell? ⟨g,3,none⟩=some a3∧w.cell? ⟨g,4,none⟩=some a4∧w.cell? ⟨g,5,none⟩=some a5:=by
 have hc:∀i,w.cell? ⟨g,i,none⟩=#[a0,a1,a2,a3,a4,a5][i]?:=fun i=>cell_of_row w g i _ t (0,0) h
 exact⟨hc 0,hc 1,hc 2,hc 3,hc 4,hc 5⟩
theorem cells7 {w:World} {g:Nat} {a0 a1 a2 a3 a4 a5 a6:Value} {t:TypeId} (h:w.heap[g]?=some (.cells #[a0,a1,a2,a3,a4,a5,a6] t (0,0))):
 w.cell? ⟨g,0,none⟩=some a0∧w.cell? ⟨g,1,none⟩=some a1∧w.cell? ⟨g,2,none⟩=some a2∧w.cell? ⟨g,3,none⟩=some a3∧w.cell? ⟨g,4,none⟩=some a4∧w.cell? ⟨g,5,none⟩=some a5∧w.cell? ⟨g,6,none⟩=some a6:=by
 have hc:∀i,w.cell? ⟨g,i,none⟩=#[a0,a1,a2,a3,a4,a5,a6][i]?:=fun i=>cell_of_row w g i _ t (0,0) h
 exact⟨hc 0,hc 1,hc 2,hc 3,hc 4,hc 5,hc 6⟩
theorem routeOk (F T:Int) (r:Bool) (w:World) (h:rtB F T=r):Calls Tryz.prog 300 #[.agg #[.int .i64 F,.int .i64 T]] w fun e w'=>e= .returned (.bool r)∧Below w.heap.size w w':=by
 subst h;cases h1:ndB F
 case' false=>
  have HP:=hide (show rtB F T=false by simp[rtB,h1])
  have H1:=hide (fun w1=>isNode F false w1 h1)
  clear h1
  go_enter Tryz.func300,Tryz.ntmps300
  go_wp2_with (first|(go_at_call_of 150 F;refine(H1 _).mono ?_;rintro e w1 ⟨rfl,rfl⟩))
  go_ret
  exact⟨ret_bool HP.symm,below_one w _⟩
 have H1:=hide (fun w1=>isNode F true w1 h1);cases h2:ndB T
 case' false=>
  have HP:=hide (show rtB F T=false by simp[rtB,h2])
  have H2:=hide (fun w1=>isNode T false w1 h2)
  clear h1 h2
  go_enter Tryz.func300,Tryz.ntmps300
  go_wp2_with (first|(go_at_call_of 150 F;refine(H1 _).mono ?_;rintro e w1 ⟨rfl,rfl⟩)|(go_at_call_of 150 T;refine(H2 _).mono ?_;rintro e w1 ⟨rfl,rfl⟩))
  go_ret
  exact⟨ret_bool HP.symm,below_one w _⟩
 have H2:=hide (fun w1=>isNode T true w1 h2);by_cases hft:F=T
 case' pos=>
  have HP:=hide (show rtB F T=false by simp[rtB,hft])
  clear h1 h2
  subst hft
  go_enter Tryz.func300,Tryz.ntmps300
  go_wp2_with (first|(go_at_call_of 150 F;refine(H1 _).mono ?_;rintro e w1 ⟨rfl,rfl⟩))
  go_ret
  exact⟨ret_bool HP.symm,below_one w _⟩
 have HP:=hide (show rtB F T=true by simp[rtB,h1,h2,hft]);have he:(F != T)=true:=by simp[hft]
 clear h1 h2;go_enter Tryz.func300,Tryz.ntmps300
 go_wp2_with (first|(go_at_call_of 150 F;refine(H1 _).mono ?_;rintro e w1 ⟨rfl,rfl⟩)|(go_at_call_of 150 T;refine(H2 _).mono ?_;rintro e w1 ⟨rfl,rfl⟩))
 go_ret;exact⟨ret_bool (by first|exact HP.symm|exact he.trans HP.symm),below_one w _⟩
theorem wantOk (F T:Int) (k:ByteArray) (N:Int) (r:Bool) (w:World) (h:(rtB F T&&keyOk k.data.toList&&smB N)=r):Calls Tryz.prog 301 #[.agg #[.int .i64 F,.int .i64 T,.string k,.int .i64 N]] w fun e w'=>e= .returned (.bool r)∧Below w.heap.size w w':=by
 have HQ:=hide h;clear h;cases hr:rtB F T
 case' false=>
  have HP:=hide (show(rtB F T&&keyOk k.data.toList&&smB N)=false by simp[hr])
  have HR:=hide (fun w1=>routeOk F T false w1 hr)
  clear hr
  go_enter Tryz.func301,Tryz.ntmps301
  go_wp2_with (first|(go_at_call 300;refine(HR _).mono ?_;rintro e w2 ⟨rfl,hb2⟩;have hA:=blk_step (heap_alloc_new w _) hb2;have hB:=(below_one w _).trans (hb2.mono (by simp));obtain⟨c0,c1,c2,c3⟩:=cells4 hA;have hz:=blk_lt hA;clear hA hb2))
  go_ret
  exact⟨ret_bool (HP.symm.trans HQ),hB⟩
 have HR:=hide (fun w1=>routeOk F T true w1 hr);cases hc0:keyOk k.data.toList
 case' false=>
  have HP:=hide (show(rtB F T&&keyOk k.data.toList&&smB N)=false by simp[hr,hc0])
  have HC0:=hide (fun w1=>implKeyR k false w1 hc0)
  clear hr hc0
  go_enter Tryz.func301,Tryz.ntmps301
  go_wp2_with (first|(go_at_call 300;refine(HR _).mono ?_;rintro e w2 ⟨rfl,hb2⟩;have hA:=blk_step (heap_alloc_new w _) hb2;have hB:=(below_one w _).trans (hb2.mono (by simp));obtain⟨c0,c1,c2,c3⟩:=cells4 hA;have hz:=blk_lt hA;clear hA hb2)|(go_at_call_of 153 k;refine(HC0 _).mono ?_;rintro e w1 ⟨rfl,rfl⟩))
  go_ret
  exact⟨ret_bool (HP.symm.trans HQ),hB⟩
 have HC0:=hide (fun w1=>implKeyR k true w1 hc0);cases hc1:smB N
 case' false=>
  have HP:=hide (show(rtB F T&&keyOk k.data.toList&&smB N)=false by simp[hr,hc0,hc1])
  have HC1:=hide (fun w1=>isSomeAmount N false w1 hc1)
  clear hr hc0 hc1
  go_enter Tryz.func301,Tryz.ntmps301
  go_wp2_with (first|(go_at_call 300;refine(HR _).mono ?_;rintro e w2 ⟨rfl,hb2⟩;have hA:=blk_step (heap_alloc_new w _) hb2;have hB:=(below_one w _).trans (hb2.mono (by simp));obtain⟨c0,c1,c2,c3⟩:=cells4 hA;have hz:=blk_lt hA;clear hA hb2)|(go_at_call_of 153 k;refine(HC0 _).mono ?_;rintro e w1 ⟨rfl,rfl⟩)|(go_at_call_of 100 N;refine(HC1 _).mono ?_;rintro e w1 ⟨rfl,rfl⟩))
  go_ret
  exact⟨ret_bool (HP.symm.trans HQ),hB⟩
 have HC1:=hide (fun w1=>isSomeAmount N true w1 hc1);have HP:=hide (show(rtB F T&&keyOk k.data.toList&&smB N)=true by simp[hr,hc0,hc1]);clear hr hc0 hc1;go_enter Tryz.func301,Tryz.ntmps301
 go_wp2_with (first|(go_at_call 300;refine(HR _).mono ?_;rintro e w2 ⟨rfl,hb2⟩;have hA:=blk_step (heap_alloc_new w _) hb2;have hB:=(below_one w _).trans (hb2.mono (by simp));obtain⟨c0,c1,c2,c3⟩:=cells4 hA;have hz:=blk_lt hA;clear hA hb2)|(go_at_call_of 153 k;refine(HC0 _).mono ?_;rintro e w1 ⟨rfl,rfl⟩)|(go_at_call_of 100 N;refine(HC1 _).mono ?_;rintro e w1 ⟨rfl,rfl⟩))
 exact Za112
theorem payOk (F T I L:Int) (k:ByteArray) (N:Int) (r:Bool) (w:World) (h:(rtB F T&&smB I&&decide (1≤L)&&decide (L≤I)&&keyOk k.data.toList&&smB N)=r):Calls Tryz.prog 302 #[.agg #[.int .i64 F,.int .i64 T,.int .i64 I,.int .i64 L,.string k,.int .i64 N]] w fun e w'=>e= .returned (.bool r)∧Below w.heap.size w w':=by
 have HQ:=hide h;clear h;cases hr:rtB F T
 case' false=>
  have HP:=hide (show(rtB F T&&smB I&&decide (1≤L)&&decide (L≤I)&&keyOk k.data.toList&&smB N)=false by simp[hr])
  have HR:=hide (fun w1=>routeOk F T false w1 hr)
  clear hr
  go_enter Tryz.func302,Tryz.ntmps302
  go_wp2_with (first|(go_at_call 300;refine(HR _).mono ?_;rintro e w2 ⟨rfl,hb2⟩;have hA:=blk_step (heap_alloc_new w _) hb2;have hB:=(below_one w _).trans (hb2.mono (by simp));obtain⟨c0,c1,c2,c3,c4,c5⟩:=cells6 hA;have hz:=blk_lt hA;clear hA hb2))
  go_ret
  exact⟨ret_bool (HP.symm.trans HQ),hB⟩
 have HR:=hide (fun w1=>routeOk F T true w1 hr);cases hc0:smB I
 case' false=>
  have HP:=hide (show(rtB F T&&smB I&&decide (1≤L)&&decide (L≤I)&&keyOk k.data.toList&&smB N)=false by simp[hr,hc0])
  have HC0:=hide (fun w1=>isSomeAmount I false w1 hc0)
  clear hr hc0
  go_enter Tryz.func302,Tryz.ntmps302
  go_wp2_with (first|(go_at_call 300;refine(HR _).mono ?_;rintro e w2 ⟨rfl,hb2⟩;have hA:=blk_step (heap_alloc_new w _) hb2;have hB:=(below_one w _).trans (hb2.mono (by simp));obtain⟨c0,c1,c2,c3,c4,c5⟩:=cells6 hA;have hz:=blk_lt hA;clear hA hb2)|(go_at_call_of 100 I;refine(HC0 _).mono ?_;rintro e w1 ⟨rfl,rfl⟩))
  go_ret
  exact⟨ret_bool (HP.symm.trans HQ),hB⟩
 have HC0:=hide (fun w1=>isSomeAmount I true w1 hc0);by_cases hd1:1≤L
 case' neg=>
  have HP:=hide (show(rtB F T&&smB I&&decide (1≤L)&&decide (L≤I)&&keyOk k.data.toList&&smB N)=false by simp[hr,hc0,hd1])
  clear hr hc0
  go_enter Tryz.func302,Tryz.ntmps302
  go_wp2_with (first|(go_at_call 300;refine(HR _).mono ?_;rintro e w2 ⟨rfl,hb2⟩;have hA:=blk_step (heap_alloc_new w _) hb2;have hB:=(below_one w _).trans (hb2.mono (by simp));obtain⟨c0,c1,c2,c3,c4,c5⟩:=cells6 hA;have hz:=blk_lt hA;clear hA hb2)|(go_at_call_of 100 I;refine(HC0 _).mono ?_;rintro e w1 ⟨rfl,rfl⟩))
  go_ret
  exact⟨ret_bool (HP.symm.trans HQ),hB⟩
 by_cases hd2:L≤I
 case' neg=>
  have HP:=hide (show(rtB F T&&smB I&&decide (1≤L)&&decide (L≤I)&&keyOk k.data.toList&&smB N)=false by simp[hr,hc0,hd1,hd2])
  clear hr hc0
  go_enter Tryz.func302,Tryz.ntmps302
  go_wp2_with (first|(go_at_call 300;refine(HR _).mono ?_;rintro e w2 ⟨rfl,hb2⟩;have hA:=blk_step (heap_alloc_new w _) hb2;have hB:=(below_one w _).trans (hb2.mono (by simp));obtain⟨c0,c1,c2,c3,c4,c5⟩:=cells6 hA;have hz:=blk_lt hA;clear hA hb2)|(go_at_call_of 100 I;refine(HC0 _).mono ?_;rintro e w1 ⟨rfl,rfl⟩))
  go_ret
  exact⟨ret_bool (HP.symm.trans HQ),hB⟩
 cases hc1:keyOk k.data.toList
 case' false=>
  have HP:=hide (show(rtB F T&&smB I&&decide (1≤L)&&decide (L≤I)&&keyOk k.data.toList&&smB N)=false by simp[hr,hc0,hd1,hd2,hc1])
  have HC1:=hide (fun w1=>implKeyR k false w1 hc1)
  clear hr hc0 hc1
  go_enter Tryz.func302,Tryz.ntmps302
  go_wp2_with (first|(go_at_call 300;refine(HR _).mono ?_;rintro e w2 ⟨rfl,hb2⟩;have hA:=blk_step (heap_alloc_new w _) hb2;have hB:=(below_one w _).trans (hb2.mono (by simp));obtain⟨c0,c1,c2,c3,c4,c5⟩:=cells6 hA;have hz:=blk_lt hA;clear hA hb2)|(go_at_call_of 100 I;refine(HC0 _).mono ?_;rintro e w1 ⟨rfl,rfl⟩)|(go_at_call_of 153 k;refine(HC1 _).mono ?_;rintro e w1 ⟨rfl,rfl⟩))
  go_ret
  exact⟨ret_bool (HP.symm.trans HQ),hB⟩
 have HC1:=hide (fun w1=>implKeyR k true w1 hc1);cases hc2:smB N
 case' false=>
  have HP:=hide (show(rtB F T&&smB I&&decide (1≤L)&&decide (L≤I)&&keyOk k.data.toList&&smB N)=false by simp[hr,hc0,hd1,hd2,hc1,hc2])
  have HC2:=hide (fun w1=>isSomeAmount N false w1 hc2)
  clear hr hc0 hc1 hc2
  go_enter Tryz.func302,Tryz.ntmps302
  go_wp2_with (first|(go_at_call 300;refine(HR _).mono ?_;rintro e w2 ⟨rfl,hb2⟩;have hA:=blk_step (heap_alloc_new w _) hb2;have hB:=(below_one w _).trans (hb2.mono (by simp));obtain⟨c0,c1,c2,c3,c4,c5⟩:=cells6 hA;have hz:=blk_lt hA;clear hA hb2)|(go_at_call_of 100 I;refine(HC0 _).mono ?_;rintro e w1 ⟨rfl,rfl⟩)|(go_at_call_of 153 k;refine(HC1 _).mono ?_;rintro e w1 ⟨rfl,rfl⟩)|(go_at_call_of 100 N;refine(HC2 _).mono ?_;rintro e w1 ⟨rfl,rfl⟩))
  go_ret
  exact⟨ret_bool (HP.symm.trans HQ),hB⟩
 have HC2:=hide (fun w1=>isSomeAmount N true w1 hc2);have HP:=hide (show(rtB F T&&smB I&&decide (1≤L)&&decide (L≤I)&&keyOk k.data.toList&&smB N)=true by simp[hr,hc0,hd1,hd2,hc1,hc2]);clear hr hc0 hc1 hc2;go_enter Tryz.func302,Tryz.ntmps302
 go_wp2_with (first|(go_at_call 300;refine(HR _).mono ?_;rintro e w2 ⟨rfl,hb2⟩;have hA:=blk_step (heap_alloc_new w _) hb2;have hB:=(below_one w _).trans (hb2.mono (by simp));obtain⟨c0,c1,c2,c3,c4,c5⟩:=cells6 hA;have hz:=blk_lt hA;clear hA hb2)|(go_at_call_of 100 I;refine(HC0 _).mono ?_;rintro e w1 ⟨rfl,rfl⟩)|(go_at_call_of 153 k;refine(HC1 _).mono ?_;rintro e w1 ⟨rfl,rfl⟩)|(go_at_call_of 100 N;refine(HC2 _).mono ?_;rintro e w1 ⟨rfl,rfl⟩))
 exact Za112
theorem ackOk (F T I:Int) (r:Bool) (w:World) (h:(rtB F T&&smB I)=r):Calls Tryz.prog 303 #[.agg #[.int .i64 F,.int .i64 T,.int .i64 I]] w fun e w'=>e= .returned (.bool r)∧Below w.heap.size w w':=by
 have HQ:=hide h;clear h;cases hr:rtB F T
 case' false=>
  have HP:=hide (show(rtB F T&&smB I)=false by simp[hr])
  have HR:=hide (fun w1=>routeOk F T false w1 hr)
  clear hr
  go_enter Tryz.func303,Tryz.ntmps303
  go_wp2_with (first|(go_at_call 300;refine(HR _).mono ?_;rintro e w2 ⟨rfl,hb2⟩;have hA:=blk_step (heap_alloc_new w _) hb2;have hB:=(below_one w _).trans (hb2.mono (by simp));obtain⟨c0,c1,c2⟩:=cells3 hA;have hz:=blk_lt hA;clear hA hb2))
  go_ret
  exact⟨ret_bool (HP.symm.trans HQ),hB⟩
 have HR:=hide (fun w1=>routeOk F T true w1 hr);cases hc0:smB I
 case' false=>
  have HP:=hide (show(rtB F T&&smB I)=false by simp[hr,hc0])
  have HC0:=hide (fun w1=>isSomeAmount I false w1 hc0)
  clear hr hc0
  go_enter Tryz.func303,Tryz.ntmps303
  go_wp2_with (first|(go_at_call 300;refine(HR _).mono ?_;rintro e w2 ⟨rfl,hb2⟩;have hA:=blk_step (heap_alloc_new w _) hb2;have hB:=(below_one w _).trans (hb2.mono (by simp));obtain⟨c0,c1,c2⟩:=cells3 hA;have hz:=blk_lt hA;clear hA hb2)|(go_at_call_of 100 I;refine(HC0 _).mono ?_;rintro e w1 ⟨rfl,rfl⟩))
  go_ret
  exact⟨ret_bool (HP.symm.trans HQ),hB⟩
 have HC0:=hide (fun w1=>isSomeAmount I true w1 hc0);have HP:=hide (show(rtB F T&&smB I)=true by simp[hr,hc0]);clear hr hc0;go_enter Tryz.func303,Tryz.ntmps303
 go_wp2_with (first|(go_at_call 300;refine(HR _).mono ?_;rintro e w2 ⟨rfl,hb2⟩;have hA:=blk_step (heap_alloc_new w _) hb2;have hB:=(below_one w _).trans (hb2.mono (by simp));obtain⟨c0,c1,c2⟩:=cells3 hA;have hz:=blk_lt hA;clear hA hb2)|(go_at_call_of 100 I;refine(HC0 _).mono ?_;rintro e w1 ⟨rfl,rfl⟩))
 exact Za112
theorem eleven_at {w:World} {g:Nat} {a0 a1 a2 a3 a4 a5 a6 a7 a8 a9 a10:Value} {t:TypeId} (h:w.heap[g]?=some (.cells #[a0,a1,a2,a3,a4,a5,a6,a7,a8,a9,a10] t (0,0))):
 (w.cell? ⟨g,0,none⟩=some a0∧w.cell? ⟨g,1,none⟩=some a1∧w.cell? ⟨g,2,none⟩=some a2∧w.cell? ⟨g,3,none⟩=some a3∧w.cell? ⟨g,4,none⟩=some a4∧w.cell? ⟨g,5,none⟩=some a5∧w.cell? ⟨g,6,none⟩=some a6∧w.cell? ⟨g,7,none⟩=some a7∧w.cell? ⟨g,8,none⟩=some a8∧w.cell? ⟨g,9,none⟩=some a9∧w.cell? ⟨g,10,none⟩=some a10)∧(w.frozen? ⟨g,0,none⟩=false∧w.frozen? ⟨g,1,none⟩=false∧w.frozen? ⟨g,2,none⟩=false∧w.frozen? ⟨g,3,none⟩=false∧w.frozen? ⟨g,4,none⟩=false∧w.frozen? ⟨g,5,none⟩=false∧w.frozen? ⟨g,6,none⟩=false∧w.frozen? ⟨g,7,none⟩=false∧w.frozen? ⟨g,8,none⟩=false∧w.frozen? ⟨g,9,none⟩=false∧w.frozen? ⟨g,10,none⟩=false):=by
 have hf:∀i,w.frozen? ⟨g,i,none⟩=false:=fun i=>by unfold World.frozen?;rw [h];simp
 have hc:∀i,w.cell? ⟨g,i,none⟩=#[a0,a1,a2,a3,a4,a5,a6,a7,a8,a9,a10][i]?:=fun i=>cell_of_row w g i _ t (0,0) h
 exact⟨⟨hc 0,hc 1,hc 2,hc 3,hc 4,hc 5,hc 6,hc 7,hc 8,hc 9,hc 10⟩,hf 0,hf 1,hf 2,hf 3,hf 4,hf 5,hf 6,hf 7,hf 8,hf 9,hf 10⟩
theorem eleven_set {w:World} {g:Nat} {a0 a1 a2 a3 a4 a5 a6 a7 a8 a9 a10 b0 b1 b2 b3 b4 b5 b6 b7 b8 b9 b10:Value} {t:TypeId} (h:w.heap[g]?=some (.cells #[a0,a1,a2,a3,a4,a5,a6,a7,a8,a9,a10] t (0,0))):(((((((((((w.setCell ⟨g,0,none⟩ b0).setCell ⟨g,1,none⟩ b1).setCell ⟨g,2,none⟩ b2).setCell ⟨g,3,none⟩ b3).setCell ⟨g,4,none⟩ b4).setCell ⟨g,5,none⟩ b5).setCell ⟨g,6,none⟩ b6).setCell ⟨g,7,none⟩ b7).setCell ⟨g,8,none⟩ b8).setCell ⟨g,9,none⟩ b9).setCell ⟨g,10,none⟩ b10).heap[g]?=some (.cells #[b0,b1,b2,b3,b4,b5,b6,b7,b8,b9,b10] t (0,0)):=
 GR.setW_blk [b0,b1,b2,b3,b4,b5,b6,b7,b8,b9,b10] (o:=0) (xs:=[a0,a1,a2,a3,a4,a5,a6,a7,a8,a9,a10]) h
theorem eleven_set_below {a w:World} {B g:Nat} {b0 b1 b2 b3 b4 b5 b6 b7 b8 b9 b10:Value} (h:Below B a w) (hg:B≤g):Below B a (((((((((((w.setCell ⟨g,0,none⟩ b0).setCell ⟨g,1,none⟩ b1).setCell ⟨g,2,none⟩ b2).setCell ⟨g,3,none⟩ b3).setCell ⟨g,4,none⟩ b4).setCell ⟨g,5,none⟩ b5).setCell ⟨g,6,none⟩ b6).setCell ⟨g,7,none⟩ b7).setCell ⟨g,8,none⟩ b8).setCell ⟨g,9,none⟩ b9).setCell ⟨g,10,none⟩ b10):=
 GR.setW_below hg [b0,b1,b2,b3,b4,b5,b6,b7,b8,b9,b10] (o:=0) h
theorem eleven_tail {w:World} {g:Nat} {a0 a1 a2 a3 a4 a5 a6 a7 a8 a9 a10 b4 b5 b6 b7 b8 b9 b10:Value} {t:TypeId} (h:w.heap[g]?=some (.cells #[a0,a1,a2,a3,a4,a5,a6,a7,a8,a9,a10] t (0,0))):(((((((w.setCell ⟨g,4,none⟩ b4).setCell ⟨g,5,none⟩ b5).setCell ⟨g,6,none⟩ b6).setCell ⟨g,7,none⟩ b7).setCell ⟨g,8,none⟩ b8).setCell ⟨g,9,none⟩ b9).setCell ⟨g,10,none⟩ b10).heap[g]?=some (.cells #[a0,a1,a2,a3,b4,b5,b6,b7,b8,b9,b10] t (0,0)):=
 GR.setW_blk [b4,b5,b6,b7,b8,b9,b10] (o:=4) (xs:=[a0,a1,a2,a3,a4,a5,a6,a7,a8,a9,a10]) h
theorem eleven_tail_below {a w:World} {B g:Nat} {b4 b5 b6 b7 b8 b9 b10:Value} (h:Below B a w) (hg:B≤g):Below B a (((((((w.setCell ⟨g,4,none⟩ b4).setCell ⟨g,5,none⟩ b5).setCell ⟨g,6,none⟩ b6).setCell ⟨g,7,none⟩ b7).setCell ⟨g,8,none⟩ b8).setCell ⟨g,9,none⟩ b9).setCell ⟨g,10,none⟩ b10):=
 GR.setW_below hg [b4,b5,b6,b7,b8,b9,b10] (o:=4) h
theorem eleven_tail_other {w:World} {g g':Nat} {b4 b5 b6 b7 b8 b9 b10:Value} (hne:g'≠g):(((((((w.setCell ⟨g,4,none⟩ b4).setCell ⟨g,5,none⟩ b5).setCell ⟨g,6,none⟩ b6).setCell ⟨g,7,none⟩ b7).setCell ⟨g,8,none⟩ b8).setCell ⟨g,9,none⟩ b9).setCell ⟨g,10,none⟩ b10).heap[g']?=w.heap[g']?:=
 GR.setW_other hne [b4,b5,b6,b7,b8,b9,b10] (o:=4)
theorem bodyPost_atE {P:Program} {fn:Func} {Q:Ending→World→Prop} {x:Exit} {act:Act} {W:World} (h:∀W',W'=W→bodyPost P fn Q x act W'):bodyPost P fn Q x act W:=h W rfl
theorem allocsE2 (w:World) (a b:Obj):((w.alloc a).alloc b).heap[w.heap.size]?=some a∧((w.alloc a).alloc b).heap[w.heap.size+1]?=some b∧Below w.heap.size w ((w.alloc a).alloc b):=by
 have e1:(w.alloc a).heap.size=w.heap.size+1:=by simp
 have h4:=heap_alloc_new (w.alloc a) b;have h6:=Below.heap_alloc (w.alloc a) b w.heap.size (by omega);rw [e1] at h4;exact⟨h6.trans (heap_alloc_new w a),h4,(below_one w a).alloc (by omega) b⟩
set_option maxHeartbeats 4000000
theorem settle_no (wb:Nat) (a:Option Addr) (len cp:Nat) (w:World):Calls Tryz.prog 158 #[.pointer (some ⟨wb,0,none⟩),.slice a len cp,.bool false] w fun e w'=>e= .returned (.bool false)∧w=w':=by
 go_enter Tryz.func158,Tryz.ntmps158
 exact Za58
theorem settle_yes (wb:Nat) (n:Nd) (A:Ads) (v:Value) (a:Option Addr) (len cp:Nat) (w:World) (h:w.heap[wb]?=some (.cells (wkc n A v) 74 (0,0))):Calls Tryz.prog 158 #[.pointer (some ⟨wb,0,none⟩),.slice a len cp,.bool true] w fun e w'=>e= .returned (.bool true)∧w.setCell ⟨wb,4,none⟩ (.slice a len cp)=w':=by
 obtain⟨c0,c1,c2,c3,c4,c5,c6,c7,c8,c9⟩:=tenC h;have f4:=obj_free h 4;clear h;go_enter Tryz.func158,Tryz.ntmps158
 exact Za58
theorem settleW {w0 w x:World} {wb:Nat} {n:Nd} {A:Ads} {G:Blks} {c:Nat→Nat} {v:Value} {L:List Mg} (h:WK w0 w wb n A G c v L) {r:List Pu×Bool} {a:Option Addr} {cp g:Nat} (hb:Below w.heap.size w x) (hg:w.heap.size≤g) (hp:PuW x a g r.1):
 Calls Tryz.prog 158 #[.pointer (some ⟨wb,0,none⟩),.slice a r.1.length cp,.bool r.2] x fun e w'=>e= .returned (.bool r.2)∧∃A' G' c',WK w0 w' wb (if r.2=true then setPu n r.1 else n) A' G' c' v L:=by
 obtain⟨l,b⟩:=r;cases b with
 |false=>
  refine(settle_no wb a l.length cp x).mono ?_
  rintro e w' ⟨rfl,rfl⟩
  exact⟨rfl,A,G,c,h.step hb⟩
 |true=>
  refine(settle_yes wb n A v a l.length cp x (h.step hb).blk).mono ?_
  rintro e w' ⟨rfl,rfl⟩
  exact⟨rfl,_,_,_,h.setPu hb hp (fun y hy=>by rw [(of_fp hy).1];exact hg)⟩
def mintN (n:Nd) (o:Op5):Nd×Int:=if n.par= -1∧(addP n.pu o.k 1 1 0 o.n).2=true then(setPu n (addP n.pu o.k 1 1 0 o.n).1,0) else(n,1)
theorem wkMint_no (w0 w:World) (wb:Nat) (n:Nd) (A:Ads) (G:Blks) (c:Nat→Nat) (v:Value) (L:List Mg) (o:Op5) (hpar:¬n.par= -1) (h:WK w0 w wb n A G c v L):
 Calls Tryz.prog 106 #[.pointer (some ⟨wb,0,none⟩),opw o] w fun e w'=>e= .returned (.int .i64 (mintN n o).2)∧∃A' G' c',WK w0 w' wb (mintN n o).1 A' G' c' v L:=by
 have hR:mintN n o=(n,1):=if_neg (fun hx=>hpar hx.1);rw [hR];have hq:(n.par != -1)=true:=by simpa using hpar
 have hq2:(n.par == -1)=false:=by simpa using hpar
 have HW:=hide h;obtain⟨K,no,k,nn,⟨mK,mF,mT,mI,mL,mk,mN⟩⟩:=o;open Sa41 in exact Ya12
theorem wkMint_yes (w0 w:World) (wb:Nat) (n:Nd) (A:Ads) (G:Blks) (c:Nat→Nat) (v:Value) (L:List Mg) (o:Op5) (E:Nat→Addr) (hz:NdSz n 1048576) (hk:o.k.size≤1048576) (hpar:n.par= -1) (h:WK w0 w wb n A G c v L) (he:Errs w0 E):
 Calls Tryz.prog 106 #[.pointer (some ⟨wb,0,none⟩),opw o] w fun e w'=>e= .returned (.int .i64 (mintN n o).2)∧∃A' G' c',WK w0 w' wb (mintN n o).1 A' G' c' v L:=by
 have hR:mintN n o=((if (addP n.pu o.k 1 1 0 o.n).2=true then setPu n (addP n.pu o.k 1 1 0 o.n).1 else n),(if (addP n.pu o.k 1 1 0 o.n).2=true then 0 else 1)):=by
  unfold mintN;cases hb:(addP n.pu o.k 1 1 0 o.n).2<;>simp[hpar]
 rw [hR];have hq:(n.par != -1)=false:=by simpa using hpar
 have hq2:(n.par == -1)=true:=by simpa using hpar
 have HW:=hide h;have HMI:=hide (fun w1 (hb:Below w.heap.size w w1)=>implMint A.p A.cp n.pu o.k o.n E w1 hz.p hz.pk hk (GR.At.below h.no.p.at hb) (he.below (h.keep.trans (hb.mono h.keep.size))));unfold GivesP at HMI;obtain⟨K,no,k,nn,⟨mK,mF,mT,mI,mL,mk,mN⟩⟩:=o;dsimp only at HMI ⊢;generalize addP n.pu k 1 1 0 nn=r at *;open Sa40 in exact Ya12
theorem wkMint (w0 w:World) (wb:Nat) (n:Nd) (A:Ads) (G:Blks) (c:Nat→Nat) (v:Value) (L:List Mg) (o:Op5) (E:Nat→Addr) (hz:NdSz n 1048576) (hk:o.k.size≤1048576) (h:WK w0 w wb n A G c v L) (he:Errs w0 E):
 Calls Tryz.prog 106 #[.pointer (some ⟨wb,0,none⟩),opw o] w fun e w'=>e= .returned (.int .i64 (mintN n o).2)∧∃A' G' c',WK w0 w' wb (mintN n o).1 A' G' c' v L:=by
 by_cases hpar:n.par= -1
 ·exact wkMint_yes w0 w wb n A G c v L o E hz hk hpar h he
 ·exact wkMint_no w0 w wb n A G c v L o hpar h
end Go.Proofs.YtppmcficiphgdaaGreatDoor
