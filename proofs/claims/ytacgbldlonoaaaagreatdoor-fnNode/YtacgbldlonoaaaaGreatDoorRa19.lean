/- Parts. -/
import Derived.Test.YtacgbldlonoaaaaGreatDoorRa17
import Derived.Test.YtacgbldlonoaaaaGreatDoorRa18
namespace Go.Proofs.YtacgbldlonoaaaaGreatDoor
set_option maxHeartbeats 4000000
set_option maxRecDepth 100000
open Go.RowKit
open Mth
theorem WK.reqPut {w0 w w6:World} {wb:Nat} {n:Nd} {A:bE} {G:aU} {c:Nat→Nat} {v:Value} {L:List Mg} {a6:Option Addr} {c6:Nat} {l:List Rq} (h:WK w0 w wb n A G c v L)
 (hown:w6.ownsRow w0.heap.size 97 4 (.slice a6 l.length c6) l.length (GR.flat aK l)) (hg:w.grownBy w6 (Value.slice A.r n.reqs.length A.cr).ownBlock) (hv:∀x,(Value.slice a6 l.length c6).ownBlock=some x→(Value.slice A.r n.reqs.length A.cr).ownBlock=some x∨w.heap.size≤x):
 w6.heap[wb]?=some (.cells (FE n A v) 74 (0,0))∧WK w0 (w6.setCell ⟨wb,8,none⟩ (.slice a6 l.length c6)) wb (dD n l) ⟨A.k,A.p,A.o,A.s,a6,A.ck,A.cp,A.co,A.cs,c6⟩ G (newC w.heap.size 6 c) v L:=by
 have h1:=h.recol (c':=newC w.heap.size 6 c) (fun x hx=>dH hx);have hk1:KC (newC w.heap.size 6 c) 6 w w6:=KC.grown hg h1.no.cr;have hblk:=hk1.obj h1.blk (by rw [h1.cw];omega);have hkeep:=hk1.below h1.keep h1.no.lo (by omega) h1.keep.size;have hk2:KC (newC w.heap.size 6 c) 8 w6 (w6.setCell ⟨wb,8,none⟩ (.slice a6 l.length c6)):=KC.set h1.cw
 have hcr:∀x,(Value.slice a6 l.length c6).ownBlock=some x→newC w.heap.size 6 c x=6:=fun x hx=>by
  rcases hv x hx with hx'|hx'
  ·exact h1.no.cr x hx'
  ·exact aT hx'
 have hno:=h1.no;refine⟨hblk,hk2.below hkeep hno.lo (by omega) hkeep.size,?_,⟨?_,?_,?_,?_,?_,hno.lo,hno.ck,hno.cp,hno.co,hno.c4,hno.ci,hcr,hno.ni⟩,?_,h1.cm,h1.cw⟩
 ·exact bg hblk 8 (.slice a6 l.length c6)
 ·exact hk2.w (hk1.w hno.k hno.ck (by omega)) hno.ck (by omega)
 ·exact hk2.w (hk1.w hno.p hno.cp (by omega)) hno.cp (by omega)
 ·exact hk2.own (hk1.own hno.o hno.co (by omega)) hno.co (by omega)
 ·exact Zp
 ·exact hk2.own hown hcr (by omega)
 ·exact hk2.own (hk1.own h1.m h1.cm (by omega)) h1.cm (by omega)
theorem WK.oldPut {w0 w:World} {wb:Nat} {n:Nd} {A:bE} {G:aU} {c:Nat→Nat} {v:Value} {L:List Mg} (h:WK w0 w wb n A G c v L) (y:Int):WK w0 (w.setCell ⟨wb,7,none⟩ (.int .i64 y)) wb (jR n y) A G c v L:=by
 have hk2:KC c 8 w (w.setCell ⟨wb,7,none⟩ (.int .i64 y)):=KC.set h.cw;have hno:=h.no.kc hk2 (by omega);exact⟨hk2.below h.keep h.no.lo (by omega) h.keep.size,bg h.blk 7 (.int .i64 y),⟨hno.k,hno.p,hno.o,hno.s,hno.r,hno.lo,hno.ck,hno.cp,hno.co,hno.c4,hno.ci,hno.cr,hno.ni⟩,hk2.own h.m h.cm (by omega),h.cm,h.cw⟩
def xU (n:Nd) (q:Rq) (i:Nat):Nd:=if 30 < (mG n.reqs i q).length then dD (jR n ((mG n.reqs i q).headD default).no) ((mG n.reqs i q).drop 1) else dD n (mG n.reqs i q)
theorem zO (n:Nd) (q:Rq):xU n q (dx n.reqs q.no)=jO n q:=by
 unfold xU jO;rw [show mG n.reqs (dx n.reqs q.no) q=nN n.reqs q from rfl,List.drop_one]
theorem TK (w0 w:World) (wb:Nat) (n:Nd) (A:bE) (G:aU) (c:Nat→Nat) (v:Value) (L:List Mg) (q:Rq) (i:Nat) (hi:i≤n.reqs.length) (hr:n.reqs.length≤30) (h:WK w0 w wb n A G c v L):
 Calls Tryz.prog 166 #[.pointer (some ⟨wb,0,none⟩),.agg #[.int .i64 q.no,.string q.k,.int .i64 q.n,.int .i64 q.s],.int .i64 i] w fun e w'=>e= .returned (.tuple #[])∧∃A' G' c',WK w0 w' wb (xU n q i) A' G' c' v L:=by
 have HW:=hide h;have HW1:=hide (h.step (au w (.cells #[.int .i64 q.no,.string q.k,.int .i64 q.n,.int .i64 q.s] 97)));have uL:=hide (heap_alloc_new w (.cells #[.int .i64 q.no,.string q.k,.int .i64 q.n,.int .i64 q.s] 97));clear h;have hlen:=Hu n.reqs i q hi;obtain⟨c0,c1,c2,c3,c4,c5,c6,c7,c8,c9⟩:=gY HW1.blk;obtain⟨p0,p1,p2,p3⟩:=eY uL;have hwl:=aA HW.blk;have hne:wb≠w.heap.size:=by omega
 go_enter Tryz.func166,Tryz.ntmps166
 go_upto_region 1 with fail;have y8:=cell_regrown c8;have z0:=cell_regrown p0;have z1:=cell_regrown p1;have z2:=cell_regrown p2;have z3:=cell_regrown p3;clear c0 c1 c2 c3 c4 c5 c6 c7 c8 c9 p0 p1 p2 p3;refine jU (by kernel_rfl) ?_;show qY _ _ _ _ 14 (Array.replicate 14 false) _ _
 open akA in exact Yp
end Go.Proofs.YtacgbldlonoaaaaGreatDoor
