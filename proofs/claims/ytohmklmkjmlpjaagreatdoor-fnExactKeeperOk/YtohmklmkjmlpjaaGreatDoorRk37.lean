/- Parts. -/
import Derived.Test.YtohmklmkjmlpjaaGreatDoorRk10
import Derived.Test.YtohmklmkjmlpjaaGreatDoorRk28
import Derived.Test.YtohmklmkjmlpjaaGreatDoorRk18
namespace Go.Proofs.YtohmklmkjmlpjaaGreatDoor
open Go.Proofs.Tryz
set_option maxHeartbeats 8000000
set_option maxRecDepth 100000
open Go.RowKit
open Mth
variable (w0 w:World) (wb:Nat) (n:Nd) (A:bQ) (G:aX) (c:Nat->Nat) (v:Value) (L:List Mg) {g:Nat} {s:ByteArray}
theorem BI (wb:Nat) (a:Option Addr) (len cp:Nat) (w:World):Calls prog 209 #[.pointer (some ⟨wb,0,none⟩),.slice a len cp,.bool false] w λe w'=>e= .returned (.bool false)/\w=w':=by
 go_in
 exact Og
theorem yE (wb:Nat) (n:Nd) (A:bQ) (v:Value) (a:Option Addr) (len cp:Nat) (w:World) (h:w.heap[wb]?=some (.cells (VR n A v) 192 (0,0))):Calls prog 209 #[.pointer (some ⟨wb,0,none⟩),.slice a len cp,.bool true] w λe w'=>e= .returned (.bool true)/\w.setCell ⟨wb,4,none⟩ (.slice a len cp)=w':=by
 obtain⟨c0,c1,c2,c3,c4,c5,c6,c7,c8,c9⟩:=jE h;have f4:=aj h 4;clear h;go_in
 exact Og
theorem VJ {w0 w x:World} {wb:Nat} {n:Nd} {A:bQ} {G:aX} {c:Nat->Nat} {v:Value} {L:List Mg} (h:WK w0 w wb n A G c v L) {r:List Pu×Bool} {a:Option Addr} {cp g:Nat} (hb:aI w x) (hg:w.heap.size<=g) (hp:wK x a g r.1):
 Calls prog 209 #[.pointer (some ⟨wb,0,none⟩),.slice a r.1.length cp,.bool r.2] x λe w'=>e= .returned (.bool r.2)/\∃A' G' c',WK w0 w' wb (if r.2=true then setPu n r.1 else n) A' G' c' v L:=by
 obtain⟨l,b⟩:=r;cases b with
 |false=>
  refine(BI wb a l.length cp x).mono ?_;rintro e w' ⟨rfl,rfl⟩;exact⟨rfl,A,G,c,h.step hb⟩
 |true=>
  refine(yE wb n A v a l.length cp x (h.step hb).blk).mono ?_;rintro e w' ⟨rfl,rfl⟩;exact⟨rfl,_,_,_,h.setPu hb hp (λy hy=>by rw [(dY hy).1];exact hg)⟩
def uI (n:Nd) (o:gK):Nd×Int:=if n.par= -1/\(dJ n.pu o.k 1 1 0 o.n).2=true then(setPu n (dJ n.pu o.k 1 1 0 o.n).1,0) else(n,1)
theorem Yu (o:gK) (hpar:¬n.par= -1) (h:WK w0 w wb n A G c v L):
 Calls prog 175 #[.pointer (some ⟨wb,0,none⟩),jG o] w λe w'=>e= .returned (.int .i64 (uI n o).2)/\∃A' G' c',WK w0 w' wb (uI n o).1 A' G' c' v L:=by
 have hR:uI n o=(n,1):=if_neg (λhx=>hpar hx.1);rw [hR];have hq:(n.par != -1)=true:=Abg
 have hq2:(n.par == -1)=false:=Abg
 have HW:=Hq h;obtain⟨K,no,k,nn,⟨mK,mF,mT,mI,mL,mk,mN⟩⟩:=o;open aom in exact Ws
theorem Uo (o:gK) (E:Nat->Addr) (hz:eU n 1048576) (hk:o.k.size<=1048576) (hpar:n.par= -1) (h:WK w0 w wb n A G c v L) (he:iG w0 E):
 Calls prog 175 #[.pointer (some ⟨wb,0,none⟩),jG o] w λe w'=>e= .returned (.int .i64 (uI n o).2)/\∃A' G' c',WK w0 w' wb (uI n o).1 A' G' c' v L:=by
 have hR:uI n o=((if (dJ n.pu o.k 1 1 0 o.n).2=true then setPu n (dJ n.pu o.k 1 1 0 o.n).1 else n),(if (dJ n.pu o.k 1 1 0 o.n).2=true then 0 else 1)):=by
  unfold uI;cases hb:(dJ n.pu o.k 1 1 0 o.n).2<;>simp[hpar]
 rw [hR];have hq:(n.par != -1)=false:=Abg
 have hq2:(n.par == -1)=true:=Abg
 have HW:=Hq h;have HMI:=Hq (λw1 (hb:aI w w1)=>abJ A.p A.cp n.pu o.k o.n E w1 hz.p hz.pk hk (GR.At.below h.no.p.at hb) (he.below (h.keep.trans (hb.mono h.keep.size))));unfold jM at HMI;obtain⟨K,no,k,nn,⟨mK,mF,mT,mI,mL,mk,mN⟩⟩:=o;dsimp only at HMI ⊢;generalize dJ n.pu k 1 1 0 nn=r at *;open aol in exact Ws
theorem alg (o:gK) (E:Nat->Addr) (hz:eU n 1048576) (hk:o.k.size<=1048576) (h:WK w0 w wb n A G c v L) (he:iG w0 E):
 Calls prog 175 #[.pointer (some ⟨wb,0,none⟩),jG o] w λe w'=>e= .returned (.int .i64 (uI n o).2)/\∃A' G' c',WK w0 w' wb (uI n o).1 A' G' c' v L:=by
 by_cases hpar:n.par= -1
 .exact Uo w0 w wb n A G c v L o E hz hk hpar h he
 .exact Yu w0 w wb n A G c v L o hpar h
theorem WK.app {w0 w w6:World} {wb:Nat} {n:Nd} {A:bQ} {G:aX} {c:Nat->Nat} {v v':Value} {L:List Mg} (h:WK w0 w wb n A G c v L) (m:Mg) (hown:w6.ownsRow w0.heap.size 98 7 v' (L.length+1) (GR.flat lK L++lK m)) (hg:w.grownBy w6 v.ownBlock) (hv:∀x,v'.ownBlock=some x->v.ownBlock=some x\/w.heap.size<=x):
 w6.heap[wb]?=some (.cells (VR n A v) 192 (0,0))/\WK w0 (w6.setCell ⟨wb,9,none⟩ v') wb n A G (newC w.heap.size 7 c) v' (L++[m]):=by
 have h1:=h.recol (c':=newC w.heap.size 7 c) (λx hx=>fq hx);have hk1:KC (newC w.heap.size 7 c) 7 w w6:=KC.grown hg h1.cm;have hblk:=hk1.obj h1.blk (by rw [h1.cw];omega);have hno:=h1.no.kc hk1 Aaa;have hkeep:=hk1.below h1.keep h1.no.lo Aaa h1.keep.size;have hk2:KC (newC w.heap.size 7 c) 8 w6 (w6.setCell ⟨wb,9,none⟩ v'):=KC.set h1.cw
 have hcm:∀x,v'.ownBlock=some x->newC w.heap.size 7 c x=7:=λx hx=>by
  rcases hv x hx with hx'|hx'
  .exact h1.cm x hx'
  .exact bJ hx'
 refine⟨hblk,hk2.below hkeep h1.no.lo Aaa hkeep.size,aN hblk 9 v',hno.kc hk2 Aaa,?_,hcm,h1.cw⟩;rw [List.length_append,jh];exact hk2.own hown hcm Aaa
theorem VQ (m:Mg) (hk:m.k.size<=1048600) (hL:L.length<=2097200) (h:WK w0 w wb n A G c v L):
 Calls prog 215 #[.pointer (some ⟨wb,0,none⟩),nK m] w λe w'=>e= .returned (.tuple #[])/\∃c' v',WK w0 w' wb n A G c' v' (L++[m]):=by
 obtain⟨i0,hi,hz0,hz1,hz2⟩:=info_parts Vr;have HS:=Hq h;clear h;obtain⟨va,vc,hv,_⟩:=GR.own_at (enc:=lK) (sz:=7) (l:=L) qE HS.m;subst hv;obtain⟨mK,mF,mT,mI,mL,mk,mN⟩:=m;dsimp only at hk;have HX0:=Hq (heap_alloc_new w (.cells (bV mK mF mT mI mL mk mN) 98));go_in
 go_wp2_with fail;refine(clone mk _ Aaa).mono ?_;rintro e w1 ⟨rfl,hb1⟩;have AP:=Hq (au HX0 hb1);have HB1:=Hq ((ay w _).trans (hb1.mono Aac));clear hb1 HX0;have WY:=aj AP 5;obtain⟨x0,x1,x2,x3,x4,x5,x6⟩:=jD AP;go_upto_region 2 with fail;refine wp_at (λW hW=>?_);have HXW:Hid (W.heap[w.heap.size]?=some (.cells (bV mK mF mT mI mL mk mN) 98 (0,0))):=by rw [hW];exact aN AP 5 (.string mk)
 have iR:Hid (aI w W):=by rw [hW];exact HB1.setCell (p:=⟨w.heap.size,5,none⟩) (Nat.le_refl _) _
 clear hW HB1 AP WY x0 x1 x2 x3 x4 x5 x6;have HSW:=Hq (HS.step iR);have hwl:=aA HS.blk;have hne:wb≠w.heap.size:=Aaa
 have hlW:=aA HXW;obtain⟨x0,x1,x2,x3,x4,x5,x6⟩:=jD HXW;obtain⟨c0,c1,c2,c3,c4,c5,c6,c7,c8,c9⟩:=jE HSW.blk;have y9:=cell_regrown c9;have z0:=cell_regrown x0;have z1:=cell_regrown x1;have z2:=cell_regrown x2;have z3:=cell_regrown x3;have z4:=cell_regrown x4;have z5:=cell_regrown x5;have z6:=cell_regrown x6;clear x0 x1 x2 x3 x4 x5 x6 c0 c1 c2 c3 c4 c5 c6 c7 c8 c9;refine lY Aab ?_;show vP _ _ _ _ 11 (Array.replicate 11 false) _ _
 open aqp in exact ajH
def F5 (n:Nd) (o:gK):List Mg×Int:=if n.par= -1 then([],1) else([J5 n o],0)
theorem ali (o:gK) (hk:o.k.size<=1048576) (hL:L.length<=2097100) (h:WK w0 w wb n A G c v L):
 Calls prog 178 #[.pointer (some ⟨wb,0,none⟩),jG o] w λe w'=>e= .returned (.int .i64 (F5 n o).2)/\∃c' v',WK w0 w' wb n A G c' v' (L++(F5 n o).1):=by
 have HSY:=Hq (λW c v (hW:WK w0 W wb n A G c v L)=>VQ w0 W wb n A G c v L (J5 n o) (by show o.k.size<=1048600;omega) Aaa hW);unfold J5 at HSY;have hwl:=aA h.blk;have hne:wb≠w.heap.size:=Aaa
 by_cases hpar:n.par= -1
 .have hR:F5 n o=([],1):=if_pos hpar;rw [hR];open atE in exact ZV
 .have hR:F5 n o=([J5 n o],0):=if_neg hpar;rw [hR];unfold J5;obtain⟨K,no,k,nn,⟨mK,mF,mT,mI,mL,mk,mN⟩⟩:=o;dsimp only at HSY ⊢;open aon in exact Ws
theorem oJ {w:World} {a0 a1 a2 a3 b0 b1 b2 b3:Value} {t:TypeId} (h:w.heap[g]?=some (.cells #[a0,a1,a2,a3] t (0,0))):((((w.setCell ⟨g,0,none⟩ b0).setCell ⟨g,1,none⟩ b1).setCell ⟨g,2,none⟩ b2).setCell ⟨g,3,none⟩ b3).heap[g]?=some (.cells #[b0,b1,b2,b3] t (0,0)):=
 GR.setW_blk [b0,b1,b2,b3] (o:=0) (xs:=[a0,a1,a2,a3]) h
theorem iU {a w:World} {B:Nat} {b0 b1 b2 b3:Value} (h:Below B a w) (hg:B<=g):Below B a ((((w.setCell ⟨g,0,none⟩ b0).setCell ⟨g,1,none⟩ b1).setCell ⟨g,2,none⟩ b2).setCell ⟨g,3,none⟩ b3):=
 GR.setW_below hg [b0,b1,b2,b3] (o:=0) h
theorem WK.outApp {w0 w w6:World} {wb:Nat} {n:Nd} {A:bQ} {G:aX} {c:Nat->Nat} {v:Value} {L:List Mg} {a6:Option Addr} {c6:Nat} (h:WK w0 w wb n A G c v L) (s:jK) (hown:w6.ownsRow w0.heap.size 91 4 (.slice a6 (n.out.length+1) c6) (n.out.length+1) (GR.flat aS n.out++aS s)) (hg:w.grownBy w6 (Value.slice A.o n.out.length A.co).ownBlock) (hv:∀x,(Value.slice a6 (n.out.length+1) c6).ownBlock=some x->(Value.slice A.o n.out.length A.co).ownBlock=some x\/w.heap.size<=x):
 w6.heap[wb]?=some (.cells (VR n A v) 192 (0,0))/\KC (newC w.heap.size 3 c) 3 w w6/\WK w0 (w6.setCell ⟨wb,5,none⟩ (.slice a6 (n.out.length+1) c6)) wb (setOut n (n.out++[s])) ⟨A.k,A.p,a6,A.s,A.r,A.ck,A.cp,c6,A.cs,A.cr⟩ G (newC w.heap.size 3 c) v L:=by
 have h1:=h.recol (c':=newC w.heap.size 3 c) (λx hx=>fq hx);have hk1:KC (newC w.heap.size 3 c) 3 w w6:=KC.grown hg h1.no.co;have hblk:=hk1.obj h1.blk (by rw [h1.cw];omega);have hkeep:=hk1.below h1.keep h1.no.lo Aaa h1.keep.size;have hk2:KC (newC w.heap.size 3 c) 8 w6 (w6.setCell ⟨wb,5,none⟩ (.slice a6 (n.out.length+1) c6)):=KC.set h1.cw
 have hco:∀x,(Value.slice a6 (n.out.length+1) c6).ownBlock=some x->newC w.heap.size 3 c x=3:=λx hx=>by
  rcases hv x hx with hx'|hx'
  .exact h1.no.co x hx'
  .exact bJ hx'
 have hlen:(n.out++[s]).length=n.out.length+1:=Aac
 have hno:=h1.no;refine⟨hblk,hk1,hk2.below hkeep hno.lo Aaa hkeep.size,?_,⟨?_,?_,?_,?_,?_,hno.lo,hno.ck,hno.cp,?_,hno.c4,hno.ci,hno.cr,hno.ni⟩,?_,h1.cm,h1.cw⟩
 .have:=aN hblk 5 (.slice a6 (n.out.length+1) c6);rw [this];show some (Obj.cells (VR n A v |>.setIfInBounds 5 _) _ _)=some (Obj.cells #[_,_,_,_,_,.slice a6 (n.out++[s]).length c6,_,_,_,_] _ _)
  rw [hlen];rfl
 .exact hk2.w (hk1.w hno.k hno.ck Aaa) hno.ck Aaa
 .exact hk2.w (hk1.w hno.p hno.cp Aaa) hno.cp Aaa
 .show(w6.setCell _ _).ownsRow _ _ _ (.slice a6 (n.out++[s]).length c6) (n.out++[s]).length (GR.flat aS (n.out++[s]))
  rw [hlen,jh];exact hk2.own hown hco Aaa
 .exact aij
 .exact hk2.own (hk1.own hno.r hno.cr Aaa) hno.cr Aaa
 .show∀x,(Value.slice a6 (n.out++[s]).length c6).ownBlock=some x->_
  rw [hlen];exact hco
 .exact hk2.own (hk1.own h1.m h1.cm Aaa) h1.cm Aaa
theorem WK.next {w0 w:World} {wb:Nat} {n:Nd} {A:bQ} {G:aX} {c:Nat->Nat} {v:Value} {L:List Mg} (h:WK w0 w wb n A G c v L) (y:Int):WK w0 (w.setCell ⟨wb,3,none⟩ (.int .i64 y)) wb (aeZ n y) A G c v L:=by
 have hk2:KC c 8 w (w.setCell ⟨wb,3,none⟩ (.int .i64 y)):=KC.set h.cw;have hno:=h.no.kc hk2 Aaa;exact⟨hk2.below h.keep h.no.lo Aaa h.keep.size,aN h.blk 3 (.int .i64 y),⟨hno.k,hno.p,hno.o,hno.s,hno.r,hno.lo,hno.ck,hno.cp,hno.co,hno.c4,hno.ci,hno.cr,hno.ni⟩,hk2.own h.m h.cm Aaa,h.cm,h.cw⟩
theorem zC (hs:keyOk s.data.toList=true):s.size<=10:=by
 unfold keyOk at hs;simp only[Bool.and_eq_true,decide_eq_true_iff] at hs;have:=bq s;omega
theorem acg {n:Nd} (h:dW n=true):eU n 1000:=by
 obtain⟨h1,h2,h3,h4,h5,h6⟩:=bY h;obtain⟨p1,p2,p3⟩:=(jR n.pu).1 h2;obtain⟨o1,o2,o3⟩:=rM h5;obtain⟨r1,r2,r3,_,_⟩:=iX h6
 have hk:n.kids.length<=30:=by
  unfold eD at h1;simp only[Bool.and_eq_true,decide_eq_true_eq] at h1;exact h1.1.2
 unfold nQ at h3;simp only[Bool.and_eq_true,decide_eq_true_eq] at h3
 have hs:n.seen.length<=31:=by
  have:=h3.1;split at this<;>omega
 refine⟨Aaa,Aaa,Aaa,Aaa,Aaa,λx hx=>?_,λx hx=>?_,λx hx=>?_,λx hx=>?_⟩
 .have:=p1 x hx;unfold iy at this;simp only[Bool.and_eq_true] at this;exact Nat.le_trans (zC this.1.1.1.1) Aaa
 .have:=o3 x hx;unfold uQ at this;simp only[Bool.and_eq_true] at this;exact Nat.le_trans (zC this.1.2) Aaa
 .have:=zf h3.2 x hx;unfold uU at this;simp only[Bool.and_eq_true,decide_eq_true_eq] at this;have:=this.2.1.2;omega
 .have:=(jT (r3 x hx)).2.2.1;exact Nat.le_trans (zC this) Aaa
theorem Uq (dst:Int) (key:ByteArray) (a:Int) (hc:n.out.length=40) (h:WK w0 w wb n A G c v L):Calls prog 216 #[.pointer (some ⟨wb,0,none⟩),.int .i64 dst,.string key,.int .i64 a] w λe w'=>e= .returned (.bool false)/\w=w':=by
 have hq:((n.out.length:Int) == 40)=true:=by rw [hc];rfl
 exact ah9
theorem Ur (dst:Int) (key:ByteArray) (a:Int) (hl:n.out.length < 40) (hc:n.next=1000000000) (h:WK w0 w wb n A G c v L):Calls prog 216 #[.pointer (some ⟨wb,0,none⟩),.int .i64 dst,.string key,.int .i64 a] w λe w'=>e= .returned (.bool false)/\w=w':=by
 have hq:((n.out.length:Int) == 40)=false:=Aag
 have hq2:(n.next == 1000000000)=true:=by rw [hc];rfl
 exact ah9
theorem Us (dst:Int) (key:ByteArray) (a:Int) (E:Nat->Addr) (hok:dW n=true) (hkey:keyOk key.data.toList=true) (ha1:1<=a) (ha2:a<=1000000000) (hL:L.length<=2097100) (hc1:n.out.length < 40) (hc2:n.next < 1000000000) (h:WK w0 w wb n A G c v L) (he:iG w0 E):
 Calls prog 216 #[.pointer (some ⟨wb,0,none⟩),.int .i64 dst,.string key,.int .i64 a] w λe w'=>e= .returned (.bool (eZ n dst key a).2.2)/\∃A' G' c' v',WK w0 w' wb (eZ n dst key a).1 A' G' c' v' (L++(eZ n dst key a).2.1):=by
 have hz:=acg hok;obtain⟨_,hps,_,hnx,_,_⟩:=bY hok;have hnx1:1<=n.next/\n.next<=1000000000:=by simpa [fF] using hnx
 have hks:=zC hkey
 have hf:0<=(aD n.pu key).f/\(aD n.pu key).f<=1000000000:=by
  have hpo:=yx hps hkey;unfold iy qw at hpo;simp only[Bool.and_eq_true,decide_eq_true_eq] at hpo;exact hpo.1.1.2
 have Jd:=Hq (λw1 (hb:aI w w1)=>Ph A.p A.cp n.pu key w1 (by have:=hz.p;omega) (λp hp=>Nat.le_trans (hz.pk p hp) Aaa) Aaa (GR.At.below h.no.p.at hb));have HPA:=Hq (fun(y:Int) w1 (hb:aI w w1)=>abK A.p A.cp n.pu key y E w1 (by have:=hz.p;omega) (λp hp=>Nat.le_trans (hz.pk p hp) Aaa) Aaa (GR.At.below h.no.p.at hb) (he.below (h.keep.trans (hb.mono h.keep.size))));unfold jM at HPA
 have Ga:Hid (pO n key a=min a (aD n.pu key).f):=by
  show pO n key a=min a (aD n.pu key).f
  unfold pO;split<;>omega
 have Rc:=Hq (fun(y:Int) (h1:1<=y) (h2:y<=(aD n.pu key).f) (h3:y<=1000000000)=>aeS hps hkey h1 h2 h3);have l7:=Hq (fun(y:Int) (h1:¬1<=y)=>Kt (l:=n.pu) (key:=key) (dm:=0) (df:= -1) (ds:=0) (n:=y) (λhx=>h1 hx.1))
 have HGY:Hid (1<=pO n key a->eZ n dst key a=(rP n dst key (pO n key a),[pX (rP n dst key (pO n key a)) ⟨n.next,dst,key,pO n key a⟩],true)):=λh1=>by
  unfold eZ
  exact if_pos (decide_eq_true ⟨h1,hc1,hc2⟩)
 have HGN:Hid (¬1<=pO n key a->eZ n dst key a=(n,[],false)):=λh1=>by
  unfold eZ Qb
  rw [if_neg (by rw [decide_eq_false (λhx=>h1 hx.1)];simp)]
 have hq1:((n.out.length:Int) == 40)=false:=Aag
 have hq2:(n.next == 1000000000)=false:=Aag
 have HOL:=Hq hc1;have HZ:=Hq hz;generalize hfr:aD n.pu key=fr at *;obtain⟨fk,fm,ff,fs⟩:=fr;dsimp only at hf Ga Rc;have HW:=Hq h;clear h he hok hkey hps hnx hc1 hc2 hfr hz;generalize eZ n dst key a=gv at *;obtain⟨c0,c1,c2,c3,c4,c5,c6,c7,c8,c9⟩:=jE HW.blk;go_in
 go_wp2_with fail;refine(Jd w (Below.refl _ _)).mono ?_;rintro e w1 ⟨rfl,hb1⟩;have HB1:=Hq hb1;have HW1:=Hq (HW.step hb1);clear hb1 Jd c0 c1 c2 c3 c4 c5 c6 c7 c8 c9;obtain⟨c0,c1,c2,c3,c4,c5,c6,c7,c8,c9⟩:=jE HW1.blk;have aBM:=Jp fk fm ff fs;go_wp2_with fail;clear c0 c1 c2 c3 c4 c5 c6 c7 c8 c9 aBM;have aDt:min a ff<=a:=Aaa
 have aB5:min a ff<=ff:=Aaa
 generalize min a ff=gT at *;have hAM:=ah Ga;rw [hAM] at HGY HGN;clear Ga hAM;refine(HPA gT w1 HB1).mono ?_;rintro e y ⟨pa,pcp,pg,hpg,rfl,hp,hby⟩;have HST:=Hq (VJ (cp:=pcp) HW1 hby hpg hp);have HPD:Hid (rP n dst key gT=⟨n.id,n.par,n.kids,n.next+1,(dJ n.pu key 0 (-1) 0 gT).1,n.out++[⟨n.next,dst,key,gT⟩],n.seen,n.old,n.reqs⟩):=rfl;have CV:=Hq (Rc gT);have VY:=Hq (l7 gT);clear hp hby hpg HPA Rc l7 HW1;generalize dJ n.pu key 0 (-1) 0 gT=r at *;go_wp2_with fail;refine HST.mono ?_;rintro e z ⟨rfl,A1,G1,c1,hZ⟩;by_cases h1:1<=gT
 case' neg=>
  have hr:=ah VY Aaa;subst hr;have HZ1:=Hq hZ;have hG:=ah HGN Aaa;have HG:=Hq hG;clear hZ hG HGY HGN HST CV VY HPD;go_wp2_with fail;go_ret;have hG:=ah HG;subst hG;refine⟨rfl,A1,G1,c1,v,?_⟩;rw [List.append_nil];exact HZ1
 have hr2:=ah CV h1 aB5 Aaa;obtain⟨rl,rb⟩:=r;dsimp only at hr2;subst hr2;have HG:=Hq (HGY h1);have yM:Hid (WK w0 z wb (setPu n rl) A1 G1 c1 v L):=hZ;clear hZ HGY HGN HST CV VY HB1 HW;have hcl:n.out.length<=40:=by have:=ah HOL;omega
 obtain⟨c0,c1,c2,c3,c4,c5,c6,c7,c8,c9⟩:=jE yM.blk;dsimp only[setPu] at c0 c1 c2 c3 c4 c5 c6 c7 c8 c9;have aDJ:=aA yM.blk;go_upto_region 6 with fail;have y3:=cell_regrown c3;clear c0 c1 c2 c3 c4 c5 c6 c7 c8 c9;refine dB 11 Aab ?_;show eY _ _ _ _ _ 12 (Array.replicate 12 false) _ _
 refine tk [0,1,2,3,4,5,6,8] ?_;iterate 8 (refine uR (λK hK=>?_);go_simp;refine hK _ ?_;clear hK K)
 refine jJ ?_;clear y3;refine yG 7 10 rfl rfl Aab Aad Aad (λx hx=>?c1) (λx hx=>?c2)
 case' c1=>
  go_simp
  refine(clone key x Aaa).mono ?_
  rintro e y ⟨rfl,hby⟩
  refine⟨hby,?_⟩
  have HY:=Hq (Ge.trans hx hby)
  clear hx hby
  refine tk [9] ?_
  (refine uR (λK hK=>?_);go_simp;refine hK _ ?_;clear hK K)
  refine jJ ?_
  refine dU 10 rfl Aab Aad (λx2 hx2=>?_)
  go_simp
  refine⟨ay x2 _,?_⟩
  have hgl:z.heap.size<=x2.heap.size:=(Ge.trans HY hx2).size
  have Gd:=Hq (heap_alloc_new x2 (.cells (gJ 0 0 ⟨#[]⟩ 0) 91))
  have uS:=Hq (Ge.trans (Ge.trans HY hx2) (ay x2 (.cells (gJ 0 0 ⟨#[]⟩ 0) 91)))
  clear hx2 HY
  generalize x2.alloc (.cells (gJ 0 0 ⟨#[]⟩ 0) 91)=y2 at *
  generalize x2.heap.size=g at *
  refine bC Aab (λz2 hz2=>?_)
  have ku:=Hq (au Gd hz2)
  have eT:=Hq (Ge.trans uS hz2)
  clear hz2 Gd uS
  have C9:=aA ku
  obtain⟨g0,g1,g2,g3⟩:=iE ku
  have f0:=aj ku 0
  have f1:=aj ku 1
  have f2:=aj ku 2
  have f3:=aj ku 3
  refine aH 11 rfl Aab Aad ?_
  go_simp
  refine wpAny_done Aab ?_
  go_simp
  go_upto_region 7 with fail
  refine wp_at (λW hW=>?_)
  have UD:Hid (W.heap[g]?=some (.cells (gJ n.next dst key gT) 91 (0,0))):=Abu
  have iR:Hid (aI z W):=Abv
  clear hW ku eT C9 g0 g1 g2 g3 f0 f1 f2 f3
 case' c2=>
  go_simp
  refine⟨ay x _,?_⟩
  have hgl:z.heap.size<=x.heap.size:=hx.size
  have Gd:=Hq (heap_alloc_new x (.cells (gJ 0 0 ⟨#[]⟩ 0) 91))
  have uS:=Hq (Ge.trans hx (ay x (.cells (gJ 0 0 ⟨#[]⟩ 0) 91)))
  clear hx
  generalize x.alloc (.cells (gJ 0 0 ⟨#[]⟩ 0) 91)=y2 at *
  generalize x.heap.size=g at *
  refine dU 7 rfl Aab Aad (λx2 hx2=>?_)
  go_simp
  refine(clone key x2 Aaa).mono ?_
  rintro e y3 ⟨rfl,hby⟩
  refine⟨hby,?_⟩
  have HGC:=Hq (au Gd (Ge.trans hx2 hby))
  have HBC:=Hq (Ge.trans uS (Ge.trans hx2 hby))
  clear hx2 hby Gd uS
  refine tk [9] ?_
  (refine uR (λK hK=>?_);go_simp;refine hK _ ?_;clear hK K)
  refine jJ ?_
  refine bC Aab (λz2 hz2=>?_)
  have ku:=Hq (au HGC hz2)
  have eT:=Hq (Ge.trans HBC hz2)
  clear hz2 HGC HBC
  have C9:=aA ku
  obtain⟨g0,g1,g2,g3⟩:=iE ku
  have f0:=aj ku 0
  have f1:=aj ku 1
  have f2:=aj ku 2
  have f3:=aj ku 3
  refine aH 11 rfl Aab Aad ?_
  go_simp
  refine wpAny_done Aab ?_
  go_simp
  go_upto_region 7 with fail
  refine wp_at (λW hW=>?_)
  have UD:Hid (W.heap[g]?=some (.cells (gJ n.next dst key gT) 91 (0,0))):=Abu
  have iR:Hid (aI z W):=Abv
  clear hW ku eT C9 g0 g1 g2 g3 f0 f1 f2 f3
 all_goals
  have hgw:=aA UD
  have Zx:=Hq (yM.step iR)
  have HCG:Hid ((Value.slice A1.o n.out.length A1.co).ownBlock≠some g):=λe=>by have h9:=(yM.no.o.lt g e).2;omega
  clear yM iR
  obtain⟨c0,c1,c2,c3,c4,c5,c6,c7,c8,c9⟩:=jE Zx.blk
  dsimp only[setPu] at c0 c1 c2 c3 c4 c5 c6 c7 c8 c9
  obtain⟨s0,s1,s2,s3⟩:=iE UD
  obtain⟨i0,hi,hz0,hz1,hz2⟩:=info_parts Lp
  have y5:=cell_regrown c5
  have x0:=cell_regrown s0
  have x1:=cell_regrown s1
  have x2:=cell_regrown s2
  have x3:=cell_regrown s3
  clear c0 c1 c2 c3 c4 c5 c6 c7 c8 c9 s0 s1 s2 s3
  refine lY Aab ?_
  show vP _ _ _ _ 13 (Array.replicate 13 false) _ _
  refine Cz 0 rfl Aab Aab Aab (λ_ _ _ _ h=>h) (λK hK=>?_)
  go_simp
  first
   |(refine hK _ ?_;clear hK K)
   |(apply Exists.intro
     refine⟨λ_=>rfl,hK _ ?_⟩
     clear hK K)
  refine qR 8 ?_
  refine tk [1,2,3,4,5,6] ?_
  iterate 6 (refine uR (λK hK=>?_);go_simp;refine hK _ ?_;clear hK K)
  refine jJ ?_
  clear y5 x0 x1 x2 x3
  refine dU 7 rfl Aab Aad (λq hq=>?_)
  go_simp
  refine⟨ay q _,?_⟩
  have Jf:=Hq ((Zx.step hq).step (ay q (.cells (gJ n.next dst key gT) 91)))
  have HGX:=Hq (au (au UD hq) (ay q (.cells (gJ n.next dst key gT) 91)))
  have iH:=Hq (heap_alloc_new q (.cells (gJ n.next dst key gT) 91))
  have hgq:g < q.heap.size:=Nat.lt_of_lt_of_le hgw hq.size
  clear hq Zx UD hgw
  generalize q.alloc (.cells (gJ n.next dst key gT) 91)=y4 at *
  refine bC Aab (λz4 xU=>?_)
  have uV:=Hq (Jf.step xU)
  have HGZ:=Hq (au HGX xU)
  have Gl:=Hq (au iH xU)
  clear xU Jf iH HGX
  refine aH 8 rfl Aab Aad ?_
  refine og z4 (.tmp 63) (.tmp 65) 36 rfl w0.heap.size 91 i0 (.agg (gJ 0 0 ByteArray.empty 0)) 4 40 underlying36 hi hz0 hz1 hz2 rfl Aae (.slice A1.o n.out.length A1.co) n.out.length (GR.flat aS n.out) Aal uV.no.o ⟨q.heap.size,0,none⟩ 1 1 (aS ⟨n.next,dst,key,gT⟩) Aal rfl (World.news_of_block Gl) (xR _) Aai Aaa uV.keep.size ?_
  intro v6 w6 hown6 qx O3
  obtain⟨a6,c6,hv6,_⟩:=GR.own_at (enc:=aS) (sz:=4) (l:=n.out++[⟨n.next,dst,key,gT⟩]) bH (by rw [List.length_append,jh];exact hown6)
  rw [List.length_append] at hv6
  have hv7:v6= .slice a6 (n.out.length+1) c6:=hv6
  subst hv7
  clear hv6
  obtain⟨hb6,Xb,hS6⟩:=uV.outApp ⟨n.next,dst,key,gT⟩ hown6 qx O3
  have HS6:=Hq hS6
  obtain⟨k0,k1,k2,k3,k4,k5,k6,k7,k8,k9⟩:=jE hb6
  have kf:=aj hb6 5
  have HG6:Hid (w6.heap[g]?=some (.cells (gJ n.next dst key gT) 91 (0,0))):=qx.block g (aA HGZ) (λe=>HCG e.symm) |>.trans HGZ
  clear hown6 qx O3 hb6 hS6 Xb uV Gl HGZ
  refine aH 9 rfl Aab Aad ?_
  go_simp
  refine aH 10 rfl Aab Aad ?_
  go_simp
  refine aH 11 rfl Aab Aad ?_
  go_simp
  refine aH 12 rfl Aab Aad ?_
  go_simp
  refine wpAny_done Aab ?_
  go_simp
  have hgb:g≠wb:=Aaa
  go_upto_region 8 with fail
  refine wp_at (λV8 hV=>?_)
  obtain⟨A8,G8,aee,HS8⟩:∃A8 G8 aee,Hid (WK w0 V8 wb (setOut (setPu n rl) (n.out++[⟨n.next,dst,key,gT⟩])) A8 G8 aee v L):=⟨_,_,_,by rw [hV];exact HS6⟩
  have HG8:Hid (V8.heap[g]?=some (.cells (gJ n.next dst key gT) 91 (0,0))):=by rw [hV];exact jg HG6 hgb
  clear hV HS6 HG6 kf k0 k1 k2 k3 k4 k5 k6 k7 k8 k9
  obtain⟨c0,c1,c2,c3,c4,c5,c6,c7,c8,c9⟩:=jE HS8.blk
  dsimp only[setPu,setOut] at c0 c1 c2 c3 c4 c5 c6 c7 c8 c9
  have kf3:=aj HS8.blk 3
  go_upto_region 9 with fail
  refine wp_at (λV9 hV=>?_)
  have HS9:Hid (WK w0 V9 wb (rP n dst key gT) A8 G8 aee v L):=by rw [hV,ah HPD];exact HS8.next (n.next+1)
  have HG9:Hid (V9.heap[g]?=some (.cells (gJ n.next dst key gT) 91 (0,0))):=by rw [hV];exact jg HG8 hgb
  have hl9:(rP n dst key gT).out.length<=1048600:=by rw [ah HPD];simp;omega
  clear hV HS8 HG8 kf3 HPD c0 c1 c2 c3 c4 c5 c6 c7 c8 c9
  generalize rP n dst key gT=n9 at *
  have Gq:=Hq (λp:Regrown=>Jy n9 A8 ⟨n.next,dst,key,gT⟩ (Gr V9 p) hl9 (GR.At.below HS9.no.at.o (below_regrown V9 p.d p.os)))
  have HSY:=Hq (λx (hx:Ge V9 x)=>VQ w0 x wb n9 A8 G8 aee v L (pX n9 ⟨n.next,dst,key,gT⟩) (by show key.size<=1048600;omega) Aaa (HS9.step hx))
  generalize pX n9 ⟨n.next,dst,key,gT⟩=pm at *
  obtain⟨qK,qF,qT,qI,qL,qk,qN⟩:=pm
  obtain⟨c0,c1,c2,c3,c4,c5,c6,c7,c8,c9⟩:=jE HS9.blk
  obtain⟨s0,s1,s2,s3⟩:=iE HG9
  have y0:=cell_regrown c0
  have y1:=cell_regrown c1
  have y2:=cell_regrown c2
  have y3:=cell_regrown c3
  have y4:=cell_regrown c4
  have y5:=cell_regrown c5
  have y6:=cell_regrown c6
  have y7:=cell_regrown c7
  have y8:=cell_regrown c8
  have x0:=cell_regrown s0
  have x1:=cell_regrown s1
  have x2:=cell_regrown s2
  have x3:=cell_regrown s3
  have hg9:=aA HG9
  have hw9:=aA HS9.blk
  clear c0 c1 c2 c3 c4 c5 c6 c7 c8 c9 s0 s1 s2 s3
  refine dB 7 Aab ?_
  show eY _ _ _ _ _ 8 (Array.replicate 8 false) _ _
  refine tk [0,1,2,3,4,5] ?_
  iterate 6 (refine uR (λK hK=>?_);go_simp;refine hK _ ?_;clear hK K)
  refine jJ ?_
  refine vR 6 20 rfl Aab Aab Aab Aab Aab (λ_ _ _ _ h=>h) (λK hK=>?_)
  go_simp
  first
   |(refine hK _ ?_;clear hK K)
   |(apply Exists.intro
     refine⟨λ_=>?_,hK _ ?_⟩
     (exact Gq _)
     clear hK K)
  clear y0 y1 y2 y3 y4 y5 y6 y7 y8 x0 x1 x2 x3
  refine bC Aab (λx hx=>?_)
  have Jf:=Hq (HSY x hx)
  clear hx
  refine aH 7 rfl Aab Aad ?_
  go_simp
  refine Jf.mono ?_
  rintro e y9 ⟨rfl,c',v',hY⟩
  have HY:=Hq hY
  clear hY Jf
  refine wpAny_done Aab ?_
  go_simp
  go_wp2_with fail
  go_ret
  have hG:=ah HG
  subst hG
  exact⟨rfl,A8,G8,c',v',HY⟩
theorem ai1 (dst:Int) (key:ByteArray) (a:Int) (E:Nat->Addr) (hok:dW n=true) (hkey:keyOk key.data.toList=true) (ha1:1<=a) (ha2:a<=1000000000) (hL:L.length<=2097100) (h:WK w0 w wb n A G c v L) (he:iG w0 E):
 Calls prog 216 #[.pointer (some ⟨wb,0,none⟩),.int .i64 dst,.string key,.int .i64 a] w λe w'=>e= .returned (.bool (eZ n dst key a).2.2)/\∃A' G' c' v',WK w0 w' wb (eZ n dst key a).1 A' G' c' v' (L++(eZ n dst key a).2.1):=by
 obtain⟨_,_,_,hnx,ho,_⟩:=bY hok;have hnx1:1<=n.next/\n.next<=1000000000:=by simpa [fF] using hnx
 have hol:=(rM ho).2.1
 have hgn:(n.out.length=40\/n.next=1000000000)->eZ n dst key a=(n,[],false):=λhx=>by
  unfold eZ Qb
  rw [if_neg (by rw [decide_eq_false (λhy=>Aaa)];simp)]
 by_cases h40:n.out.length=40
 .rw [hgn (.inl h40)];refine(Uq w0 w wb n A G c v L dst key a h40 h).mono ?_;exact aiG
 .by_cases hl:n.next=1000000000
  .rw [hgn (.inr hl)];refine(Ur w0 w wb n A G c v L dst key a Aaa hl h).mono ?_;exact aiG
  .exact Us w0 w wb n A G c v L dst key a E hok hkey ha1 ha2 hL Aaa Aaa h he
theorem ach (n:Nd) (A:bQ) (x:Int) (w:World) (hp:eD n=true) (hl:n.kids.length<=1048600) (ha:dw w A n):
 Calls prog 203 #[gB n A,.int .i64 x] w (eG w (.bool (dZ n x))):=by
 have h:=Pe n A x w hl ha.k;rw [near_same hp] at h;exact h
def El (n:Nd) (o:gK):Nd×List Mg×Int:=if n.par= -1 then(n,[],1) else((eZ n n.par o.k o.n).1,(eZ n n.par o.k o.n).2.1,if (eZ n n.par o.k o.n).2.2=true then 0 else 1)
theorem ak7 (o:gK) (E:Nat->Addr) (hok:dW n=true) (hkey:keyOk o.k.data.toList=true) (ha1:1<=o.n) (ha2:o.n<=1000000000) (hL:L.length<=2097100) (h:WK w0 w wb n A G c v L) (he:iG w0 E):
 Calls prog 179 #[.pointer (some ⟨wb,0,none⟩),jG o] w λe w'=>e= .returned (.int .i64 (El n o).2.2)/\∃A' G' c' v',WK w0 w' wb (El n o).1 A' G' c' v' (L++(El n o).2.1):=by
 have Gq:=Hq (λW c v (hW:WK w0 W wb n A G c v L)=>ai1 w0 W wb n A G c v L n.par o.k o.n E hok hkey ha1 ha2 hL hW he);have hwl:=aA h.blk;have hne:wb≠w.heap.size:=Aaa
 clear hok hkey ha1 ha2 he;by_cases hpar:n.par= -1
 .have hR:El n o=(n,[],1):=if_pos hpar;rw [hR];open atH in exact ZV
 .have hR:El n o=((eZ n n.par o.k o.n).1,(eZ n n.par o.k o.n).2.1,if (eZ n n.par o.k o.n).2.2=true then 0 else 1):=if_neg hpar;rw [hR];obtain⟨K,no,k,nn,⟨mK,mF,mT,mI,mL,mk,mN⟩⟩:=o;dsimp only at Gq ⊢;open aoo in exact Ws
theorem ac9 (m:Mg) (hp:eD n=true) (hz:n.kids.length<=1048600) (h:WK w0 w wb n A G c v L):
 Calls prog 174 #[.pointer (some ⟨wb,0,none⟩),nK m] w (eG w (.bool (decide (m.T=n.id)&&dZ n m.F))):=by
 obtain⟨mK,mF,mT,mI,mL,mk,mN⟩:=m;have Rp:=Hq (λw1 (ha:dw w1 A n)=>ach n A mF w1 hp hz ha);dsimp only;generalize dZ n mF=nb at *;open atM in exact ZW
theorem alh (o:gK) (hz:eU n 1048576) (hL:L.length<=1048000) (h:WK w0 w wb n A G c v L):
 Calls prog 180 #[.pointer (some ⟨wb,0,none⟩),jG o] w λe w'=>e= .returned (.int .i64 0)/\∃c' v',WK w0 w' wb n A G c' v' (L++n.out.map (pX n)):=by
 have Gq:=Hq (λs W (ha:SentAt W A.o n.out)=>Jy n A s W (by have:=hz.o;omega) ha);have HSY:=Hq (λW c v (k:Nat) (hk:k<=n.out.length) m (hm:m.k.size<=1048600) (hW:WK w0 W wb n A G c v (L++(n.out.take k).map (pX n)))=>VQ w0 W wb n A G c v _ m hm (by have:=hz.o;rw [List.length_append,List.length_map,List.length_take];omega) hW);have HKK:Hid (∀s∈n.out,(pX n s).k.size<=1048600):=λs hs=>Nat.le_trans (hz.ok s hs) Aaa
 have hlo:=hz.o;open atF in exact ZV
open Go.RowKit Go.Maps Go.Sort
theorem akW (m:Nat):AnyZI.SortsIn prog Tryz.sortedL_ren Fence.wide m:=
 ⟨λblk off cap ss W hH hblk hsz=>callsIn_wide.2 (AnyM.slices_Sort_int Tryz.sortL blk off cap ss W hH hblk hsz),
  λp cap W=>callsIn_wide.2 (AnyM.slices_Sort_int_none Tryz.sortL p cap W)⟩
theorem aeE (mb:Option Nat) (W:World):Calls prog 269 #[.map mb] W λe w'=>e= .returned (.func (.func 291) #[] #[.pointer (some ⟨W.heap.size,0,none⟩)])/\w'=W.alloc (.cells #[.map mb] 291):=
 callsIn_wide.1 (AnyZI.keys_in Tryz.keysL Fence.wide 5 trivial rfl mb W)
theorem acS {l ss:List Int} (hp:l.Pairwise (· < ·)) (h:ss.Perm l):ss.mergeSort (λx y=>decide (x<=y))=l:=by
 have h1:ss.mergeSort leI=l.mergeSort leI:=mergeSort_of_perm_i h;refine h1.trans (List.mergeSort_of_pairwise ?_);exact hp.imp (λ{a b} h=>by simp only[leI,decide_eq_true_eq];omega)
theorem Yc (B mb n:Nat) (l:List Int) (W:World) (hl:l.length<=1000) (hp:l.Pairwise (· < ·)) (hB:W.heap[B]?=some (.cells #[.map (some mb)] 291 (0,0))) (hs:fC W mb n l):
 Calls prog 268 #[.func (.func 291) #[] #[.pointer (some ⟨B,0,none⟩)]] W λe w'=>∃v,e= .returned v/\w'.ownsRow W.heap.size 3 1 v l.length (GR.flat aU l)/\aI W w':=by
 obtain⟨D,hown,ha⟩:=hs;have hk:=fC.keys hown ha (hp.imp (λh=>Aaa));have hsz:Maps.size D=l.length:=by rw [JV hown,hk.length_eq]
 have hcell:W.cell? ⟨B,0,none⟩=some (.map (some mb)):=cell_of_row W B 0 _ _ (0,0) hB
 have hseq:SeqGives Fence.wide 2 prog 291 #[.pointer (some ⟨B,0,none⟩)] encZ (λss=>ss.Perm (intKeys D)) (Maps.size D) W:=
  AnyZI.keys_gives (ρ:=Tryz.keysL_ren) {Tryz.keysL with} Fence.wide _ trivial rfl Aaa B mb n D _ (aA hB) hcell hown
 have cS:=AnyZI.sorted_in Tryz.sortedL Fence.wide 5 trivial trivial trivial trivial rfl Aaa (akW _) (enters_of func233 Aab rfl) 291 #[.pointer (some ⟨B,0,none⟩)] trivial (enters_of func291 Aab rfl) _ _ (by rw [hsz];unfold maxLen;omega) (by rw [hsz];omega) _ hseq;change CallsIn _ _ prog 268 _ _ _ at cS
 refine(callsIn_wide.1 cS).mono ?_;rintro e w' ⟨v,ss,rfl,hS,hrow,_,hb⟩;have hperm:ss.Perm l:=hS.trans hk.symm;rw [acS hp hperm,hperm.length_eq,<-Ep] at hrow;exact⟨v,rfl,hrow,hb⟩
theorem XV (sb mb n:Nat) (f low:Int) (l:List Int) (w:World) (hl:l.length<=1000) (hp:l.Pairwise (· < ·)) (hb:kH w sb mb low) (hs:fC w mb n l):
 Calls prog 249 #[.pointer (some ⟨sb,0,none⟩),.int .i64 f] w λe w'=>∃v,e= .returned (.agg #[.int .i64 f,.int .i64 low,v])/\w'.ownsRow w.heap.size 3 1 v l.length (GR.flat aU l)/\aI w w':=by
 have hsl:=aA hb;have HB:=Hq hb;have HS:=Hq hs;have Ro:=Hq aeE;have Zo:=Hq (λB W (h1:W.heap[B]?=_) (h2:fC W mb n l)=>Yc B mb n l W hl hp h1 h2);have hb1:=au hb (ay w (.cells #[.int .i64 0,.int .i64 0,.slice none 0 0] 110));obtain⟨⟨m0,m1⟩,_⟩:=lW hb1;clear hb hs hb1;go_in
 go_upto_region 1 with fail;have y0:=cell_regrown m0;have y1:=cell_regrown m1;clear m0 m1;refine dB 12 Aab ?_;show eY _ _ _ _ _ 13 (Array.replicate 13 false) _ _
 refine tk [0,1,2,3,4,5,6,7,8] ?_;iterate 9 (refine uR (λK hK=>?_);go_simp;refine hK _ ?_;clear hK K)
 refine jJ ?_;clear y0 y1;refine dU 9 rfl Aab Aad (λx hx=>?_);go_simp;have HX:=Hq hx;clear hx;refine(Ro (some mb) x).mono ?_;rintro e y ⟨rfl,rfl⟩;refine⟨ay x _,?_⟩;refine dU 10 rfl Aab Aad (λx2 hx2=>?_);go_simp;have YF:=Hq hx2;have h1:x2.heap[x.heap.size]?=some (.cells #[.map (some mb)] 291 (0,0)):=au (heap_alloc_new x _) hx2;have HG:=Hq (Ge.trans (Ge.trans HX (ay x _)) hx2);have h2:fC x2 mb n l:=HS.kept ((HG.block mb (by have:=HS.lt;simp;omega)).trans (Below.heap_alloc _ _ _ HS.lt));have HCS:=Hq (Zo x.heap.size x2 h1 h2);clear hx2 h1 h2 Ro Zo YF;refine HCS.mono ?_;rintro e z ⟨v,rfl,hrow,hbz⟩;refine⟨hbz,?_⟩;obtain⟨av,cv,rfl,_⟩:=GR.own_at (enc:=aU) (sz:=1) aQ hrow;have HRW:=Hq hrow;have HZ:=Hq (Ge.trans HG hbz);clear hrow hbz HCS;refine tk [11] ?_;(refine uR (λK hK=>?_);go_simp;refine hK _ ?_;clear hK K)
 refine jJ ?_;refine bC Aab (λx3 hx3=>?_);have DY:=Hq (Ge.trans HZ hx3);have HR3:=Hq (GR.own_below HRW hx3);have e3:x3.heap[w.heap.size]?=some (.cells #[.int .i64 0,.int .i64 0,.slice none 0 0] 110 (0,0)):=au (heap_alloc_new w _) DY;have f0:=aj e3 0;have f1:=aj e3 1;have f2:=aj e3 2;have hw3:=aA e3;obtain⟨d0,d1,d2⟩:=three e3;have E3:=Hq e3;clear e3 hx3 HX HZ HRW;refine aH 12 rfl Aab Aad ?_;go_simp;refine wpAny_done Aab ?_;clear d0 d1 d2 f0 f1 f2;go_wp2_with fail;refine aO (λW' hW'=>?_)
 have e4:W'.heap[w.heap.size]?=some (.cells #[.int .i64 f,.int .i64 low,.slice av l.length cv] 110 (0,0)):=by
  rw [hW'];exact GR.setW_blk [.int .i64 f,.int .i64 low,.slice av l.length cv] (o:=0) (xs:=[.int .i64 0,.int .i64 0,.slice none 0 0]) E3
 have hsw:w.heap.size < x2.heap.size:=by have:=HG.size;simp at this;omega
 have hg:x3.grownBy W' (some w.heap.size):=by
  rw [hW'];exact⟨rfl,rfl,rfl,Aaq,λk _ hk=>GR.setW_other (g':=k) (λe=>hk Aao) [.int .i64 f,.int .i64 low,.slice av l.length cv] (o:=0)⟩
 have hne:∀k,(Value.slice av l.length cv).ownBlock=some k->k≠w.heap.size:=λk hk=>by have:=(HR3.lt k hk).1;omega
 have hrow:W'.ownsRow x2.heap.size 3 1 (.slice av l.length cv) l.length (GR.flat aU l):=by
  refine HR3.kept (row:=some w.heap.size) hg ?_;cases hv:(Value.slice av l.length cv).ownBlock with
  |none=>exact .inl rfl
  |some k=>exact .inr (λe=>hne k hv (by injection e))
 have hbel:aI w W':=by
  rw [hW'];exact GR.setW_below (Nat.le_refl _) [.int .i64 f,.int .i64 low,.slice av l.length cv] (o:=0) ((ay w _).trans (DY.mono Aac))
 have HRW:=Hq (ownsRow_base_a hrow (show w.heap.size<=x2.heap.size by omega));have iR:=Hq hbel;obtain⟨d0,d1,d2⟩:=three e4;clear hW' e4 hg hrow hbel;exact bodyPost_ret (v:= .agg #[.int .i64 f,.int .i64 low,.slice av l.length cv]) (by simp[results,results249,go_sem,d0,d1,d2]) rfl ⟨_,rfl,HRW,iR⟩
theorem pU (hs:keyOk s.data.toList=true):s.size<=1048576:=by
 rcases Classical.em (1<=s.data.toList.length/\s.data.toList.length<=10) with h|h
 .have e:s.size=s.data.toList.length:=by rw [Array.length_toList];rfl
  omega
 .rw [keyOk_len _ h] at hs;cases hs
theorem aeO {n:Nd} (hok:dW n=true):eU n 1048576:=by
 obtain⟨h1,h2,h3,h4,h5,h6⟩:=bY hok;have hq:=iX h6;have ho:=rM h5;have hn:=vH h1;have hpl:=h1;unfold eD at hpl;simp only[Bool.and_eq_true,decide_eq_true_eq] at hpl;have htl:=h3;unfold nQ at htl;rw [Bool.and_eq_true,decide_eq_true_eq] at htl;have hps:=(jR n.pu).1 h2;refine⟨Aaa,Aaa,Aaa,by split at htl<;>omega,Aaa,λx hx=>?_,λx hx=>?_,λx hx=>?_,λx hx=>?_⟩
 .have:=hps.1 x hx;unfold iy at this;simp only[Bool.and_eq_true] at this;exact pU (by first|exact this.1|exact this.1.1|exact this.1.1.1|exact this.1.1.1.1)
 .have:=ho.2.2 x hx;unfold uQ at this;simp only[Bool.and_eq_true] at this;exact pU this.1.2
 .have:=zX hok x hx;unfold uU at this;simp only[Bool.and_eq_true,decide_eq_true_eq] at this;omega
 .exact pU (jT (hq.2.2.1 x hx)).2.2.1
theorem axO {n:Nd} {o:gK} (hz:eU n 1048576):eU (YJ n o).1 1048576:=by
 cases hok:dW n
 .rw [KG hok];exact hz
 .exact aeO (Vx hok)
end Go.Proofs.YtohmklmkjmlpjaaGreatDoor
