/- Parts. -/
import Derived.Test.YtacgbldlonoaaaaGreatDoorRa15
namespace Go.Proofs.YtacgbldlonoaaaaGreatDoor
set_option maxHeartbeats 4000000
set_option maxRecDepth 100000
open Go.RowKit
open Mth
def AL (n:Nd) (o:jE):List Mg×Int:=if n.par= -1 then([],1) else([Dv n o],0)
theorem ab4 (w0 w:World) (wb:Nat) (n:Nd) (A:bE) (G:aU) (c:Nat→Nat) (v:Value) (L:List Mg) (o:jE) (hk:o.k.size≤1048576) (hL:L.length≤2097100) (h:WK w0 w wb n A G c v L):
 Calls Tryz.prog 110 #[.pointer (some ⟨wb,0,none⟩),jH o] w fun e w'=>e= .returned (.int .i64 (AL n o).2)∧∃c' v',WK w0 w' wb n A G c' v' (L++(AL n o).1):=by
 have TY:=hide (fun W c v (hW:WK w0 W wb n A G c v L)=>ME w0 W wb n A G c v L (Dv n o) (by show o.k.size≤1048600;omega) (by omega) hW);unfold Dv at TY;have hwl:=aA h.blk;have hne:wb≠w.heap.size:=by omega
 by_cases hpar:n.par= -1
 ·have hR:AL n o=([],1):=if_pos hpar;rw [hR];obtain⟨K,no,k,nn,⟨mK,mF,mT,mI,mL,mk,mN⟩⟩:=o;open agW in exact Vh
 ·have hR:AL n o=([Dv n o],0):=if_neg hpar;rw [hR];unfold Dv;obtain⟨K,no,k,nn,⟨mK,mF,mT,mI,mL,mk,mN⟩⟩:=o;dsimp only at TY ⊢;open aps in exact DX
set_option maxHeartbeats 8000000
theorem lY {w:World} {g:Nat} {a0 a1 a2 a3 b0 b1 b2 b3:Value} {t:TypeId} (h:w.heap[g]?=some (.cells #[a0,a1,a2,a3] t (0,0))):((((w.setCell ⟨g,0,none⟩ b0).setCell ⟨g,1,none⟩ b1).setCell ⟨g,2,none⟩ b2).setCell ⟨g,3,none⟩ b3).heap[g]?=some (.cells #[b0,b1,b2,b3] t (0,0)):=
 GR.setW_blk [b0,b1,b2,b3] (o:=0) (xs:=[a0,a1,a2,a3]) h
theorem gN {a w:World} {B g:Nat} {b0 b1 b2 b3:Value} (h:Below B a w) (hg:B≤g):Below B a ((((w.setCell ⟨g,0,none⟩ b0).setCell ⟨g,1,none⟩ b1).setCell ⟨g,2,none⟩ b2).setCell ⟨g,3,none⟩ b3):=
 GR.setW_below hg [b0,b1,b2,b3] (o:=0) h
theorem WK.outApp {w0 w w6:World} {wb:Nat} {n:Nd} {A:bE} {G:aU} {c:Nat→Nat} {v:Value} {L:List Mg} {a6:Option Addr} {c6:Nat} (h:WK w0 w wb n A G c v L) (s:jm)
 (hown:w6.ownsRow w0.heap.size 95 4 (.slice a6 (n.out.length+1) c6) (n.out.length+1) (GR.flat aS n.out++aS s)) (hg:w.grownBy w6 (Value.slice A.o n.out.length A.co).ownBlock) (hv:∀x,(Value.slice a6 (n.out.length+1) c6).ownBlock=some x→(Value.slice A.o n.out.length A.co).ownBlock=some x∨w.heap.size≤x):
 w6.heap[wb]?=some (.cells (FE n A v) 74 (0,0))∧KC (newC w.heap.size 3 c) 3 w w6∧WK w0 (w6.setCell ⟨wb,5,none⟩ (.slice a6 (n.out.length+1) c6)) wb (setOut n (n.out++[s])) ⟨A.k,A.p,a6,A.s,A.r,A.ck,A.cp,c6,A.cs,A.cr⟩ G (newC w.heap.size 3 c) v L:=by
 have h1:=h.recol (c':=newC w.heap.size 3 c) (fun x hx=>dH hx);have hk1:KC (newC w.heap.size 3 c) 3 w w6:=KC.grown hg h1.no.co;have hblk:=hk1.obj h1.blk (by rw [h1.cw];omega);have hkeep:=hk1.below h1.keep h1.no.lo (by omega) h1.keep.size;have hk2:KC (newC w.heap.size 3 c) 8 w6 (w6.setCell ⟨wb,5,none⟩ (.slice a6 (n.out.length+1) c6)):=KC.set h1.cw
 have hco:∀x,(Value.slice a6 (n.out.length+1) c6).ownBlock=some x→newC w.heap.size 3 c x=3:=fun x hx=>by
  rcases hv x hx with hx'|hx'
  ·exact h1.no.co x hx'
  ·exact aT hx'
 have hlen:(n.out++[s]).length=n.out.length+1:=by simp
 have hno:=h1.no;refine⟨hblk,hk1,hk2.below hkeep hno.lo (by omega) hkeep.size,?_,⟨?_,?_,?_,?_,?_,hno.lo,hno.ck,hno.cp,?_,hno.c4,hno.ci,hno.cr,hno.ni⟩,?_,h1.cm,h1.cw⟩
 ·have:=bg hblk 5 (.slice a6 (n.out.length+1) c6);rw [this];show some (Obj.cells (FE n A v |>.setIfInBounds 5 _) _ _)=some (Obj.cells #[_,_,_,_,_,.slice a6 (n.out++[s]).length c6,_,_,_,_] _ _)
  rw [hlen];rfl
 ·exact hk2.w (hk1.w hno.k hno.ck (by omega)) hno.ck (by omega)
 ·exact hk2.w (hk1.w hno.p hno.cp (by omega)) hno.cp (by omega)
 ·show(w6.setCell _ _).ownsRow _ _ _ (.slice a6 (n.out++[s]).length c6) (n.out++[s]).length (GR.flat aS (n.out++[s]))
  rw [hlen,fV];exact hk2.own hown hco (by omega)
 ·exact Zp
 ·exact hk2.own (hk1.own hno.r hno.cr (by omega)) hno.cr (by omega)
 ·show∀x,(Value.slice a6 (n.out++[s]).length c6).ownBlock=some x→_
  rw [hlen];exact hco
 ·exact hk2.own (hk1.own h1.m h1.cm (by omega)) h1.cm (by omega)
theorem WK.next {w0 w:World} {wb:Nat} {n:Nd} {A:bE} {G:aU} {c:Nat→Nat} {v:Value} {L:List Mg} (h:WK w0 w wb n A G c v L) (y:Int):WK w0 (w.setCell ⟨wb,3,none⟩ (.int .i64 y)) wb (VZ n y) A G c v L:=by
 have hk2:KC c 8 w (w.setCell ⟨wb,3,none⟩ (.int .i64 y)):=KC.set h.cw;have hno:=h.no.kc hk2 (by omega);exact⟨hk2.below h.keep h.no.lo (by omega) h.keep.size,bg h.blk 3 (.int .i64 y),⟨hno.k,hno.p,hno.o,hno.s,hno.r,hno.lo,hno.ck,hno.cp,hno.co,hno.c4,hno.ci,hno.cr,hno.ni⟩,hk2.own h.m h.cm (by omega),h.cm,h.cw⟩
theorem vG {s:ByteArray} (hs:keyOk s.data.toList=true):s.size≤10:=by
 unfold keyOk at hs;simp only[Bool.and_eq_true,decide_eq_true_iff] at hs;have:=gU s;omega
theorem SL {n:Nd} (h:dG n=true):eH n 1000:=by
 obtain⟨h1,h2,h3,h4,h5,h6⟩:=bq h;obtain⟨p1,p2,p3⟩:=(iU n.pu).1 h2;obtain⟨o1,o2,o3⟩:=og h5;obtain⟨r1,r2,r3,_,_⟩:=gQ h6
 have hk:n.kids.length≤30:=by
  unfold bQ at h1;simp only[Bool.and_eq_true,decide_eq_true_eq] at h1;exact h1.1.2
 unfold lC at h3;simp only[Bool.and_eq_true,decide_eq_true_eq] at h3
 have hs:n.seen.length≤31:=by
  have:=h3.1;split at this<;>omega
 refine⟨by omega,by omega,by omega,by omega,by omega,fun x hx=>?_,fun x hx=>?_,fun x hx=>?_,fun x hx=>?_⟩
 ·have:=p1 x hx;unfold fH at this;simp only[Bool.and_eq_true] at this;exact Nat.le_trans (vG this.1.1.1.1) (by omega)
 ·have:=o3 x hx;unfold qy at this;simp only[Bool.and_eq_true] at this;exact Nat.le_trans (vG this.1.2) (by omega)
 ·have:=uT h3.2 x hx;unfold qz at this;simp only[Bool.and_eq_true,decide_eq_true_eq] at this;have:=this.2.1.2;omega
 ·have:=(iV (r3 x hx)).2.2.1;exact Nat.le_trans (vG this) (by omega)
theorem KP (w0 w:World) (wb:Nat) (n:Nd) (A:bE) (G:aU) (c:Nat→Nat) (v:Value) (L:List Mg) (dst:Int) (key:ByteArray) (a:Int) (hc:n.out.length=40) (h:WK w0 w wb n A G c v L):Calls Tryz.prog 168 #[.pointer (some ⟨wb,0,none⟩),.int .i64 dst,.string key,.int .i64 a] w fun e w'=>e= .returned (.bool false)∧w=w':=by
 have hq:((n.out.length:Int) == 40)=true:=by rw [hc];rfl
 exact Y8
theorem KQ (w0 w:World) (wb:Nat) (n:Nd) (A:bE) (G:aU) (c:Nat→Nat) (v:Value) (L:List Mg) (dst:Int) (key:ByteArray) (a:Int) (hl:n.out.length < 40) (hc:n.next=1000000000) (h:WK w0 w wb n A G c v L):Calls Tryz.prog 168 #[.pointer (some ⟨wb,0,none⟩),.int .i64 dst,.string key,.int .i64 a] w fun e w'=>e= .returned (.bool false)∧w=w':=by
 have hq:((n.out.length:Int) == 40)=false:=by simp;omega
 have hq2:(n.next == 1000000000)=true:=by rw [hc];rfl
 exact Y8
theorem KT (w0 w:World) (wb:Nat) (n:Nd) (A:bE) (G:aU) (c:Nat→Nat) (v:Value) (L:List Mg) (dst:Int) (key:ByteArray) (a:Int) (E:Nat→Addr) (hok:dG n=true) (hkey:keyOk key.data.toList=true) (ha1:1≤a) (ha2:a≤1000000000) (hL:L.length≤2097100) (hc1:n.out.length < 40) (hc2:n.next < 1000000000) (h:WK w0 w wb n A G c v L) (he:gW w0 E):
 Calls Tryz.prog 168 #[.pointer (some ⟨wb,0,none⟩),.int .i64 dst,.string key,.int .i64 a] w fun e w'=>e= .returned (.bool (dV n dst key a).2.2)∧∃A' G' c' v',WK w0 w' wb (dV n dst key a).1 A' G' c' v' (L++(dV n dst key a).2.1):=by
 have hz:=SL hok;obtain⟨_,hps,_,hnx,_,_⟩:=bq hok;have hnx1:1≤n.next∧n.next≤1000000000:=by simpa [eD] using hnx
 have hks:=vG hkey
 have hf:0≤(aF n.pu key).f∧(aF n.pu key).f≤1000000000:=by
  have hpo:=uj hps hkey;unfold fH mW at hpo;simp only[Bool.and_eq_true,decide_eq_true_eq] at hpo;exact hpo.1.1.2
 have CP:=hide (fun w1 (hb:Below w.heap.size w w1)=>xQ A.p A.cp n.pu key w1 (by have:=hz.p;omega) (fun p hp=>Nat.le_trans (hz.pk p hp) (by omega)) (by omega) (GR.At.below h.no.p.at hb));have HPA:=hide (fun(y:Int) w1 (hb:Below w.heap.size w w1)=>Sc A.p A.cp n.pu key y E w1 (by have:=hz.p;omega) (fun p hp=>Nat.le_trans (hz.pk p hp) (by omega)) (by omega) (GR.At.below h.no.p.at hb) (he.below (h.keep.trans (hb.mono h.keep.size))));unfold iP at HPA
 have AP:Hid (lN n key a=min a (aF n.pu key).f):=by
  show lN n key a=min a (aF n.pu key).f
  unfold lN;split<;>omega
 have FW:=hide (fun(y:Int) (h1:1≤y) (h2:y≤(aF n.pu key).f) (h3:y≤1000000000)=>VT hps hkey h1 h2 h3);have jY:=hide (fun(y:Int) (h1:¬1≤y)=>D7 (l:=n.pu) (key:=key) (dm:=0) (df:= -1) (ds:=0) (n:=y) (fun hx=>h1 hx.1))
 have HGY:Hid (1≤lN n key a→dV n dst key a=(nG n dst key (lN n key a),[lG (nG n dst key (lN n key a)) ⟨n.next,dst,key,lN n key a⟩],true)):=fun h1=>by
  unfold dV
  exact if_pos (decide_eq_true ⟨h1,hc1,hc2⟩)
 have Wy:Hid (¬1≤lN n key a→dV n dst key a=(n,[],false)):=fun h1=>by
  unfold dV Iu
  rw [if_neg (by rw [decide_eq_false (fun hx=>h1 hx.1)];simp)]
 have hq1:((n.out.length:Int) == 40)=false:=by simp;omega
 have hq2:(n.next == 1000000000)=false:=by simp;omega
 have HOL:=hide hc1;have HZ:=hide hz;generalize hfr:aF n.pu key=fr at *;obtain⟨fk,fm,ff,fs⟩:=fr;dsimp only at hf AP FW;have HW:=hide h;clear h he hok hkey hps hnx hc1 hc2 hfr hz;generalize dV n dst key a=gv at *;obtain⟨c0,c1,c2,c3,c4,c5,c6,c7,c8,c9⟩:=gY HW.blk;go_enter Tryz.func168,Tryz.ntmps168
 go_wp2_with fail;refine(CP w (Below.refl _ _)).mono ?_;rintro e w1 ⟨rfl,hb1⟩;have HB1:=hide hb1;have HW1:=hide (HW.step hb1);clear hb1 CP c0 c1 c2 c3 c4 c5 c6 c7 c8 c9;obtain⟨c0,c1,c2,c3,c4,c5,c6,c7,c8,c9⟩:=gY HW1.blk;have aqo:=wU fk fm ff fs;go_wp2_with fail;clear c0 c1 c2 c3 c4 c5 c6 c7 c8 c9 aqo;have arT:min a ff≤a:=by omega
 have aqI:min a ff≤ff:=by omega
 generalize min a ff=oI at *;have hAM:=ah AP;rw [hAM] at HGY Wy;clear AP hAM;refine(HPA oI w1 HB1).mono ?_;rintro e y ⟨pa,pcp,pg,hpg,rfl,hp,hby⟩;have HST:=hide (Mx (cp:=pcp) HW1 hby hpg hp);have HPD:Hid (nG n dst key oI=⟨n.id,n.par,n.kids,n.next+1,(bV n.pu key 0 (-1) 0 oI).1,n.out++[⟨n.next,dst,key,oI⟩],n.seen,n.old,n.reqs⟩):=rfl;have yw:=hide (FW oI);have MW:=hide (jY oI);clear hp hby hpg HPA FW jY HW1;generalize bV n.pu key 0 (-1) 0 oI=r at *;go_wp2_with fail;refine HST.mono ?_;rintro e z ⟨rfl,A1,G1,c1,hZ⟩;by_cases h1:1≤oI
 case' neg=>
  have hr:=ah MW (by omega)
  subst hr
  have HZ1:=hide hZ
  have hG:=ah Wy (by omega)
  have HG:=hide hG
  clear hZ hG HGY Wy HST yw MW HPD
  go_wp2_with fail
  go_ret
  have hG:=ah HG
  subst hG
  refine⟨rfl,A1,G1,c1,v,?_⟩
  rw [List.append_nil]
  exact HZ1
 have hr2:=ah yw h1 aqI (by omega);obtain⟨rl,rb⟩:=r;dsimp only at hr2;subst hr2;have HG:=hide (HGY h1);have sW:Hid (WK w0 z wb (setPu n rl) A1 G1 c1 v L):=hZ;clear hZ HGY Wy HST yw MW HB1 HW;have hcl:n.out.length≤40:=by have:=ah HOL;omega
 obtain⟨c0,c1,c2,c3,c4,c5,c6,c7,c8,c9⟩:=gY sW.blk;dsimp only[setPu] at c0 c1 c2 c3 c4 c5 c6 c7 c8 c9;have ase:=aA sW.blk;go_upto_region 6 with fail;have y3:=cell_regrown c3;clear c0 c1 c2 c3 c4 c5 c6 c7 c8 c9;refine bn 11 (by kernel_rfl) ?_;show dS _ _ _ _ _ 12 (Array.replicate 12 false) _ _
 refine tk [0,1,2,3,4,5,6,8] ?_;iterate 8 (refine nQ (fun K hK=>?_);go_simp;refine hK _ ?_;clear hK K)
 refine jI ?_;clear y3;refine uz 7 10 rfl rfl (by kernel_rfl) (by rfl) (by rfl) (fun x hx=>?c1) (fun x hx=>?c2)
 case' c1=>
  go_simp
  refine(clone key x (by omega)).mono ?_
  rintro e y ⟨rfl,hby⟩
  refine⟨hby,?_⟩
  have HY:=hide (Ge.trans hx hby)
  clear hx hby
  refine tk [9] ?_
  (refine nQ (fun K hK=>?_);go_simp;refine hK _ ?_;clear hK K)
  refine jI ?_
  refine cZ 10 rfl (by kernel_rfl) (by rfl) (fun x2 hx2=>?_)
  go_simp
  refine⟨au x2 _,?_⟩
  have hgl:z.heap.size≤x2.heap.size:=(Ge.trans HY hx2).size
  have FH:=hide (heap_alloc_new x2 (.cells #[.int .i64 0,.int .i64 0,.string ⟨#[]⟩,.int .i64 0] 95))
  have qA:=hide (Ge.trans (Ge.trans HY hx2) (au x2 (.cells #[.int .i64 0,.int .i64 0,.string ⟨#[]⟩,.int .i64 0] 95)))
  clear hx2 HY
  generalize x2.alloc (.cells #[.int .i64 0,.int .i64 0,.string ⟨#[]⟩,.int .i64 0] 95)=y2 at *
  generalize x2.heap.size=g at *
  refine aV (by kernel_rfl) (fun z2 hz2=>?_)
  have je:=hide (aj FH hz2)
  have dY:=hide (Ge.trans qA hz2)
  clear hz2 FH qA
  have yC:=aA je
  obtain⟨g0,g1,g2,g3⟩:=eY je
  have f0:=ay je 0
  have f1:=ay je 1
  have f2:=ay je 2
  have f3:=ay je 3
  refine aG 11 rfl (by kernel_rfl) (by rfl) ?_
  go_simp
  refine wpAny_done (by kernel_rfl) ?_
  go_simp
  go_upto_region 7 with fail
  refine wp_at (fun W hW=>?_)
  have K8:Hid (W.heap[g]?=some (.cells #[.int .i64 n.next,.int .i64 dst,.string key,.int .i64 oI] 95 (0,0))):=by rw [hW];exact lY je
  have iD:Hid (Below z.heap.size z W):=by rw [hW];exact gN dY hgl
  clear hW je dY yC g0 g1 g2 g3 f0 f1 f2 f3
 case' c2=>
  go_simp
  refine⟨au x _,?_⟩
  have hgl:z.heap.size≤x.heap.size:=hx.size
  have FH:=hide (heap_alloc_new x (.cells #[.int .i64 0,.int .i64 0,.string ⟨#[]⟩,.int .i64 0] 95))
  have qA:=hide (Ge.trans hx (au x (.cells #[.int .i64 0,.int .i64 0,.string ⟨#[]⟩,.int .i64 0] 95)))
  clear hx
  generalize x.alloc (.cells #[.int .i64 0,.int .i64 0,.string ⟨#[]⟩,.int .i64 0] 95)=y2 at *
  generalize x.heap.size=g at *
  refine cZ 7 rfl (by kernel_rfl) (by rfl) (fun x2 hx2=>?_)
  go_simp
  refine(clone key x2 (by omega)).mono ?_
  rintro e y3 ⟨rfl,hby⟩
  refine⟨hby,?_⟩
  have Wx:=hide (aj FH (Ge.trans hx2 hby))
  have Wp:=hide (Ge.trans qA (Ge.trans hx2 hby))
  clear hx2 hby FH qA
  refine tk [9] ?_
  (refine nQ (fun K hK=>?_);go_simp;refine hK _ ?_;clear hK K)
  refine jI ?_
  refine aV (by kernel_rfl) (fun z2 hz2=>?_)
  have je:=hide (aj Wx hz2)
  have dY:=hide (Ge.trans Wp hz2)
  clear hz2 Wx Wp
  have yC:=aA je
  obtain⟨g0,g1,g2,g3⟩:=eY je
  have f0:=ay je 0
  have f1:=ay je 1
  have f2:=ay je 2
  have f3:=ay je 3
  refine aG 11 rfl (by kernel_rfl) (by rfl) ?_
  go_simp
  refine wpAny_done (by kernel_rfl) ?_
  go_simp
  go_upto_region 7 with fail
  refine wp_at (fun W hW=>?_)
  have K8:Hid (W.heap[g]?=some (.cells #[.int .i64 n.next,.int .i64 dst,.string key,.int .i64 oI] 95 (0,0))):=by rw [hW];exact lY je
  have iD:Hid (Below z.heap.size z W):=by rw [hW];exact gN dY hgl
  clear hW je dY yC g0 g1 g2 g3 f0 f1 f2 f3
 all_goals
  have hgw:=aA K8
  have Qk:=hide (sW.step iD)
  have HCG:Hid ((Value.slice A1.o n.out.length A1.co).ownBlock≠some g):=fun e=>by have h9:=(sW.no.o.lt g e).2;omega
  clear sW iD
  obtain⟨c0,c1,c2,c3,c4,c5,c6,c7,c8,c9⟩:=gY Qk.blk
  dsimp only[setPu] at c0 c1 c2 c3 c4 c5 c6 c7 c8 c9
  obtain⟨s0,s1,s2,s3⟩:=eY K8
  obtain⟨i0,hi,hz0,hz1,hz2⟩:=info_parts Eu
  have y5:=cell_regrown c5
  have x0:=cell_regrown s0
  have x1:=cell_regrown s1
  have x2:=cell_regrown s2
  have x3:=cell_regrown s3
  clear c0 c1 c2 c3 c4 c5 c6 c7 c8 c9 s0 s1 s2 s3
  refine jU (by kernel_rfl) ?_
  show qY _ _ _ _ 13 (Array.replicate 13 false) _ _
  refine lD 0 rfl (by kernel_rfl) (by kernel_rfl) (by kernel_rfl) (fun _ _ _ _ h=>h) (fun K hK=>?_)
  go_simp
  first
   |(refine hK _ ?_;clear hK K)
   |(apply Exists.intro
     refine⟨fun _=>rfl,hK _ ?_⟩
     clear hK K)
  refine qZ 8 ?_
  refine tk [1,2,3,4,5,6] ?_
  iterate 6 (refine nQ (fun K hK=>?_);go_simp;refine hK _ ?_;clear hK K)
  refine jI ?_
  clear y5 x0 x1 x2 x3
  refine cZ 7 rfl (by kernel_rfl) (by rfl) (fun q hq=>?_)
  go_simp
  refine⟨au q _,?_⟩
  have CR:=hide ((Qk.step hq).step (au q (.cells #[.int .i64 n.next,.int .i64 dst,.string key,.int .i64 oI] 95)))
  have HGX:=hide (aj (aj K8 hq) (au q (.cells #[.int .i64 n.next,.int .i64 dst,.string key,.int .i64 oI] 95)))
  have fF:=hide (heap_alloc_new q (.cells #[.int .i64 n.next,.int .i64 dst,.string key,.int .i64 oI] 95))
  have hgq:g < q.heap.size:=Nat.lt_of_lt_of_le hgw hq.size
  clear hq Qk K8 hgw
  generalize q.alloc (.cells #[.int .i64 n.next,.int .i64 dst,.string key,.int .i64 oI] 95)=y4 at *
  refine aV (by kernel_rfl) (fun z4 yD=>?_)
  have Qe:=hide (CR.step yD)
  have HGZ:=hide (aj HGX yD)
  have AU:=hide (aj fF yD)
  clear yD CR fF HGX
  refine aG 8 rfl (by kernel_rfl) (by rfl) ?_
  refine ql z4 (.tmp 63) (.tmp 65) 26 rfl w0.heap.size 95 i0 (.agg #[.int .i64 0,.int .i64 0,.string ByteArray.empty,.int .i64 0]) 4 40 Tryz.underlying26 hi hz0 hz1 hz2 rfl (by decide) (.slice A1.o n.out.length A1.co) n.out.length (GR.flat aS n.out) (by simp[Act.eval]) Qe.no.o ⟨q.heap.size,0,none⟩ 1 1 (aS ⟨n.next,dst,key,oI⟩) (by simp[Act.eval]) rfl (World.news_of_block AU) (oU _) (by unfold maxLen;omega) (by omega) Qe.keep.size ?_
  intro v6 w6 hown6 lS GZ
  obtain⟨a6,c6,hv6,_⟩:=GR.own_at (enc:=aS) (sz:=4) (l:=n.out++[⟨n.next,dst,key,oI⟩]) bH (by rw [List.length_append,fV];exact hown6)
  rw [List.length_append] at hv6
  have hv7:v6= .slice a6 (n.out.length+1) c6:=hv6
  subst hv7
  clear hv6
  obtain⟨hb6,ND,ZT⟩:=Qe.outApp ⟨n.next,dst,key,oI⟩ hown6 lS GZ
  have HS6:=hide ZT
  obtain⟨k0,k1,k2,k3,k4,k5,k6,k7,k8,k9⟩:=gY hb6
  have kf:=ay hb6 5
  have HG6:Hid (w6.heap[g]?=some (.cells #[.int .i64 n.next,.int .i64 dst,.string key,.int .i64 oI] 95 (0,0))):=lS.block g (aA HGZ) (fun e=>HCG e.symm) |>.trans HGZ
  clear hown6 lS GZ hb6 ZT ND Qe AU HGZ
  refine aG 9 rfl (by kernel_rfl) (by rfl) ?_
  go_simp
  refine aG 10 rfl (by kernel_rfl) (by rfl) ?_
  go_simp
  refine aG 11 rfl (by kernel_rfl) (by rfl) ?_
  go_simp
  refine aG 12 rfl (by kernel_rfl) (by rfl) ?_
  go_simp
  refine wpAny_done (by kernel_rfl) ?_
  go_simp
  have hgb:g≠wb:=by omega
  go_upto_region 8 with fail
  refine wp_at (fun V8 hV=>?_)
  obtain⟨A8,G8,Vu,Qd⟩:∃A8 G8 Vu,Hid (WK w0 V8 wb (setOut (setPu n rl) (n.out++[⟨n.next,dst,key,oI⟩])) A8 G8 Vu v L):=⟨_,_,_,by rw [hV];exact HS6⟩
  have HG8:Hid (V8.heap[g]?=some (.cells #[.int .i64 n.next,.int .i64 dst,.string key,.int .i64 oI] 95 (0,0))):=by rw [hV];exact jd HG6 hgb
  clear hV HS6 HG6 kf k0 k1 k2 k3 k4 k5 k6 k7 k8 k9
  obtain⟨c0,c1,c2,c3,c4,c5,c6,c7,c8,c9⟩:=gY Qd.blk
  dsimp only[setPu,setOut] at c0 c1 c2 c3 c4 c5 c6 c7 c8 c9
  have kf3:=ay Qd.blk 3
  go_upto_region 9 with fail
  refine wp_at (fun V9 hV=>?_)
  have HS9:Hid (WK w0 V9 wb (nG n dst key oI) A8 G8 Vu v L):=by rw [hV,ah HPD];exact Qd.next (n.next+1)
  have Ww:Hid (V9.heap[g]?=some (.cells #[.int .i64 n.next,.int .i64 dst,.string key,.int .i64 oI] 95 (0,0))):=by rw [hV];exact jd HG8 hgb
  have hl9:(nG n dst key oI).out.length≤1048600:=by rw [ah HPD];simp;omega
  clear hV Qd HG8 kf3 HPD c0 c1 c2 c3 c4 c5 c6 c7 c8 c9
  generalize nG n dst key oI=n9 at *
  have za:=hide (fun p:Regrown=>Dc n9 A8 ⟨n.next,dst,key,oI⟩ (Gr V9 p) hl9 (GR.At.below HS9.no.at.o (below_regrown V9 p.d p.os)))
  have TY:=hide (fun x (hx:Ge V9 x)=>ME w0 x wb n9 A8 G8 Vu v L (lG n9 ⟨n.next,dst,key,oI⟩) (by show key.size≤1048600;omega) (by omega) (HS9.step hx))
  generalize lG n9 ⟨n.next,dst,key,oI⟩=pm at *
  obtain⟨qK,qF,qT,qI,qL,qk,qN⟩:=pm
  obtain⟨c0,c1,c2,c3,c4,c5,c6,c7,c8,c9⟩:=gY HS9.blk
  obtain⟨s0,s1,s2,s3⟩:=eY Ww
  have y0:=cell_regrown c0
  have y1:=cell_regrown c1
  have y2:=cell_regrown c2
  have y3:=cell_regrown c3
  have y4:=cell_regrown c4
  have y5:=cell_regrown c5
  have y6:=cell_regrown c6
  have y7:=cell_regrown c7
  have y8:=cell_regrown c8
  have x0:=cell_regrown s0
  have x1:=cell_regrown s1
  have x2:=cell_regrown s2
  have x3:=cell_regrown s3
  have hg9:=aA Ww
  have hw9:=aA HS9.blk
  clear c0 c1 c2 c3 c4 c5 c6 c7 c8 c9 s0 s1 s2 s3
  refine bn 7 (by kernel_rfl) ?_
  show dS _ _ _ _ _ 8 (Array.replicate 8 false) _ _
  refine tk [0,1,2,3,4,5] ?_
  iterate 6 (refine nQ (fun K hK=>?_);go_simp;refine hK _ ?_;clear hK K)
  refine jI ?_
  refine rz 6 20 rfl (by kernel_rfl) (by kernel_rfl) (by kernel_rfl) (by kernel_rfl) (by kernel_rfl) (fun _ _ _ _ h=>h) (fun K hK=>?_)
  go_simp
  first
   |(refine hK _ ?_;clear hK K)
   |(apply Exists.intro
     refine⟨fun _=>?_,hK _ ?_⟩
     (exact za _)
     clear hK K)
  clear y0 y1 y2 y3 y4 y5 y6 y7 y8 x0 x1 x2 x3
  refine aV (by kernel_rfl) (fun x hx=>?_)
  have CR:=hide (TY x hx)
  clear hx
  refine aG 7 rfl (by kernel_rfl) (by rfl) ?_
  go_simp
  refine CR.mono ?_
  rintro e y9 ⟨rfl,c',v',hY⟩
  have HY:=hide hY
  clear hY CR
  refine wpAny_done (by kernel_rfl) ?_
  go_simp
  go_wp2_with fail
  go_ret
  have hG:=ah HG
  subst hG
  exact⟨rfl,A8,G8,c',v',HY⟩
theorem aaj (w0 w:World) (wb:Nat) (n:Nd) (A:bE) (G:aU) (c:Nat→Nat) (v:Value) (L:List Mg) (dst:Int) (key:ByteArray) (a:Int) (E:Nat→Addr) (hok:dG n=true) (hkey:keyOk key.data.toList=true) (ha1:1≤a) (ha2:a≤1000000000) (hL:L.length≤2097100) (h:WK w0 w wb n A G c v L) (he:gW w0 E):
 Calls Tryz.prog 168 #[.pointer (some ⟨wb,0,none⟩),.int .i64 dst,.string key,.int .i64 a] w fun e w'=>e= .returned (.bool (dV n dst key a).2.2)∧∃A' G' c' v',WK w0 w' wb (dV n dst key a).1 A' G' c' v' (L++(dV n dst key a).2.1):=by
 obtain⟨_,_,_,hnx,ho,_⟩:=bq hok;have hnx1:1≤n.next∧n.next≤1000000000:=by simpa [eD] using hnx
 have hol:=(og ho).2.1
 have hgn:(n.out.length=40∨n.next=1000000000)→dV n dst key a=(n,[],false):=fun hx=>by
  unfold dV Iu
  rw [if_neg (by rw [decide_eq_false (fun hy=>by omega)];simp)]
 by_cases h40:n.out.length=40
 ·rw [hgn (.inl h40)];refine(KP w0 w wb n A G c v L dst key a h40 h).mono ?_;exact ZJ
 ·by_cases hl:n.next=1000000000
  ·rw [hgn (.inr hl)];refine(KQ w0 w wb n A G c v L dst key a (by omega) hl h).mono ?_;exact ZJ
  ·exact KT w0 w wb n A G c v L dst key a E hok hkey ha1 ha2 hL (by omega) (by omega) h he
set_option maxHeartbeats 4000000
theorem SN (n:Nd) (A:bE) (x:Int) (w:World) (hp:bQ n=true) (hl:n.kids.length≤1048600) (ha:dQ w A n):
 Calls Tryz.prog 130 #[gu n A,.int .i64 x] w fun e w'=>e= .returned (.bool (dB n x))∧Below w.heap.size w w':=by
 have h:=Hl n A x w hl ha.k;rw [near_same hp] at h;exact h
def zl (n:Nd) (o:jE):Nd×List Mg×Int:=if n.par= -1 then(n,[],1) else((dV n n.par o.k o.n).1,(dV n n.par o.k o.n).2.1,if (dV n n.par o.k o.n).2.2=true then 0 else 1)
theorem abT (w0 w:World) (wb:Nat) (n:Nd) (A:bE) (G:aU) (c:Nat→Nat) (v:Value) (L:List Mg) (o:jE) (E:Nat→Addr) (hok:dG n=true) (hkey:keyOk o.k.data.toList=true) (ha1:1≤o.n) (ha2:o.n≤1000000000) (hL:L.length≤2097100) (h:WK w0 w wb n A G c v L) (he:gW w0 E):
 Calls Tryz.prog 111 #[.pointer (some ⟨wb,0,none⟩),jH o] w fun e w'=>e= .returned (.int .i64 (zl n o).2.2)∧∃A' G' c' v',WK w0 w' wb (zl n o).1 A' G' c' v' (L++(zl n o).2.1):=by
 have za:=hide (fun W c v (hW:WK w0 W wb n A G c v L)=>aaj w0 W wb n A G c v L n.par o.k o.n E hok hkey ha1 ha2 hL hW he);have hwl:=aA h.blk;have hne:wb≠w.heap.size:=by omega
 clear hok hkey ha1 ha2 he;by_cases hpar:n.par= -1
 ·have hR:zl n o=(n,[],1):=if_pos hpar;rw [hR];obtain⟨K,no,k,nn,⟨mK,mF,mT,mI,mL,mk,mN⟩⟩:=o;open agY in exact Vh
 ·have hR:zl n o=((dV n n.par o.k o.n).1,(dV n n.par o.k o.n).2.1,if (dV n n.par o.k o.n).2.2=true then 0 else 1):=if_neg hpar;rw [hR];obtain⟨K,no,k,nn,⟨mK,mF,mT,mI,mL,mk,mN⟩⟩:=o;dsimp only at za ⊢;open apt in exact DX
theorem TH (w0 w:World) (wb:Nat) (n:Nd) (A:bE) (G:aU) (c:Nat→Nat) (v:Value) (L:List Mg) (m:Mg) (hp:bQ n=true) (hz:n.kids.length≤1048600) (h:WK w0 w wb n A G c v L):
 Calls Tryz.prog 106 #[.pointer (some ⟨wb,0,none⟩),nX m] w fun e w'=>e= .returned (.bool (decide (m.T=n.id)&&dB n m.F))∧Below w.heap.size w w':=by
 obtain⟨mK,mF,mT,mI,mL,mk,mN⟩:=m;have MR:=hide (fun w1 (ha:dQ w1 A n)=>SN n A mF w1 hp hz ha);dsimp only;generalize dB n mF=nb at *;open agH in exact aaQ
theorem ab3 (w0 w:World) (wb:Nat) (n:Nd) (A:bE) (G:aU) (c:Nat→Nat) (v:Value) (L:List Mg) (o:jE) (hz:eH n 1048576) (hL:L.length≤1048000) (h:WK w0 w wb n A G c v L):
 Calls Tryz.prog 50 #[.pointer (some ⟨wb,0,none⟩),jH o] w fun e w'=>e= .returned (.int .i64 0)∧∃c' v',WK w0 w' wb n A G c' v' (L++n.out.map (lG n)):=by
 have za:=hide (fun s W (ha:SentAt W A.o n.out)=>Dc n A s W (by have:=hz.o;omega) ha);have TY:=hide (fun W c v (k:Nat) (hk:k≤n.out.length) m (hm:m.k.size≤1048600) (hW:WK w0 W wb n A G c v (L++(n.out.take k).map (lG n)))=>ME w0 W wb n A G c v _ m hm (by have:=hz.o;rw [List.length_append,List.length_map,List.length_take];omega) hW);have HKK:Hid (∀s∈n.out,(lG n s).k.size≤1048600):=fun s hs=>Nat.le_trans (hz.ok s hs) (by omega)
 have hlo:=hz.o;obtain⟨K,no,k,nn,⟨mK,mF,mT,mI,mL,mk,mN⟩⟩:=o;open agX in exact Vh
set_option maxHeartbeats 4000000
abbrev rqv (q:Rq):Value:= .agg #[.int .i64 q.no,.string q.k,.int .i64 q.n,.int .i64 q.s]
theorem abd (q:Rq) (no:Int) (w:World) (h0:0≤q.no) (h1:q.no≤1000000000) (h2:0≤no) (h3:no≤1000000000):
 Calls Tryz.prog 188 #[rqv q,.int .i64 no] w fun e w'=>e= .returned (.int .i64 (q.no - no))∧Below w.heap.size w w':=by
 obtain⟨qno,qk,qn,qs⟩:=q;dsimp only at h0 h1;go_enter Tryz.func188,Tryz.ntmps188
 go_wp2_with fail;go_ret;exact⟨rfl,au w _⟩
theorem anA (a:Option Addr) (cap:Nat) (l:List Rq) (no:Int) (w:World) (hl:l.length≤1000) (ha:iA w a l) (hp:l.Pairwise (fun s t=>s.no < t.no)) (hb:∀q∈l,0≤q.no∧q.no≤1000000000) (h0:0≤no) (h1:no≤1000000000):
 Calls Tryz.prog 187 #[.slice a l.length cap,.int .i64 no,.func (.func 188) #[] #[]] w fun e w'=>e= .returned (.tuple #[.int .i64 (dx l no:Nat),.bool (kK l no)])∧Below w.heap.size w w':=by
 have HC:=hide (fun q w1 (hq:q∈l)=>abd q no w1 (hb q hq).1 (hb q hq).2 h0 h1);have PW:=hide (uo l no);have HHI:=hide (um (no:=no) hp);have HLE:=hide (rO l no);have HF:=hide (lu l no);have HA:=hide ha;clear ha hp hb;generalize kK l no=RF at *;generalize dx l no=R at *;go_enter Tryz.func187,Tryz.ntmps187
 go_wp2_with fail;go_loopw [9,10] (fun i j wr=>∃p q:Nat,p≤R∧R≤q∧q≤l.length∧i= .int .i64 p∧j= .int .i64 q∧Below w.heap.size w wr) (fun i j _=>(intOf j).toNat - (intOf i).toNat)
 case atStart=>exact⟨0,l.length,Nat.zero_le _,HLE,Nat.le_refl _,rfl,rfl,Below.refl _ _⟩
 case round=>
  obtain⟨p,q,h2,h3,h4,rfl,rfl,hbw⟩:=hrel;have HB:=hide hbw;clear hbw;by_cases hlt:p < q
  ·have GL:(p:Int) < (q:Int):=by omega
   go_upto_region 5 with fail;obtain⟨m,hm⟩:∃m:Nat,((p:Int)+q) / 2=m:=⟨(p+q) / 2,by omega⟩;have hmp:p≤m:=by omega
   have hmq:m < q:=by omega
   rw [hm];clear hm GL;have hml:m < l.length:=by omega
   obtain⟨g,off,e0,hg,q0,q1,q2,q3⟩:=iA.four (GR.At.below HA HB) m hml;have HCM:=hide (fun w1=>HC l[m] w1 (List.getElem_mem hml));have HLM:=hide (PW m hml);have HHM:=hide (HHI m hml);subst e0;generalize l[m]=lm at *;obtain⟨ln,lk,lx,ls⟩:=lm;dsimp only at q0 q1 q2 q3 HCM HLM HHM;open alJ in exact YW
  ·have hpq:p=R:=by omega
   subst hpq;have hnlt:¬((p:Int) < (q:Int)):=by omega
   by_cases hpl:p < l.length
   ·have aqS:(p:Int) < (l.length:Int):=by omega
    obtain⟨g,off,e0,hg,q0,q1,q2,q3⟩:=iA.four (GR.At.below HA HB) p hpl;have HCM:=hide (fun w1=>HC l[p] w1 (List.getElem_mem hpl))
    have HFP:Hid (RF=decide (l[p].no=no)):=by
     show RF=_
     rw [Bool.eq_iff_iff,ah HF,decide_eq_true_iff];exact⟨fun⟨_,h⟩=>h,fun h=>⟨hpl,h⟩⟩
    subst e0;clear HF HC PW HHI;generalize l[p]=lm at *;obtain⟨ln,lk,lx,ls⟩:=lm;dsimp only at q0 q1 q2 q3 HCM HFP;open alI in exact YW
   ·have aqS:¬((p:Int) < (l.length:Int)):=by omega
    have HFP:Hid (RF=false):=by
     show RF=_
     rw [Bool.eq_false_iff];intro h;exact hpl (HF.1 h).1
    clear HF HC PW HHI;go_wp2_with fail;go_ret2
    exact⟨by rw [ah HFP];rfl,HB⟩
theorem Fq (w0 w:World) (wb:Nat) (n:Nd) (A:bE) (G:aU) (c:Nat→Nat) (v:Value) (L:List Mg) (no:Int) (hok:fQ n=true) (h0:0≤no) (h1:no≤1000000000) (h:WK w0 w wb n A G c v L):
 Calls Tryz.prog 164 #[.pointer (some ⟨wb,0,none⟩),.int .i64 no] w fun e w'=>e= .returned (.tuple #[.int .i64 (dx n.reqs no:Nat),.bool (kK n.reqs no)])∧Below w.heap.size w w':=by
 obtain⟨r1,r2,r3,r4,r5⟩:=gQ hok;have HBS:=hide (fun w1 (ha:iA w1 A.r n.reqs)=>anA A.r A.cr n.reqs no w1 (by omega) ha r1 (fun q hq=>by have:=iV (r3 q hq);omega) h0 h1);have HA:=hide h.no.at.r;obtain⟨c0,c1,c2,c3,c4,c5,c6,c7,c8,c9⟩:=gY h.blk;clear h r1 r3 hok;generalize kK n.reqs no=RF at *;generalize dx n.reqs no=R at *;go_enter Tryz.func164,Tryz.ntmps164
 go_wp2_with fail;refine(HBS w HA).mono ?_;rintro e w1 ⟨rfl,hb1⟩;have HB:=hide hb1;clear hb1;go_wp2_with fail;go_ret2
 exact⟨rfl,HB⟩
end Go.Proofs.YtacgbldlonoaaaaGreatDoor
