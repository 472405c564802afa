/- Parts. -/
import Derived.Test.YtfmdndhliinhpaaGreatDoorRa15
namespace Go.Proofs.YtfmdndhliinhpaaGreatDoor
set_option maxHeartbeats 4000000
set_option maxRecDepth 100000
open Go.RowKit
open Mth
theorem WK.app {w0 w w6:World} {wb:Nat} {n:Nd} {A:bQ} {G:aX} {c:Nat→Nat} {v v':Value} {L:List Mg} (h:WK w0 w wb n A G c v L) (m:Mg)
 (hown:w6.ownsRow w0.heap.size 32 7 v' (L.length+1) (GR.flat je L++je m)) (hg:w.grownBy w6 v.ownBlock) (hv:∀x,v'.ownBlock=some x→v.ownBlock=some x∨w.heap.size≤x):
 w6.heap[wb]?=some (.cells (Ll n A v) 50 (0,0))∧WK w0 (w6.setCell ⟨wb,9,none⟩ v') wb n A G (newC w.heap.size 7 c) v' (L++[m]):=by
 have h1:=h.recol (c':=newC w.heap.size 7 c) (fun x hx=>dR hx);have hk1:KC (newC w.heap.size 7 c) 7 w w6:=KC.grown hg h1.cm;have hblk:=hk1.obj h1.blk (by rw [h1.cw];omega);have hno:=h1.no.kc hk1 (by omega);have hkeep:=hk1.below h1.keep h1.no.lo (by omega) h1.keep.size;have hk2:KC (newC w.heap.size 7 c) 8 w6 (w6.setCell ⟨wb,9,none⟩ v'):=KC.set h1.cw
 have hcm:∀x,v'.ownBlock=some x→newC w.heap.size 7 c x=7:=fun x hx=>by
  rcases hv x hx with hx'|hx'
  ·exact h1.cm x hx'
  ·exact aW hx'
 refine⟨hblk,hk2.below hkeep h1.no.lo (by omega) hkeep.size,bg hblk 9 v',hno.kc hk2 (by omega),?_,hcm,h1.cw⟩;rw [List.length_append,gN];exact hk2.own hown hcm (by omega)
theorem O9 (w0 w:World) (wb:Nat) (n:Nd) (A:bQ) (G:aX) (c:Nat→Nat) (v:Value) (L:List Mg) (m:Mg) (hk:m.k.size≤1048600) (hL:L.length≤2097200) (h:WK w0 w wb n A G c v L):
 Calls Tryz.prog 82 #[.pointer (some ⟨wb,0,none⟩),qd m] w fun e w'=>e= .returned (.tuple #[])∧∃c' v',WK w0 w' wb n A G c' v' (L++[m]):=by
 obtain⟨i0,hi,hz0,hz1,hz2⟩:=info_parts OM;have HS:=hide h;clear h;obtain⟨va,vc,hv,_⟩:=GR.own_at (enc:=je) (sz:=7) (l:=L) mG HS.m;subst hv;obtain⟨mK,mF,mT,mI,mL,mk,mN⟩:=m;dsimp only at hk;have HX0:=hide (heap_alloc_new w (.cells #[.int .i64 mK,.int .i64 mF,.int .i64 mT,.int .i64 mI,.int .i64 mL,.string mk,.int .i64 mN] 32));go_enter Tryz.func82,Tryz.ntmps82
 go_wp2_with fail;refine(clone mk _ (by omega)).mono ?_;rintro e w1 ⟨rfl,hb1⟩;have Cv:=hide (au HX0 hb1);have HB1:=hide ((ay w _).trans (hb1.mono (by simp)));clear hb1 HX0;have Qa:=aj Cv 5;obtain⟨x0,x1,x2,x3,x4,x5,x6⟩:=iZ Cv;go_upto_region 2 with fail;refine wp_at (fun W hW=>?_);have HXW:Hid (W.heap[w.heap.size]?=some (.cells #[.int .i64 mK,.int .i64 mF,.int .i64 mT,.int .i64 mI,.int .i64 mL,.string mk,.int .i64 mN] 32 (0,0))):=by rw [hW];exact bg Cv 5 (.string mk)
 have iJ:Hid (Below w.heap.size w W):=by rw [hW];exact HB1.setCell (p:=⟨w.heap.size,5,none⟩) (Nat.le_refl _) _
 clear hW HB1 Cv Qa x0 x1 x2 x3 x4 x5 x6;have Zy:=hide (HS.step iJ);have hwl:=aA HS.blk;have hne:wb≠w.heap.size:=by omega
 have hlW:=aA HXW;obtain⟨x0,x1,x2,x3,x4,x5,x6⟩:=iZ HXW;obtain⟨c0,c1,c2,c3,c4,c5,c6,c7,c8,c9⟩:=iI Zy.blk;have y9:=cell_regrown c9;have z0:=cell_regrown x0;have z1:=cell_regrown x1;have z2:=cell_regrown x2;have z3:=cell_regrown x3;have z4:=cell_regrown x4;have z5:=cell_regrown x5;have z6:=cell_regrown x6;clear x0 x1 x2 x3 x4 x5 x6 c0 c1 c2 c3 c4 c5 c6 c7 c8 c9;refine lG (by kernel_rfl) ?_;show sU _ _ _ _ 11 (Array.replicate 11 false) _ _
 open akV in exact SH
set_option maxHeartbeats 4000000
def Co (n:Nd) (o:iK):List Mg×Int:=if n.par= -1 then([],1) else([EO n o],0)
theorem aeJ (w0 w:World) (wb:Nat) (n:Nd) (A:bQ) (G:aX) (c:Nat→Nat) (v:Value) (L:List Mg) (o:iK) (hk:o.k.size≤1048576) (hL:L.length≤2097100) (h:WK w0 w wb n A G c v L):
 Calls Tryz.prog 49 #[.pointer (some ⟨wb,0,none⟩),jY o] w fun e w'=>e= .returned (.int .i64 (Co n o).2)∧∃c' v',WK w0 w' wb n A G c' v' (L++(Co n o).1):=by
 have En:=hide (fun W c v (hW:WK w0 W wb n A G c v L)=>O9 w0 W wb n A G c v L (EO n o) (by show o.k.size≤1048600;omega) (by omega) hW);unfold EO at En;have hwl:=aA h.blk;have hne:wb≠w.heap.size:=by omega
 by_cases hpar:n.par= -1
 ·have hR:Co n o=([],1):=if_pos hpar;rw [hR];obtain⟨K,no,k,nn,⟨mK,mF,mT,mI,mL,mk,mN⟩⟩:=o;open akg in exact Oh
 ·have hR:Co n o=([EO n o],0):=if_neg hpar;rw [hR];unfold EO;obtain⟨K,no,k,nn,⟨mK,mF,mT,mI,mL,mk,mN⟩⟩:=o;dsimp only at En ⊢;open atS in exact Fg
set_option maxHeartbeats 8000000
theorem nC {w:World} {g:Nat} {a0 a1 a2 a3 b0 b1 b2 b3:Value} {t:TypeId} (h:w.heap[g]?=some (.cells #[a0,a1,a2,a3] t (0,0))):((((w.setCell ⟨g,0,none⟩ b0).setCell ⟨g,1,none⟩ b1).setCell ⟨g,2,none⟩ b2).setCell ⟨g,3,none⟩ b3).heap[g]?=some (.cells #[b0,b1,b2,b3] t (0,0)):=
 GR.setW_blk [b0,b1,b2,b3] (o:=0) (xs:=[a0,a1,a2,a3]) h
theorem gY {a w:World} {B g:Nat} {b0 b1 b2 b3:Value} (h:Below B a w) (hg:B≤g):Below B a ((((w.setCell ⟨g,0,none⟩ b0).setCell ⟨g,1,none⟩ b1).setCell ⟨g,2,none⟩ b2).setCell ⟨g,3,none⟩ b3):=
 GR.setW_below hg [b0,b1,b2,b3] (o:=0) h
theorem WK.outApp {w0 w w6:World} {wb:Nat} {n:Nd} {A:bQ} {G:aX} {c:Nat→Nat} {v:Value} {L:List Mg} {a6:Option Addr} {c6:Nat} (h:WK w0 w wb n A G c v L) (s:jH)
 (hown:w6.ownsRow w0.heap.size 55 4 (.slice a6 (n.out.length+1) c6) (n.out.length+1) (GR.flat aU n.out++aU s)) (hg:w.grownBy w6 (Value.slice A.o n.out.length A.co).ownBlock) (hv:∀x,(Value.slice a6 (n.out.length+1) c6).ownBlock=some x→(Value.slice A.o n.out.length A.co).ownBlock=some x∨w.heap.size≤x):
 w6.heap[wb]?=some (.cells (Ll n A v) 50 (0,0))∧KC (newC w.heap.size 3 c) 3 w w6∧WK w0 (w6.setCell ⟨wb,5,none⟩ (.slice a6 (n.out.length+1) c6)) wb (setOut n (n.out++[s])) ⟨A.k,A.p,a6,A.s,A.r,A.ck,A.cp,c6,A.cs,A.cr⟩ G (newC w.heap.size 3 c) v L:=by
 have h1:=h.recol (c':=newC w.heap.size 3 c) (fun x hx=>dR hx);have hk1:KC (newC w.heap.size 3 c) 3 w w6:=KC.grown hg h1.no.co;have hblk:=hk1.obj h1.blk (by rw [h1.cw];omega);have hkeep:=hk1.below h1.keep h1.no.lo (by omega) h1.keep.size;have hk2:KC (newC w.heap.size 3 c) 8 w6 (w6.setCell ⟨wb,5,none⟩ (.slice a6 (n.out.length+1) c6)):=KC.set h1.cw
 have hco:∀x,(Value.slice a6 (n.out.length+1) c6).ownBlock=some x→newC w.heap.size 3 c x=3:=fun x hx=>by
  rcases hv x hx with hx'|hx'
  ·exact h1.no.co x hx'
  ·exact aW hx'
 have hlen:(n.out++[s]).length=n.out.length+1:=by simp
 have hno:=h1.no;refine⟨hblk,hk1,hk2.below hkeep hno.lo (by omega) hkeep.size,?_,⟨?_,?_,?_,?_,?_,hno.lo,hno.ck,hno.cp,?_,hno.c4,hno.ci,hno.cr,hno.ni⟩,?_,h1.cm,h1.cw⟩
 ·have:=bg hblk 5 (.slice a6 (n.out.length+1) c6);rw [this];show some (Obj.cells (Ll n A v |>.setIfInBounds 5 _) _ _)=some (Obj.cells #[_,_,_,_,_,.slice a6 (n.out++[s]).length c6,_,_,_,_] _ _)
  rw [hlen];rfl
 ·exact hk2.w (hk1.w hno.k hno.ck (by omega)) hno.ck (by omega)
 ·exact hk2.w (hk1.w hno.p hno.cp (by omega)) hno.cp (by omega)
 ·show(w6.setCell _ _).ownsRow _ _ _ (.slice a6 (n.out++[s]).length c6) (n.out++[s]).length (GR.flat aU (n.out++[s]))
  rw [hlen,gN];exact hk2.own hown hco (by omega)
 ·exact ab4
 ·exact hk2.own (hk1.own hno.r hno.cr (by omega)) hno.cr (by omega)
 ·show∀x,(Value.slice a6 (n.out++[s]).length c6).ownBlock=some x→_
  rw [hlen];exact hco
 ·exact hk2.own (hk1.own h1.m h1.cm (by omega)) h1.cm (by omega)
theorem WK.next {w0 w:World} {wb:Nat} {n:Nd} {A:bQ} {G:aX} {c:Nat→Nat} {v:Value} {L:List Mg} (h:WK w0 w wb n A G c v L) (y:Int):WK w0 (w.setCell ⟨wb,3,none⟩ (.int .i64 y)) wb (YL n y) A G c v L:=by
 have hk2:KC c 8 w (w.setCell ⟨wb,3,none⟩ (.int .i64 y)):=KC.set h.cw;have hno:=h.no.kc hk2 (by omega);exact⟨hk2.below h.keep h.no.lo (by omega) h.keep.size,bg h.blk 3 (.int .i64 y),⟨hno.k,hno.p,hno.o,hno.s,hno.r,hno.lo,hno.ck,hno.cp,hno.co,hno.c4,hno.ci,hno.cr,hno.ni⟩,hk2.own h.m h.cm (by omega),h.cm,h.cw⟩
theorem wI {s:ByteArray} (hs:keyOk s.data.toList=true):s.size≤10:=by
 unfold keyOk at hs;simp only[Bool.and_eq_true,decide_eq_true_iff] at hs;have:=iq s;omega
theorem VJ {n:Nd} (h:dJ n=true):eF n 1000:=by
 obtain⟨h1,h2,h3,h4,h5,h6⟩:=bf h;obtain⟨p1,p2,p3⟩:=(jl n.pu).1 h2;obtain⟨o1,o2,o3⟩:=pO h5;obtain⟨r1,r2,r3,_,_⟩:=fF h6
 have hk:n.kids.length≤30:=by
  unfold dx at h1;simp only[Bool.and_eq_true,decide_eq_true_eq] at h1;exact h1.1.2
 unfold mJ at h3;simp only[Bool.and_eq_true,decide_eq_true_eq] at h3
 have hs:n.seen.length≤31:=by
  have:=h3.1;split at this<;>omega
 refine⟨by omega,by omega,by omega,by omega,by omega,fun x hx=>?_,fun x hx=>?_,fun x hx=>?_,fun x hx=>?_⟩
 ·have:=p1 x hx;unfold fT at this;simp only[Bool.and_eq_true] at this;exact Nat.le_trans (wI this.1.1.1.1) (by omega)
 ·have:=o3 x hx;unfold rJ at this;simp only[Bool.and_eq_true] at this;exact Nat.le_trans (wI this.1.2) (by omega)
 ·have:=vX h3.2 x hx;unfold rM at this;simp only[Bool.and_eq_true,decide_eq_true_eq] at this;have:=this.2.1.2;omega
 ·have:=(jm (r3 x hx)).2.2.1;exact Nat.le_trans (wI this) (by omega)
theorem Nr (w0 w:World) (wb:Nat) (n:Nd) (A:bQ) (G:aX) (c:Nat→Nat) (v:Value) (L:List Mg) (dst:Int) (key:ByteArray) (a:Int) (hc:n.out.length=40) (h:WK w0 w wb n A G c v L):Calls Tryz.prog 83 #[.pointer (some ⟨wb,0,none⟩),.int .i64 dst,.string key,.int .i64 a] w fun e w'=>e= .returned (.bool false)∧w=w':=by
 have hq:((n.out.length:Int) == 40)=true:=by rw [hc];rfl
 exact abK
theorem Ns (w0 w:World) (wb:Nat) (n:Nd) (A:bQ) (G:aX) (c:Nat→Nat) (v:Value) (L:List Mg) (dst:Int) (key:ByteArray) (a:Int) (hl:n.out.length < 40) (hc:n.next=1000000000) (h:WK w0 w wb n A G c v L):Calls Tryz.prog 83 #[.pointer (some ⟨wb,0,none⟩),.int .i64 dst,.string key,.int .i64 a] w fun e w'=>e= .returned (.bool false)∧w=w':=by
 have hq:((n.out.length:Int) == 40)=false:=by simp;omega
 have hq2:(n.next == 1000000000)=true:=by rw [hc];rfl
 exact abK
theorem Nt (w0 w:World) (wb:Nat) (n:Nd) (A:bQ) (G:aX) (c:Nat→Nat) (v:Value) (L:List Mg) (dst:Int) (key:ByteArray) (a:Int) (E:Nat→Addr) (hok:dJ n=true) (hkey:keyOk key.data.toList=true) (ha1:1≤a) (ha2:a≤1000000000) (hL:L.length≤2097100) (hc1:n.out.length < 40) (hc2:n.next < 1000000000) (h:WK w0 w wb n A G c v L) (he:iw w0 E):
 Calls Tryz.prog 83 #[.pointer (some ⟨wb,0,none⟩),.int .i64 dst,.string key,.int .i64 a] w fun e w'=>e= .returned (.bool (eu n dst key a).2.2)∧∃A' G' c' v',WK w0 w' wb (eu n dst key a).1 A' G' c' v' (L++(eu n dst key a).2.1):=by
 have hz:=VJ hok;obtain⟨_,hps,_,hnx,_,_⟩:=bf hok;have hnx1:1≤n.next∧n.next≤1000000000:=by simpa [eU] using hnx
 have hks:=wI hkey
 have hf:0≤(aG n.pu key).f∧(aG n.pu key).f≤1000000000:=by
  have hpo:=vw hps hkey;unfold fT nS at hpo;simp only[Bool.and_eq_true,decide_eq_true_eq] at hpo;exact hpo.1.1.2
 have Ai:=hide (fun w1 (hb:Below w.heap.size w w1)=>JA A.p A.cp n.pu key w1 (by have:=hz.p;omega) (fun p hp=>Nat.le_trans (hz.pk p hp) (by omega)) (by omega) (GR.At.below h.no.p.at hb));have HPA:=hide (fun(y:Int) w1 (hb:Below w.heap.size w w1)=>Vj A.p A.cp n.pu key y E w1 (by have:=hz.p;omega) (fun p hp=>Nat.le_trans (hz.pk p hp) (by omega)) (by omega) (GR.At.below h.no.p.at hb) (he.below (h.keep.trans (hb.mono h.keep.size))));unfold jf at HPA
 have Cr:Hid (mX n key a=min a (aG n.pu key).f):=by
  show mX n key a=min a (aG n.pu key).f
  unfold mX;split<;>omega
 have xR:=hide (fun(y:Int) (h1:1≤y) (h2:y≤(aG n.pu key).f) (h3:y≤1000000000)=>YH hps hkey h1 h2 h3);have l7:=hide (fun(y:Int) (h1:¬1≤y)=>Fq (l:=n.pu) (key:=key) (dm:=0) (df:= -1) (ds:=0) (n:=y) (fun hx=>h1 hx.1))
 have HGY:Hid (1≤mX n key a→eu n dst key a=(oo n dst key (mX n key a),[mP (oo n dst key (mX n key a)) ⟨n.next,dst,key,mX n key a⟩],true)):=fun h1=>by
  unfold eu
  exact if_pos (decide_eq_true ⟨h1,hc1,hc2⟩)
 have Ze:Hid (¬1≤mX n key a→eu n dst key a=(n,[],false)):=fun h1=>by
  unfold eu J4
  rw [if_neg (by rw [decide_eq_false (fun hx=>h1 hx.1)];simp)]
 have hq1:((n.out.length:Int) == 40)=false:=by simp;omega
 have hq2:(n.next == 1000000000)=false:=by simp;omega
 have HOL:=hide hc1;have HZ:=hide hz;generalize hfr:aG n.pu key=fr at *;obtain⟨fk,fm,ff,fs⟩:=fr;dsimp only at hf Cr xR;have HW:=hide h;clear h he hok hkey hps hnx hc1 hc2 hfr hz;generalize eu n dst key a=gv at *;obtain⟨c0,c1,c2,c3,c4,c5,c6,c7,c8,c9⟩:=iI HW.blk;go_enter Tryz.func83,Tryz.ntmps83
 go_wp2_with fail;refine(Ai w (Below.refl _ _)).mono ?_;rintro e w1 ⟨rfl,hb1⟩;have HB1:=hide hb1;have HW1:=hide (HW.step hb1);clear hb1 Ai c0 c1 c2 c3 c4 c5 c6 c7 c8 c9;obtain⟨c0,c1,c2,c3,c4,c5,c6,c7,c8,c9⟩:=iI HW1.blk;have auO:=yB fk fm ff fs;go_wp2_with fail;clear c0 c1 c2 c3 c4 c5 c6 c7 c8 c9 auO;have awd:min a ff≤a:=by omega
 have ava:min a ff≤ff:=by omega
 generalize min a ff=qc at *;have hAM:=ah Cr;rw [hAM] at HGY Ze;clear Cr hAM;refine(HPA qc w1 HB1).mono ?_;rintro e y ⟨pa,pcp,pg,hpg,rfl,hp,hby⟩;have HST:=hide (O4 (cp:=pcp) HW1 hby hpg hp);have HPD:Hid (oo n dst key qc=⟨n.id,n.par,n.kids,n.next+1,(cK n.pu key 0 (-1) 0 qc).1,n.out++[⟨n.next,dst,key,qc⟩],n.seen,n.old,n.reqs⟩):=rfl;have zM:=hide (xR qc);have Pn:=hide (l7 qc);clear hp hby hpg HPA xR l7 HW1;generalize cK n.pu key 0 (-1) 0 qc=r at *;go_wp2_with fail;refine HST.mono ?_;rintro e z ⟨rfl,A1,G1,c1,hZ⟩;by_cases h1:1≤qc
 case' neg=>
  have hr:=ah Pn (by omega)
  subst hr
  have HZ1:=hide hZ
  have hG:=ah Ze (by omega)
  have HG:=hide hG
  clear hZ hG HGY Ze HST zM Pn HPD
  go_wp2_with fail
  go_ret
  have hG:=ah HG
  subst hG
  refine⟨rfl,A1,G1,c1,v,?_⟩
  rw [List.append_nil]
  exact HZ1
 have hr2:=ah zM h1 ava (by omega);obtain⟨rl,rb⟩:=r;dsimp only at hr2;subst hr2;have HG:=hide (HGY h1);have Ag:Hid (WK w0 z wb (setPu n rl) A1 G1 c1 v L):=hZ;clear hZ HGY Ze HST zM Pn HB1 HW;have hcl:n.out.length≤40:=by have:=ah HOL;omega
 obtain⟨c0,c1,c2,c3,c4,c5,c6,c7,c8,c9⟩:=iI Ag.blk;dsimp only[setPu] at c0 c1 c2 c3 c4 c5 c6 c7 c8 c9;have awu:=aA Ag.blk;go_upto_region 6 with fail;have y3:=cell_regrown c3;clear c0 c1 c2 c3 c4 c5 c6 c7 c8 c9;refine bJ 11 (by kernel_rfl) ?_;show dZ _ _ _ _ _ 12 (Array.replicate 12 false) _ _
 refine tk [0,1,2,3,4,5,6,8] ?_;iterate 8 (refine oJ (fun K hK=>?_);go_simp;refine hK _ ?_;clear hK K)
 refine kK ?_;clear y3;refine vI 7 10 rfl rfl (by kernel_rfl) (by rfl) (by rfl) (fun x hx=>?c1) (fun x hx=>?c2)
 case' c1=>
  go_simp
  refine(clone key x (by omega)).mono ?_
  rintro e y ⟨rfl,hby⟩
  refine⟨hby,?_⟩
  have HY:=hide (Ge.trans hx hby)
  clear hx hby
  refine tk [9] ?_
  (refine oJ (fun K hK=>?_);go_simp;refine hK _ ?_;clear hK K)
  refine kK ?_
  refine dK 10 rfl (by kernel_rfl) (by rfl) (fun x2 hx2=>?_)
  go_simp
  refine⟨ay x2 _,?_⟩
  have hgl:z.heap.size≤x2.heap.size:=(Ge.trans HY hx2).size
  have Hz:=hide (heap_alloc_new x2 (.cells #[.int .i64 0,.int .i64 0,.string ⟨#[]⟩,.int .i64 0] 55))
  have rP:=hide (Ge.trans (Ge.trans HY hx2) (ay x2 (.cells #[.int .i64 0,.int .i64 0,.string ⟨#[]⟩,.int .i64 0] 55)))
  clear hx2 HY
  generalize x2.alloc (.cells #[.int .i64 0,.int .i64 0,.string ⟨#[]⟩,.int .i64 0] 55)=y2 at *
  generalize x2.heap.size=g at *
  refine aZ (by kernel_rfl) (fun z2 hz2=>?_)
  have jD:=hide (au Hz hz2)
  have eP:=hide (Ge.trans rP hz2)
  clear hz2 Hz rP
  have zP:=aA jD
  obtain⟨g0,g1,g2,g3⟩:=fC jD
  have f0:=aj jD 0
  have f1:=aj jD 1
  have f2:=aj jD 2
  have f3:=aj jD 3
  refine aF 11 rfl (by kernel_rfl) (by rfl) ?_
  go_simp
  refine wpAny_done (by kernel_rfl) ?_
  go_simp
  go_upto_region 7 with fail
  refine wp_at (fun W hW=>?_)
  have ND:Hid (W.heap[g]?=some (.cells #[.int .i64 n.next,.int .i64 dst,.string key,.int .i64 qc] 55 (0,0))):=by rw [hW];exact nC jD
  have iJ:Hid (Below z.heap.size z W):=by rw [hW];exact gY eP hgl
  clear hW jD eP zP g0 g1 g2 g3 f0 f1 f2 f3
 case' c2=>
  go_simp
  refine⟨ay x _,?_⟩
  have hgl:z.heap.size≤x.heap.size:=hx.size
  have Hz:=hide (heap_alloc_new x (.cells #[.int .i64 0,.int .i64 0,.string ⟨#[]⟩,.int .i64 0] 55))
  have rP:=hide (Ge.trans hx (ay x (.cells #[.int .i64 0,.int .i64 0,.string ⟨#[]⟩,.int .i64 0] 55)))
  clear hx
  generalize x.alloc (.cells #[.int .i64 0,.int .i64 0,.string ⟨#[]⟩,.int .i64 0] 55)=y2 at *
  generalize x.heap.size=g at *
  refine dK 7 rfl (by kernel_rfl) (by rfl) (fun x2 hx2=>?_)
  go_simp
  refine(clone key x2 (by omega)).mono ?_
  rintro e y3 ⟨rfl,hby⟩
  refine⟨hby,?_⟩
  have Zd:=hide (au Hz (Ge.trans hx2 hby))
  have Y6:=hide (Ge.trans rP (Ge.trans hx2 hby))
  clear hx2 hby Hz rP
  refine tk [9] ?_
  (refine oJ (fun K hK=>?_);go_simp;refine hK _ ?_;clear hK K)
  refine kK ?_
  refine aZ (by kernel_rfl) (fun z2 hz2=>?_)
  have jD:=hide (au Zd hz2)
  have eP:=hide (Ge.trans Y6 hz2)
  clear hz2 Zd Y6
  have zP:=aA jD
  obtain⟨g0,g1,g2,g3⟩:=fC jD
  have f0:=aj jD 0
  have f1:=aj jD 1
  have f2:=aj jD 2
  have f3:=aj jD 3
  refine aF 11 rfl (by kernel_rfl) (by rfl) ?_
  go_simp
  refine wpAny_done (by kernel_rfl) ?_
  go_simp
  go_upto_region 7 with fail
  refine wp_at (fun W hW=>?_)
  have ND:Hid (W.heap[g]?=some (.cells #[.int .i64 n.next,.int .i64 dst,.string key,.int .i64 qc] 55 (0,0))):=by rw [hW];exact nC jD
  have iJ:Hid (Below z.heap.size z W):=by rw [hW];exact gY eP hgl
  clear hW jD eP zP g0 g1 g2 g3 f0 f1 f2 f3
 all_goals
  have hgw:=aA ND
  have Sr:=hide (Ag.step iJ)
  have HCG:Hid ((Value.slice A1.o n.out.length A1.co).ownBlock≠some g):=fun e=>by have h9:=(Ag.no.o.lt g e).2;omega
  clear Ag iJ
  obtain⟨c0,c1,c2,c3,c4,c5,c6,c7,c8,c9⟩:=iI Sr.blk
  dsimp only[setPu] at c0 c1 c2 c3 c4 c5 c6 c7 c8 c9
  obtain⟨s0,s1,s2,s3⟩:=fC ND
  obtain⟨i0,hi,hz0,hz1,hz2⟩:=info_parts Ar
  have y5:=cell_regrown c5
  have x0:=cell_regrown s0
  have x1:=cell_regrown s1
  have x2:=cell_regrown s2
  have x3:=cell_regrown s3
  clear c0 c1 c2 c3 c4 c5 c6 c7 c8 c9 s0 s1 s2 s3
  refine lG (by kernel_rfl) ?_
  show sU _ _ _ _ 13 (Array.replicate 13 false) _ _
  refine oz 0 rfl (by kernel_rfl) (by kernel_rfl) (by kernel_rfl) (fun _ _ _ _ h=>h) (fun K hK=>?_)
  go_simp
  first
   |(refine hK _ ?_;clear hK K)
   |(apply Exists.intro
     refine⟨fun _=>rfl,hK _ ?_⟩
     clear hK K)
  refine sV 8 ?_
  refine tk [1,2,3,4,5,6] ?_
  iterate 6 (refine oJ (fun K hK=>?_);go_simp;refine hK _ ?_;clear hK K)
  refine kK ?_
  clear y5 x0 x1 x2 x3
  refine dK 7 rfl (by kernel_rfl) (by rfl) (fun q hq=>?_)
  go_simp
  refine⟨ay q _,?_⟩
  have Em:=hide ((Sr.step hq).step (ay q (.cells #[.int .i64 n.next,.int .i64 dst,.string key,.int .i64 qc] 55)))
  have HGX:=hide (au (au ND hq) (ay q (.cells #[.int .i64 n.next,.int .i64 dst,.string key,.int .i64 qc] 55)))
  have fP:=hide (heap_alloc_new q (.cells #[.int .i64 n.next,.int .i64 dst,.string key,.int .i64 qc] 55))
  have hgq:g < q.heap.size:=Nat.lt_of_lt_of_le hgw hq.size
  clear hq Sr ND hgw
  generalize q.alloc (.cells #[.int .i64 n.next,.int .i64 dst,.string key,.int .i64 qc] 55)=y4 at *
  refine aZ (by kernel_rfl) (fun z4 zR=>?_)
  have Sg:=hide (Em.step zR)
  have HGZ:=hide (au HGX zR)
  have Cz:=hide (au fP zR)
  clear zR Em fP HGX
  refine aF 8 rfl (by kernel_rfl) (by rfl) ?_
  refine rE z4 (.tmp 63) (.tmp 65) 26 rfl w0.heap.size 55 i0 (.agg #[.int .i64 0,.int .i64 0,.string ByteArray.empty,.int .i64 0]) 4 40 Tryz.underlying26 hi hz0 hz1 hz2 rfl (by decide) (.slice A1.o n.out.length A1.co) n.out.length (GR.flat aU n.out) (by simp[Act.eval]) Sg.no.o ⟨q.heap.size,0,none⟩ 1 1 (aU ⟨n.next,dst,key,qc⟩) (by simp[Act.eval]) rfl (World.news_of_block Cz) (qp _) (by unfold maxLen;omega) (by omega) Sg.keep.size ?_
  intro v6 w6 hown6 qy Jt
  obtain⟨a6,c6,hv6,_⟩:=GR.own_at (enc:=aU) (sz:=4) (l:=n.out++[⟨n.next,dst,key,qc⟩]) cu (by rw [List.length_append,gN];exact hown6)
  rw [List.length_append] at hv6
  have hv7:v6= .slice a6 (n.out.length+1) c6:=hv6
  subst hv7
  clear hv6
  obtain⟨hb6,Lh,hS6⟩:=Sg.outApp ⟨n.next,dst,key,qc⟩ hown6 qy Jt
  have XA:=hide hS6
  obtain⟨k0,k1,k2,k3,k4,k5,k6,k7,k8,k9⟩:=iI hb6
  have kf:=aj hb6 5
  have HG6:Hid (w6.heap[g]?=some (.cells #[.int .i64 n.next,.int .i64 dst,.string key,.int .i64 qc] 55 (0,0))):=qy.block g (aA HGZ) (fun e=>HCG e.symm) |>.trans HGZ
  clear hown6 qy Jt hb6 hS6 Lh Sg Cz HGZ
  refine aF 9 rfl (by kernel_rfl) (by rfl) ?_
  go_simp
  refine aF 10 rfl (by kernel_rfl) (by rfl) ?_
  go_simp
  refine aF 11 rfl (by kernel_rfl) (by rfl) ?_
  go_simp
  refine aF 12 rfl (by kernel_rfl) (by rfl) ?_
  go_simp
  refine wpAny_done (by kernel_rfl) ?_
  go_simp
  have hgb:g≠wb:=by omega
  go_upto_region 8 with fail
  refine wp_at (fun V8 hV=>?_)
  obtain⟨A8,G8,Yb,Sd⟩:∃A8 G8 Yb,Hid (WK w0 V8 wb (setOut (setPu n rl) (n.out++[⟨n.next,dst,key,qc⟩])) A8 G8 Yb v L):=⟨_,_,_,by rw [hV];exact XA⟩
  have HG8:Hid (V8.heap[g]?=some (.cells #[.int .i64 n.next,.int .i64 dst,.string key,.int .i64 qc] 55 (0,0))):=by rw [hV];exact jB HG6 hgb
  clear hV XA HG6 kf k0 k1 k2 k3 k4 k5 k6 k7 k8 k9
  obtain⟨c0,c1,c2,c3,c4,c5,c6,c7,c8,c9⟩:=iI Sd.blk
  dsimp only[setPu,setOut] at c0 c1 c2 c3 c4 c5 c6 c7 c8 c9
  have kf3:=aj Sd.blk 3
  go_upto_region 9 with fail
  refine wp_at (fun V9 hV=>?_)
  have HS9:Hid (WK w0 V9 wb (oo n dst key qc) A8 G8 Yb v L):=by rw [hV,ah HPD];exact Sd.next (n.next+1)
  have Zc:Hid (V9.heap[g]?=some (.cells #[.int .i64 n.next,.int .i64 dst,.string key,.int .i64 qc] 55 (0,0))):=by rw [hV];exact jB HG8 hgb
  have hl9:(oo n dst key qc).out.length≤1048600:=by rw [ah HPD];simp;omega
  clear hV Sd HG8 kf3 HPD c0 c1 c2 c3 c4 c5 c6 c7 c8 c9
  generalize oo n dst key qc=n9 at *
  have AO:=hide (fun p:Regrown=>Ez n9 A8 ⟨n.next,dst,key,qc⟩ (Gr V9 p) hl9 (GR.At.below HS9.no.at.o (below_regrown V9 p.d p.os)))
  have En:=hide (fun x (hx:Ge V9 x)=>O9 w0 x wb n9 A8 G8 Yb v L (mP n9 ⟨n.next,dst,key,qc⟩) (by show key.size≤1048600;omega) (by omega) (HS9.step hx))
  generalize mP n9 ⟨n.next,dst,key,qc⟩=pm at *
  obtain⟨qK,qF,qT,qI,qL,qk,qN⟩:=pm
  obtain⟨c0,c1,c2,c3,c4,c5,c6,c7,c8,c9⟩:=iI HS9.blk
  obtain⟨s0,s1,s2,s3⟩:=fC Zc
  have y0:=cell_regrown c0
  have y1:=cell_regrown c1
  have y2:=cell_regrown c2
  have y3:=cell_regrown c3
  have y4:=cell_regrown c4
  have y5:=cell_regrown c5
  have y6:=cell_regrown c6
  have y7:=cell_regrown c7
  have y8:=cell_regrown c8
  have x0:=cell_regrown s0
  have x1:=cell_regrown s1
  have x2:=cell_regrown s2
  have x3:=cell_regrown s3
  have hg9:=aA Zc
  have hw9:=aA HS9.blk
  clear c0 c1 c2 c3 c4 c5 c6 c7 c8 c9 s0 s1 s2 s3
  refine bJ 7 (by kernel_rfl) ?_
  show dZ _ _ _ _ _ 8 (Array.replicate 8 false) _ _
  refine tk [0,1,2,3,4,5] ?_
  iterate 6 (refine oJ (fun K hK=>?_);go_simp;refine hK _ ?_;clear hK K)
  refine kK ?_
  refine sZ 6 20 rfl (by kernel_rfl) (by kernel_rfl) (by kernel_rfl) (by kernel_rfl) (by kernel_rfl) (fun _ _ _ _ h=>h) (fun K hK=>?_)
  go_simp
  first
   |(refine hK _ ?_;clear hK K)
   |(apply Exists.intro
     refine⟨fun _=>?_,hK _ ?_⟩
     (exact AO _)
     clear hK K)
  clear y0 y1 y2 y3 y4 y5 y6 y7 y8 x0 x1 x2 x3
  refine aZ (by kernel_rfl) (fun x hx=>?_)
  have Em:=hide (En x hx)
  clear hx
  refine aF 7 rfl (by kernel_rfl) (by rfl) ?_
  go_simp
  refine Em.mono ?_
  rintro e y9 ⟨rfl,c',v',hY⟩
  have HY:=hide hY
  clear hY Em
  refine wpAny_done (by kernel_rfl) ?_
  go_simp
  go_wp2_with fail
  go_ret
  have hG:=ah HG
  subst hG
  exact⟨rfl,A8,G8,c',v',HY⟩
theorem acK (w0 w:World) (wb:Nat) (n:Nd) (A:bQ) (G:aX) (c:Nat→Nat) (v:Value) (L:List Mg) (dst:Int) (key:ByteArray) (a:Int) (E:Nat→Addr) (hok:dJ n=true) (hkey:keyOk key.data.toList=true) (ha1:1≤a) (ha2:a≤1000000000) (hL:L.length≤2097100) (h:WK w0 w wb n A G c v L) (he:iw w0 E):
 Calls Tryz.prog 83 #[.pointer (some ⟨wb,0,none⟩),.int .i64 dst,.string key,.int .i64 a] w fun e w'=>e= .returned (.bool (eu n dst key a).2.2)∧∃A' G' c' v',WK w0 w' wb (eu n dst key a).1 A' G' c' v' (L++(eu n dst key a).2.1):=by
 obtain⟨_,_,_,hnx,ho,_⟩:=bf hok;have hnx1:1≤n.next∧n.next≤1000000000:=by simpa [eU] using hnx
 have hol:=(pO ho).2.1
 have hgn:(n.out.length=40∨n.next=1000000000)→eu n dst key a=(n,[],false):=fun hx=>by
  unfold eu J4
  rw [if_neg (by rw [decide_eq_false (fun hy=>by omega)];simp)]
 by_cases h40:n.out.length=40
 ·rw [hgn (.inl h40)];refine(Nr w0 w wb n A G c v L dst key a h40 h).mono ?_;exact acs
 ·by_cases hl:n.next=1000000000
  ·rw [hgn (.inr hl)];refine(Ns w0 w wb n A G c v L dst key a (by omega) hl h).mono ?_;exact acs
  ·exact Nt w0 w wb n A G c v L dst key a E hok hkey ha1 ha2 hL (by omega) (by omega) h he
set_option maxHeartbeats 4000000
theorem VK (n:Nd) (A:bQ) (x:Int) (w:World) (hp:dx n=true) (hl:n.kids.length≤1048600) (ha:dQ w A n):
 Calls Tryz.prog 70 #[fU n A,.int .i64 x] w fun e w'=>e= .returned (.bool (dH n x))∧Below w.heap.size w w':=by
 have h:=Jy n A x w hl ha.k;rw [near_same hp] at h;exact h
def AY (n:Nd) (o:iK):Nd×List Mg×Int:=if n.par= -1 then(n,[],1) else((eu n n.par o.k o.n).1,(eu n n.par o.k o.n).2.1,if (eu n n.par o.k o.n).2.2=true then 0 else 1)
theorem aey (w0 w:World) (wb:Nat) (n:Nd) (A:bQ) (G:aX) (c:Nat→Nat) (v:Value) (L:List Mg) (o:iK) (E:Nat→Addr) (hok:dJ n=true) (hkey:keyOk o.k.data.toList=true) (ha1:1≤o.n) (ha2:o.n≤1000000000) (hL:L.length≤2097100) (h:WK w0 w wb n A G c v L) (he:iw w0 E):
 Calls Tryz.prog 50 #[.pointer (some ⟨wb,0,none⟩),jY o] w fun e w'=>e= .returned (.int .i64 (AY n o).2.2)∧∃A' G' c' v',WK w0 w' wb (AY n o).1 A' G' c' v' (L++(AY n o).2.1):=by
 have AO:=hide (fun W c v (hW:WK w0 W wb n A G c v L)=>acK w0 W wb n A G c v L n.par o.k o.n E hok hkey ha1 ha2 hL hW he);have hwl:=aA h.blk;have hne:wb≠w.heap.size:=by omega
 clear hok hkey ha1 ha2 he;by_cases hpar:n.par= -1
 ·have hR:AY n o=(n,[],1):=if_pos hpar;rw [hR];obtain⟨K,no,k,nn,⟨mK,mF,mT,mI,mL,mk,mN⟩⟩:=o;open aki in exact Oh
 ·have hR:AY n o=((eu n n.par o.k o.n).1,(eu n n.par o.k o.n).2.1,if (eu n n.par o.k o.n).2.2=true then 0 else 1):=if_neg hpar;rw [hR];obtain⟨K,no,k,nn,⟨mK,mF,mT,mI,mL,mk,mN⟩⟩:=o;dsimp only at AO ⊢;open atT in exact Fg
theorem Wq (w0 w:World) (wb:Nat) (n:Nd) (A:bQ) (G:aX) (c:Nat→Nat) (v:Value) (L:List Mg) (m:Mg) (hp:dx n=true) (hz:n.kids.length≤1048600) (h:WK w0 w wb n A G c v L):
 Calls Tryz.prog 45 #[.pointer (some ⟨wb,0,none⟩),qd m] w fun e w'=>e= .returned (.bool (decide (m.T=n.id)&&dH n m.F))∧Below w.heap.size w w':=by
 obtain⟨mK,mF,mT,mI,mL,mk,mN⟩:=m;have K9:=hide (fun w1 (ha:dQ w1 A n)=>VK n A mF w1 hp hz ha);dsimp only;generalize dH n mF=nb at *;open ajQ in exact adn
theorem aeI (w0 w:World) (wb:Nat) (n:Nd) (A:bQ) (G:aX) (c:Nat→Nat) (v:Value) (L:List Mg) (o:iK) (hz:eF n 1048576) (hL:L.length≤1048000) (h:WK w0 w wb n A G c v L):
 Calls Tryz.prog 51 #[.pointer (some ⟨wb,0,none⟩),jY o] w fun e w'=>e= .returned (.int .i64 0)∧∃c' v',WK w0 w' wb n A G c' v' (L++n.out.map (mP n)):=by
 have AO:=hide (fun s W (ha:SentAt W A.o n.out)=>Ez n A s W (by have:=hz.o;omega) ha);have En:=hide (fun W c v (k:Nat) (hk:k≤n.out.length) m (hm:m.k.size≤1048600) (hW:WK w0 W wb n A G c v (L++(n.out.take k).map (mP n)))=>O9 w0 W wb n A G c v _ m hm (by have:=hz.o;rw [List.length_append,List.length_map,List.length_take];omega) hW);have HKK:Hid (∀s∈n.out,(mP n s).k.size≤1048600):=fun s hs=>Nat.le_trans (hz.ok s hs) (by omega)
 have hlo:=hz.o;obtain⟨K,no,k,nn,⟨mK,mF,mT,mI,mL,mk,mN⟩⟩:=o;open akh in exact Oh
set_option maxHeartbeats 4000000
abbrev rqv (q:Rq):Value:= .agg #[.int .i64 q.no,.string q.k,.int .i64 q.n,.int .i64 q.s]
theorem adG (q:Rq) (no:Int) (w:World) (h0:0≤q.no) (h1:q.no≤1000000000) (h2:0≤no) (h3:no≤1000000000):
 Calls Tryz.prog 105 #[rqv q,.int .i64 no] w fun e w'=>e= .returned (.int .i64 (q.no - no))∧Below w.heap.size w w':=by
 obtain⟨qno,qk,qn,qs⟩:=q;dsimp only at h0 h1;go_enter Tryz.func105,Tryz.ntmps105
 go_wp2_with fail;go_ret;exact⟨rfl,ay w _⟩
theorem arq (a:Option Addr) (cap:Nat) (l:List Rq) (no:Int) (w:World) (hl:l.length≤1000) (ha:iD w a l) (hp:l.Pairwise (fun s t=>s.no < t.no)) (hb:∀q∈l,0≤q.no∧q.no≤1000000000) (h0:0≤no) (h1:no≤1000000000):
 Calls Tryz.prog 104 #[.slice a l.length cap,.int .i64 no,.func (.func 105) #[] #[]] w fun e w'=>e= .returned (.tuple #[.int .i64 (bH l no:Nat),.bool (jP l no)])∧Below w.heap.size w w':=by
 have HC:=hide (fun q w1 (hq:q∈l)=>adG q no w1 (hb q hq).1 (hb q hq).2 h0 h1);have RI:=hide (vC l no);have HHI:=hide (vB (no:=no) hp);have HLE:=hide (qP l no);have HF:=hide (lu l no);have HA:=hide ha;clear ha hp hb;generalize jP l no=RF at *;generalize bH l no=R at *;go_enter Tryz.func104,Tryz.ntmps104
 go_wp2_with fail;go_loopw [9,10] (fun i j wr=>∃p q:Nat,p≤R∧R≤q∧q≤l.length∧i= .int .i64 p∧j= .int .i64 q∧Below w.heap.size w wr) (fun i j _=>(intOf j).toNat - (intOf i).toNat)
 case atStart=>exact⟨0,l.length,Nat.zero_le _,HLE,Nat.le_refl _,rfl,rfl,Below.refl _ _⟩
 case round=>
  obtain⟨p,q,h2,h3,h4,rfl,rfl,hbw⟩:=hrel;have HB:=hide hbw;clear hbw;by_cases hlt:p < q
  ·have Jm:(p:Int) < (q:Int):=by omega
   go_upto_region 5 with fail;obtain⟨m,hm⟩:∃m:Nat,((p:Int)+q) / 2=m:=⟨(p+q) / 2,by omega⟩;have hmp:p≤m:=by omega
   have hmq:m < q:=by omega
   rw [hm];clear hm Jm;have hml:m < l.length:=by omega
   obtain⟨g,off,e0,hg,q0,q1,q2,q3⟩:=iD.four (GR.At.below HA HB) m hml;have HCM:=hide (fun w1=>HC l[m] w1 (List.getElem_mem hml));have HLM:=hide (RI m hml);have HHM:=hide (HHI m hml);subst e0;generalize l[m]=lm at *;obtain⟨ln,lk,lx,ls⟩:=lm;dsimp only at q0 q1 q2 q3 HCM HLM HHM;open apt in exact abw
  ·have hpq:p=R:=by omega
   subst hpq;have hnlt:¬((p:Int) < (q:Int)):=by omega
   by_cases hpl:p < l.length
   ·have avk:(p:Int) < (l.length:Int):=by omega
    obtain⟨g,off,e0,hg,q0,q1,q2,q3⟩:=iD.four (GR.At.below HA HB) p hpl;have HCM:=hide (fun w1=>HC l[p] w1 (List.getElem_mem hpl))
    have HFP:Hid (RF=decide (l[p].no=no)):=by
     show RF=_
     rw [Bool.eq_iff_iff,ah HF,decide_eq_true_iff];exact⟨fun⟨_,h⟩=>h,fun h=>⟨hpl,h⟩⟩
    subst e0;clear HF HC RI HHI;generalize l[p]=lm at *;obtain⟨ln,lk,lx,ls⟩:=lm;dsimp only at q0 q1 q2 q3 HCM HFP;open aps in exact abw
   ·have avk:¬((p:Int) < (l.length:Int)):=by omega
    have HFP:Hid (RF=false):=by
     show RF=_
     rw [Bool.eq_false_iff];intro h;exact hpl (HF.1 h).1
    clear HF HC RI HHI;go_wp2_with fail;go_ret2
    exact⟨by rw [ah HFP];rfl,HB⟩
theorem Hl (w0 w:World) (wb:Nat) (n:Nd) (A:bQ) (G:aX) (c:Nat→Nat) (v:Value) (L:List Mg) (no:Int) (hok:gF n=true) (h0:0≤no) (h1:no≤1000000000) (h:WK w0 w wb n A G c v L):
 Calls Tryz.prog 78 #[.pointer (some ⟨wb,0,none⟩),.int .i64 no] w fun e w'=>e= .returned (.tuple #[.int .i64 (bH n.reqs no:Nat),.bool (jP n.reqs no)])∧Below w.heap.size w w':=by
 obtain⟨r1,r2,r3,r4,r5⟩:=fF hok;have HBS:=hide (fun w1 (ha:iD w1 A.r n.reqs)=>arq A.r A.cr n.reqs no w1 (by omega) ha r1 (fun q hq=>by have:=jm (r3 q hq);omega) h0 h1);have HA:=hide h.no.at.r;obtain⟨c0,c1,c2,c3,c4,c5,c6,c7,c8,c9⟩:=iI h.blk;clear h r1 r3 hok;generalize jP n.reqs no=RF at *;generalize bH n.reqs no=R at *;go_enter Tryz.func78,Tryz.ntmps78
 go_wp2_with fail;refine(HBS w HA).mono ?_;rintro e w1 ⟨rfl,hb1⟩;have HB:=hide hb1;clear hb1;go_wp2_with fail;go_ret2
 exact⟨rfl,HB⟩
end Go.Proofs.YtfmdndhliinhpaaGreatDoor
