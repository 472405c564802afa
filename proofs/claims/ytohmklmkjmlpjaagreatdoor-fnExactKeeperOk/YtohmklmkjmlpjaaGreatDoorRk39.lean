/- Parts. -/
import Derived.Test.YtohmklmkjmlpjaaGreatDoorRk29
import Derived.Test.YtohmklmkjmlpjaaGreatDoorRk22
import Derived.Test.YtohmklmkjmlpjaaGreatDoorRk30
namespace Go.Proofs.YtohmklmkjmlpjaaGreatDoor
open Go.Proofs.Tryz
set_option maxHeartbeats 8000000
set_option maxRecDepth 100000
open Go.RowKit
open Mth
variable (w0 w:World) (wb:Nat) (n:Nd) (A:bV) (G:aY) (c:Nat->Nat) (v:Value) (L:List Mg) {g:Nat}
theorem BN (wb:Nat) (a:Option Addr) (len cp:Nat) (w:World):Calls prog 209 #[.pointer (some ⟨wb,0,none⟩),.slice a len cp,.bool false] w λe w'=>e= .returned (.bool false)/\w=w':=by
 go_in
 exact Oz
theorem yF (wb:Nat) (n:Nd) (A:bV) (v:Value) (a:Option Addr) (len cp:Nat) (w:World) (h:w.heap[wb]?=some (.cells (Wu n A v) 192 (0,0))):Calls prog 209 #[.pointer (some ⟨wb,0,none⟩),.slice a len cp,.bool true] w λe w'=>e= .returned (.bool true)/\w.setCell ⟨wb,4,none⟩ (.slice a len cp)=w':=by
 obtain⟨c0,c1,c2,c3,c4,c5,c6,c7,c8,c9⟩:=jH h;have f4:=aj h 4;clear h;go_in
 exact Oz
theorem Wn {w0 w x:World} {wb:Nat} {n:Nd} {A:bV} {G:aY} {c:Nat->Nat} {v:Value} {L:List Mg} (h:WK w0 w wb n A G c v L) {r:List Pu×Bool} {a:Option Addr} {cp g:Nat} (hb:aI w x) (hg:w.heap.size<=g) (hp:wN x a g r.1):
 Calls prog 209 #[.pointer (some ⟨wb,0,none⟩),.slice a r.1.length cp,.bool r.2] x λe w'=>e= .returned (.bool r.2)/\∃A' G' c',WK w0 w' wb (if r.2=true then setPu n r.1 else n) A' G' c' v L:=by
 obtain⟨l,b⟩:=r;cases b with
 |false=>
  refine(BN wb a l.length cp x).mono ?_;rintro e w' ⟨rfl,rfl⟩;exact⟨rfl,A,G,c,h.step hb⟩
 |true=>
  refine(yF wb n A v a l.length cp x (h.step hb).blk).mono ?_;rintro e w' ⟨rfl,rfl⟩;exact⟨rfl,_,_,_,h.setPu hb hp (λy hy=>by rw [(eD hy).1];exact hg)⟩
def uK (n:Nd) (o:gQ):Nd×Int:=if n.par= -1/\(dJ n.pu o.k 1 1 0 o.n).2=true then(setPu n (dJ n.pu o.k 1 1 0 o.n).1,0) else(n,1)
theorem Y9 (o:gQ) (hpar:¬n.par= -1) (h:WK w0 w wb n A G c v L):
 Calls prog 175 #[.pointer (some ⟨wb,0,none⟩),jJ o] w λe w'=>e= .returned (.int .i64 (uK n o).2)/\∃A' G' c',WK w0 w' wb (uK n o).1 A' G' c' v L:=by
 have hR:uK n o=(n,1):=if_neg (λhx=>hpar hx.1);rw [hR];have hq:(n.par != -1)=true:=Abg
 have hq2:(n.par == -1)=false:=Abg
 have HW:=Hq h;obtain⟨K,no,k,nn,⟨mK,mF,mT,mI,mL,mk,mN⟩⟩:=o;open aqA in exact WY
theorem Ux (o:gQ) (E:Nat->Addr) (hz:eX n 1048576) (hk:o.k.size<=1048576) (hpar:n.par= -1) (h:WK w0 w wb n A G c v L) (he:iI w0 E):
 Calls prog 175 #[.pointer (some ⟨wb,0,none⟩),jJ o] w λe w'=>e= .returned (.int .i64 (uK n o).2)/\∃A' G' c',WK w0 w' wb (uK n o).1 A' G' c' v L:=by
 have hR:uK n o=((if (dJ n.pu o.k 1 1 0 o.n).2=true then setPu n (dJ n.pu o.k 1 1 0 o.n).1 else n),(if (dJ n.pu o.k 1 1 0 o.n).2=true then 0 else 1)):=by
  unfold uK;cases hb:(dJ n.pu o.k 1 1 0 o.n).2<;>simp[hpar]
 rw [hR];have hq:(n.par != -1)=false:=Abg
 have hq2:(n.par == -1)=true:=Abg
 have HW:=Hq h;have HMI:=Hq (λw1 (hb:aI w w1)=>acg A.p A.cp n.pu o.k o.n E w1 hz.p hz.pk hk (GR.At.below h.no.p.at hb) (he.below (h.keep.trans (hb.mono h.keep.size))));unfold jO at HMI;obtain⟨K,no,k,nn,⟨mK,mF,mT,mI,mL,mk,mN⟩⟩:=o;dsimp only at HMI ⊢;generalize dJ n.pu k 1 1 0 nn=r at *;open aqz in exact WY
theorem amo (o:gQ) (E:Nat->Addr) (hz:eX n 1048576) (hk:o.k.size<=1048576) (h:WK w0 w wb n A G c v L) (he:iI w0 E):
 Calls prog 175 #[.pointer (some ⟨wb,0,none⟩),jJ o] w λe w'=>e= .returned (.int .i64 (uK n o).2)/\∃A' G' c',WK w0 w' wb (uK n o).1 A' G' c' v L:=by
 by_cases hpar:n.par= -1
 .exact Ux w0 w wb n A G c v L o E hz hk hpar h he
 .exact Y9 w0 w wb n A G c v L o hpar h
def Gb (n:Nd) (o:gQ):List Mg×Int:=if n.par= -1 then([],1) else([J3 n o],0)
theorem amr (o:gQ) (hk:o.k.size<=1048576) (hL:L.length<=2097100) (h:WK w0 w wb n A G c v L):
 Calls prog 178 #[.pointer (some ⟨wb,0,none⟩),jJ o] w λe w'=>e= .returned (.int .i64 (Gb n o).2)/\∃c' v',WK w0 w' wb n A G c' v' (L++(Gb n o).1):=by
 have HSY:=Hq (λW c v (hW:WK w0 W wb n A G c v L)=>Wt w0 W wb n A G c v L (J3 n o) (by show o.k.size<=1048600;omega) Aaa hW);unfold J3 at HSY;have hwl:=aA h.blk;have hne:wb≠w.heap.size:=Aaa
 by_cases hpar:n.par= -1
 .have hR:Gb n o=([],1):=if_pos hpar;rw [hR];open axm in exact aaB
 .have hR:Gb n o=([J3 n o],0):=if_neg hpar;rw [hR];unfold J3;obtain⟨K,no,k,nn,⟨mK,mF,mT,mI,mL,mk,mN⟩⟩:=o;dsimp only at HSY ⊢;open aqB in exact WY
theorem oU {w:World} {a0 a1 a2 a3 b0 b1 b2 b3:Value} {t:TypeId} (h:w.heap[g]?=some (.cells #[a0,a1,a2,a3] t (0,0))):((((w.setCell ⟨g,0,none⟩ b0).setCell ⟨g,1,none⟩ b1).setCell ⟨g,2,none⟩ b2).setCell ⟨g,3,none⟩ b3).heap[g]?=some (.cells #[b0,b1,b2,b3] t (0,0)):=
 GR.setW_blk [b0,b1,b2,b3] (o:=0) (xs:=[a0,a1,a2,a3]) h
theorem iX {a w:World} {B:Nat} {b0 b1 b2 b3:Value} (h:Below B a w) (hg:B<=g):Below B a ((((w.setCell ⟨g,0,none⟩ b0).setCell ⟨g,1,none⟩ b1).setCell ⟨g,2,none⟩ b2).setCell ⟨g,3,none⟩ b3):=
 GR.setW_below hg [b0,b1,b2,b3] (o:=0) h
theorem WK.outApp {w0 w w6:World} {wb:Nat} {n:Nd} {A:bV} {G:aY} {c:Nat->Nat} {v:Value} {L:List Mg} {a6:Option Addr} {c6:Nat} (h:WK w0 w wb n A G c v L) (s:jw) (hown:w6.ownsRow w0.heap.size 91 4 (.slice a6 (n.out.length+1) c6) (n.out.length+1) (GR.flat aV n.out++aV s)) (hg:w.grownBy w6 (Value.slice A.o n.out.length A.co).ownBlock) (hv:∀x,(Value.slice a6 (n.out.length+1) c6).ownBlock=some x->(Value.slice A.o n.out.length A.co).ownBlock=some x\/w.heap.size<=x):
 w6.heap[wb]?=some (.cells (Wu n A v) 192 (0,0))/\KC (newC w.heap.size 3 c) 3 w w6/\WK w0 (w6.setCell ⟨wb,5,none⟩ (.slice a6 (n.out.length+1) c6)) wb (setOut n (n.out++[s])) ⟨A.k,A.p,a6,A.s,A.r,A.ck,A.cp,c6,A.cs,A.cr⟩ G (newC w.heap.size 3 c) v L:=by
 have h1:=h.recol (c':=newC w.heap.size 3 c) (λx hx=>fq hx);have hk1:KC (newC w.heap.size 3 c) 3 w w6:=KC.grown hg h1.no.co;have hblk:=hk1.obj h1.blk (by rw [h1.cw];omega);have hkeep:=hk1.below h1.keep h1.no.lo Aaa h1.keep.size;have hk2:KC (newC w.heap.size 3 c) 8 w6 (w6.setCell ⟨wb,5,none⟩ (.slice a6 (n.out.length+1) c6)):=KC.set h1.cw
 have hco:∀x,(Value.slice a6 (n.out.length+1) c6).ownBlock=some x->newC w.heap.size 3 c x=3:=λx hx=>by
  rcases hv x hx with hx'|hx'
  .exact h1.no.co x hx'
  .exact bq hx'
 have hlen:(n.out++[s]).length=n.out.length+1:=Aac
 have hno:=h1.no;refine⟨hblk,hk1,hk2.below hkeep hno.lo Aaa hkeep.size,?_,⟨?_,?_,?_,?_,?_,hno.lo,hno.ck,hno.cp,?_,hno.c4,hno.ci,hno.cr,hno.ni⟩,?_,h1.cm,h1.cw⟩
 .have:=aR hblk 5 (.slice a6 (n.out.length+1) c6);rw [this];show some (Obj.cells (Wu n A v |>.setIfInBounds 5 _) _ _)=some (Obj.cells #[_,_,_,_,_,.slice a6 (n.out++[s]).length c6,_,_,_,_] _ _)
  rw [hlen];rfl
 .exact hk2.w (hk1.w hno.k hno.ck Aaa) hno.ck Aaa
 .exact hk2.w (hk1.w hno.p hno.cp Aaa) hno.cp Aaa
 .show(w6.setCell _ _).ownsRow _ _ _ (.slice a6 (n.out++[s]).length c6) (n.out++[s]).length (GR.flat aV (n.out++[s]))
  rw [hlen,iW];exact hk2.own hown hco Aaa
 .exact ajA
 .exact hk2.own (hk1.own hno.r hno.cr Aaa) hno.cr Aaa
 .show∀x,(Value.slice a6 (n.out++[s]).length c6).ownBlock=some x->_
  rw [hlen];exact hco
 .exact hk2.own (hk1.own h1.m h1.cm Aaa) h1.cm Aaa
theorem WK.next {w0 w:World} {wb:Nat} {n:Nd} {A:bV} {G:aY} {c:Nat->Nat} {v:Value} {L:List Mg} (h:WK w0 w wb n A G c v L) (y:Int):WK w0 (w.setCell ⟨wb,3,none⟩ (.int .i64 y)) wb (afD n y) A G c v L:=by
 have hk2:KC c 8 w (w.setCell ⟨wb,3,none⟩ (.int .i64 y)):=KC.set h.cw;have hno:=h.no.kc hk2 Aaa;exact⟨hk2.below h.keep h.no.lo Aaa h.keep.size,aR h.blk 3 (.int .i64 y),⟨hno.k,hno.p,hno.o,hno.s,hno.r,hno.lo,hno.ck,hno.cp,hno.co,hno.c4,hno.ci,hno.cr,hno.ni⟩,hk2.own h.m h.cm Aaa,h.cm,h.cw⟩
theorem zH {s:ByteArray} (hs:keyOk s.data.toList=true):s.size<=10:=by
 unfold keyOk at hs;simp only[Bool.and_eq_true,decide_eq_true_iff] at hs;have:=bE s;omega
theorem acQ {n:Nd} (h:dY n=true):eX n 1000:=by
 obtain⟨h1,h2,h3,h4,h5,h6⟩:=cu h;obtain⟨p1,p2,p3⟩:=(jT n.pu).1 h2;obtain⟨o1,o2,o3⟩:=rR h5;obtain⟨r1,r2,r3,_,_⟩:=jc h6
 have hk:n.kids.length<=30:=by
  unfold eP at h1;simp only[Bool.and_eq_true,decide_eq_true_eq] at h1;exact h1.1.2
 unfold nV at h3;simp only[Bool.and_eq_true,decide_eq_true_eq] at h3
 have hs:n.seen.length<=31:=by
  have:=h3.1;split at this<;>omega
 refine⟨Aaa,Aaa,Aaa,Aaa,Aaa,λx hx=>?_,λx hx=>?_,λx hx=>?_,λx hx=>?_⟩
 .have:=p1 x hx;unfold iD at this;simp only[Bool.and_eq_true] at this;exact Nat.le_trans (zH this.1.1.1.1) Aaa
 .have:=o3 x hx;unfold uR at this;simp only[Bool.and_eq_true] at this;exact Nat.le_trans (zH this.1.2) Aaa
 .have:=zl h3.2 x hx;unfold uV at this;simp only[Bool.and_eq_true,decide_eq_true_eq] at this;have:=this.2.1.2;omega
 .have:=(jV (r3 x hx)).2.2.1;exact Nat.le_trans (zH this) Aaa
theorem Uy (dst:Int) (key:ByteArray) (a:Int) (hc:n.out.length=40) (h:WK w0 w wb n A G c v L):Calls prog 216 #[.pointer (some ⟨wb,0,none⟩),.int .i64 dst,.string key,.int .i64 a] w λe w'=>e= .returned (.bool false)/\w=w':=by
 have hq:((n.out.length:Int) == 40)=true:=by rw [hc];rfl
 exact aju
theorem Uz (dst:Int) (key:ByteArray) (a:Int) (hl:n.out.length < 40) (hc:n.next=1000000000) (h:WK w0 w wb n A G c v L):Calls prog 216 #[.pointer (some ⟨wb,0,none⟩),.int .i64 dst,.string key,.int .i64 a] w λe w'=>e= .returned (.bool false)/\w=w':=by
 have hq:((n.out.length:Int) == 40)=false:=Aag
 have hq2:(n.next == 1000000000)=true:=by rw [hc];rfl
 exact aju
theorem UA (dst:Int) (key:ByteArray) (a:Int) (E:Nat->Addr) (hok:dY n=true) (hkey:keyOk key.data.toList=true) (ha1:1<=a) (ha2:a<=1000000000) (hL:L.length<=2097100) (hc1:n.out.length < 40) (hc2:n.next < 1000000000) (h:WK w0 w wb n A G c v L) (he:iI w0 E):
 Calls prog 216 #[.pointer (some ⟨wb,0,none⟩),.int .i64 dst,.string key,.int .i64 a] w λe w'=>e= .returned (.bool (fD n dst key a).2.2)/\∃A' G' c' v',WK w0 w' wb (fD n dst key a).1 A' G' c' v' (L++(fD n dst key a).2.1):=by
 have hz:=acQ hok;obtain⟨_,hps,_,hnx,_,_⟩:=cu hok;have hnx1:1<=n.next/\n.next<=1000000000:=by simpa [fK] using hnx
 have hks:=zH hkey
 have hf:0<=(aD n.pu key).f/\(aD n.pu key).f<=1000000000:=by
  have hpo:=yA hps hkey;unfold iD qy at hpo;simp only[Bool.and_eq_true,decide_eq_true_eq] at hpo;exact hpo.1.1.2
 have Jb:=Hq (λw1 (hb:aI w w1)=>Pz A.p A.cp n.pu key w1 (by have:=hz.p;omega) (λp hp=>Nat.le_trans (hz.pk p hp) Aaa) Aaa (GR.At.below h.no.p.at hb));have HPA:=Hq (fun(y:Int) w1 (hb:aI w w1)=>ach A.p A.cp n.pu key y E w1 (by have:=hz.p;omega) (λp hp=>Nat.le_trans (hz.pk p hp) Aaa) Aaa (GR.At.below h.no.p.at hb) (he.below (h.keep.trans (hb.mono h.keep.size))));unfold jO at HPA
 have Gd:Hid (oF n key a=min a (aD n.pu key).f):=by
  show oF n key a=min a (aD n.pu key).f
  unfold oF;split<;>omega
 have Rs:=Hq (fun(y:Int) (h1:1<=y) (h2:y<=(aD n.pu key).f) (h3:y<=1000000000)=>afw hps hkey h1 h2 h3);have lI:=Hq (fun(y:Int) (h1:¬1<=y)=>Kr (l:=n.pu) (key:=key) (dm:=0) (df:= -1) (ds:=0) (n:=y) (λhx=>h1 hx.1))
 have HGY:Hid (1<=oF n key a->fD n dst key a=(qQ n dst key (oF n key a),[nZ (qQ n dst key (oF n key a)) ⟨n.next,dst,key,oF n key a⟩],true)):=λh1=>by
  unfold fD
  exact if_pos (decide_eq_true ⟨h1,hc1,hc2⟩)
 have HGN:Hid (¬1<=oF n key a->fD n dst key a=(n,[],false)):=λh1=>by
  unfold fD Qn
  rw [if_neg (by rw [decide_eq_false (λhx=>h1 hx.1)];simp)]
 have hq1:((n.out.length:Int) == 40)=false:=Aag
 have hq2:(n.next == 1000000000)=false:=Aag
 have HOL:=Hq hc1;have HZ:=Hq hz;generalize hfr:aD n.pu key=fr at *;obtain⟨fk,fm,ff,fs⟩:=fr;dsimp only at hf Gd Rs;have HW:=Hq h;clear h he hok hkey hps hnx hc1 hc2 hfr hz;generalize fD n dst key a=gv at *;obtain⟨c0,c1,c2,c3,c4,c5,c6,c7,c8,c9⟩:=jH HW.blk;go_in
 go_wp2_with fail;refine(Jb w (Below.refl _ _)).mono ?_;rintro e w1 ⟨rfl,hb1⟩;have HB1:=Hq hb1;have HW1:=Hq (HW.step hb1);clear hb1 Jb c0 c1 c2 c3 c4 c5 c6 c7 c8 c9;obtain⟨c0,c1,c2,c3,c4,c5,c6,c7,c8,c9⟩:=jH HW1.blk;have aFH:=Bd fk fm ff fs;go_wp2_with fail;clear c0 c1 c2 c3 c4 c5 c6 c7 c8 c9 aFH;have aHq:min a ff<=a:=Aaa
 have aF0:min a ff<=ff:=Aaa
 generalize min a ff=sZ at *;have hAM:=ah Gd;rw [hAM] at HGY HGN;clear Gd hAM;refine(HPA sZ w1 HB1).mono ?_;rintro e y ⟨pa,pcp,pg,hpg,rfl,hp,hby⟩;have HST:=Hq (Wn (cp:=pcp) HW1 hby hpg hp);have HPD:Hid (qQ n dst key sZ=⟨n.id,n.par,n.kids,n.next+1,(dJ n.pu key 0 (-1) 0 sZ).1,n.out++[⟨n.next,dst,key,sZ⟩],n.seen,n.old,n.reqs⟩):=rfl;have CZ:=Hq (Rs sZ);have WB:=Hq (lI sZ);clear hp hby hpg HPA Rs lI HW1;generalize dJ n.pu key 0 (-1) 0 sZ=r at *;go_wp2_with fail;refine HST.mono ?_;rintro e z ⟨rfl,A1,G1,c1,hZ⟩;by_cases h1:1<=sZ
 case' neg=>
  have hr:=ah WB Aaa;subst hr;have HZ1:=Hq hZ;have hG:=ah HGN Aaa;have HG:=Hq hG;clear hZ hG HGY HGN HST CZ WB HPD;go_wp2_with fail;go_ret;have hG:=ah HG;subst hG;refine⟨rfl,A1,G1,c1,v,?_⟩;rw [List.append_nil];exact HZ1
 have hr2:=ah CZ h1 aF0 Aaa;obtain⟨rl,rb⟩:=r;dsimp only at hr2;subst hr2;have HG:=Hq (HGY h1);have yO:Hid (WK w0 z wb (setPu n rl) A1 G1 c1 v L):=hZ;clear hZ HGY HGN HST CZ WB HB1 HW;have hcl:n.out.length<=40:=by have:=ah HOL;omega
 obtain⟨c0,c1,c2,c3,c4,c5,c6,c7,c8,c9⟩:=jH yO.blk;dsimp only[setPu] at c0 c1 c2 c3 c4 c5 c6 c7 c8 c9;have aHF:=aA yO.blk;go_upto_region 6 with fail;have y3:=cell_regrown c3;clear c0 c1 c2 c3 c4 c5 c6 c7 c8 c9;refine dD 11 Aab ?_;show fC _ _ _ _ _ 12 (Array.replicate 12 false) _ _
 refine tk [0,1,2,3,4,5,6,8] ?_;iterate 8 (refine uS (λK hK=>?_);go_simp;refine hK _ ?_;clear hK K)
 refine jK ?_;clear y3;refine yI 7 10 rfl rfl Aab Aad Aad (λx hx=>?c1) (λx hx=>?c2)
 case' c1=>
  go_simp
  refine(clone key x Aaa).mono ?_
  rintro e y ⟨rfl,hby⟩
  refine⟨hby,?_⟩
  have HY:=Hq (Ge.trans hx hby)
  clear hx hby
  refine tk [9] ?_
  (refine uS (λK hK=>?_);go_simp;refine hK _ ?_;clear hK K)
  refine jK ?_
  refine dV 10 rfl Aab Aad (λx2 hx2=>?_)
  go_simp
  refine⟨ay x2 _,?_⟩
  have hgl:z.heap.size<=x2.heap.size:=(Ge.trans HY hx2).size
  have Gg:=Hq (heap_alloc_new x2 (.cells (fA 0 0 ⟨#[]⟩ 0) 91))
  have uT:=Hq (Ge.trans (Ge.trans HY hx2) (ay x2 (.cells (fA 0 0 ⟨#[]⟩ 0) 91)))
  clear hx2 HY
  generalize x2.alloc (.cells (fA 0 0 ⟨#[]⟩ 0) 91)=y2 at *
  generalize x2.heap.size=g at *
  refine bH Aab (λz2 hz2=>?_)
  have kH:=Hq (au Gg hz2)
  have eZ:=Hq (Ge.trans uT hz2)
  clear hz2 Gg uT
  have Dh:=aA kH
  obtain⟨g0,g1,g2,g3⟩:=gG kH
  have f0:=aj kH 0
  have f1:=aj kH 1
  have f2:=aj kH 2
  have f3:=aj kH 3
  refine aH 11 rfl Aab Aad ?_
  go_simp
  refine wpAny_done Aab ?_
  go_simp
  go_upto_region 7 with fail
  refine wp_at (λW hW=>?_)
  have UK:Hid (W.heap[g]?=some (.cells (fA n.next dst key sZ) 91 (0,0))):=Abx
  have iR:Hid (aI z W):=Aby
  clear hW kH eZ Dh g0 g1 g2 g3 f0 f1 f2 f3
 case' c2=>
  go_simp
  refine⟨ay x _,?_⟩
  have hgl:z.heap.size<=x.heap.size:=hx.size
  have Gg:=Hq (heap_alloc_new x (.cells (fA 0 0 ⟨#[]⟩ 0) 91))
  have uT:=Hq (Ge.trans hx (ay x (.cells (fA 0 0 ⟨#[]⟩ 0) 91)))
  clear hx
  generalize x.alloc (.cells (fA 0 0 ⟨#[]⟩ 0) 91)=y2 at *
  generalize x.heap.size=g at *
  refine dV 7 rfl Aab Aad (λx2 hx2=>?_)
  go_simp
  refine(clone key x2 Aaa).mono ?_
  rintro e y3 ⟨rfl,hby⟩
  refine⟨hby,?_⟩
  have HGC:=Hq (au Gg (Ge.trans hx2 hby))
  have HBC:=Hq (Ge.trans uT (Ge.trans hx2 hby))
  clear hx2 hby Gg uT
  refine tk [9] ?_
  (refine uS (λK hK=>?_);go_simp;refine hK _ ?_;clear hK K)
  refine jK ?_
  refine bH Aab (λz2 hz2=>?_)
  have kH:=Hq (au HGC hz2)
  have eZ:=Hq (Ge.trans HBC hz2)
  clear hz2 HGC HBC
  have Dh:=aA kH
  obtain⟨g0,g1,g2,g3⟩:=gG kH
  have f0:=aj kH 0
  have f1:=aj kH 1
  have f2:=aj kH 2
  have f3:=aj kH 3
  refine aH 11 rfl Aab Aad ?_
  go_simp
  refine wpAny_done Aab ?_
  go_simp
  go_upto_region 7 with fail
  refine wp_at (λW hW=>?_)
  have UK:Hid (W.heap[g]?=some (.cells (fA n.next dst key sZ) 91 (0,0))):=Abx
  have iR:Hid (aI z W):=Aby
  clear hW kH eZ Dh g0 g1 g2 g3 f0 f1 f2 f3
 all_goals
  have hgw:=aA UK
  have HWW:=Hq (yO.step iR)
  have HCG:Hid ((Value.slice A1.o n.out.length A1.co).ownBlock≠some g):=λe=>by have h9:=(yO.no.o.lt g e).2;omega
  clear yO iR
  obtain⟨c0,c1,c2,c3,c4,c5,c6,c7,c8,c9⟩:=jH HWW.blk
  dsimp only[setPu] at c0 c1 c2 c3 c4 c5 c6 c7 c8 c9
  obtain⟨s0,s1,s2,s3⟩:=gG UK
  obtain⟨i0,hi,hz0,hz1,hz2⟩:=info_parts Lp
  have y5:=cell_regrown c5
  have x0:=cell_regrown s0
  have x1:=cell_regrown s1
  have x2:=cell_regrown s2
  have x3:=cell_regrown s3
  clear c0 c1 c2 c3 c4 c5 c6 c7 c8 c9 s0 s1 s2 s3
  refine mG Aab ?_
  show vR _ _ _ _ 13 (Array.replicate 13 false) _ _
  refine CP 0 rfl Aab Aab Aab (λ_ _ _ _ h=>h) (λK hK=>?_)
  go_simp
  first
   |(refine hK _ ?_;clear hK K)
   |(apply Exists.intro
     refine⟨λ_=>rfl,hK _ ?_⟩
     clear hK K)
  refine qY 8 ?_
  refine tk [1,2,3,4,5,6] ?_
  iterate 6 (refine uS (λK hK=>?_);go_simp;refine hK _ ?_;clear hK K)
  refine jK ?_
  clear y5 x0 x1 x2 x3
  refine dV 7 rfl Aab Aad (λq hq=>?_)
  go_simp
  refine⟨ay q _,?_⟩
  have Jd:=Hq ((HWW.step hq).step (ay q (.cells (fA n.next dst key sZ) 91)))
  have HGX:=Hq (au (au UK hq) (ay q (.cells (fA n.next dst key sZ) 91)))
  have iG:=Hq (heap_alloc_new q (.cells (fA n.next dst key sZ) 91))
  have hgq:g < q.heap.size:=Nat.lt_of_lt_of_le hgw hq.size
  clear hq HWW UK hgw
  generalize q.alloc (.cells (fA n.next dst key sZ) 91)=y4 at *
  refine bH Aab (λz4 xW=>?_)
  have uX:=Hq (Jd.step xW)
  have HGZ:=Hq (au HGX xW)
  have Dz:=Hq (au iG xW)
  clear xW Jd iG HGX
  refine aH 8 rfl Aab Aad ?_
  refine ou z4 (.tmp 63) (.tmp 65) 36 rfl w0.heap.size 91 i0 (.agg (fA 0 0 ByteArray.empty 0)) 4 40 underlying36 hi hz0 hz1 hz2 rfl Aae (.slice A1.o n.out.length A1.co) n.out.length (GR.flat aV n.out) Aal uX.no.o ⟨q.heap.size,0,none⟩ 1 1 (aV ⟨n.next,dst,key,sZ⟩) Aal rfl (World.news_of_block Dz) (tK _) Aai Aaa uX.keep.size ?_
  intro v6 w6 hown6 qz Pk
  obtain⟨a6,c6,hv6,_⟩:=GR.own_at (enc:=aV) (sz:=4) (l:=n.out++[⟨n.next,dst,key,sZ⟩]) bQ (by rw [List.length_append,iW];exact hown6)
  rw [List.length_append] at hv6
  have hv7:v6= .slice a6 (n.out.length+1) c6:=hv6
  subst hv7
  clear hv6
  obtain⟨hb6,XA,hS6⟩:=uX.outApp ⟨n.next,dst,key,sZ⟩ hown6 qz Pk
  have HS6:=Hq hS6
  obtain⟨k0,k1,k2,k3,k4,k5,k6,k7,k8,k9⟩:=jH hb6
  have kf:=aj hb6 5
  have HG6:Hid (w6.heap[g]?=some (.cells (fA n.next dst key sZ) 91 (0,0))):=qz.block g (aA HGZ) (λe=>HCG e.symm) |>.trans HGZ
  clear hown6 qz Pk hb6 hS6 XA uX Dz HGZ
  refine aH 9 rfl Aab Aad ?_
  go_simp
  refine aH 10 rfl Aab Aad ?_
  go_simp
  refine aH 11 rfl Aab Aad ?_
  go_simp
  refine aH 12 rfl Aab Aad ?_
  go_simp
  refine wpAny_done Aab ?_
  go_simp
  have hgb:g≠wb:=Aaa
  go_upto_region 8 with fail
  refine wp_at (λV8 hV=>?_)
  obtain⟨A8,G8,aeT,Z0⟩:∃A8 G8 aeT,Hid (WK w0 V8 wb (setOut (setPu n rl) (n.out++[⟨n.next,dst,key,sZ⟩])) A8 G8 aeT v L):=⟨_,_,_,by rw [hV];exact HS6⟩
  have HG8:Hid (V8.heap[g]?=some (.cells (fA n.next dst key sZ) 91 (0,0))):=by rw [hV];exact iT HG6 hgb
  clear hV HS6 HG6 kf k0 k1 k2 k3 k4 k5 k6 k7 k8 k9
  obtain⟨c0,c1,c2,c3,c4,c5,c6,c7,c8,c9⟩:=jH Z0.blk
  dsimp only[setPu,setOut] at c0 c1 c2 c3 c4 c5 c6 c7 c8 c9
  have kf3:=aj Z0.blk 3
  go_upto_region 9 with fail
  refine wp_at (λV9 hV=>?_)
  have HS9:Hid (WK w0 V9 wb (qQ n dst key sZ) A8 G8 aeT v L):=by rw [hV,ah HPD];exact Z0.next (n.next+1)
  have HG9:Hid (V9.heap[g]?=some (.cells (fA n.next dst key sZ) 91 (0,0))):=by rw [hV];exact iT HG8 hgb
  have hl9:(qQ n dst key sZ).out.length<=1048600:=by rw [ah HPD];simp;omega
  clear hV Z0 HG8 kf3 HPD c0 c1 c2 c3 c4 c5 c6 c7 c8 c9
  generalize qQ n dst key sZ=n9 at *
  have Ed:=Hq (λp:Regrown=>Ju n9 A8 ⟨n.next,dst,key,sZ⟩ (Gr V9 p) hl9 (GR.At.below HS9.no.at.o (below_regrown V9 p.d p.os)))
  have HSY:=Hq (λx (hx:Ge V9 x)=>Wt w0 x wb n9 A8 G8 aeT v L (nZ n9 ⟨n.next,dst,key,sZ⟩) (by show key.size<=1048600;omega) Aaa (HS9.step hx))
  generalize nZ n9 ⟨n.next,dst,key,sZ⟩=pm at *
  obtain⟨qK,qF,qT,qI,qL,qk,qN⟩:=pm
  obtain⟨c0,c1,c2,c3,c4,c5,c6,c7,c8,c9⟩:=jH HS9.blk
  obtain⟨s0,s1,s2,s3⟩:=gG HG9
  have y0:=cell_regrown c0
  have y1:=cell_regrown c1
  have y2:=cell_regrown c2
  have y3:=cell_regrown c3
  have y4:=cell_regrown c4
  have y5:=cell_regrown c5
  have y6:=cell_regrown c6
  have y7:=cell_regrown c7
  have y8:=cell_regrown c8
  have x0:=cell_regrown s0
  have x1:=cell_regrown s1
  have x2:=cell_regrown s2
  have x3:=cell_regrown s3
  have hg9:=aA HG9
  have hw9:=aA HS9.blk
  clear c0 c1 c2 c3 c4 c5 c6 c7 c8 c9 s0 s1 s2 s3
  refine dD 7 Aab ?_
  show fC _ _ _ _ _ 8 (Array.replicate 8 false) _ _
  refine tk [0,1,2,3,4,5] ?_
  iterate 6 (refine uS (λK hK=>?_);go_simp;refine hK _ ?_;clear hK K)
  refine jK ?_
  refine vT 6 20 rfl Aab Aab Aab Aab Aab (λ_ _ _ _ h=>h) (λK hK=>?_)
  go_simp
  first
   |(refine hK _ ?_;clear hK K)
   |(apply Exists.intro
     refine⟨λ_=>?_,hK _ ?_⟩
     (exact Ed _)
     clear hK K)
  clear y0 y1 y2 y3 y4 y5 y6 y7 y8 x0 x1 x2 x3
  refine bH Aab (λx hx=>?_)
  have Jd:=Hq (HSY x hx)
  clear hx
  refine aH 7 rfl Aab Aad ?_
  go_simp
  refine Jd.mono ?_
  rintro e y9 ⟨rfl,c',v',hY⟩
  have HY:=Hq hY
  clear hY Jd
  refine wpAny_done Aab ?_
  go_simp
  go_wp2_with fail
  go_ret
  have hG:=ah HG
  subst hG
  exact⟨rfl,A8,G8,c',v',HY⟩
theorem akh (dst:Int) (key:ByteArray) (a:Int) (E:Nat->Addr) (hok:dY n=true) (hkey:keyOk key.data.toList=true) (ha1:1<=a) (ha2:a<=1000000000) (hL:L.length<=2097100) (h:WK w0 w wb n A G c v L) (he:iI w0 E):
 Calls prog 216 #[.pointer (some ⟨wb,0,none⟩),.int .i64 dst,.string key,.int .i64 a] w λe w'=>e= .returned (.bool (fD n dst key a).2.2)/\∃A' G' c' v',WK w0 w' wb (fD n dst key a).1 A' G' c' v' (L++(fD n dst key a).2.1):=by
 obtain⟨_,_,_,hnx,ho,_⟩:=cu hok;have hnx1:1<=n.next/\n.next<=1000000000:=by simpa [fK] using hnx
 have hol:=(rR ho).2.1
 have hgn:(n.out.length=40\/n.next=1000000000)->fD n dst key a=(n,[],false):=λhx=>by
  unfold fD Qn
  rw [if_neg (by rw [decide_eq_false (λhy=>Aaa)];simp)]
 by_cases h40:n.out.length=40
 .rw [hgn (.inl h40)];refine(Uy w0 w wb n A G c v L dst key a h40 h).mono ?_;exact ajV
 .by_cases hl:n.next=1000000000
  .rw [hgn (.inr hl)];refine(Uz w0 w wb n A G c v L dst key a Aaa hl h).mono ?_;exact ajV
  .exact UA w0 w wb n A G c v L dst key a E hok hkey ha1 ha2 hL Aaa Aaa h he
theorem acR (n:Nd) (A:bV) (x:Int) (w:World) (hp:eP n=true) (hl:n.kids.length<=1048600) (ha:dx w A n):
 Calls prog 203 #[fQ n A,.int .i64 x] w (eO w (.bool (eF n x))):=by
 have h:=Pw n A x w hl ha.k;rw [near_same hp] at h;exact h
def Es (n:Nd) (o:gQ):Nd×List Mg×Int:=if n.par= -1 then(n,[],1) else((fD n n.par o.k o.n).1,(fD n n.par o.k o.n).2.1,if (fD n n.par o.k o.n).2.2=true then 0 else 1)
theorem amf (o:gQ) (E:Nat->Addr) (hok:dY n=true) (hkey:keyOk o.k.data.toList=true) (ha1:1<=o.n) (ha2:o.n<=1000000000) (hL:L.length<=2097100) (h:WK w0 w wb n A G c v L) (he:iI w0 E):
 Calls prog 179 #[.pointer (some ⟨wb,0,none⟩),jJ o] w λe w'=>e= .returned (.int .i64 (Es n o).2.2)/\∃A' G' c' v',WK w0 w' wb (Es n o).1 A' G' c' v' (L++(Es n o).2.1):=by
 have Ed:=Hq (λW c v (hW:WK w0 W wb n A G c v L)=>akh w0 W wb n A G c v L n.par o.k o.n E hok hkey ha1 ha2 hL hW he);have hwl:=aA h.blk;have hne:wb≠w.heap.size:=Aaa
 clear hok hkey ha1 ha2 he;by_cases hpar:n.par= -1
 .have hR:Es n o=(n,[],1):=if_pos hpar;rw [hR];open axo in exact aaB
 .have hR:Es n o=((fD n n.par o.k o.n).1,(fD n n.par o.k o.n).2.1,if (fD n n.par o.k o.n).2.2=true then 0 else 1):=if_neg hpar;rw [hR];obtain⟨K,no,k,nn,⟨mK,mF,mT,mI,mL,mk,mN⟩⟩:=o;dsimp only at Ed ⊢;open aqC in exact WY
theorem adF (m:Mg) (hp:eP n=true) (hz:n.kids.length<=1048600) (h:WK w0 w wb n A G c v L):
 Calls prog 174 #[.pointer (some ⟨wb,0,none⟩),mY m] w (eO w (.bool (decide (m.T=n.id)&&eF n m.F))):=by
 obtain⟨mK,mF,mT,mI,mL,mk,mN⟩:=m;have RJ:=Hq (λw1 (ha:dx w1 A n)=>acR n A mF w1 hp hz ha);dsimp only;generalize eF n mF=nb at *;open axu in exact aaC
theorem amq (o:gQ) (hz:eX n 1048576) (hL:L.length<=1048000) (h:WK w0 w wb n A G c v L):
 Calls prog 180 #[.pointer (some ⟨wb,0,none⟩),jJ o] w λe w'=>e= .returned (.int .i64 0)/\∃c' v',WK w0 w' wb n A G c' v' (L++n.out.map (nZ n)):=by
 have Ed:=Hq (λs W (ha:SentAt W A.o n.out)=>Ju n A s W (by have:=hz.o;omega) ha);have HSY:=Hq (λW c v (k:Nat) (hk:k<=n.out.length) m (hm:m.k.size<=1048600) (hW:WK w0 W wb n A G c v (L++(n.out.take k).map (nZ n)))=>Wt w0 W wb n A G c v _ m hm (by have:=hz.o;rw [List.length_append,List.length_map,List.length_take];omega) hW);have HKK:Hid (∀s∈n.out,(nZ n s).k.size<=1048600):=λs hs=>Nat.le_trans (hz.ok s hs) Aaa
 have hlo:=hz.o;open axn in exact aaB
end Go.Proofs.YtohmklmkjmlpjaaGreatDoor
