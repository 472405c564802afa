/- Parts. -/
import Derived.Test.YtohmklmkjmlpjaaGreatDoorRc28
import Derived.Test.YtohmklmkjmlpjaaGreatDoorRc16
import Derived.Test.YtohmklmkjmlpjaaGreatDoorRc27
namespace Go.Proofs.YtohmklmkjmlpjaaGreatDoor
open Go.Proofs.Tryz
set_option maxHeartbeats 8000000
set_option maxRecDepth 100000
open Go.RowKit
open Mth
variable (w0 w:World) (wb:Nat) (n:Nd) (A:bV) (G:aR) (c:Nat->Nat) (v:Value) (L:List Mg) {g:Nat}
theorem CJ (wb:Nat) (a:Option Addr) (len cp:Nat) (w:World):Calls prog 209 #[.pointer (some ⟨wb,0,none⟩),.slice a len cp,.bool false] w λe w'=>e= .returned (.bool false)/\w=w':=by
 go_in
 exact JW
theorem zi (wb:Nat) (n:Nd) (A:bV) (v:Value) (a:Option Addr) (len cp:Nat) (w:World) (h:w.heap[wb]?=some (.cells (Xx n A v) 192 (0,0))):Calls prog 209 #[.pointer (some ⟨wb,0,none⟩),.slice a len cp,.bool true] w λe w'=>e= .returned (.bool true)/\w.setCell ⟨wb,4,none⟩ (.slice a len cp)=w':=by
 obtain⟨c0,c1,c2,c3,c4,c5,c6,c7,c8,c9⟩:=jW h;have f4:=aj h 4;clear h;go_in
 exact JW
theorem Xp {w0 w x:World} {wb:Nat} {n:Nd} {A:bV} {G:aR} {c:Nat->Nat} {v:Value} {L:List Mg} (h:WK w0 w wb n A G c v L) {r:List Pu×Bool} {a:Option Addr} {cp g:Nat} (hb:aI w x) (hg:w.heap.size<=g) (hp:xP x a g r.1):
 Calls prog 209 #[.pointer (some ⟨wb,0,none⟩),.slice a r.1.length cp,.bool r.2] x λe w'=>e= .returned (.bool r.2)/\∃A' G' c',WK w0 w' wb (if r.2=true then setPu n r.1 else n) A' G' c' v L:=by
 obtain⟨l,b⟩:=r;cases b with
 |false=>
  refine(CJ wb a l.length cp x).mono ?_;rintro e w' ⟨rfl,rfl⟩;exact⟨rfl,A,G,c,h.step hb⟩
 |true=>
  refine(zi wb n A v a l.length cp x (h.step hb).blk).mono ?_;rintro e w' ⟨rfl,rfl⟩;exact⟨rfl,_,_,_,h.setPu hb hp (λy hy=>by rw [(dQ hy).1];exact hg)⟩
def vM (n:Nd) (o:gW):Nd×Int:=if n.par= -1/\(dK n.pu o.k 1 1 0 o.n).2=true then(setPu n (dK n.pu o.k 1 1 0 o.n).1,0) else(n,1)
theorem ZV (o:gW) (hpar:¬n.par= -1) (h:WK w0 w wb n A G c v L):
 Calls prog 175 #[.pointer (some ⟨wb,0,none⟩),jY o] w λe w'=>e= .returned (.int .i64 (vM n o).2)/\∃A' G' c',WK w0 w' wb (vM n o).1 A' G' c' v L:=by
 have hR:vM n o=(n,1):=aGr (λhx=>hpar hx.1);rw [hR];have hq:(n.par != -1)=true:=Abh
 have hq2:(n.par == -1)=false:=Abh
 have HW:=Hq h;obtain⟨K,no,k,nn,⟨mK,mF,mT,mI,mL,mk,mN⟩⟩:=o;open ap1 in exact XT
theorem Vw (o:gW) (E:Nat->Addr) (hz:eG n 1048576) (hk:o.k.size<=1048576) (hpar:n.par= -1) (h:WK w0 w wb n A G c v L) (he:iK w0 E):
 Calls prog 175 #[.pointer (some ⟨wb,0,none⟩),jY o] w λe w'=>e= .returned (.int .i64 (vM n o).2)/\∃A' G' c',WK w0 w' wb (vM n o).1 A' G' c' v L:=by
 have hR:vM n o=((if (dK n.pu o.k 1 1 0 o.n).2=true then setPu n (dK n.pu o.k 1 1 0 o.n).1 else n),(if (dK n.pu o.k 1 1 0 o.n).2=true then 0 else 1)):=by
  unfold vM;cases hb:(dK n.pu o.k 1 1 0 o.n).2<;>simp[hpar]
 rw [hR];have hq:(n.par != -1)=false:=Abh
 have hq2:(n.par == -1)=true:=Abh
 have HW:=Hq h;have HMI:=Hq (λw1 (hb:aI w w1)=>acO A.p A.cp n.pu o.k o.n E w1 hz.p hz.pk hk (GR.At.below h.no.p.at hb) (he.below (h.keep.trans (hb.mono h.keep.size))));unfold kH at HMI;obtain⟨K,no,k,nn,⟨mK,mF,mT,mI,mL,mk,mN⟩⟩:=o;dsimp only at HMI ⊢;generalize dK n.pu k 1 1 0 nn=r at *;open ap0 in exact XT
theorem amu (o:gW) (E:Nat->Addr) (hz:eG n 1048576) (hk:o.k.size<=1048576) (h:WK w0 w wb n A G c v L) (he:iK w0 E):
 Calls prog 175 #[.pointer (some ⟨wb,0,none⟩),jY o] w λe w'=>e= .returned (.int .i64 (vM n o).2)/\∃A' G' c',WK w0 w' wb (vM n o).1 A' G' c' v L:=by
 by_cases hpar:n.par= -1
 .exact Vw w0 w wb n A G c v L o E hz hk hpar h he
 .exact ZV w0 w wb n A G c v L o hpar h
def Hg (n:Nd) (o:gW):List Mg×Int:=if n.par= -1 then([],1) else([Lg n o],0)
theorem amw (o:gW) (hk:o.k.size<=1048576) (hL:L.length<=2097100) (h:WK w0 w wb n A G c v L):
 Calls prog 178 #[.pointer (some ⟨wb,0,none⟩),jY o] w λe w'=>e= .returned (.int .i64 (Hg n o).2)/\∃c' v',WK w0 w' wb n A G c' v' (L++(Hg n o).1):=by
 have HSY:=Hq (λW c v (hW:WK w0 W wb n A G c v L)=>Xw w0 W wb n A G c v L (Lg n o) (by show o.k.size<=1048600;omega) Aaa hW);unfold Lg at HSY;have hwl:=aA h.blk;have hne:wb≠w.heap.size:=Aaa
 by_cases hpar:n.par= -1
 .have hR:Hg n o=([],1):=aGC hpar;rw [hR];open avH in exact aaR
 .have hR:Hg n o=([Lg n o],0):=aGr hpar;rw [hR];unfold Lg;obtain⟨K,no,k,nn,⟨mK,mF,mT,mI,mL,mk,mN⟩⟩:=o;dsimp only at HSY ⊢;open ap2 in exact XT
theorem qh {w:World} {a0 a1 a2 a3 b0 b1 b2 b3:Value} {t:TypeId} (h:w.heap[g]?=some (.cells #[a0,a1,a2,a3] t (0,0))):((((w.setCell ⟨g,0,none⟩ b0).setCell ⟨g,1,none⟩ b1).setCell ⟨g,2,none⟩ b2).setCell ⟨g,3,none⟩ b3).heap[g]?=some (.cells #[b0,b1,b2,b3] t (0,0)):=
 GR.setW_blk [b0,b1,b2,b3] (o:=0) (xs:=[a0,a1,a2,a3]) h
theorem je {a w:World} {B:Nat} {b0 b1 b2 b3:Value} (h:Below B a w) (hg:B<=g):Below B a ((((w.setCell ⟨g,0,none⟩ b0).setCell ⟨g,1,none⟩ b1).setCell ⟨g,2,none⟩ b2).setCell ⟨g,3,none⟩ b3):=
 GR.setW_below hg [b0,b1,b2,b3] (o:=0) h
theorem WK.outApp {w0 w w6:World} {wb:Nat} {n:Nd} {A:bV} {G:aR} {c:Nat->Nat} {v:Value} {L:List Mg} {a6:Option Addr} {c6:Nat} (h:WK w0 w wb n A G c v L) (s:jM) (hown:w6.ownsRow w0.heap.size 91 4 (.slice a6 (n.out.length+1) c6) (n.out.length+1) (GR.flat aM n.out++aM s)) (hg:w.grownBy w6 (Value.slice A.o n.out.length A.co).ownBlock) (hv:∀x,(Value.slice a6 (n.out.length+1) c6).ownBlock=some x->(Value.slice A.o n.out.length A.co).ownBlock=some x\/w.heap.size<=x):
 w6.heap[wb]?=some (.cells (Xx n A v) 192 (0,0))/\KC (newC w.heap.size 3 c) 3 w w6/\WK w0 (w6.setCell ⟨wb,5,none⟩ (.slice a6 (n.out.length+1) c6)) wb (setOut n (n.out++[s])) ⟨A.k,A.p,a6,A.s,A.r,A.ck,A.cp,c6,A.cs,A.cr⟩ G (newC w.heap.size 3 c) v L:=by
 have h1:=h.recol (c':=newC w.heap.size 3 c) (λx hx=>fE hx);have hk1:KC (newC w.heap.size 3 c) 3 w w6:=KC.grown hg h1.no.co;have hblk:=hk1.obj h1.blk (by rw [h1.cw];omega);have hkeep:=hk1.below h1.keep h1.no.lo Aaa h1.keep.size;have hk2:KC (newC w.heap.size 3 c) 8 w6 (w6.setCell ⟨wb,5,none⟩ (.slice a6 (n.out.length+1) c6)):=KC.set h1.cw
 have hco:∀x,(Value.slice a6 (n.out.length+1) c6).ownBlock=some x->newC w.heap.size 3 c x=3:=λx hx=>by
  rcases hv x hx with hx'|hx'
  .exact h1.no.co x hx'
  .exact bQ hx'
 have hlen:(n.out++[s]).length=n.out.length+1:=Aac
 have hno:=h1.no;refine⟨hblk,hk1,hk2.below hkeep hno.lo Aaa hkeep.size,?_,⟨?_,?_,?_,?_,?_,hno.lo,hno.ck,hno.cp,?_,hno.c4,hno.ci,hno.cr,hno.ni⟩,?_,h1.cm,h1.cw⟩
 .have:=aT hblk 5 (.slice a6 (n.out.length+1) c6);rw [this];show some (Obj.cells (Xx n A v |>.setIfInBounds 5 _) _ _)=some (Obj.cells #[_,_,_,_,_,.slice a6 (n.out++[s]).length c6,_,_,_,_] _ _)
  rw [hlen];rfl
 .exact hk2.w (hk1.w hno.k hno.ck Aaa) hno.ck Aaa
 .exact hk2.w (hk1.w hno.p hno.cp Aaa) hno.cp Aaa
 .show(w6.setCell _ _).ownsRow _ _ _ (.slice a6 (n.out++[s]).length c6) (n.out++[s]).length (GR.flat aM (n.out++[s]))
  rw [hlen,jB];exact hk2.own hown hco Aaa
 .exact ajs
 .exact hk2.own (hk1.own hno.r hno.cr Aaa) hno.cr Aaa
 .show∀x,(Value.slice a6 (n.out++[s]).length c6).ownBlock=some x->_
  rw [hlen];exact hco
 .exact hk2.own (hk1.own h1.m h1.cm Aaa) h1.cm Aaa
theorem WK.next {w0 w:World} {wb:Nat} {n:Nd} {A:bV} {G:aR} {c:Nat->Nat} {v:Value} {L:List Mg} (h:WK w0 w wb n A G c v L) (y:Int):WK w0 (w.setCell ⟨wb,3,none⟩ (.int .i64 y)) wb (af0 n y) A G c v L:=by
 have hk2:KC c 8 w (w.setCell ⟨wb,3,none⟩ (.int .i64 y)):=KC.set h.cw;have hno:=h.no.kc hk2 Aaa;exact⟨hk2.below h.keep h.no.lo Aaa h.keep.size,aT h.blk 3 (.int .i64 y),⟨hno.k,hno.p,hno.o,hno.s,hno.r,hno.lo,hno.ck,hno.cp,hno.co,hno.c4,hno.ci,hno.cr,hno.ni⟩,hk2.own h.m h.cm Aaa,h.cm,h.cw⟩
theorem Aj {s:ByteArray} (hs:keyOk s.data.toList=true):s.size<=10:=by
 unfold keyOk at hs;simp only[aGl,aGR] at hs;have:=aW s;omega
theorem adr {n:Nd} (h:eH n=true):eG n 1000:=by
 obtain⟨h1,h2,h3,h4,h5,h6⟩:=bZ h;obtain⟨p1,p2,p3⟩:=(kQ n.pu).1 h2;obtain⟨o1,o2,o3⟩:=tF h5;obtain⟨r1,r2,r3,_,_⟩:=jk h6
 have hk:n.kids.length<=30:=by
  unfold eO at h1;simp only[aGl,aGy] at h1;exact h1.1.2
 unfold oL at h3;simp only[aGl,aGy] at h3
 have hs:n.seen.length<=31:=by
  have:=h3.1;split at this<;>omega
 refine⟨Aaa,Aaa,Aaa,Aaa,Aaa,λx hx=>?_,λx hx=>?_,λx hx=>?_,λx hx=>?_⟩
 .have:=p1 x hx;unfold iI at this;simp only[aGl] at this;exact aGm (Aj this.1.1.1.1) Aaa
 .have:=o3 x hx;unfold vW at this;simp only[aGl] at this;exact aGm (Aj this.1.2) Aaa
 .have:=zR h3.2 x hx;unfold wu at this;simp only[aGl,aGy] at this;have:=this.2.1.2;omega
 .have:=(kS (r3 x hx)).2.2.1;exact aGm (Aj this) Aaa
theorem Vx (dst:Int) (key:ByteArray) (a:Int) (hc:n.out.length=40) (h:WK w0 w wb n A G c v L):Calls prog 216 #[.pointer (some ⟨wb,0,none⟩),.int .i64 dst,.string key,.int .i64 a] w λe w'=>e= .returned (.bool false)/\w=w':=by
 have hq:((n.out.length:Int) == 40)=true:=by rw [hc];rfl
 exact ajl
theorem Vy (dst:Int) (key:ByteArray) (a:Int) (hl:n.out.length < 40) (hc:n.next=1000000000) (h:WK w0 w wb n A G c v L):Calls prog 216 #[.pointer (some ⟨wb,0,none⟩),.int .i64 dst,.string key,.int .i64 a] w λe w'=>e= .returned (.bool false)/\w=w':=by
 have hq:((n.out.length:Int) == 40)=false:=Aag
 have hq2:(n.next == 1000000000)=true:=by rw [hc];rfl
 exact ajl
theorem Vz (dst:Int) (key:ByteArray) (a:Int) (E:Nat->Addr) (hok:eH n=true) (hkey:keyOk key.data.toList=true) (ha1:1<=a) (ha2:a<=1000000000) (hL:L.length<=2097100) (hc1:n.out.length < 40) (hc2:n.next < 1000000000) (h:WK w0 w wb n A G c v L) (he:iK w0 E):
 Calls prog 216 #[.pointer (some ⟨wb,0,none⟩),.int .i64 dst,.string key,.int .i64 a] w λe w'=>e= .returned (.bool (fC n dst key a).2.2)/\∃A' G' c' v',WK w0 w' wb (fC n dst key a).1 A' G' c' v' (L++(fC n dst key a).2.1):=by
 have hz:=adr hok;obtain⟨_,hps,_,hnx,_,_⟩:=bZ hok;have hnx1:1<=n.next/\n.next<=1000000000:=by simpa [fO] using hnx
 have hks:=Aj hkey
 have hf:0<=(aD n.pu key).f/\(aD n.pu key).f<=1000000000:=by
  have hpo:=yZ hps hkey;unfold iI rz at hpo;simp only[aGl,aGy] at hpo;exact hpo.1.1.2
 have JQ:=Hq (λw1 (hb:aI w w1)=>Qi A.p A.cp n.pu key w1 (by have:=hz.p;omega) (λp hp=>aGm (hz.pk p hp) Aaa) Aaa (GR.At.below h.no.p.at hb));have Ik:=Hq (fun(y:Int) w1 (hb:aI w w1)=>acP A.p A.cp n.pu key y E w1 (by have:=hz.p;omega) (λp hp=>aGm (hz.pk p hp) Aaa) Aaa (GR.At.below h.no.p.at hb) (he.below (h.keep.trans (hb.mono h.keep.size))));unfold kH at Ik
 have Hr:Hid (qD n key a=min a (aD n.pu key).f):=by
  show qD n key a=min a (aD n.pu key).f
  unfold qD;split<;>omega
 have Sr:=Hq (fun(y:Int) (h1:1<=y) (h2:y<=(aD n.pu key).f) (h3:y<=1000000000)=>afU hps hkey h1 h2 h3);have mZ:=Hq (fun(y:Int) (h1:¬1<=y)=>LV (l:=n.pu) (key:=key) (dm:=0) (df:= -1) (ds:=0) (n:=y) (λhx=>h1 hx.1))
 have HGY:Hid (1<=qD n key a->fC n dst key a=(tJ n dst key (qD n key a),[qO (tJ n dst key (qD n key a)) ⟨n.next,dst,key,qD n key a⟩],true)):=λh1=>by
  unfold fC
  exact aGC (aGk ⟨h1,hc1,hc2⟩)
 have HGN:Hid (¬1<=qD n key a->fC n dst key a=(n,[],false)):=λh1=>by
  unfold fC QS
  rw [aGr (by rw [aGi (λhx=>h1 hx.1)];simp)]
 have hq1:((n.out.length:Int) == 40)=false:=Aag
 have hq2:(n.next == 1000000000)=false:=Aag
 have HOL:=Hq hc1;have HZ:=Hq hz;generalize hfr:aD n.pu key=fr at *;obtain⟨fk,fm,ff,fs⟩:=fr;dsimp only at hf Hr Sr;have HW:=Hq h;clear h he hok hkey hps hnx hc1 hc2 hfr hz;generalize fC n dst key a=gv at *;obtain⟨c0,c1,c2,c3,c4,c5,c6,c7,c8,c9⟩:=jW HW.blk;go_in
 go_wp2_with fail;refine(JQ w (aGs _ _)).mono ?_;rintro e w1 ⟨rfl,hb1⟩;have HB1:=Hq hb1;have HW1:=Hq (HW.step hb1);clear hb1 JQ c0 c1 c2 c3 c4 c5 c6 c7 c8 c9;obtain⟨c0,c1,c2,c3,c4,c5,c6,c7,c8,c9⟩:=jW HW1.blk;have aDQ:=J5 fk fm ff fs;go_wp2_with fail;clear c0 c1 c2 c3 c4 c5 c6 c7 c8 c9 aDQ;have aFB:min a ff<=a:=Aaa
 have aEb:min a ff<=ff:=Aaa
 generalize min a ff=iw at *;have hAM:=ah Hr;rw [hAM] at HGY HGN;clear Hr hAM;refine(Ik iw w1 HB1).mono ?_;rintro e y ⟨pa,pcp,pg,hpg,rfl,hp,hby⟩;have HST:=Hq (Xp (cp:=pcp) HW1 hby hpg hp);have HPD:Hid (tJ n dst key iw=⟨n.id,n.par,n.kids,n.next+1,(dK n.pu key 0 (-1) 0 iw).1,n.out++[⟨n.next,dst,key,iw⟩],n.seen,n.old,n.reqs⟩):=rfl;have DU:=Hq (Sr iw);have XC:=Hq (mZ iw);clear hp hby hpg Ik Sr mZ HW1;generalize dK n.pu key 0 (-1) 0 iw=r at *;go_wp2_with fail;refine HST.mono ?_;rintro e z ⟨rfl,A1,G1,c1,hZ⟩;by_cases h1:1<=iw
 case' neg=>
  have hr:=ah XC Aaa;subst hr;have HZ1:=Hq hZ;have hG:=ah HGN Aaa;have HG:=Hq hG;clear hZ hG HGY HGN HST DU XC HPD;go_wp2_with fail;go_ret;have hG:=ah HG;subst hG;refine⟨rfl,A1,G1,c1,v,?_⟩;rw [aHB];exact HZ1
 have hr2:=ah DU h1 aEb Aaa;obtain⟨rl,rb⟩:=r;dsimp only at hr2;subst hr2;have HG:=Hq (HGY h1);have vZ:Hid (WK w0 z wb (setPu n rl) A1 G1 c1 v L):=hZ;clear hZ HGY HGN HST DU XC HB1 HW;have hcl:n.out.length<=40:=by have:=ah HOL;omega
 obtain⟨c0,c1,c2,c3,c4,c5,c6,c7,c8,c9⟩:=jW vZ.blk;dsimp only[setPu] at c0 c1 c2 c3 c4 c5 c6 c7 c8 c9;have aFR:=aA vZ.blk;go_upto_region 6 with fail;have y3:=aGj c3;clear c0 c1 c2 c3 c4 c5 c6 c7 c8 c9;refine dx 11 Aab ?_;show fA _ _ _ _ _ 12 (Array.replicate 12 false) _ _
 refine tk [0,1,2,3,4,5,6,8] ?_;iterate 8 (refine vX (λK hK=>?_);go_simp;refine hK _ ?_;clear hK K)
 refine kD ?_;clear y3;refine zo 7 10 rfl rfl Aab Aad Aad (λx hx=>?c1) (λx hx=>?c2)
 case' c1=>
  go_simp
  refine(clone key x Aaa).mono ?_
  rintro e y ⟨rfl,hby⟩
  refine⟨hby,?_⟩
  have HY:=Hq (Ge.trans hx hby)
  clear hx hby
  refine tk [9] ?_
  (refine vX (λK hK=>?_);go_simp;refine hK _ ?_;clear hK K)
  refine kD ?_
  refine dP 10 rfl Aab Aad (λx2 hx2=>?_)
  go_simp
  refine⟨ay x2 _,?_⟩
  have hgl:z.heap.size<=x2.heap.size:=(Ge.trans HY hx2).size
  have Hw:=Hq (aGg x2 (.cells (gV 0 0 ⟨#[]⟩ 0) 91))
  have vY:=Hq (Ge.trans (Ge.trans HY hx2) (ay x2 (.cells (gV 0 0 ⟨#[]⟩ 0) 91)))
  clear hx2 HY
  generalize x2.alloc (.cells (gV 0 0 ⟨#[]⟩ 0) 91)=y2 at *
  generalize x2.heap.size=g at *
  refine bE Aab (λz2 hz2=>?_)
  have lu:=Hq (au Hw hz2)
  have fI:=Hq (Ge.trans vY hz2)
  clear hz2 Hw vY
  have D6:=aA lu
  obtain⟨g0,g1,g2,g3⟩:=iO lu
  have f0:=aj lu 0
  have f1:=aj lu 1
  have f2:=aj lu 2
  have f3:=aj lu 3
  refine aG 11 rfl Aab Aad ?_
  go_simp
  refine wpAny_done Aab ?_
  go_simp
  go_upto_region 7 with fail
  refine wp_at (λW hW=>?_)
  have VK:Hid (W.heap[g]?=some (.cells (gV n.next dst key iw) 91 (0,0))):=Abv
  have jl:Hid (aI z W):=Abw
  clear hW lu fI D6 g0 g1 g2 g3 f0 f1 f2 f3
 case' c2=>
  go_simp
  refine⟨ay x _,?_⟩
  have hgl:z.heap.size<=x.heap.size:=hx.size
  have Hw:=Hq (aGg x (.cells (gV 0 0 ⟨#[]⟩ 0) 91))
  have vY:=Hq (Ge.trans hx (ay x (.cells (gV 0 0 ⟨#[]⟩ 0) 91)))
  clear hx
  generalize x.alloc (.cells (gV 0 0 ⟨#[]⟩ 0) 91)=y2 at *
  generalize x.heap.size=g at *
  refine dP 7 rfl Aab Aad (λx2 hx2=>?_)
  go_simp
  refine(clone key x2 Aaa).mono ?_
  rintro e y3 ⟨rfl,hby⟩
  refine⟨hby,?_⟩
  have HGC:=Hq (au Hw (Ge.trans hx2 hby))
  have HBC:=Hq (Ge.trans vY (Ge.trans hx2 hby))
  clear hx2 hby Hw vY
  refine tk [9] ?_
  (refine vX (λK hK=>?_);go_simp;refine hK _ ?_;clear hK K)
  refine kD ?_
  refine bE Aab (λz2 hz2=>?_)
  have lu:=Hq (au HGC hz2)
  have fI:=Hq (Ge.trans HBC hz2)
  clear hz2 HGC HBC
  have D6:=aA lu
  obtain⟨g0,g1,g2,g3⟩:=iO lu
  have f0:=aj lu 0
  have f1:=aj lu 1
  have f2:=aj lu 2
  have f3:=aj lu 3
  refine aG 11 rfl Aab Aad ?_
  go_simp
  refine wpAny_done Aab ?_
  go_simp
  go_upto_region 7 with fail
  refine wp_at (λW hW=>?_)
  have VK:Hid (W.heap[g]?=some (.cells (gV n.next dst key iw) 91 (0,0))):=Abv
  have jl:Hid (aI z W):=Abw
  clear hW lu fI D6 g0 g1 g2 g3 f0 f1 f2 f3
 all_goals
  have hgw:=aA VK
  have HWW:=Hq (vZ.step jl)
  have HCG:Hid ((Value.slice A1.o n.out.length A1.co).ownBlock≠some g):=λe=>by have h9:=(vZ.no.o.lt g e).2;omega
  clear vZ jl
  obtain⟨c0,c1,c2,c3,c4,c5,c6,c7,c8,c9⟩:=jW HWW.blk
  dsimp only[setPu] at c0 c1 c2 c3 c4 c5 c6 c7 c8 c9
  obtain⟨s0,s1,s2,s3⟩:=iO VK
  obtain⟨i0,hi,hz0,hz1,hz2⟩:=aGV MV
  have y5:=aGj c5
  have x0:=aGj s0
  have x1:=aGj s1
  have x2:=aGj s2
  have x3:=aGj s3
  clear c0 c1 c2 c3 c4 c5 c6 c7 c8 c9 s0 s1 s2 s3
  refine mX Aab ?_
  show wV _ _ _ _ 13 (Array.replicate 13 false) _ _
  refine Dt 0 rfl Aab Aab Aab (λ_ _ _ _ h=>h) (λK hK=>?_)
  go_simp
  first
   |(refine hK _ ?_;clear hK K)
   |(apply Exists.intro
     refine⟨λ_=>rfl,hK _ ?_⟩
     clear hK K)
  refine rT 8 ?_
  refine tk [1,2,3,4,5,6] ?_
  iterate 6 (refine vX (λK hK=>?_);go_simp;refine hK _ ?_;clear hK K)
  refine kD ?_
  clear y5 x0 x1 x2 x3
  refine dP 7 rfl Aab Aad (λq hq=>?_)
  go_simp
  refine⟨ay q _,?_⟩
  have JU:=Hq ((HWW.step hq).step (ay q (.cells (gV n.next dst key iw) 91)))
  have HGX:=Hq (au (au VK hq) (ay q (.cells (gV n.next dst key iw) 91)))
  have iQ:=Hq (aGg q (.cells (gV n.next dst key iw) 91))
  have hgq:g < q.heap.size:=aGq hgw hq.size
  clear hq HWW VK hgw
  generalize q.alloc (.cells (gV n.next dst key iw) 91)=y4 at *
  refine bE Aab (λz4 Bw=>?_)
  have wB:=Hq (JU.step Bw)
  have HGZ:=Hq (au HGX Bw)
  have Ih:=Hq (au iQ Bw)
  clear Bw JU iQ HGX
  refine aG 8 rfl Aab Aad ?_
  refine pJ z4 (.tmp 63) (.tmp 65) 36 rfl w0.heap.size 91 i0 (.agg (gV 0 0 ByteArray.empty 0)) 4 40 underlying36 hi hz0 hz1 hz2 rfl Aae (.slice A1.o n.out.length A1.co) n.out.length (GR.flat aM n.out) Aak wB.no.o ⟨q.heap.size,0,none⟩ 1 1 (aM ⟨n.next,dst,key,iw⟩) Aak rfl (aG3 Ih) (yN _) Aai Aaa wB.keep.size ?_
  intro v6 w6 hown6 rA P8
  obtain⟨a6,c6,hv6,_⟩:=GR.own_at (enc:=aM) (sz:=4) (l:=n.out++[⟨n.next,dst,key,iw⟩]) aZ (by rw [aGp,jB];exact hown6)
  rw [aGp] at hv6
  have hv7:v6= .slice a6 (n.out.length+1) c6:=hv6
  subst hv7
  clear hv6
  obtain⟨hb6,Sy,hS6⟩:=wB.outApp ⟨n.next,dst,key,iw⟩ hown6 rA P8
  have HS6:=Hq hS6
  obtain⟨k0,k1,k2,k3,k4,k5,k6,k7,k8,k9⟩:=jW hb6
  have kf:=aj hb6 5
  have Z5:Hid (w6.heap[g]?=some (.cells (gV n.next dst key iw) 91 (0,0))):=rA.block g (aA HGZ) (λe=>HCG e.symm) |>.trans HGZ
  clear hown6 rA P8 hb6 hS6 Sy wB Ih HGZ
  refine aG 9 rfl Aab Aad ?_
  go_simp
  refine aG 10 rfl Aab Aad ?_
  go_simp
  refine aG 11 rfl Aab Aad ?_
  go_simp
  refine aG 12 rfl Aab Aad ?_
  go_simp
  refine wpAny_done Aab ?_
  go_simp
  have hgb:g≠wb:=Aaa
  go_upto_region 8 with fail
  refine wp_at (λV8 hV=>?_)
  obtain⟨A8,G8,aff,HS8⟩:∃A8 G8 aff,Hid (WK w0 V8 wb (setOut (setPu n rl) (n.out++[⟨n.next,dst,key,iw⟩])) A8 G8 aff v L):=⟨_,_,_,by rw [hV];exact HS6⟩
  have HG8:Hid (V8.heap[g]?=some (.cells (gV n.next dst key iw) 91 (0,0))):=by rw [hV];exact jA Z5 hgb
  clear hV HS6 Z5 kf k0 k1 k2 k3 k4 k5 k6 k7 k8 k9
  obtain⟨c0,c1,c2,c3,c4,c5,c6,c7,c8,c9⟩:=jW HS8.blk
  dsimp only[setPu,setOut] at c0 c1 c2 c3 c4 c5 c6 c7 c8 c9
  have kf3:=aj HS8.blk 3
  go_upto_region 9 with fail
  refine wp_at (λV9 hV=>?_)
  have HS9:Hid (WK w0 V9 wb (tJ n dst key iw) A8 G8 aff v L):=by rw [hV,ah HPD];exact HS8.next (n.next+1)
  have HG9:Hid (V9.heap[g]?=some (.cells (gV n.next dst key iw) 91 (0,0))):=by rw [hV];exact jA HG8 hgb
  have hl9:(tJ n dst key iw).out.length<=1048600:=by rw [ah HPD];simp;omega
  clear hV HS8 HG8 kf3 HPD c0 c1 c2 c3 c4 c5 c6 c7 c8 c9
  generalize tJ n dst key iw=n9 at *
  have Il:=Hq (λp:Regrown=>Kj n9 A8 ⟨n.next,dst,key,iw⟩ (Gr V9 p) hl9 (GR.At.below HS9.no.at.o (aHr V9 p.d p.os)))
  have HSY:=Hq (λx (hx:Ge V9 x)=>Xw w0 x wb n9 A8 G8 aff v L (qO n9 ⟨n.next,dst,key,iw⟩) (by show key.size<=1048600;omega) Aaa (HS9.step hx))
  generalize qO n9 ⟨n.next,dst,key,iw⟩=pm at *
  obtain⟨qK,qF,qT,qI,qL,qk,qN⟩:=pm
  obtain⟨c0,c1,c2,c3,c4,c5,c6,c7,c8,c9⟩:=jW HS9.blk
  obtain⟨s0,s1,s2,s3⟩:=iO HG9
  have y0:=aGj c0
  have y1:=aGj c1
  have y2:=aGj c2
  have y3:=aGj c3
  have y4:=aGj c4
  have y5:=aGj c5
  have y6:=aGj c6
  have y7:=aGj c7
  have y8:=aGj c8
  have x0:=aGj s0
  have x1:=aGj s1
  have x2:=aGj s2
  have x3:=aGj s3
  have hg9:=aA HG9
  have hw9:=aA HS9.blk
  clear c0 c1 c2 c3 c4 c5 c6 c7 c8 c9 s0 s1 s2 s3
  refine dx 7 Aab ?_
  show fA _ _ _ _ _ 8 (Array.replicate 8 false) _ _
  refine tk [0,1,2,3,4,5] ?_
  iterate 6 (refine vX (λK hK=>?_);go_simp;refine hK _ ?_;clear hK K)
  refine kD ?_
  refine eX 6 20 rfl Aab Aab Aab Aab Aab (λ_ _ _ _ h=>h) (λK hK=>?_)
  go_simp
  first
   |(refine hK _ ?_;clear hK K)
   |(apply Exists.intro
     refine⟨λ_=>?_,hK _ ?_⟩
     (exact Il _)
     clear hK K)
  clear y0 y1 y2 y3 y4 y5 y6 y7 y8 x0 x1 x2 x3
  refine bE Aab (λx hx=>?_)
  have JU:=Hq (HSY x hx)
  clear hx
  refine aG 7 rfl Aab Aad ?_
  go_simp
  refine JU.mono ?_
  rintro e y9 ⟨rfl,c',v',hY⟩
  have HY:=Hq hY
  clear hY JU
  refine wpAny_done Aab ?_
  go_simp
  go_wp2_with fail
  go_ret
  have hG:=ah HG
  subst hG
  exact⟨rfl,A8,G8,c',v',HY⟩
theorem aj7 (dst:Int) (key:ByteArray) (a:Int) (E:Nat->Addr) (hok:eH n=true) (hkey:keyOk key.data.toList=true) (ha1:1<=a) (ha2:a<=1000000000) (hL:L.length<=2097100) (h:WK w0 w wb n A G c v L) (he:iK w0 E):
 Calls prog 216 #[.pointer (some ⟨wb,0,none⟩),.int .i64 dst,.string key,.int .i64 a] w λe w'=>e= .returned (.bool (fC n dst key a).2.2)/\∃A' G' c' v',WK w0 w' wb (fC n dst key a).1 A' G' c' v' (L++(fC n dst key a).2.1):=by
 obtain⟨_,_,_,hnx,ho,_⟩:=bZ hok;have hnx1:1<=n.next/\n.next<=1000000000:=by simpa [fO] using hnx
 have hol:=(tF ho).2.1
 have hgn:(n.out.length=40\/n.next=1000000000)->fC n dst key a=(n,[],false):=λhx=>by
  unfold fC QS
  rw [aGr (by rw [aGi (λhy=>Aaa)];simp)]
 by_cases h40:n.out.length=40
 .rw [hgn (.inl h40)];refine(Vx w0 w wb n A G c v L dst key a h40 h).mono ?_;exact ajO
 .by_cases hl:n.next=1000000000
  .rw [hgn (.inr hl)];refine(Vy w0 w wb n A G c v L dst key a Aaa hl h).mono ?_;exact ajO
  .exact Vz w0 w wb n A G c v L dst key a E hok hkey ha1 ha2 hL Aaa Aaa h he
theorem ads (n:Nd) (A:bV) (x:Int) (w:World) (hp:eO n=true) (hl:n.kids.length<=1048600) (ha:dD w A n):
 Calls prog 203 #[gP n A,.int .i64 x] w (dZ w (.bool (eD n x))):=by
 have h:=Qf n A x w hl ha.k;rw [near_same hp] at h;exact h
def Fg (n:Nd) (o:gW):Nd×List Mg×Int:=if n.par= -1 then(n,[],1) else((fC n n.par o.k o.n).1,(fC n n.par o.k o.n).2.1,if (fC n n.par o.k o.n).2.2=true then 0 else 1)
theorem amj (o:gW) (E:Nat->Addr) (hok:eH n=true) (hkey:keyOk o.k.data.toList=true) (ha1:1<=o.n) (ha2:o.n<=1000000000) (hL:L.length<=2097100) (h:WK w0 w wb n A G c v L) (he:iK w0 E):
 Calls prog 179 #[.pointer (some ⟨wb,0,none⟩),jY o] w λe w'=>e= .returned (.int .i64 (Fg n o).2.2)/\∃A' G' c' v',WK w0 w' wb (Fg n o).1 A' G' c' v' (L++(Fg n o).2.1):=by
 have Il:=Hq (λW c v (hW:WK w0 W wb n A G c v L)=>aj7 w0 W wb n A G c v L n.par o.k o.n E hok hkey ha1 ha2 hL hW he);have hwl:=aA h.blk;have hne:wb≠w.heap.size:=Aaa
 clear hok hkey ha1 ha2 he;by_cases hpar:n.par= -1
 .have hR:Fg n o=(n,[],1):=aGC hpar;rw [hR];open avJ in exact aaR
 .have hR:Fg n o=((fC n n.par o.k o.n).1,(fC n n.par o.k o.n).2.1,if (fC n n.par o.k o.n).2.2=true then 0 else 1):=aGr hpar;rw [hR];obtain⟨K,no,k,nn,⟨mK,mF,mT,mI,mL,mk,mN⟩⟩:=o;dsimp only at Il ⊢;open ap3 in exact XT
theorem aec (m:Mg) (hp:eO n=true) (hz:n.kids.length<=1048600) (h:WK w0 w wb n A G c v L):
 Calls prog 174 #[.pointer (some ⟨wb,0,none⟩),oz m] w (dZ w (.bool (decide (m.T=n.id)&&eD n m.F))):=by
 obtain⟨mK,mF,mT,mI,mL,mk,mN⟩:=m;have HNB:=Hq (λw1 (ha:dD w1 A n)=>ads n A mF w1 hp hz ha);dsimp only;generalize eD n mF=nb at *;open avP in exact aaS
theorem amv (o:gW) (hz:eG n 1048576) (hL:L.length<=1048000) (h:WK w0 w wb n A G c v L):
 Calls prog 180 #[.pointer (some ⟨wb,0,none⟩),jY o] w λe w'=>e= .returned (.int .i64 0)/\∃c' v',WK w0 w' wb n A G c' v' (L++n.out.map (qO n)):=by
 have Il:=Hq (λs W (ha:SentAt W A.o n.out)=>Kj n A s W (by have:=hz.o;omega) ha);have HSY:=Hq (λW c v (k:Nat) (hk:k<=n.out.length) m (hm:m.k.size<=1048600) (hW:WK w0 W wb n A G c v (L++(n.out.take k).map (qO n)))=>Xw w0 W wb n A G c v _ m hm (by have:=hz.o;rw [aGp,aHi,aGG];omega) hW);have HKK:Hid (∀s∈n.out,(qO n s).k.size<=1048600):=λs hs=>aGm (hz.ok s hs) Aaa
 have hlo:=hz.o;open avI in exact aaR
abbrev rqv (q:Rq):Value:= .agg (fH q.no q.k q.n q.s)
theorem alc (q:Rq) (no:Int) (w:World) (h0:0<=q.no) (h1:q.no<=1000000000) (h2:0<=no) (h3:no<=1000000000):
 Calls prog 237 #[rqv q,.int .i64 no] w (dZ w (.int .i64 (q.no - no))):=by
 obtain⟨qno,qk,qn,qs⟩:=q;dsimp only at h0 h1;go_in
 go_wp2_with fail;go_ret;exact⟨rfl,ay w _⟩
theorem az3 (a:Option Addr) (cap:Nat) (l:List Rq) (no:Int) (w:World) (hl:l.length<=1000) (ha:gZ w a l) (hp:l.Pairwise (λs t=>s.no < t.no)) (hb:∀q∈l,0<=q.no/\q.no<=1000000000) (h0:0<=no) (h1:no<=1000000000):
 Calls prog 236 #[.slice a l.length cap,.int .i64 no,.func (.func 237) #[] #[]] w (dZ w (.tuple #[.int .i64 (eu l no:Nat),.bool (oH l no)])):=by
 have HC:=Hq (λq w1 (hq:q∈l)=>alc q no w1 (hb q hq).1 (hb q hq).2 h0 h1);have HLO:=Hq (zh l no);have HHI:=Hq (zf (no:=no) hp);have HLE:=Hq (xI l no);have HF:=Hq (oI l no);have HA:=Hq ha;clear ha hp hb;generalize oH l no=RF at *;generalize eu l no=R at *;go_in
 go_wp2_with fail;go_loopw [9,10] (λi j wr=>∃p q:Nat,p<=R/\R<=q/\q<=l.length/\i= .int .i64 p/\j= .int .i64 q/\aI w wr) (λi j _=>(intOf j).toNat - (intOf i).toNat)
 case atStart=>exact⟨0,l.length,aGB _,HLE,aGh _,rfl,rfl,aGs _ _⟩
 case round=>
  obtain⟨p,q,h2,h3,h4,rfl,rfl,hbw⟩:=hrel;have HB:=Hq hbw;clear hbw;by_cases hlt:p < q
  .have PW:(p:Int) < (q:Int):=Aaa
   go_upto_region 5 with fail;obtain⟨m,hm⟩:∃m:Nat,((p:Int)+q) / 2=m:=⟨(p+q) / 2,Aaa⟩;have hmp:p<=m:=Aaa
   have hmq:m < q:=Aaa
   rw [hm];clear hm PW;have hml:m < l.length:=Aaa
   obtain⟨g,off,e0,hg,q0,q1,q2,q3⟩:=gZ.four (GR.At.below HA HB) m hml;have HCM:=Hq (λw1=>HC l[m] w1 (aGz hml));have HLM:=Hq (HLO m hml);have HHM:=Hq (HHI m hml);subst e0;generalize l[m]=lm at *;obtain⟨ln,lk,lx,ls⟩:=lm;dsimp only at q0 q1 q2 q3 HCM HLM HHM;open ax8 in exact aib
  .have hpq:p=R:=Aaa
   subst hpq;have hnlt:¬((p:Int) < (q:Int)):=Aaa
   by_cases hpl:p < l.length
   .have aEl:(p:Int) < (l.length:Int):=Aaa
    obtain⟨g,off,e0,hg,q0,q1,q2,q3⟩:=gZ.four (GR.At.below HA HB) p hpl;have HCM:=Hq (λw1=>HC l[p] w1 (aGz hpl))
    have HFP:Hid (RF=decide (l[p].no=no)):=by
     show RF=_
     rw [aHu,ah HF,aGR];exact⟨fun⟨_,h⟩=>h,λh=>⟨hpl,h⟩⟩
    subst e0;clear HF HC HLO HHI;generalize l[p]=lm at *;obtain⟨ln,lk,lx,ls⟩:=lm;dsimp only at q0 q1 q2 q3 HCM HFP;open ax7 in exact aib
   .have aEl:¬((p:Int) < (l.length:Int)):=Aaa
    have HFP:Hid (RF=false):=by
     show RF=_
     rw [aH0];intro h;exact hpl (HF.1 h).1
    clear HF HC HLO HHI;go_wp2_with fail;go_ret2
    exact⟨by rw [ah HFP];rfl,HB⟩
theorem Og (no:Int) (hok:iC n=true) (h0:0<=no) (h1:no<=1000000000) (h:WK w0 w wb n A G c v L):
 Calls prog 211 #[.pointer (some ⟨wb,0,none⟩),.int .i64 no] w (dZ w (.tuple #[.int .i64 (eu n.reqs no:Nat),.bool (oH n.reqs no)])):=by
 obtain⟨r1,r2,r3,r4,r5⟩:=jk hok;have HBS:=Hq (λw1 (ha:gZ w1 A.r n.reqs)=>az3 A.r A.cr n.reqs no w1 Aaa ha r1 (λq hq=>by have:=kS (r3 q hq);omega) h0 h1);have HA:=Hq h.no.at.r;obtain⟨c0,c1,c2,c3,c4,c5,c6,c7,c8,c9⟩:=jW h.blk;clear h r1 r3 hok;generalize oH n.reqs no=RF at *;generalize eu n.reqs no=R at *;go_in
 go_wp2_with fail;refine(HBS w HA).mono ?_;rintro e w1 ⟨rfl,hb1⟩;have HB:=Hq hb1;clear hb1;go_wp2_with fail;go_ret2
 exact⟨rfl,HB⟩
theorem af2 {w0 w x:World} {wb:Nat} {n:Nd} {A:bV} {G:aR} {c:Nat->Nat} {v:Value} {L:List Mg} (h:WK w0 w wb n A G c v L) {r:List Pu×Bool} {a:Option Addr} {cp g:Nat} (hb:aI w x) (hg:w.heap.size<=g) (hp:xP x a g r.1):
 Calls prog 209 #[.pointer (some ⟨wb,0,none⟩),.slice a r.1.length cp,.bool r.2] x λe w'=>e= .returned (.bool r.2)/\∃A' G' c',WK w0 w' wb (if r.2=true then setPu n r.1 else n) A' G' c' v L/\A'.r=A.r:=by
 obtain⟨l,b⟩:=r;cases b with
 |false=>
  refine(CJ wb a l.length cp x).mono ?_;rintro e w' ⟨rfl,rfl⟩;exact⟨rfl,A,G,c,h.step hb,rfl⟩
 |true=>
  refine(zi wb n A v a l.length cp x (h.step hb).blk).mono ?_;rintro e w' ⟨rfl,rfl⟩;exact⟨rfl,_,_,_,h.setPu hb hp (λy hy=>by rw [(dQ hy).1];exact hg),rfl⟩
theorem WK.reqRow {w0 w:World} {wb:Nat} {n:Nd} {A:bV} {G:aR} {c:Nat->Nat} {v:Value} {L:List Mg} (h:WK w0 w wb n A G c v L) (i:Nat) (hi:i < n.reqs.length):∃g,A.r=some ⟨g,0,none⟩/\g≠wb/\g < w.heap.size/\(w.cell? ⟨g,i*4,none⟩=some (.int .i64 n.reqs[i].no)/\w.cell? ⟨g,i*4+1,none⟩=some (.string n.reqs[i].k)/\w.cell? ⟨g,i*4+2,none⟩=some (.int .i64 n.reqs[i].n)/\w.cell? ⟨g,i*4+3,none⟩=some (.int .i64 n.reqs[i].s))/\w.frozen? ⟨g,i*4+3,none⟩=false:=by
 obtain⟨a,cp,g,he,hW,hlt,hown⟩:=GR.W.of_own aN h.no.r;have hmem:g∈fp g n.reqs:=dX Aaa;obtain⟨ea,hg,hc,_,_,_,hf⟩:=GR.W.fourReq hW i hi;have hA:A.r=a:=by cases he;rfl
 refine⟨g,by rw [hA,ea],?_,hg,hc,hf⟩;intro hw;have h6:=h.no.cr g (hown g hmem);rw [hw,h.cw] at h6;cases h6
theorem WK.reqSet {w0 w:World} {wb:Nat} {n:Nd} {A:bV} {G:aR} {c:Nat->Nat} {v:Value} {L:List Mg} (h:WK w0 w wb n A G c v L) (i:Nat) (hi:i < n.reqs.length) (g:Nat) (hg:A.r=some ⟨g,0,none⟩):WK w0 (w.setCell ⟨g,i*4+3,none⟩ (.int .i64 2)) wb (eY n (n.reqs.set i (pY n.reqs[i]))) A G c v L:=by
 have ho:=h.no.r;have hcr:=h.no.cr;rw [hg] at ho hcr;have hc6:c g=6:=hcr g rfl;have hk:KC c 6 w (w.setCell ⟨g,i*4+3,none⟩ (.int .i64 2)):=KC.set hc6;have hno:=h.no;have hst:=(ho.stored (i*4+3) (.int .i64 2)).1;rw [PI 2 n.reqs i hi] at hst;have hlen:(n.reqs.set i (pY n.reqs[i])).length=n.reqs.length:=Aac
 refine⟨hk.below h.keep hno.lo Aaa h.keep.size,?_,⟨hk.w hno.k hno.ck Aaa,hk.w hno.p hno.cp Aaa,hk.own hno.o hno.co Aaa,hk.seen hno.s hno.c4 hno.ci Aaa Aaa,?_,hno.lo,hno.ck,hno.cp,hno.co,hno.c4,hno.ci,?_,hno.ni⟩,hk.own h.m h.cm Aaa,h.cm,h.cw⟩
 .have:=hk.obj h.blk (by rw [h.cw];omega);rw [this];show some (Obj.cells #[_,_,_,_,_,_,_,_,.slice A.r n.reqs.length A.cr,_] _ _)=some (Obj.cells #[_,_,_,_,_,_,_,_,.slice A.r (n.reqs.set i (pY n.reqs[i])).length A.cr,_] _ _)
  rw [hlen];rfl
 .show(w.setCell _ _).ownsRow _ _ _ (.slice A.r (n.reqs.set i (pY n.reqs[i])).length A.cr) (n.reqs.set i (pY n.reqs[i])).length (GR.flat aJ (n.reqs.set i (pY n.reqs[i])))
  rw [hlen,hg];exact hst
 .show∀x,(Value.slice A.r (n.reqs.set i (pY n.reqs[i])).length A.cr).ownBlock=some x->_
  rw [hlen];exact h.no.cr
theorem Si (o:gW) (hc:o.no<=n.old) (h:WK w0 w wb n A G c v L):Calls prog 177 #[.pointer (some ⟨wb,0,none⟩),jY o] w λe w'=>e= .returned (.int .i64 (bq n o.no).2)/\∃A' G' c',WK w0 w' wb (bq n o.no).1 A' G' c' v L:=by
 have hR:bq n o.no=(n,2):=aGC hc;rw [hR];have hd:decide (o.no<=n.old)=true:=aGk hc;clear hR;open aCx in exact Tq
theorem VB (o:gW) (hok:iC n=true) (h0:0<=o.no) (h1:o.no<=1000000000) (hc:¬o.no<=n.old) (hf:oH n.reqs o.no=false) (h:WK w0 w wb n A G c v L):Calls prog 177 #[.pointer (some ⟨wb,0,none⟩),jY o] w λe w'=>e= .returned (.int .i64 (bq n o.no).2)/\∃A' G' c',WK w0 w' wb (bq n o.no).1 A' G' c' v L:=by
 have hR:bq n o.no=(n,1):=by unfold bq;rw [aGr hc,aGC hf]
 rw [hR];have hd:decide (o.no<=n.old)=false:=aGi hc;have vS:=Hq (λw1 (hw:WK w0 w1 wb n A G c v L)=>Og w0 w1 wb n A G c v L o.no hok h0 h1 hw);rw [hf] at vS;clear hR h0 h1 hok hf;open aCw in exact Tq
theorem JB (o:gW) (hok:iC n=true) (h0:0<=o.no) (h1:o.no<=1000000000) (hc:¬o.no<=n.old) (hf:oH n.reqs o.no=true) (hs:(n.reqs.getD (eu n.reqs o.no) default).s=1) (h:WK w0 w wb n A G c v L):Calls prog 177 #[.pointer (some ⟨wb,0,none⟩),jY o] w λe w'=>e= .returned (.int .i64 (bq n o.no).2)/\∃A' G' c',WK w0 w' wb (bq n o.no).1 A' G' c' v L:=by
 have hR:bq n o.no=(n,1):=by unfold bq;rw [aGr hc,aGr Abi];rw [aGC hs]
 exact azo
theorem Sg (o:gW) (hok:iC n=true) (h0:0<=o.no) (h1:o.no<=1000000000) (hc:¬o.no<=n.old) (hf:oH n.reqs o.no=true) (hs:(n.reqs.getD (eu n.reqs o.no) default).s=2) (h:WK w0 w wb n A G c v L):Calls prog 177 #[.pointer (some ⟨wb,0,none⟩),jY o] w λe w'=>e= .returned (.int .i64 (bq n o.no).2)/\∃A' G' c',WK w0 w' wb (bq n o.no).1 A' G' c' v L:=by
 have hR:bq n o.no=(n,0):=by unfold bq;rw [aGr hc,aGr Abi];rw [aGr Aaa,aGC hs]
 exact azo
theorem ZW (o:gW) (E:Nat->Addr) (hz:eG n 1048576) (hok:iC n=true) (h0:0<=o.no) (h1:o.no<=1000000000) (hc:¬o.no<=n.old) (hf:oH n.reqs o.no=true) (hs:(n.reqs.getD (eu n.reqs o.no) default).s=0) (h:WK w0 w wb n A G c v L) (he:iK w0 E):Calls prog 177 #[.pointer (some ⟨wb,0,none⟩),jY o] w λe w'=>e= .returned (.int .i64 (bq n o.no).2)/\∃A' G' c',WK w0 w' wb (bq n o.no).1 A' G' c' v L:=by
 have hR:bq n o.no=(if (dK n.pu (n.reqs.getD (eu n.reqs o.no) default).k 0 1 (-1) (n.reqs.getD (eu n.reqs o.no) default).n).2=true then
  (eY (setPu n (dK n.pu (n.reqs.getD (eu n.reqs o.no) default).k 0 1 (-1) (n.reqs.getD (eu n.reqs o.no) default).n).1) (n.reqs.set (eu n.reqs o.no) (pY (n.reqs.getD (eu n.reqs o.no) default))),0) else(n,1)):=by
  unfold bq
  rw [aGr hc,aGr Abi,aGr Aaa,aGr Aaa]
 rw [hR];have hd:decide (o.no<=n.old)=false:=aGi hc;open atP in exact aaJ
theorem ZX (w0 w:World) (wb:Nat) (n:Nd) (A:bV) (G:aR) (c:Nat->Nat) (v:Value) (L:List Mg) (o:gW) (E:Nat->Addr) (hz:eG n 1048576) (hok:iC n=true) (h0:0<=o.no) (h1:o.no<=1000000000) (h:WK w0 w wb n A G c v L) (he:iK w0 E):Calls prog 177 #[.pointer (some ⟨wb,0,none⟩),jY o] w λe w'=>e= .returned (.int .i64 (bq n o.no).2)/\∃A' G' c',WK w0 w' wb (bq n o.no).1 A' G' c' v L:=by
 by_cases hc:o.no<=n.old
 .exact Si w0 w wb n A G c v L o hc h
 cases hf:oH n.reqs o.no with
 |false=>exact VB w0 w wb n A G c v L o hok h0 h1 hc hf h
 |true=>
  have hil:=((oI n.reqs o.no).1 hf).1;have hgd:n.reqs.getD (eu n.reqs o.no) default=n.reqs[eu n.reqs o.no]:=by rw [aGK,aGo hil];rfl
  obtain⟨_,_,_,_,b1,b2⟩:=kS ((jk hok).2.2.1 _ (aGz hil));rw [<-hgd] at b1 b2;by_cases s1:(n.reqs.getD (eu n.reqs o.no) default).s=1
  .exact JB w0 w wb n A G c v L o hok h0 h1 hc hf s1 h
  by_cases s2:(n.reqs.getD (eu n.reqs o.no) default).s=2
  .exact Sg w0 w wb n A G c v L o hok h0 h1 hc hf s2 h
  .exact ZW w0 w wb n A G c v L o E hz hok h0 h1 hc hf Aaa h he
end Go.Proofs.YtohmklmkjmlpjaaGreatDoor
