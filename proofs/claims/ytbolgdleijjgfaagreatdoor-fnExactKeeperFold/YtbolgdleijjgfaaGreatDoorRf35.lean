/- Parts. -/
import Derived.Test.YtbolgdleijjgfaaGreatDoorRf18
import Derived.Test.YtbolgdleijjgfaaGreatDoorRf28
namespace Go.Proofs.YtbolgdleijjgfaaGreatDoor
open Go.Proofs.Tryz
set_option maxHeartbeats 8000000
set_option maxRecDepth 100000
open Go.RowKit
open Mth
variable (w0 w:World) (wb:Nat) (n:Nd) (A:bq) (G:aN) (c:Nat->Nat) (v:Value) (L:List Mg) {g:Nat}
theorem CU (wb:Nat) (a:Option Addr) (len cp:Nat) (w:World):Calls prog 214 #[.pointer (some ⟨wb,0,none⟩),.slice a len cp,.bool false] w λe w'=>e= .returned (.bool false)/\w=w':=by
 go_in
 exact O3
theorem zB (wb:Nat) (n:Nd) (A:bq) (v:Value) (a:Option Addr) (len cp:Nat) (w:World) (h:w.heap[wb]?=some (.cells (Xr n A v) 215 (0,0))):Calls prog 214 #[.pointer (some ⟨wb,0,none⟩),.slice a len cp,.bool true] w λe w'=>e= .returned (.bool true)/\w.setCell ⟨wb,4,none⟩ (.slice a len cp)=w':=by
 obtain⟨c0,c1,c2,c3,c4,c5,c6,c7,c8,c9⟩:=jT h;have f4:=aC h 4;clear h;go_in
 exact O3
theorem Xj {w0 w x:World} {wb:Nat} {n:Nd} {A:bq} {G:aN} {c:Nat->Nat} {v:Value} {L:List Mg} (h:WK w0 w wb n A G c v L) {r:List Pu×Bool} {a:Option Addr} {cp g:Nat} (hb:aH w x) (hg:w.heap.size<=g) (hp:yg x a g r.1):
 Calls prog 214 #[.pointer (some ⟨wb,0,none⟩),.slice a r.1.length cp,.bool r.2] x λe w'=>e= .returned (.bool r.2)/\∃A' G' c',WK w0 w' wb (if r.2=true then setPu n r.1 else n) A' G' c' v L:=by
 obtain⟨l,b⟩:=r;cases b with
 |false=>
  refine(CU wb a l.length cp x).mono ?_;rintro e w' ⟨rfl,rfl⟩;exact⟨rfl,A,G,c,h.step hb⟩
 |true=>
  refine(zB wb n A v a l.length cp x (h.step hb).blk).mono ?_;rintro e w' ⟨rfl,rfl⟩;exact⟨rfl,_,_,_,h.setPu hb hp (λy hy=>by rw [(dw hy).1];exact hg)⟩
def vR (n:Nd) (o:gP):Nd×Int:=if n.par= -1/\(dB n.pu o.k 1 1 0 o.n).2=true then(setPu n (dB n.pu o.k 1 1 0 o.n).1,0) else(n,1)
theorem ZX (o:gP) (hpar:¬n.par= -1) (h:WK w0 w wb n A G c v L):
 Calls prog 199 #[.pointer (some ⟨wb,0,none⟩),jX o] w λe w'=>e= .returned (.int .i64 (vR n o).2)/\∃A' G' c',WK w0 w' wb (vR n o).1 A' G' c' v L:=by
 have hR:vR n o=(n,1):=aE2 (λhx=>hpar hx.1);rw [hR];have hq:(n.par != -1)=true:=Abg
 have hq2:(n.par == -1)=false:=Abg
 have HW:=Hq h;obtain⟨K,no,k,nn,⟨mK,mF,mT,mI,mL,mk,mN⟩⟩:=o;open aoH in exact XQ
theorem Vj (o:gP) (E:Nat->Addr) (hz:eG n 1048576) (hk:o.k.size<=1048576) (hpar:n.par= -1) (h:WK w0 w wb n A G c v L) (he:iy w0 E):
 Calls prog 199 #[.pointer (some ⟨wb,0,none⟩),jX o] w λe w'=>e= .returned (.int .i64 (vR n o).2)/\∃A' G' c',WK w0 w' wb (vR n o).1 A' G' c' v L:=by
 have hR:vR n o=((if (dB n.pu o.k 1 1 0 o.n).2=true then setPu n (dB n.pu o.k 1 1 0 o.n).1 else n),(if (dB n.pu o.k 1 1 0 o.n).2=true then 0 else 1)):=by
  unfold vR;cases hb:(dB n.pu o.k 1 1 0 o.n).2<;>simp[hpar]
 rw [hR];have hq:(n.par != -1)=false:=Abg
 have hq2:(n.par == -1)=true:=Abg
 have HW:=Hq h;have HMI:=Hq (λw1 (hb:aH w w1)=>acj A.p A.cp n.pu o.k o.n E w1 hz.p hz.pk hk (GR.At.below h.no.p.at hb) (he.below (h.keep.trans (hb.mono h.keep.size))));unfold j6 at HMI;obtain⟨K,no,k,nn,⟨mK,mF,mT,mI,mL,mk,mN⟩⟩:=o;dsimp only at HMI ⊢;generalize dB n.pu k 1 1 0 nn=r at *;open aoG in exact XQ
theorem alE (o:gP) (E:Nat->Addr) (hz:eG n 1048576) (hk:o.k.size<=1048576) (h:WK w0 w wb n A G c v L) (he:iy w0 E):
 Calls prog 199 #[.pointer (some ⟨wb,0,none⟩),jX o] w λe w'=>e= .returned (.int .i64 (vR n o).2)/\∃A' G' c',WK w0 w' wb (vR n o).1 A' G' c' v L:=by
 by_cases hpar:n.par= -1
 .exact Vj w0 w wb n A G c v L o E hz hk hpar h he
 .exact ZX w0 w wb n A G c v L o hpar h
def H6 (n:Nd) (o:gP):List Mg×Int:=if n.par= -1 then([],1) else([Lf n o],0)
theorem alG (o:gP) (hk:o.k.size<=1048576) (hL:L.length<=2097100) (h:WK w0 w wb n A G c v L):
 Calls prog 202 #[.pointer (some ⟨wb,0,none⟩),jX o] w λe w'=>e= .returned (.int .i64 (H6 n o).2)/\∃c' v',WK w0 w' wb n A G c' v' (L++(H6 n o).1):=by
 have HSY:=Hq (λW c v (hW:WK w0 W wb n A G c v L)=>Xq w0 W wb n A G c v L (Lf n o) (by show o.k.size<=1048600;omega) Aaa hW);unfold Lf at HSY;have hwl:=ay h.blk;have hne:wb≠w.heap.size:=Aaa
 by_cases hpar:n.par= -1
 .have hR:H6 n o=([],1):=aFc hpar;rw [hR];open aug in exact aaL
 .have hR:H6 n o=([Lf n o],0):=aE2 hpar;rw [hR];unfold Lf;obtain⟨K,no,k,nn,⟨mK,mF,mT,mI,mL,mk,mN⟩⟩:=o;dsimp only at HSY ⊢;open aoI in exact XQ
theorem qA {w:World} {a0 a1 a2 a3 b0 b1 b2 b3:Value} {t:TypeId} (h:w.heap[g]?=some (.cells #[a0,a1,a2,a3] t (0,0))):((((w.setCell ⟨g,0,none⟩ b0).setCell ⟨g,1,none⟩ b1).setCell ⟨g,2,none⟩ b2).setCell ⟨g,3,none⟩ b3).heap[g]?=some (.cells #[b0,b1,b2,b3] t (0,0)):=
 GR.setW_blk [b0,b1,b2,b3] (o:=0) (xs:=[a0,a1,a2,a3]) h
theorem iV {a w:World} {B:Nat} {b0 b1 b2 b3:Value} (h:Below B a w) (hg:B<=g):Below B a ((((w.setCell ⟨g,0,none⟩ b0).setCell ⟨g,1,none⟩ b1).setCell ⟨g,2,none⟩ b2).setCell ⟨g,3,none⟩ b3):=
 GR.setW_below hg [b0,b1,b2,b3] (o:=0) h
theorem WK.outApp {w0 w w6:World} {wb:Nat} {n:Nd} {A:bq} {G:aN} {c:Nat->Nat} {v:Value} {L:List Mg} {a6:Option Addr} {c6:Nat} (h:WK w0 w wb n A G c v L) (s:jI) (hown:w6.ownsRow w0.heap.size 145 4 (.slice a6 (n.out.length+1) c6) (n.out.length+1) (GR.flat aM n.out++aM s)) (hg:w.grownBy w6 (Value.slice A.o n.out.length A.co).ownBlock) (hv:∀x,(Value.slice a6 (n.out.length+1) c6).ownBlock=some x->(Value.slice A.o n.out.length A.co).ownBlock=some x\/w.heap.size<=x):
 w6.heap[wb]?=some (.cells (Xr n A v) 215 (0,0))/\KC (newC w.heap.size 3 c) 3 w w6/\WK w0 (w6.setCell ⟨wb,5,none⟩ (.slice a6 (n.out.length+1) c6)) wb (setOut n (n.out++[s])) ⟨A.k,A.p,a6,A.s,A.r,A.ck,A.cp,c6,A.cs,A.cr⟩ G (newC w.heap.size 3 c) v L:=by
 have h1:=h.recol (c':=newC w.heap.size 3 c) (λx hx=>fE hx);have hk1:KC (newC w.heap.size 3 c) 3 w w6:=KC.grown hg h1.no.co;have hblk:=hk1.obj h1.blk (by rw [h1.cw];omega);have hkeep:=hk1.below h1.keep h1.no.lo Aaa h1.keep.size;have hk2:KC (newC w.heap.size 3 c) 8 w6 (w6.setCell ⟨wb,5,none⟩ (.slice a6 (n.out.length+1) c6)):=KC.set h1.cw
 have hco:∀x,(Value.slice a6 (n.out.length+1) c6).ownBlock=some x->newC w.heap.size 3 c x=3:=λx hx=>by
  rcases hv x hx with hx'|hx'
  .exact h1.no.co x hx'
  .exact aY hx'
 have hlen:(n.out++[s]).length=n.out.length+1:=Aac
 have hno:=h1.no;refine⟨hblk,hk1,hk2.below hkeep hno.lo Aaa hkeep.size,?_,⟨?_,?_,?_,?_,?_,hno.lo,hno.ck,hno.cp,?_,hno.c4,hno.ci,hno.cr,hno.ni⟩,?_,h1.cm,h1.cw⟩
 .have:=aP hblk 5 (.slice a6 (n.out.length+1) c6);rw [this];show some (Obj.cells (Xr n A v |>.setIfInBounds 5 _) _ _)=some (Obj.cells #[_,_,_,_,_,.slice a6 (n.out++[s]).length c6,_,_,_,_] _ _)
  rw [hlen];rfl
 .exact hk2.w (hk1.w hno.k hno.ck Aaa) hno.ck Aaa
 .exact hk2.w (hk1.w hno.p hno.cp Aaa) hno.cp Aaa
 .show(w6.setCell _ _).ownsRow _ _ _ (.slice a6 (n.out++[s]).length c6) (n.out++[s]).length (GR.flat aM (n.out++[s]))
  rw [hlen,jr];exact hk2.own hown hco Aaa
 .exact aiJ
 .exact hk2.own (hk1.own hno.r hno.cr Aaa) hno.cr Aaa
 .show∀x,(Value.slice a6 (n.out++[s]).length c6).ownBlock=some x->_
  rw [hlen];exact hco
 .exact hk2.own (hk1.own h1.m h1.cm Aaa) h1.cm Aaa
theorem WK.next {w0 w:World} {wb:Nat} {n:Nd} {A:bq} {G:aN} {c:Nat->Nat} {v:Value} {L:List Mg} (h:WK w0 w wb n A G c v L) (y:Int):WK w0 (w.setCell ⟨wb,3,none⟩ (.int .i64 y)) wb (afH n y) A G c v L:=by
 have hk2:KC c 8 w (w.setCell ⟨wb,3,none⟩ (.int .i64 y)):=KC.set h.cw;have hno:=h.no.kc hk2 Aaa;exact⟨hk2.below h.keep h.no.lo Aaa h.keep.size,aP h.blk 3 (.int .i64 y),⟨hno.k,hno.p,hno.o,hno.s,hno.r,hno.lo,hno.ck,hno.cp,hno.co,hno.c4,hno.ci,hno.cr,hno.ni⟩,hk2.own h.m h.cm Aaa,h.cm,h.cw⟩
theorem AQ {s:ByteArray} (hs:keyOk s.data.toList=true):s.size<=10:=by
 unfold keyOk at hs;simp only[aEX,aFu] at hs;have:=bf s;omega
theorem acZ {n:Nd} (h:dV n=true):eG n 1000:=by
 obtain⟨h1,h2,h3,h4,h5,h6⟩:=bJ h;obtain⟨p1,p2,p3⟩:=(kH n.pu).1 h2;obtain⟨o1,o2,o3⟩:=tK h5;obtain⟨r1,r2,r3,_,_⟩:=iY h6
 have hk:n.kids.length<=30:=by
  unfold eD at h1;simp only[aEX,aFf] at h1;exact h1.1.2
 unfold oZ at h3;simp only[aEX,aFf] at h3
 have hs:n.seen.length<=31:=by
  have:=h3.1;split at this<;>omega
 refine⟨Aaa,Aaa,Aaa,Aaa,Aaa,λx hx=>?_,λx hx=>?_,λx hx=>?_,λx hx=>?_⟩
 .have:=p1 x hx;unfold iG at this;simp only[aEX] at this;exact aEU (AQ this.1.1.1.1) Aaa
 .have:=o3 x hx;unfold wU at this;simp only[aEX] at this;exact aEU (AQ this.1.2) Aaa
 .have:=Ai h3.2 x hx;unfold wD at this;simp only[aEX,aFf] at this;have:=this.2.1.2;omega
 .have:=(kK (r3 x hx)).2.2.1;exact aEU (AQ this) Aaa
theorem Vk (dst:Int) (key:ByteArray) (a:Int) (hc:n.out.length=40) (h:WK w0 w wb n A G c v L):Calls prog 221 #[.pointer (some ⟨wb,0,none⟩),.int .i64 dst,.string key,.int .i64 a] w λe w'=>e= .returned (.bool false)/\w=w':=by
 have hq:((n.out.length:Int) == 40)=true:=by rw [hc];rfl
 exact aiD
theorem Vl (dst:Int) (key:ByteArray) (a:Int) (hl:n.out.length < 40) (hc:n.next=1000000000) (h:WK w0 w wb n A G c v L):Calls prog 221 #[.pointer (some ⟨wb,0,none⟩),.int .i64 dst,.string key,.int .i64 a] w λe w'=>e= .returned (.bool false)/\w=w':=by
 have hq:((n.out.length:Int) == 40)=false:=Aah
 have hq2:(n.next == 1000000000)=true:=by rw [hc];rfl
 exact aiD
theorem Vm (dst:Int) (key:ByteArray) (a:Int) (E:Nat->Addr) (hok:dV n=true) (hkey:keyOk key.data.toList=true) (ha1:1<=a) (ha2:a<=1000000000) (hL:L.length<=2097100) (hc1:n.out.length < 40) (hc2:n.next < 1000000000) (h:WK w0 w wb n A G c v L) (he:iy w0 E):
 Calls prog 221 #[.pointer (some ⟨wb,0,none⟩),.int .i64 dst,.string key,.int .i64 a] w λe w'=>e= .returned (.bool (fu n dst key a).2.2)/\∃A' G' c' v',WK w0 w' wb (fu n dst key a).1 A' G' c' v' (L++(fu n dst key a).2.1):=by
 have hz:=acZ hok;obtain⟨_,hps,_,hnx,_,_⟩:=bJ hok;have hnx1:1<=n.next/\n.next<=1000000000:=by simpa [fJ] using hnx
 have hks:=AQ hkey
 have hf:0<=(aD n.pu key).f/\(aD n.pu key).f<=1000000000:=by
  have hpo:=zq hps hkey;unfold iG rM at hpo;simp only[aEX,aFf] at hpo;exact hpo.1.1.2
 have JR:=Hq (λw1 (hb:aH w w1)=>Qb A.p A.cp n.pu key w1 (by have:=hz.p;omega) (λp hp=>aEU (hz.pk p hp) Aaa) Aaa (GR.At.below h.no.p.at hb));have IE:=Hq (fun(y:Int) w1 (hb:aH w w1)=>acn A.p A.cp n.pu key y E w1 (by have:=hz.p;omega) (λp hp=>aEU (hz.pk p hp) Aaa) Aaa (GR.At.below h.no.p.at hb) (he.below (h.keep.trans (hb.mono h.keep.size))));unfold j6 at IE
 have Ll:Hid (rO n key a=min a (aD n.pu key).f):=by
  show rO n key a=min a (aD n.pu key).f
  unfold rO;split<;>omega
 have Sb:=Hq (fun(y:Int) (h1:1<=y) (h2:y<=(aD n.pu key).f) (h3:y<=1000000000)=>afA hps hkey h1 h2 h3);have nA:=Hq (fun(y:Int) (h1:¬1<=y)=>LD (l:=n.pu) (key:=key) (dm:=0) (df:= -1) (ds:=0) (n:=y) (λhx=>h1 hx.1))
 have HGY:Hid (1<=rO n key a->fu n dst key a=(tN n dst key (rO n key a),[qU (tN n dst key (rO n key a)) ⟨n.next,dst,key,rO n key a⟩],true)):=λh1=>by
  unfold fu
  exact aFc (aET ⟨h1,hc1,hc2⟩)
 have HGN:Hid (¬1<=rO n key a->fu n dst key a=(n,[],false)):=λh1=>by
  unfold fu QG
  rw [aE2 (by rw [aES (λhx=>h1 hx.1)];simp)]
 have hq1:((n.out.length:Int) == 40)=false:=Aah
 have hq2:(n.next == 1000000000)=false:=Aah
 have HOL:=Hq hc1;have HZ:=Hq hz;generalize hfr:aD n.pu key=fr at *;obtain⟨fk,fm,ff,fs⟩:=fr;dsimp only at hf Ll Sb;have HW:=Hq h;clear h he hok hkey hps hnx hc1 hc2 hfr hz;generalize fu n dst key a=gv at *;obtain⟨c0,c1,c2,c3,c4,c5,c6,c7,c8,c9⟩:=jT HW.blk;go_in
 go_wp2_with fail;refine(JR w (aE3 _ _)).mono ?_;rintro e w1 ⟨rfl,hb1⟩;have HB1:=Hq hb1;have HW1:=Hq (HW.step hb1);clear hb1 JR c0 c1 c2 c3 c4 c5 c6 c7 c8 c9;obtain⟨c0,c1,c2,c3,c4,c5,c6,c7,c8,c9⟩:=jT HW1.blk;have aCj:=J7 fk fm ff fs;go_wp2_with fail;clear c0 c1 c2 c3 c4 c5 c6 c7 c8 c9 aCj;have aD6:min a ff<=a:=Aaa
 have aCE:min a ff<=ff:=Aaa
 generalize min a ff=gW at *;have hAM:=ah Ll;rw [hAM] at HGY HGN;clear Ll hAM;refine(IE gW w1 HB1).mono ?_;rintro e y ⟨pa,pcp,pg,hpg,rfl,hp,hby⟩;have HST:=Hq (Xj (cp:=pcp) HW1 hby hpg hp);have HPD:Hid (tN n dst key gW=⟨n.id,n.par,n.kids,n.next+1,(dB n.pu key 0 (-1) 0 gW).1,n.out++[⟨n.next,dst,key,gW⟩],n.seen,n.old,n.reqs⟩):=rfl;have DZ:=Hq (Sb gW);have Xy:=Hq (nA gW);clear hp hby hpg IE Sb nA HW1;generalize dB n.pu key 0 (-1) 0 gW=r at *;go_wp2_with fail;refine HST.mono ?_;rintro e z ⟨rfl,A1,G1,c1,hZ⟩;by_cases h1:1<=gW
 case' neg=>
  have hr:=ah Xy Aaa;subst hr;have HZ1:=Hq hZ;have hG:=ah HGN Aaa;have HG:=Hq hG;clear hZ hG HGY HGN HST DZ Xy HPD;go_wp2_with fail;go_ret;have hG:=ah HG;subst hG;refine⟨rfl,A1,G1,c1,v,?_⟩;rw [aF4];exact HZ1
 have hr2:=ah DZ h1 aCE Aaa;obtain⟨rl,rb⟩:=r;dsimp only at hr2;subst hr2;have HG:=Hq (HGY h1);have yD:Hid (WK w0 z wb (setPu n rl) A1 G1 c1 v L):=hZ;clear hZ HGY HGN HST DZ Xy HB1 HW;have hcl:n.out.length<=40:=by have:=ah HOL;omega
 obtain⟨c0,c1,c2,c3,c4,c5,c6,c7,c8,c9⟩:=jT yD.blk;dsimp only[setPu] at c0 c1 c2 c3 c4 c5 c6 c7 c8 c9;have aEm:=ay yD.blk;go_upto_region 6 with fail;have y3:=aEQ c3;clear c0 c1 c2 c3 c4 c5 c6 c7 c8 c9;refine bC 11 Aab ?_;show fV _ _ _ _ _ 12 (Array.replicate 12 false) _ _
 refine tk [0,1,2,3,4,5,6,8] ?_;iterate 8 (refine lW (λK hK=>?_);go_simp;refine hK _ ?_;clear hK K)
 refine jh ?_;clear y3;refine zD 7 10 rfl rfl Aab Aad Aad (λx hx=>?c1) (λx hx=>?c2)
 case' c1=>
  go_simp
  refine(clone key x Aaa).mono ?_
  rintro e y ⟨rfl,hby⟩
  refine⟨hby,?_⟩
  have HY:=Hq (Ge.trans hx hby)
  clear hx hby
  refine tk [9] ?_
  (refine lW (λK hK=>?_);go_simp;refine hK _ ?_;clear hK K)
  refine jh ?_
  refine dP 10 rfl Aab Aad (λx2 hx2=>?_)
  go_simp
  refine⟨au x2 _,?_⟩
  have hgl:z.heap.size<=x2.heap.size:=(Ge.trans HY hx2).size
  have Ih:=Hq (aEP x2 (.cells (gN 0 0 ⟨#[]⟩ 0) 145))
  have wm:=Hq (Ge.trans (Ge.trans HY hx2) (au x2 (.cells (gN 0 0 ⟨#[]⟩ 0) 145)))
  clear hx2 HY
  generalize x2.alloc (.cells (gN 0 0 ⟨#[]⟩ 0) 145)=y2 at *
  generalize x2.heap.size=g at *
  refine aS Aab (λz2 hz2=>?_)
  have lD:=Hq (aj Ih hz2)
  have eY:=Hq (Ge.trans wm hz2)
  clear hz2 Ih wm
  have Ec:=ay lD
  obtain⟨g0,g1,g2,g3⟩:=iI lD
  have f0:=aC lD 0
  have f1:=aC lD 1
  have f2:=aC lD 2
  have f3:=aC lD 3
  refine aI 11 rfl Aab Aad ?_
  go_simp
  refine wpAny_done Aab ?_
  go_simp
  go_upto_region 7 with fail
  refine wp_at (λW hW=>?_)
  have Vt:Hid (W.heap[g]?=some (.cells (gN n.next dst key gW) 145 (0,0))):=Abt
  have iQ:Hid (aH z W):=Abu
  clear hW lD eY Ec g0 g1 g2 g3 f0 f1 f2 f3
 case' c2=>
  go_simp
  refine⟨au x _,?_⟩
  have hgl:z.heap.size<=x.heap.size:=hx.size
  have Ih:=Hq (aEP x (.cells (gN 0 0 ⟨#[]⟩ 0) 145))
  have wm:=Hq (Ge.trans hx (au x (.cells (gN 0 0 ⟨#[]⟩ 0) 145)))
  clear hx
  generalize x.alloc (.cells (gN 0 0 ⟨#[]⟩ 0) 145)=y2 at *
  generalize x.heap.size=g at *
  refine dP 7 rfl Aab Aad (λx2 hx2=>?_)
  go_simp
  refine(clone key x2 Aaa).mono ?_
  rintro e y3 ⟨rfl,hby⟩
  refine⟨hby,?_⟩
  have HGC:=Hq (aj Ih (Ge.trans hx2 hby))
  have HBC:=Hq (Ge.trans wm (Ge.trans hx2 hby))
  clear hx2 hby Ih wm
  refine tk [9] ?_
  (refine lW (λK hK=>?_);go_simp;refine hK _ ?_;clear hK K)
  refine jh ?_
  refine aS Aab (λz2 hz2=>?_)
  have lD:=Hq (aj HGC hz2)
  have eY:=Hq (Ge.trans HBC hz2)
  clear hz2 HGC HBC
  have Ec:=ay lD
  obtain⟨g0,g1,g2,g3⟩:=iI lD
  have f0:=aC lD 0
  have f1:=aC lD 1
  have f2:=aC lD 2
  have f3:=aC lD 3
  refine aI 11 rfl Aab Aad ?_
  go_simp
  refine wpAny_done Aab ?_
  go_simp
  go_upto_region 7 with fail
  refine wp_at (λW hW=>?_)
  have Vt:Hid (W.heap[g]?=some (.cells (gN n.next dst key gW) 145 (0,0))):=Abt
  have iQ:Hid (aH z W):=Abu
  clear hW lD eY Ec g0 g1 g2 g3 f0 f1 f2 f3
 all_goals
  have hgw:=ay Vt
  have HWW:=Hq (yD.step iQ)
  have HCG:Hid ((Value.slice A1.o n.out.length A1.co).ownBlock≠some g):=λe=>by have h9:=(yD.no.o.lt g e).2;omega
  clear yD iQ
  obtain⟨c0,c1,c2,c3,c4,c5,c6,c7,c8,c9⟩:=jT HWW.blk
  dsimp only[setPu] at c0 c1 c2 c3 c4 c5 c6 c7 c8 c9
  obtain⟨s0,s1,s2,s3⟩:=iI Vt
  obtain⟨i0,hi,hz0,hz1,hz2⟩:=aFt MF
  have y5:=aEQ c5
  have x0:=aEQ s0
  have x1:=aEQ s1
  have x2:=aEQ s2
  have x3:=aEQ s3
  clear c0 c1 c2 c3 c4 c5 c6 c7 c8 c9 s0 s1 s2 s3
  refine mY Aab ?_
  show xB _ _ _ _ 13 (Array.replicate 13 false) _ _
  refine DR 0 rfl Aab Aab Aab (λ_ _ _ _ h=>h) (λK hK=>?_)
  go_simp
  first
   |(refine hK _ ?_;clear hK K)
   |(apply Exists.intro
     refine⟨λ_=>rfl,hK _ ?_⟩
     clear hK K)
  refine sG 8 ?_
  refine tk [1,2,3,4,5,6] ?_
  iterate 6 (refine lW (λK hK=>?_);go_simp;refine hK _ ?_;clear hK K)
  refine jh ?_
  clear y5 x0 x1 x2 x3
  refine dP 7 rfl Aab Aad (λq hq=>?_)
  go_simp
  refine⟨au q _,?_⟩
  have JU:=Hq ((HWW.step hq).step (au q (.cells (gN n.next dst key gW) 145)))
  have HGX:=Hq (aj (aj Vt hq) (au q (.cells (gN n.next dst key gW) 145)))
  have iJ:=Hq (aEP q (.cells (gN n.next dst key gW) 145))
  have hgq:g < q.heap.size:=aEZ hgw hq.size
  clear hq HWW Vt hgw
  generalize q.alloc (.cells (gN n.next dst key gW) 145)=y4 at *
  refine aS Aab (λz4 BK=>?_)
  have wJ:=Hq (JU.step BK)
  have HGZ:=Hq (aj HGX BK)
  have Iz:=Hq (aj iJ BK)
  clear BK JU iJ HGX
  refine aI 8 rfl Aab Aad ?_
  refine pX z4 (.tmp 63) (.tmp 65) 35 rfl w0.heap.size 145 i0 (.agg (gN 0 0 ByteArray.empty 0)) 4 40 underlying35 hi hz0 hz1 hz2 rfl Aae (.slice A1.o n.out.length A1.co) n.out.length (GR.flat aM n.out) Aao wJ.no.o ⟨q.heap.size,0,none⟩ 1 1 (aM ⟨n.next,dst,key,gW⟩) Aao rfl (aFF Iz) (yU _) Aaj Aaa wJ.keep.size ?_
  intro v6 w6 hown6 rP PU
  obtain⟨a6,c6,hv6,_⟩:=GR.own_at (enc:=aM) (sz:=4) (l:=n.out++[⟨n.next,dst,key,gW⟩]) aT (by rw [aEW,jr];exact hown6)
  rw [aEW] at hv6
  have hv7:v6= .slice a6 (n.out.length+1) c6:=hv6
  subst hv7
  clear hv6
  obtain⟨hb6,Sl,hS6⟩:=wJ.outApp ⟨n.next,dst,key,gW⟩ hown6 rP PU
  have SI:=Hq hS6
  obtain⟨k0,k1,k2,k3,k4,k5,k6,k7,k8,k9⟩:=jT hb6
  have kf:=aC hb6 5
  have HG6:Hid (w6.heap[g]?=some (.cells (gN n.next dst key gW) 145 (0,0))):=rP.block g (ay HGZ) (λe=>HCG e.symm) |>.trans HGZ
  clear hown6 rP PU hb6 hS6 Sl wJ Iz HGZ
  refine aI 9 rfl Aab Aad ?_
  go_simp
  refine aI 10 rfl Aab Aad ?_
  go_simp
  refine aI 11 rfl Aab Aad ?_
  go_simp
  refine aI 12 rfl Aab Aad ?_
  go_simp
  refine wpAny_done Aab ?_
  go_simp
  have hgb:g≠wb:=Aaa
  go_upto_region 8 with fail
  refine wp_at (λV8 hV=>?_)
  obtain⟨A8,G8,aeU,XF⟩:∃A8 G8 aeU,Hid (WK w0 V8 wb (setOut (setPu n rl) (n.out++[⟨n.next,dst,key,gW⟩])) A8 G8 aeU v L):=⟨_,_,_,by rw [hV];exact SI⟩
  have HG8:Hid (V8.heap[g]?=some (.cells (gN n.next dst key gW) 145 (0,0))):=by rw [hV];exact jq HG6 hgb
  clear hV SI HG6 kf k0 k1 k2 k3 k4 k5 k6 k7 k8 k9
  obtain⟨c0,c1,c2,c3,c4,c5,c6,c7,c8,c9⟩:=jT XF.blk
  dsimp only[setPu,setOut] at c0 c1 c2 c3 c4 c5 c6 c7 c8 c9
  have kf3:=aC XF.blk 3
  go_upto_region 9 with fail
  refine wp_at (λV9 hV=>?_)
  have HS9:Hid (WK w0 V9 wb (tN n dst key gW) A8 G8 aeU v L):=by rw [hV,ah HPD];exact XF.next (n.next+1)
  have HG9:Hid (V9.heap[g]?=some (.cells (gN n.next dst key gW) 145 (0,0))):=by rw [hV];exact jq HG8 hgb
  have hl9:(tN n dst key gW).out.length<=1048600:=by rw [ah HPD];simp;omega
  clear hV XF HG8 kf3 HPD c0 c1 c2 c3 c4 c5 c6 c7 c8 c9
  generalize tN n dst key gW=n9 at *
  have IG:=Hq (λp:Regrown=>Kk n9 A8 ⟨n.next,dst,key,gW⟩ (Gr V9 p) hl9 (GR.At.below HS9.no.at.o (aFl V9 p.d p.os)))
  have HSY:=Hq (λx (hx:Ge V9 x)=>Xq w0 x wb n9 A8 G8 aeU v L (qU n9 ⟨n.next,dst,key,gW⟩) (by show key.size<=1048600;omega) Aaa (HS9.step hx))
  generalize qU n9 ⟨n.next,dst,key,gW⟩=pm at *
  obtain⟨qK,qF,qT,qI,qL,qk,qN⟩:=pm
  obtain⟨c0,c1,c2,c3,c4,c5,c6,c7,c8,c9⟩:=jT HS9.blk
  obtain⟨s0,s1,s2,s3⟩:=iI HG9
  have y0:=aEQ c0
  have y1:=aEQ c1
  have y2:=aEQ c2
  have y3:=aEQ c3
  have y4:=aEQ c4
  have y5:=aEQ c5
  have y6:=aEQ c6
  have y7:=aEQ c7
  have y8:=aEQ c8
  have x0:=aEQ s0
  have x1:=aEQ s1
  have x2:=aEQ s2
  have x3:=aEQ s3
  have hg9:=ay HG9
  have hw9:=ay HS9.blk
  clear c0 c1 c2 c3 c4 c5 c6 c7 c8 c9 s0 s1 s2 s3
  refine bC 7 Aab ?_
  show fV _ _ _ _ _ 8 (Array.replicate 8 false) _ _
  refine tk [0,1,2,3,4,5] ?_
  iterate 6 (refine lW (λK hK=>?_);go_simp;refine hK _ ?_;clear hK K)
  refine jh ?_
  refine fK 6 20 rfl Aab Aab Aab Aab Aab (λ_ _ _ _ h=>h) (λK hK=>?_)
  go_simp
  first
   |(refine hK _ ?_;clear hK K)
   |(apply Exists.intro
     refine⟨λ_=>?_,hK _ ?_⟩
     (exact IG _)
     clear hK K)
  clear y0 y1 y2 y3 y4 y5 y6 y7 y8 x0 x1 x2 x3
  refine aS Aab (λx hx=>?_)
  have JU:=Hq (HSY x hx)
  clear hx
  refine aI 7 rfl Aab Aad ?_
  go_simp
  refine JU.mono ?_
  rintro e y9 ⟨rfl,c',v',hY⟩
  have HY:=Hq hY
  clear hY JU
  refine wpAny_done Aab ?_
  go_simp
  go_wp2_with fail
  go_ret
  have hG:=ah HG
  subst hG
  exact⟨rfl,A8,G8,c',v',HY⟩
theorem ajj (dst:Int) (key:ByteArray) (a:Int) (E:Nat->Addr) (hok:dV n=true) (hkey:keyOk key.data.toList=true) (ha1:1<=a) (ha2:a<=1000000000) (hL:L.length<=2097100) (h:WK w0 w wb n A G c v L) (he:iy w0 E):
 Calls prog 221 #[.pointer (some ⟨wb,0,none⟩),.int .i64 dst,.string key,.int .i64 a] w λe w'=>e= .returned (.bool (fu n dst key a).2.2)/\∃A' G' c' v',WK w0 w' wb (fu n dst key a).1 A' G' c' v' (L++(fu n dst key a).2.1):=by
 obtain⟨_,_,_,hnx,ho,_⟩:=bJ hok;have hnx1:1<=n.next/\n.next<=1000000000:=by simpa [fJ] using hnx
 have hol:=(tK ho).2.1
 have hgn:(n.out.length=40\/n.next=1000000000)->fu n dst key a=(n,[],false):=λhx=>by
  unfold fu QG
  rw [aE2 (by rw [aES (λhy=>Aaa)];simp)]
 by_cases h40:n.out.length=40
 .rw [hgn (.inl h40)];refine(Vk w0 w wb n A G c v L dst key a h40 h).mono ?_;exact ai0
 .by_cases hl:n.next=1000000000
  .rw [hgn (.inr hl)];refine(Vl w0 w wb n A G c v L dst key a Aaa hl h).mono ?_;exact ai0
  .exact Vm w0 w wb n A G c v L dst key a E hok hkey ha1 ha2 hL Aaa Aaa h he
theorem ac0 (n:Nd) (A:bq) (x:Int) (w:World) (hp:eD n=true) (hl:n.kids.length<=1048600) (ha:cK w A n):
 Calls prog 189 #[gU n A,.int .i64 x] w (dU w (.bool (dY n x))):=by
 have h:=P8 n A x w hl ha.k;rw [near_same hp] at h;exact h
def Fj (n:Nd) (o:gP):Nd×List Mg×Int:=if n.par= -1 then(n,[],1) else((fu n n.par o.k o.n).1,(fu n n.par o.k o.n).2.1,if (fu n n.par o.k o.n).2.2=true then 0 else 1)
theorem alu (o:gP) (E:Nat->Addr) (hok:dV n=true) (hkey:keyOk o.k.data.toList=true) (ha1:1<=o.n) (ha2:o.n<=1000000000) (hL:L.length<=2097100) (h:WK w0 w wb n A G c v L) (he:iy w0 E):
 Calls prog 203 #[.pointer (some ⟨wb,0,none⟩),jX o] w λe w'=>e= .returned (.int .i64 (Fj n o).2.2)/\∃A' G' c' v',WK w0 w' wb (Fj n o).1 A' G' c' v' (L++(Fj n o).2.1):=by
 have IG:=Hq (λW c v (hW:WK w0 W wb n A G c v L)=>ajj w0 W wb n A G c v L n.par o.k o.n E hok hkey ha1 ha2 hL hW he);have hwl:=ay h.blk;have hne:wb≠w.heap.size:=Aaa
 clear hok hkey ha1 ha2 he;by_cases hpar:n.par= -1
 .have hR:Fj n o=(n,[],1):=aFc hpar;rw [hR];open aui in exact aaL
 .have hR:Fj n o=((fu n n.par o.k o.n).1,(fu n n.par o.k o.n).2.1,if (fu n n.par o.k o.n).2.2=true then 0 else 1):=aE2 hpar;rw [hR];obtain⟨K,no,k,nn,⟨mK,mF,mT,mI,mL,mk,mN⟩⟩:=o;dsimp only at IG ⊢;open aoJ in exact XQ
theorem adP (m:Mg) (hp:eD n=true) (hz:n.kids.length<=1048600) (h:WK w0 w wb n A G c v L):
 Calls prog 198 #[.pointer (some ⟨wb,0,none⟩),oJ m] w (dU w (.bool (decide (m.T=n.id)&&dY n m.F))):=by
 obtain⟨mK,mF,mT,mI,mL,mk,mN⟩:=m;have SA:=Hq (λw1 (ha:cK w1 A n)=>ac0 n A mF w1 hp hz ha);dsimp only;generalize dY n mF=nb at *;open aul in exact aaM
theorem alF (o:gP) (hz:eG n 1048576) (hL:L.length<=1048000) (h:WK w0 w wb n A G c v L):
 Calls prog 204 #[.pointer (some ⟨wb,0,none⟩),jX o] w λe w'=>e= .returned (.int .i64 0)/\∃c' v',WK w0 w' wb n A G c' v' (L++n.out.map (qU n)):=by
 have IG:=Hq (λs W (ha:SentAt W A.o n.out)=>Kk n A s W (by have:=hz.o;omega) ha);have HSY:=Hq (λW c v (k:Nat) (hk:k<=n.out.length) m (hm:m.k.size<=1048600) (hW:WK w0 W wb n A G c v (L++(n.out.take k).map (qU n)))=>Xq w0 W wb n A G c v _ m hm (by have:=hz.o;rw [aEW,aFQ,aFj];omega) hW);have HKK:Hid (∀s∈n.out,(qU n s).k.size<=1048600):=λs hs=>aEU (hz.ok s hs) Aaa
 have hlo:=hz.o;open auh in exact aaL
end Go.Proofs.YtbolgdleijjgfaaGreatDoor
