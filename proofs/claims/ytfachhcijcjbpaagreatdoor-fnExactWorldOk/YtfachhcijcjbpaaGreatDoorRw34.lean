/- Parts. -/
import Derived.Test.YtfachhcijcjbpaaGreatDoorRw29
import Derived.Test.YtfachhcijcjbpaaGreatDoorRw30
namespace Go.Proofs.YtfachhcijcjbpaaGreatDoor
open Go.Proofs.Tryz
set_option maxHeartbeats 8000000
set_option maxRecDepth 100000
open Go.RowKit
open Mth
variable (w0 w:World) (wb:Nat) (n:Nd) (A:bg) (G:aR) (c:Nat->Nat) (v:Value) (L:List Mg) {g:Nat}
theorem pQ {w:World} {a0 a1 a2 a3 b0 b1 b2 b3:Value} {t:TypeId} (h:w.heap[g]?=some (.cells #[a0,a1,a2,a3] t (0,0))):((((w.setCell ⟨g,0,none⟩ b0).setCell ⟨g,1,none⟩ b1).setCell ⟨g,2,none⟩ b2).setCell ⟨g,3,none⟩ b3).heap[g]?=some (.cells #[b0,b1,b2,b3] t (0,0)):=
 GR.setW_blk [b0,b1,b2,b3] (o:=0) (xs:=[a0,a1,a2,a3]) h
theorem iI {a w:World} {B:Nat} {b0 b1 b2 b3:Value} (h:Below B a w) (hg:B<=g):Below B a ((((w.setCell ⟨g,0,none⟩ b0).setCell ⟨g,1,none⟩ b1).setCell ⟨g,2,none⟩ b2).setCell ⟨g,3,none⟩ b3):=
 GR.setW_below hg [b0,b1,b2,b3] (o:=0) h
theorem WK.outApp {w0 w w6:World} {wb:Nat} {n:Nd} {A:bg} {G:aR} {c:Nat->Nat} {v:Value} {L:List Mg} {a6:Option Addr} {c6:Nat} (h:WK w0 w wb n A G c v L) (s:jI) (hown:w6.ownsRow w0.heap.size 129 4 (.slice a6 (n.out.length+1) c6) (n.out.length+1) (GR.flat aN n.out++aN s)) (hg:w.grownBy w6 (Value.slice A.o n.out.length A.co).ownBlock) (hv:∀x,(Value.slice a6 (n.out.length+1) c6).ownBlock=some x->(Value.slice A.o n.out.length A.co).ownBlock=some x\/w.heap.size<=x):
 w6.heap[wb]?=some (.cells (XB n A v) 254 (0,0))/\KC (newC w.heap.size 3 c) 3 w w6/\WK w0 (w6.setCell ⟨wb,5,none⟩ (.slice a6 (n.out.length+1) c6)) wb (setOut n (n.out++[s])) ⟨A.k,A.p,a6,A.s,A.r,A.ck,A.cp,c6,A.cs,A.cr⟩ G (newC w.heap.size 3 c) v L:=by
 have h1:=h.recol (c':=newC w.heap.size 3 c) (λx hx=>eY hx);have hk1:KC (newC w.heap.size 3 c) 3 w w6:=KC.grown hg h1.no.co;have hblk:=hk1.obj h1.blk (by rw [h1.cw];omega);have hkeep:=hk1.below h1.keep h1.no.lo Aaa h1.keep.size;have hk2:KC (newC w.heap.size 3 c) 8 w6 (w6.setCell ⟨wb,5,none⟩ (.slice a6 (n.out.length+1) c6)):=KC.set h1.cw
 have hco:∀x,(Value.slice a6 (n.out.length+1) c6).ownBlock=some x->newC w.heap.size 3 c x=3:=λx hx=>by
  rcases hv x hx with hx'|hx'
  .exact h1.no.co x hx'
  .exact aY hx'
 have hlen:(n.out++[s]).length=n.out.length+1:=Aac
 have hno:=h1.no;refine⟨hblk,hk1,hk2.below hkeep hno.lo Aaa hkeep.size,?_,⟨?_,?_,?_,?_,?_,hno.lo,hno.ck,hno.cp,?_,hno.c4,hno.ci,hno.cr,hno.ni⟩,?_,h1.cm,h1.cw⟩
 .have:=aT hblk 5 (.slice a6 (n.out.length+1) c6);rw [this];show some (Obj.cells (XB n A v |>.setIfInBounds 5 _) _ _)=some (Obj.cells #[_,_,_,_,_,.slice a6 (n.out++[s]).length c6,_,_,_,_] _ _)
  rw [hlen];rfl
 .exact hk2.w (hk1.w hno.k hno.ck Aaa) hno.ck Aaa
 .exact hk2.w (hk1.w hno.p hno.cp Aaa) hno.cp Aaa
 .show(w6.setCell _ _).ownsRow _ _ _ (.slice a6 (n.out++[s]).length c6) (n.out++[s]).length (GR.flat aN (n.out++[s]))
  rw [hlen,iX];exact hk2.own hown hco Aaa
 .exact aiT
 .exact hk2.own (hk1.own hno.r hno.cr Aaa) hno.cr Aaa
 .show∀x,(Value.slice a6 (n.out++[s]).length c6).ownBlock=some x->_
  rw [hlen];exact hco
 .exact hk2.own (hk1.own h1.m h1.cm Aaa) h1.cm Aaa
theorem WK.next {w0 w:World} {wb:Nat} {n:Nd} {A:bg} {G:aR} {c:Nat->Nat} {v:Value} {L:List Mg} (h:WK w0 w wb n A G c v L) (y:Int):WK w0 (w.setCell ⟨wb,3,none⟩ (.int .i64 y)) wb (afR n y) A G c v L:=by
 have hk2:KC c 8 w (w.setCell ⟨wb,3,none⟩ (.int .i64 y)):=KC.set h.cw;have hno:=h.no.kc hk2 Aaa;exact⟨hk2.below h.keep h.no.lo Aaa h.keep.size,aT h.blk 3 (.int .i64 y),⟨hno.k,hno.p,hno.o,hno.s,hno.r,hno.lo,hno.ck,hno.cp,hno.co,hno.c4,hno.ci,hno.cr,hno.ni⟩,hk2.own h.m h.cm Aaa,h.cm,h.cw⟩
theorem Ak {s:ByteArray} (hs:keyOk s.data.toList=true):s.size<=10:=by
 unfold keyOk at hs;simp only[aED,aE3] at hs;have:=aZ s;omega
theorem ac3 {n:Nd} (h:dQ n=true):eH n 1000:=by
 obtain⟨h1,h2,h3,h4,h5,h6⟩:=bq h;obtain⟨p1,p2,p3⟩:=(jQ n.pu).1 h2;obtain⟨o1,o2,o3⟩:=sG h5;obtain⟨r1,r2,r3,_,_⟩:=iL h6
 have hk:n.kids.length<=30:=by
  unfold dX at h1;simp only[aED,aES] at h1;exact h1.1.2
 unfold nZ at h3;simp only[aED,aES] at h3
 have hs:n.seen.length<=31:=by
  have:=h3.1;split at this<;>omega
 refine⟨Aaa,Aaa,Aaa,Aaa,Aaa,λx hx=>?_,λx hx=>?_,λx hx=>?_,λx hx=>?_⟩
 .have:=p1 x hx;unfold gZ at this;simp only[aED] at this;exact aEA (Ak this.1.1.1.1) Aaa
 .have:=o3 x hx;unfold wm at this;simp only[aED] at this;exact aEA (Ak this.1.2) Aaa
 .have:=zP h3.2 x hx;unfold vK at this;simp only[aED,aES] at this;have:=this.2.1.2;omega
 .have:=(jS (r3 x hx)).2.2.1;exact aEA (Ak this) Aaa
theorem Vz (dst:Int) (key:ByteArray) (a:Int) (hc:n.out.length=40) (h:WK w0 w wb n A G c v L):Calls prog 226 #[.pointer (some ⟨wb,0,none⟩),.int .i64 dst,.string key,.int .i64 a] w λe w'=>e= .returned (.bool false)/\w=w':=by
 have hq:((n.out.length:Int) == 40)=true:=by rw [hc];rfl
 exact aiN
theorem VB (dst:Int) (key:ByteArray) (a:Int) (hl:n.out.length < 40) (hc:n.next=1000000000) (h:WK w0 w wb n A G c v L):Calls prog 226 #[.pointer (some ⟨wb,0,none⟩),.int .i64 dst,.string key,.int .i64 a] w λe w'=>e= .returned (.bool false)/\w=w':=by
 have hq:((n.out.length:Int) == 40)=false:=Aae
 have hq2:(n.next == 1000000000)=true:=by rw [hc];rfl
 exact aiN
theorem VE (dst:Int) (key:ByteArray) (a:Int) (E:Nat->Addr) (hok:dQ n=true) (hkey:keyOk key.data.toList=true) (ha1:1<=a) (ha2:a<=1000000000) (hL:L.length<=2097100) (hc1:n.out.length < 40) (hc2:n.next < 1000000000) (h:WK w0 w wb n A G c v L) (he:gX w0 E):
 Calls prog 226 #[.pointer (some ⟨wb,0,none⟩),.int .i64 dst,.string key,.int .i64 a] w λe w'=>e= .returned (.bool (eU n dst key a).2.2)/\∃A' G' c' v',WK w0 w' wb (eU n dst key a).1 A' G' c' v' (L++(eU n dst key a).2.1):=by
 have hz:=ac3 hok;obtain⟨_,hps,_,hnx,_,_⟩:=bq hok;have hnx1:1<=n.next/\n.next<=1000000000:=by simpa [fC] using hnx
 have hks:=Ak hkey
 have hf:0<=(aD n.pu key).f/\(aD n.pu key).f<=1000000000:=by
  have hpo:=yZ hps hkey;unfold gZ qM at hpo;simp only[aED,aES] at hpo;exact hpo.1.1.2
 have JR:=Hq (λw1 (hb:aG w w1)=>Ql A.p A.cp n.pu key w1 (by have:=hz.p;omega) (λp hp=>aEA (hz.pk p hp) Aaa) Aaa (GR.At.below h.no.p.at hb));have HPA:=Hq (fun(y:Int) w1 (hb:aG w w1)=>acw A.p A.cp n.pu key y E w1 (by have:=hz.p;omega) (λp hp=>aEA (hz.pk p hp) Aaa) Aaa (GR.At.below h.no.p.at hb) (he.below (h.keep.trans (hb.mono h.keep.size))));unfold jK at HPA
 have Lv:Hid (qO n key a=min a (aD n.pu key).f):=by
  show qO n key a=min a (aD n.pu key).f
  unfold qO;split<;>omega
 have zq:=Hq (fun(y:Int) (h1:1<=y) (h2:y<=(aD n.pu key).f) (h3:y<=1000000000)=>afK hps hkey h1 h2 h3);have jD:=Hq (fun(y:Int) (h1:¬1<=y)=>LY (l:=n.pu) (key:=key) (dm:=0) (df:= -1) (ds:=0) (n:=y) (λhx=>h1 hx.1))
 have HGY:Hid (1<=qO n key a->eU n dst key a=(sJ n dst key (qO n key a),[qh (sJ n dst key (qO n key a)) ⟨n.next,dst,key,qO n key a⟩],true)):=λh1=>by
  unfold eU
  exact aER (aEy ⟨h1,hc1,hc2⟩)
 have HGN:Hid (¬1<=qO n key a->eU n dst key a=(n,[],false)):=λh1=>by
  unfold eU QW
  rw [aEG (by rw [aEw (λhx=>h1 hx.1)];simp)]
 have hq1:((n.out.length:Int) == 40)=false:=Aae
 have hq2:(n.next == 1000000000)=false:=Aae
 have HOL:=Hq hc1;have HZ:=Hq hz;generalize hfr:aD n.pu key=fr at *;obtain⟨fk,fm,ff,fs⟩:=fr;dsimp only at hf Lv zq;have HW:=Hq h;clear h he hok hkey hps hnx hc1 hc2 hfr hz;generalize eU n dst key a=gv at *;obtain⟨c0,c1,c2,c3,c4,c5,c6,c7,c8,c9⟩:=jB HW.blk;go_in
 go_wp2_with fail;refine(JR w (aEK _ _)).mono ?_;rintro e w1 ⟨rfl,hb1⟩;have HB1:=Hq hb1;have HW1:=Hq (HW.step hb1);clear hb1 JR c0 c1 c2 c3 c4 c5 c6 c7 c8 c9;obtain⟨c0,c1,c2,c3,c4,c5,c6,c7,c8,c9⟩:=jB HW1.blk;have aBU:=J8 fk fm ff fs;go_wp2_with fail;clear c0 c1 c2 c3 c4 c5 c6 c7 c8 c9 aBU;have aDL:min a ff<=a:=Aaa
 have aCg:min a ff<=ff:=Aaa
 generalize min a ff=gI at *;have hAM:=ah Lv;rw [hAM] at HGY HGN;clear Lv hAM;refine(HPA gI w1 HB1).mono ?_;rintro e y ⟨pa,pcp,pg,hpg,rfl,hp,hby⟩;have HST:=Hq (Xt (cp:=pcp) HW1 hby hpg hp);have HPD:Hid (sJ n dst key gI=⟨n.id,n.par,n.kids,n.next+1,(cK n.pu key 0 (-1) 0 gI).1,n.out++[⟨n.next,dst,key,gI⟩],n.seen,n.old,n.reqs⟩):=rfl;have Dz:=Hq (zq gI);have XE:=Hq (jD gI);clear hp hby hpg HPA zq jD HW1;generalize cK n.pu key 0 (-1) 0 gI=r at *;go_wp2_with fail;refine HST.mono ?_;rintro e z ⟨rfl,A1,G1,c1,hZ⟩;by_cases h1:1<=gI
 case' neg=>
  have hr:=ah XE Aaa;subst hr;have HZ1:=Hq hZ;have hG:=ah HGN Aaa;have HG:=Hq hG;clear hZ hG HGY HGN HST Dz XE HPD;go_wp2_with fail;go_ret;have hG:=ah HG;subst hG;refine⟨rfl,A1,G1,c1,v,?_⟩;rw [aFF];exact HZ1
 have hr2:=ah Dz h1 aCg Aaa;obtain⟨rl,rb⟩:=r;dsimp only at hr2;subst hr2;have HG:=Hq (HGY h1);have vL:Hid (WK w0 z wb (setPu n rl) A1 G1 c1 v L):=hZ;clear hZ HGY HGN HST Dz XE HB1 HW;have hcl:n.out.length<=40:=by have:=ah HOL;omega
 obtain⟨c0,c1,c2,c3,c4,c5,c6,c7,c8,c9⟩:=jB vL.blk;dsimp only[setPu] at c0 c1 c2 c3 c4 c5 c6 c7 c8 c9;have aD1:=ay vL.blk;go_upto_region 6 with fail;have y3:=aEv c3;clear c0 c1 c2 c3 c4 c5 c6 c7 c8 c9;refine rg 11 Ge 12 ?_;refine tk [0,1,2,3,4,5,6,8] ?_;iterate 8 (refine iy (λK hK=>?_);go_simp;refine hK _ ?_;clear hK K)
 refine jm ?_;clear y3;refine zm 7 10 rfl rfl Aab Aah Aah (λx hx=>?c1) (λx hx=>?c2)
 case' c1=>
  go_simp
  refine(clone key x Aaa).mono ?_
  rintro e y ⟨rfl,hby⟩
  refine⟨hby,?_⟩
  have HY:=Hq (Ge.trans hx hby)
  clear hx hby
  refine tk [9] ?_
  (refine iy (λK hK=>?_);go_simp;refine hK _ ?_;clear hK K)
  refine jm ?_
  refine dB 10 rfl Aab Aah (λx2 hx2=>?_)
  go_simp
  refine⟨au x2 _,?_⟩
  have hgl:z.heap.size<=x2.heap.size:=(Ge.trans HY hx2).size
  have Ie:=Hq (aEu x2 (.cells (gB 0 0 ⟨#[]⟩ 0) 129))
  have vI:=Hq (Ge.trans (Ge.trans HY hx2) (au x2 (.cells (gB 0 0 ⟨#[]⟩ 0) 129)))
  clear hx2 HY
  generalize x2.alloc (.cells (gB 0 0 ⟨#[]⟩ 0) 129)=y2 at *
  generalize x2.heap.size=g at *
  refine aS Aab (λz2 hz2=>?_)
  have kJ:=Hq (aj Ie hz2)
  have eG:=Hq (Ge.trans vI hz2)
  clear hz2 Ie vI
  have DV:=ay kJ
  obtain⟨g0,g1,g2,g3⟩:=iq kJ
  have f0:=aA kJ 0
  have f1:=aA kJ 1
  have f2:=aA kJ 2
  have f3:=aA kJ 3
  refine an 11 ?_
  go_simp
  refine ad ?_
  go_simp
  go_upto_region 7 with fail
  refine wp_at (λW hW=>?_)
  have VO:Hid (W.heap[g]?=some (.cells (gB n.next dst key gI) 129 (0,0))):=Abr
  have gK:Hid (aG z W):=Abs
  clear hW kJ eG DV g0 g1 g2 g3 f0 f1 f2 f3
 case' c2=>
  go_simp
  refine⟨au x _,?_⟩
  have hgl:z.heap.size<=x.heap.size:=hx.size
  have Ie:=Hq (aEu x (.cells (gB 0 0 ⟨#[]⟩ 0) 129))
  have vI:=Hq (Ge.trans hx (au x (.cells (gB 0 0 ⟨#[]⟩ 0) 129)))
  clear hx
  generalize x.alloc (.cells (gB 0 0 ⟨#[]⟩ 0) 129)=y2 at *
  generalize x.heap.size=g at *
  refine dB 7 rfl Aab Aah (λx2 hx2=>?_)
  go_simp
  refine(clone key x2 Aaa).mono ?_
  rintro e y3 ⟨rfl,hby⟩
  refine⟨hby,?_⟩
  have HGC:=Hq (aj Ie (Ge.trans hx2 hby))
  have HBC:=Hq (Ge.trans vI (Ge.trans hx2 hby))
  clear hx2 hby Ie vI
  refine tk [9] ?_
  (refine iy (λK hK=>?_);go_simp;refine hK _ ?_;clear hK K)
  refine jm ?_
  refine aS Aab (λz2 hz2=>?_)
  have kJ:=Hq (aj HGC hz2)
  have eG:=Hq (Ge.trans HBC hz2)
  clear hz2 HGC HBC
  have DV:=ay kJ
  obtain⟨g0,g1,g2,g3⟩:=iq kJ
  have f0:=aA kJ 0
  have f1:=aA kJ 1
  have f2:=aA kJ 2
  have f3:=aA kJ 3
  refine an 11 ?_
  go_simp
  refine ad ?_
  go_simp
  go_upto_region 7 with fail
  refine wp_at (λW hW=>?_)
  have VO:Hid (W.heap[g]?=some (.cells (gB n.next dst key gI) 129 (0,0))):=Abr
  have gK:Hid (aG z W):=Abs
  clear hW kJ eG DV g0 g1 g2 g3 f0 f1 f2 f3
 all_goals
  have hgw:=ay VO
  have HWW:=Hq (vL.step gK)
  have HCG:Hid ((Value.slice A1.o n.out.length A1.co).ownBlock≠some g):=λe=>by have h9:=(vL.no.o.lt g e).2;omega
  clear vL gK
  obtain⟨c0,c1,c2,c3,c4,c5,c6,c7,c8,c9⟩:=jB HWW.blk
  dsimp only[setPu] at c0 c1 c2 c3 c4 c5 c6 c7 c8 c9
  obtain⟨s0,s1,s2,s3⟩:=iq VO
  obtain⟨i0,hi,hz0,hz1,hz2⟩:=aEY MV
  have y5:=aEv c5
  have x0:=aEv s0
  have x1:=aEv s1
  have x2:=aEv s2
  have x3:=aEv s3
  clear c0 c1 c2 c3 c4 c5 c6 c7 c8 c9 s0 s1 s2 s3
  refine l7 Aab ?_
  show wH _ _ _ _ 13 (Array.replicate 13 false) _ _
  refine Dq 0 rfl Aab Aab Aab (λ_ _ _ _ h=>h) (λK hK=>?_)
  go_simp
  first
   |(refine hK _ ?_;clear hK K)
   |(apply Exists.intro
     refine⟨λ_=>rfl,hK _ ?_⟩
     clear hK K)
  refine rD 8 ?_
  refine tk [1,2,3,4,5,6] ?_
  iterate 6 (refine iy (λK hK=>?_);go_simp;refine hK _ ?_;clear hK K)
  refine jm ?_
  clear y5 x0 x1 x2 x3
  refine dB 7 rfl Aab Aah (λq hq=>?_)
  go_simp
  refine⟨au q _,?_⟩
  have JU:=Hq ((HWW.step hq).step (au q (.cells (gB n.next dst key gI) 129)))
  have HGX:=Hq (aj (aj VO hq) (au q (.cells (gB n.next dst key gI) 129)))
  have gu:=Hq (aEu q (.cells (gB n.next dst key gI) 129))
  have hgq:g < q.heap.size:=aEH hgw hq.size
  clear hq HWW VO hgw
  generalize q.alloc (.cells (gB n.next dst key gI) 129)=y4 at *
  refine aS Aab (λz4 Bv=>?_)
  have tX:=Hq (JU.step Bv)
  have HGZ:=Hq (aj HGX Bv)
  have Ir:=Hq (aj gu Bv)
  clear Bv JU gu HGX
  refine an 8 ?_
  refine oF z4 (.tmp 63) (.tmp 65) 49 rfl w0.heap.size 129 i0 (.agg (gB 0 0 ByteArray.empty 0)) 4 40 underlying49 hi hz0 hz1 hz2 rfl Aag (.slice A1.o n.out.length A1.co) n.out.length (GR.flat aN n.out) Aan tX.no.o ⟨q.heap.size,0,none⟩ 1 1 (aN ⟨n.next,dst,key,gI⟩) Aan rfl (aFj Ir) (yF _) Aai Aaa tX.keep.size ?_
  intro v6 w6 hown6 qP Qb
  obtain⟨a6,c6,hv6,_⟩:=GR.own_at (enc:=aN) (sz:=4) (l:=n.out++[⟨n.next,dst,key,gI⟩]) aX (by rw [aEC,iX];exact hown6)
  rw [aEC] at hv6
  have hv7:v6= .slice a6 (n.out.length+1) c6:=hv6
  subst hv7
  clear hv6
  obtain⟨hb6,Yt,hS6⟩:=tX.outApp ⟨n.next,dst,key,gI⟩ hown6 qP Qb
  have HS6:=Hq hS6
  obtain⟨k0,k1,k2,k3,k4,k5,k6,k7,k8,k9⟩:=jB hb6
  have kf:=aA hb6 5
  have HG6:Hid (w6.heap[g]?=some (.cells (gB n.next dst key gI) 129 (0,0))):=qP.block g (ay HGZ) (λe=>HCG e.symm) |>.trans HGZ
  clear hown6 qP Qb hb6 hS6 Yt tX Ir HGZ
  refine an 9 ?_
  go_simp
  refine an 10 ?_
  go_simp
  refine an 11 ?_
  go_simp
  refine an 12 ?_
  go_simp
  refine ad ?_
  go_simp
  have hgb:g≠wb:=Aaa
  go_upto_region 8 with fail
  refine wp_at (λV8 hV=>?_)
  obtain⟨A8,G8,ae6,HS8⟩:∃A8 G8 ae6,Hid (WK w0 V8 wb (setOut (setPu n rl) (n.out++[⟨n.next,dst,key,gI⟩])) A8 G8 ae6 v L):=⟨_,_,_,by rw [hV];exact HS6⟩
  have HG8:Hid (V8.heap[g]?=some (.cells (gB n.next dst key gI) 129 (0,0))):=by rw [hV];exact iW HG6 hgb
  clear hV HS6 HG6 kf k0 k1 k2 k3 k4 k5 k6 k7 k8 k9
  obtain⟨c0,c1,c2,c3,c4,c5,c6,c7,c8,c9⟩:=jB HS8.blk
  dsimp only[setPu,setOut] at c0 c1 c2 c3 c4 c5 c6 c7 c8 c9
  have kf3:=aA HS8.blk 3
  go_upto_region 9 with fail
  refine wp_at (λV9 hV=>?_)
  have HS9:Hid (WK w0 V9 wb (sJ n dst key gI) A8 G8 ae6 v L):=by rw [hV,ah HPD];exact HS8.next (n.next+1)
  have HG9:Hid (V9.heap[g]?=some (.cells (gB n.next dst key gI) 129 (0,0))):=by rw [hV];exact iW HG8 hgb
  have hl9:(sJ n dst key gI).out.length<=1048600:=by rw [ah HPD];simp;omega
  clear hV HS8 HG8 kf3 HPD c0 c1 c2 c3 c4 c5 c6 c7 c8 c9
  generalize sJ n dst key gI=n9 at *
  have IB:=Hq (λp:Regrown=>Kk n9 A8 ⟨n.next,dst,key,gI⟩ (Gr V9 p) hl9 (GR.At.below HS9.no.at.o (aEV V9 p.d p.os)))
  have HSY:=Hq (λx (hx:Ge V9 x)=>XA w0 x wb n9 A8 G8 ae6 v L (qh n9 ⟨n.next,dst,key,gI⟩) (by show key.size<=1048600;omega) Aaa (HS9.step hx))
  generalize qh n9 ⟨n.next,dst,key,gI⟩=pm at *
  obtain⟨qK,qF,qT,qI,qL,qk,qN⟩:=pm
  obtain⟨c0,c1,c2,c3,c4,c5,c6,c7,c8,c9⟩:=jB HS9.blk
  obtain⟨s0,s1,s2,s3⟩:=iq HG9
  have y0:=aEv c0
  have y1:=aEv c1
  have y2:=aEv c2
  have y3:=aEv c3
  have y4:=aEv c4
  have y5:=aEv c5
  have y6:=aEv c6
  have y7:=aEv c7
  have y8:=aEv c8
  have x0:=aEv s0
  have x1:=aEv s1
  have x2:=aEv s2
  have x3:=aEv s3
  have hg9:=ay HG9
  have hw9:=ay HS9.blk
  clear c0 c1 c2 c3 c4 c5 c6 c7 c8 c9 s0 s1 s2 s3
  refine rg 7 Ge 8 ?_
  refine tk [0,1,2,3,4,5,6] ?_
  iterate 6 (refine iy (λK hK=>?_);go_simp;refine hK _ ?_;clear hK K)
  (refine iy (λK hK=>?_);go_simp;(first|refine hK _ ?_|(apply Exists.intro;refine⟨λ_=>?_,hK _ ?_⟩;(exact IB _)));clear hK K)
  refine jm ?_
  clear y0 y1 y2 y3 y4 y5 y6 y7 y8 x0 x1 x2 x3
  refine aS Aab (λx hx=>?_)
  have JU:=Hq (HSY x hx)
  clear hx
  refine an 7 ?_
  go_simp
  refine JU.mono ?_
  rintro e y9 ⟨rfl,c',v',hY⟩
  have HY:=Hq hY
  clear hY JU
  refine ad ?_
  go_simp
  go_wp2_with fail
  go_ret
  have hG:=ah HG
  subst hG
  exact⟨rfl,A8,G8,c',v',HY⟩
theorem ajx (dst:Int) (key:ByteArray) (a:Int) (E:Nat->Addr) (hok:dQ n=true) (hkey:keyOk key.data.toList=true) (ha1:1<=a) (ha2:a<=1000000000) (hL:L.length<=2097100) (h:WK w0 w wb n A G c v L) (he:gX w0 E):
 Calls prog 226 #[.pointer (some ⟨wb,0,none⟩),.int .i64 dst,.string key,.int .i64 a] w λe w'=>e= .returned (.bool (eU n dst key a).2.2)/\∃A' G' c' v',WK w0 w' wb (eU n dst key a).1 A' G' c' v' (L++(eU n dst key a).2.1):=by
 obtain⟨_,_,_,hnx,ho,_⟩:=bq hok;have hnx1:1<=n.next/\n.next<=1000000000:=by simpa [fC] using hnx
 have hol:=(sG ho).2.1
 have hgn:(n.out.length=40\/n.next=1000000000)->eU n dst key a=(n,[],false):=λhx=>by
  unfold eU QW
  rw [aEG (by rw [aEw (λhy=>Aaa)];simp)]
 by_cases h40:n.out.length=40
 .rw [hgn (.inl h40)];refine(Vz w0 w wb n A G c v L dst key a h40 h).mono ?_;exact ajb
 .by_cases hl:n.next=1000000000
  .rw [hgn (.inr hl)];refine(VB w0 w wb n A G c v L dst key a Aaa hl h).mono ?_;exact ajb
  .exact VE w0 w wb n A G c v L dst key a E hok hkey ha1 ha2 hL Aaa Aaa h he
theorem ac4 (n:Nd) (A:bg) (x:Int) (w:World) (hp:dX n=true) (hl:n.kids.length<=1048600) (ha:bX w A n):
 Calls prog 194 #[gP n A,.int .i64 x] w (dK w (.bool (dU n x))):=by
 have h:=Qi n A x w hl ha.k;rw [near_same hp] at h;exact h
def EZ (n:Nd) (o:gD):Nd×List Mg×Int:=if n.par= -1 then(n,[],1) else((eU n n.par o.k o.n).1,(eU n n.par o.k o.n).2.1,if (eU n n.par o.k o.n).2.2=true then 0 else 1)
theorem alR (o:gD) (E:Nat->Addr) (hok:dQ n=true) (hkey:keyOk o.k.data.toList=true) (ha1:1<=o.n) (ha2:o.n<=1000000000) (hL:L.length<=2097100) (h:WK w0 w wb n A G c v L) (he:gX w0 E):
 Calls prog 208 #[.pointer (some ⟨wb,0,none⟩),jF o] w λe w'=>e= .returned (.int .i64 (EZ n o).2.2)/\∃A' G' c' v',WK w0 w' wb (EZ n o).1 A' G' c' v' (L++(EZ n o).2.1):=by
 have IB:=Hq (λW c v (hW:WK w0 W wb n A G c v L)=>ajx w0 W wb n A G c v L n.par o.k o.n E hok hkey ha1 ha2 hL hW he);have hwl:=ay h.blk;have hne:wb≠w.heap.size:=Aaa
 clear hok hkey ha1 ha2 he;by_cases hpar:n.par= -1
 .have hR:EZ n o=(n,[],1):=aER hpar;rw [hR];open atF in exact aaP
 .have hR:EZ n o=((eU n n.par o.k o.n).1,(eU n n.par o.k o.n).2.1,if (eU n n.par o.k o.n).2.2=true then 0 else 1):=aEG hpar;rw [hR];obtain⟨K,no,k,nn,⟨mK,mF,mT,mI,mL,mk,mN⟩⟩:=o;dsimp only at IB ⊢;open aoG in exact XT
theorem adX (m:Mg) (hp:dX n=true) (hz:n.kids.length<=1048600) (h:WK w0 w wb n A G c v L):
 Calls prog 203 #[.pointer (some ⟨wb,0,none⟩),nT m] w (dK w (.bool (decide (m.T=n.id)&&dU n m.F))):=by
 obtain⟨mK,mF,mT,mI,mL,mk,mN⟩:=m;have Tk:=Hq (λw1 (ha:bX w1 A n)=>ac4 n A mF w1 hp hz ha);dsimp only;generalize dU n mF=nb at *;open atx in exact aaO
theorem al1 (o:gD) (hz:eH n 1048576) (hL:L.length<=1048000) (h:WK w0 w wb n A G c v L):
 Calls prog 209 #[.pointer (some ⟨wb,0,none⟩),jF o] w λe w'=>e= .returned (.int .i64 0)/\∃c' v',WK w0 w' wb n A G c' v' (L++n.out.map (qh n)):=by
 have IB:=Hq (λs W (ha:SentAt W A.o n.out)=>Kk n A s W (by have:=hz.o;omega) ha);have HSY:=Hq (λW c v (k:Nat) (hk:k<=n.out.length) m (hm:m.k.size<=1048600) (hW:WK w0 W wb n A G c v (L++(n.out.take k).map (qh n)))=>XA w0 W wb n A G c v _ m hm (by have:=hz.o;rw [aEC,aFo,aEX];omega) hW);have HKK:Hid (∀s∈n.out,(qh n s).k.size<=1048600):=λs hs=>aEA (hz.ok s hs) Aaa
 have hlo:=hz.o;open atE in exact aaP
abbrev rqv (q:Rq):Value:= .agg (gJ q.no q.k q.n q.s)
theorem aky (q:Rq) (no:Int) (w:World) (h0:0<=q.no) (h1:q.no<=1000000000) (h2:0<=no) (h3:no<=1000000000):
 Calls prog 246 #[rqv q,.int .i64 no] w (dK w (.int .i64 (q.no - no))):=by
 obtain⟨qno,qk,qn,qs⟩:=q;dsimp only at h0 h1;go_in
 go_wp2_with fail;go_ret;exact⟨rfl,au w _⟩
theorem axM (a:Option Addr) (cap:Nat) (l:List Rq) (no:Int) (w:World) (hl:l.length<=1000) (ha:fJ w a l) (hp:l.Pairwise (λs t=>s.no < t.no)) (hb:∀q∈l,0<=q.no/\q.no<=1000000000) (h0:0<=no) (h1:no<=1000000000):
 Calls prog 245 #[.slice a l.length cap,.int .i64 no,.func (.func 246) #[] #[]] w (dK w (.tuple #[.int .i64 (dV l no:Nat),.bool (nW l no)])):=by
 have HC:=Hq (λq w1 (hq:q∈l)=>aky q no w1 (hb q hq).1 (hb q hq).2 h0 h1);have HLO:=Hq (zi l no);have HHI:=Hq (zh (no:=no) hp);have HLE:=Hq (wU l no);have HF:=Hq (nX l no);have HA:=Hq ha;clear ha hp hb;generalize nW l no=RF at *;generalize dV l no=R at *;go_in
 go_wp2_with fail;go_loopw [9,10] (λi j wr=>∃p q:Nat,p<=R/\R<=q/\q<=l.length/\i= .int .i64 p/\j= .int .i64 q/\aG w wr) (λi j _=>(intOf j).toNat - (intOf i).toNat)
 case atStart=>exact⟨0,l.length,aEN _,HLE,aEx _,rfl,rfl,aEK _ _⟩
 case round=>
  obtain⟨p,q,h2,h3,h4,rfl,rfl,hbw⟩:=hrel;have HB:=Hq hbw;clear hbw;by_cases hlt:p < q
  .have P7:(p:Int) < (q:Int):=Aaa
   go_upto_region 5 with fail;obtain⟨m,hm⟩:∃m:Nat,((p:Int)+q) / 2=m:=⟨(p+q) / 2,Aaa⟩;have hmp:p<=m:=Aaa
   have hmq:m < q:=Aaa
   rw [hm];clear hm P7;have hml:m < l.length:=Aaa
   obtain⟨g,off,e0,hg,q0,q1,q2,q3⟩:=fJ.four (GR.At.below HA HB) m hml;have HCM:=Hq (λw1=>HC l[m] w1 (aEL hml));have HLM:=Hq (HLO m hml);have HHM:=Hq (HHI m hml);subst e0;generalize l[m]=lm at *;obtain⟨ln,lk,lx,ls⟩:=lm;dsimp only at q0 q1 q2 q3 HCM HLM HHM;open avQ in exact ahB
  .have hpq:p=R:=Aaa
   subst hpq;have hnlt:¬((p:Int) < (q:Int)):=Aaa
   by_cases hpl:p < l.length
   .have aCq:(p:Int) < (l.length:Int):=Aaa
    obtain⟨g,off,e0,hg,q0,q1,q2,q3⟩:=fJ.four (GR.At.below HA HB) p hpl;have HCM:=Hq (λw1=>HC l[p] w1 (aEL hpl))
    have HFP:Hid (RF=decide (l[p].no=no)):=by
     show RF=_
     rw [aFI,ah HF,aE3];exact⟨fun⟨_,h⟩=>h,λh=>⟨hpl,h⟩⟩
    subst e0;clear HF HC HLO HHI;generalize l[p]=lm at *;obtain⟨ln,lk,lx,ls⟩:=lm;dsimp only at q0 q1 q2 q3 HCM HFP;open avP in exact ahB
   .have aCq:¬((p:Int) < (l.length:Int)):=Aaa
    have HFP:Hid (RF=false):=by
     show RF=_
     rw [aGp];intro h;exact hpl (HF.1 h).1
    clear HF HC HLO HHI;go_wp2_with fail;go_ret2
    exact⟨by rw [ah HFP];rfl,HB⟩
theorem Oi (no:Int) (hok:gQ n=true) (h0:0<=no) (h1:no<=1000000000) (h:WK w0 w wb n A G c v L):
 Calls prog 221 #[.pointer (some ⟨wb,0,none⟩),.int .i64 no] w (dK w (.tuple #[.int .i64 (dV n.reqs no:Nat),.bool (nW n.reqs no)])):=by
 obtain⟨r1,r2,r3,r4,r5⟩:=iL hok;have HBS:=Hq (λw1 (ha:fJ w1 A.r n.reqs)=>axM A.r A.cr n.reqs no w1 Aaa ha r1 (λq hq=>by have:=jS (r3 q hq);omega) h0 h1);have HA:=Hq h.no.at.r;obtain⟨c0,c1,c2,c3,c4,c5,c6,c7,c8,c9⟩:=jB h.blk;clear h r1 r3 hok;generalize nW n.reqs no=RF at *;generalize dV n.reqs no=R at *;go_in
 go_wp2_with fail;refine(HBS w HA).mono ?_;rintro e w1 ⟨rfl,hb1⟩;have HB:=Hq hb1;clear hb1;go_wp2_with fail;go_ret2
 exact⟨rfl,HB⟩
theorem nJ {P:Program} (w:World) (dT sT ty elem:TypeId) (sz:Nat) (g o dLen dCap:Nat) (a:Addr) (sLen sCap:Nat) (cur:Array Value) (t:TypeId) (cs:List Value)
 (hu:P.underlying dT=some (.slice elem)) (hs:(P.info? elem).map (·.size)=some sz)
 (hg:w.heap[g]?=some (.cells cur t (0,0))) (hn:cs.length=Nat.min sLen dLen*sz)
 (hsrc:∀j v,cs[j]?=some v->w.cell? (a.add j)=some v) (hfit:o+cs.length<=cur.size) (h1:∀v∈cs,v.oneCell'=true):
 (Builtin.copy_ #[dT,sT] ty #[.slice (some ⟨g,o,none⟩) dLen dCap,.slice (some a) sLen sCap]).run P w=
  .ok (goInt (Nat.min sLen dLen)) (w.setRow g (cur.toList.take o++cs++cur.toList.drop (o+cs.length)).toArray):=by
 have hl:=run_loadCells_list (P:=P) w a cs hsrc;have hst:=run_storeCells_at P g o t cs 0 cur w hg (by simpa using hfit) h1;cases hq:P.info? elem with
 |none=>simp[hq] at hs
 |some i=>
  have hi:i.size=sz:=by simpa [hq] using hs
  rw [hn] at hl;simp[Builtin.copy_,run_underlying hu,Builtin.lenOf,Builtin.firstCells,sizeOf,typeInfo,hq,hi,hl,hst]
theorem Uy:(prog.info? 133).map (λi=>(i.zero,i.size,i.bytes))=some (some (.agg (gJ 0 ByteArray.empty 0 0)),4,40):=Aab
theorem Nz:(prog.info? 133).map (·.size)=some 4:=Aab
def Lr (w:World) (B:Nat) (v:Value) (l:List Rq) (e:Ending) (w':World):Prop:=
 ∃a cp,e= .returned (.slice a l.length cp)/\w'.ownsRow B 133 4 (.slice a l.length cp) l.length (GR.flat aM l)/\w.grownBy w' v.ownBlock/\∀x,(Value.slice a l.length cp).ownBlock=some x->v.ownBlock=some x\/w.heap.size<=x
theorem Uz (B:Nat) (a:Option Addr) (cap:Nat) (l:List Rq) (q:Rq) (vb:Nat) (w:World) (hl:l.length<=1000) (hB:B<=w.heap.size) (ho:w.ownsRow B 133 4 (.slice a l.length cap) l.length (GR.flat aM l)) (hv:w.heap[vb]?=some (.cells (gJ q.no q.k q.n q.s) 133 (0,0))):
 Calls prog 247 #[.slice a l.length cap,.int .i64 l.length,.slice (some ⟨vb,0,none⟩) 1 1] w (Lr w B (.slice a l.length cap) (l++[q])):=by
 obtain⟨i0,hi,hz0,hz1,hz2⟩:=aEY Uy;obtain⟨v',w',hr,h2,h3,h4⟩:=kC w B 51 51 133 i0 _ 4 40 underlying51 hi hz0 hz1 hz2 rfl Aag (.slice a l.length cap) l.length (GR.flat aM l) ho ⟨vb,0,none⟩ 1 1 (aM q) rfl (aFj hv) (wK q) Aai Aaa hB;obtain⟨a2,c2,he,_⟩:=GR.own_at (enc:=aM) (sz:=4) (l:=l++[q]) bQ (by rw [aEC,iX];exact h2);rw [aEC] at he;have he2:v'= .slice a2 (l.length+1) c2:=he;subst he2
 have hle:l.length<=cap\/(a=none/\l.length=0/\cap=0):=by
  rcases ho.2 with⟨hx,hy⟩|⟨g,cp,cur,hx,_,_,hc,_⟩
  .simp only[aFz] at hx;exact .inr ⟨hx.1,hy,hx.2.2⟩
  .simp only[aFz] at hx;exact .inl Aaa
 have hcap:l.length<=cap:=by rcases hle with h|h<;>omega
 have hcm:cap<=9223372036854775807:=by
  rcases ho.2 with⟨hx,hy⟩|⟨g,cp,cur,hx,_,_,_,hc,_⟩
  .simp only[aFz] at hx;omega
  .simp only[aFz] at hx;unfold maxLen at hc;omega
 have H:=Hq (show Lr w B (.slice a l.length cap) (l++[q]) (.returned (.slice a2 (l.length+1) c2)) w' from⟨a2,c2,by rw [aEC];rfl,by rw [aEC,iX];exact h2,h3,by rw [aEC];exact h4⟩);have hq:((l.length:Int) == (l.length:Int))=true:=Aac
 clear h2 h3 h4 ho hv hi hz0 hz1 hz2 hle he;cases a with
 |none=>
  go_in
  go_wp2_with (at_builtin;refine Lib.wpList_append_run _ rfl _ _ _ _ rfl _ _ rfl rfl _ _ hr ?_)
  go_ret;exact H
 |some ad=>
  go_in
  go_wp2_with (at_builtin;refine Lib.wpList_append_run _ rfl _ _ _ _ rfl _ _ rfl rfl _ _ hr ?_)
  all_goals
   try go_wp2_with (at_builtin;refine Lib.wpList_append_run _ rfl _ _ _ _ rfl _ _ rfl rfl _ _ hr ?_)
   go_ret
   exact H
theorem gN (l:List Rq):(GR.flat aM l).length=l.length*4:=GR.flat_length aM 4 bQ l
theorem rW (l:List Rq) (i:Nat) (hi:i<=l.length):(GR.flat aM l).take (i*4)=GR.flat aM (l.take i)/\(GR.flat aM l).drop (i*4)=GR.flat aM (l.drop i):=by
 have e:GR.flat aM l=GR.flat aM (l.take i)++GR.flat aM (l.drop i):=by rw [<-GR.flat_append,aFm]
 have hlen:(GR.flat aM (l.take i)).length=i*4:=by rw [gN,aEX,aFH hi]
 rw [e,<-hlen,aGh,List.drop_left];exact⟨rfl,rfl⟩
def tu (cur:List Value) (l:List Rq) (i:Nat):List Value:=cur.take ((i+1)*4)++GR.flat aM (l.drop i)++cur.drop ((i+1)*4+(l.length - i)*4)
def Nu (cur:List Value) (l:List Rq) (i:Nat) (q:Rq):List Value:=(tu cur l i).take (i*4)++aM q++(tu cur l i).drop (i*4+4)
theorem Rh (cur:List Value) (l:List Rq) (i:Nat) (hi:i < l.length) (hc:(l.length+1)*4<=cur.length):(tu cur l i).length=cur.length:=by
 unfold tu;exact aiQ
theorem ads (cur:List Value) (l:List Rq) (i:Nat) (q:Rq) (hi:i < l.length) (hc:(l.length+1)*4<=cur.length):(Nu cur l i q).length=cur.length:=by
 have h1:=Rh cur l i hi hc;unfold Nu;exact aiX
theorem Zi (cur:List Value) (l:List Rq) (i:Nat) (q:Rq) (hi:i < l.length) (hc:(l.length+1)*4<=cur.length) (ht:cur.take (l.length*4)=GR.flat aM l):(Nu cur l i q).take ((l.length+1)*4)=GR.flat aM (l.take i++q::l.drop i):=by
 have e1:(tu cur l i).take (i*4)=GR.flat aM (l.take i):=by
  unfold tu;rw [aFa,List.take_append_of_le_length Abi,aGg,aFH Aaa,<-(rW l i Aaa).1,<-ht,aGg,aFH Aaa]
 have hl1:(cur.take ((i+1)*4)).length=i*4+4:=Abi
 have e2:(tu cur l i).drop (i*4+4)=GR.flat aM (l.drop i)++cur.drop ((i+1)*4+(l.length - i)*4):=by
  unfold tu;rw [aFa,<-hl1,List.drop_left]
 have hd:(GR.flat aM (l.drop i)).length=(l.length - i)*4:=Abu
 have ht2:(GR.flat aM (l.take i)).length=i*4:=by rw [gN,aEX,aFH Aaa]
 unfold Nu;rw [e1,e2,GR.flat_append,GR.flat_cons,<-aFa];rw [show(l.length+1)*4=(GR.flat aM (l.take i)++aM q++GR.flat aM (l.drop i)).length by rw [aEC,aEC,hd,ht2];show _=_+4+_;omega,aGh];rw [aFa]
theorem MX (g cap i:Nat) (l:List Rq) (q:Rq) (vb:Nat) (w:World) (cur:Array Value) (hl:l.length<=1000) (hi:i < l.length) (hroom:l.length+1<=cap) (hcm:cap<=maxLen) (hvb:vb≠g) (hblk:w.heap[g]?=some (.cells cur 133 (0,0))) (hcs:cur.size=cap*4) (htake:cur.toList.take (l.length*4)=GR.flat aM l) (hv:w.heap[vb]?=some (.cells (gJ q.no q.k q.n q.s) 133 (0,0))):
 Calls prog 247 #[.slice (some ⟨g,0,none⟩) l.length cap,.int .i64 i,.slice (some ⟨vb,0,none⟩) 1 1] w λe w'=>
  e= .returned (.slice (some ⟨g,0,none⟩) (l.length+1) cap)/\w'.heap[g]?=some (.cells (Nu cur.toList l i q).toArray 133 (0,0))/\w.grownBy w' (some g):=by
 have hcl:(l.length+1)*4<=cur.toList.length:=Acm
 have hdl:(GR.flat aM (l.drop i)).length=(l.length - i)*4:=Abu
 have hcp1:∀ty dl sl dc sc,dl=l.length - i->sl=l.length+1 - i->(Builtin.copy_ #[51,51] ty #[.slice (some ⟨g,(i+1)*4,none⟩) dl dc,.slice (some ⟨g,i*4,none⟩) sl sc]).run prog w.drew= .ok (goInt ((l.length - i:Nat):Int)) (w.drew.setRow g (tu cur.toList l i).toArray):=λty dl sl dc sc e1 e2=>by
  subst e1 e2
  have h:=nJ (P:=prog) w.drew 51 51 ty 133 4 g ((i+1)*4) (l.length - i) dc ⟨g,i*4,none⟩ (l.length+1 - i) sc cur 133 (GR.flat aM (l.drop i)) underlying51 Nz hblk (by rw [hdl];simp only[Nat.min_def];split<;>omega)
   (λj v hj=>by
    rw [aGo]
    have h1:(GR.flat aM l)[i*4+j]?=some v:=by rw [<-List.getElem?_drop,(rW l i Aaa).2];exact hj
    rw [<-htake,List.getElem?_take] at h1
    split at h1
    .have h2:w.drew.cell? ⟨g,i*4+j,none⟩=cur[i*4+j]?:=aEz w.drew g (i*4+j) cur 133 (0,0) hblk;rw [h2,<-Array.getElem?_toList];exact h1
    .cases h1)
   (by rw [hdl,hcs];omega) (λv hv=>mV _ v hv)
  rw [hdl,show Nat.min (l.length+1 - i) (l.length - i)=l.length - i by simp only[Nat.min_def];split<;>omega] at h
  exact h
 have hr1:=Rh cur.toList l i hi hcl;have ab4:cur.toList.length=cap*4:=Acx
 have akQ:(w.drew.setRow g (tu cur.toList l i).toArray).heap[g]?=some (.cells (tu cur.toList l i).toArray 133 (0,0)):=setRow_heap w.drew g cur _ 133 _ hblk
 have hvr:∀j v,(aM q)[j]?=some v->(w.drew.setRow g (tu cur.toList l i).toArray).cell? ⟨vb,0+j,none⟩=some v:=λj v hj=>by
  have h1:(w.drew.setRow g (tu cur.toList l i).toArray).heap[vb]?=w.heap[vb]?:=setRow_other w.drew g vb _ hvb
  rw [aE6 (w:=w) (a:=⟨vb,0+j,none⟩) h1,<-aGo]
  exact aFj hv j v hj
 have hcp2:∀ty dl dc,dl=l.length+1 - i->(Builtin.copy_ #[51,51] ty #[.slice (some ⟨g,i*4,none⟩) dl dc,.slice (some ⟨vb,0,none⟩) 1 1]).run prog (w.drew.setRow g (tu cur.toList l i).toArray)= .ok (goInt 1) ((w.drew.setRow g (tu cur.toList l i).toArray).setRow g (Nu cur.toList l i q).toArray):=λty dl dc e1=>by
  subst e1
  have h:=nJ (P:=prog) (w.drew.setRow g (tu cur.toList l i).toArray) 51 51 ty 133 4 g (i*4) (l.length+1 - i) dc ⟨vb,0,none⟩ 1 1 (tu cur.toList l i).toArray 133 (aM q) underlying51 Nz akQ (by show 4=_;simp only[Nat.min_def];split<;>omega)
   (λj v hj=>by rw [aGo];exact hvr j v hj)
   (by show i*4+4<=_;rw [aFs,hr1,ab4];omega) (wK q)
  rw [show Nat.min 1 (l.length+1 - i)=1 by simp only[Nat.min_def];split<;>omega] at h
  exact h
 have hfin:=Hq (show((w.drew.setRow g (tu cur.toList l i).toArray).setRow g (Nu cur.toList l i q).toArray).heap[g]?=some (.cells (Nu cur.toList l i q).toArray 133 (0,0))/\w.grownBy ((w.drew.setRow g (tu cur.toList l i).toArray).setRow g (Nu cur.toList l i q).toArray) (some g) from
  ⟨setRow_heap _ g (tu cur.toList l i).toArray _ 133 _ akQ,⟨rfl,rfl,rfl,Aac,λk _ hk=>(setRow_other _ g k _ (λe=>hk Aao)).trans (setRow_other w.drew g k _ (λe=>hk Aao))⟩⟩)
 have hov:∀lb cb,(callFunc 280 #[.slice (some ⟨vb,0,none⟩) 1 1,.slice (some ⟨g,(i+1)*4,none⟩) lb cb]).run prog w= .ok (.value (.bool false)) w:=λlb cb=>by
  rw [aFl func280 Aab Aab Aab (e:=Extern.SlicesOverlaps.overlaps #[51,51] #[4]) Aab,
   Lib.run_overlaps_apart w 51 4 133 underlying51 4 (λw=>Aab) ⟨vb,0,none⟩ ⟨g,(i+1)*4,none⟩ 1 1 lb cb hvb 133 133 4 cur.size (by unfold World.shape?;rw [hv];rfl) (by unfold World.shape?;rw [hblk]) Aaa (aA hv 0) (aA hv 4)]
  rfl
 open as4 in exact agV
end Go.Proofs.YtfachhcijcjbpaaGreatDoor
