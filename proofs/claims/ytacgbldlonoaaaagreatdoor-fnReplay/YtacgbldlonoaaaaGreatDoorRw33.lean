/- Parts. -/
import Derived.Test.YtacgbldlonoaaaaGreatDoorRw28
import Derived.Test.YtacgbldlonoaaaaGreatDoorRw31
namespace Go.Proofs.YtacgbldlonoaaaaGreatDoor
open Go.Proofs.Tryz
set_option maxHeartbeats 8000000
set_option maxRecDepth 100000
open Go.RowKit
open Mth
variable (w0 w:World) (wb:Nat) (n:Nd) (A:bC) (G:bJ) (c:Nat->Nat) (v:Value) (L:List Mg) {g:Nat}
theorem qp {w:World} {a0 a1 a2 a3 b0 b1 b2 b3:Value} {t:TypeId} (h:w.heap[g]?=some (.cells #[a0,a1,a2,a3] t (0,0))):((((w.setCell ⟨g,0,none⟩ b0).setCell ⟨g,1,none⟩ b1).setCell ⟨g,2,none⟩ b2).setCell ⟨g,3,none⟩ b3).heap[g]?=some (.cells #[b0,b1,b2,b3] t (0,0)):=
 GR.setW_blk [b0,b1,b2,b3] (o:=0) (xs:=[a0,a1,a2,a3]) h
theorem je {a w:World} {B:Nat} {b0 b1 b2 b3:Value} (h:Below B a w) (hg:B<=g):Below B a ((((w.setCell ⟨g,0,none⟩ b0).setCell ⟨g,1,none⟩ b1).setCell ⟨g,2,none⟩ b2).setCell ⟨g,3,none⟩ b3):=
 GR.setW_below hg [b0,b1,b2,b3] (o:=0) h
theorem WK.outApp {w0 w w6:World} {wb:Nat} {n:Nd} {A:bC} {G:bJ} {c:Nat->Nat} {v:Value} {L:List Mg} {a6:Option Addr} {c6:Nat} (h:WK w0 w wb n A G c v L) (s:lJ) (hown:w6.ownsRow w0.heap.size 95 4 (.slice a6 (n.out.length+1) c6) (n.out.length+1) (GR.flat aW n.out++aW s)) (hg:w.grownBy w6 (Value.slice A.o n.out.length A.co).ownBlock) (hv:∀x,(Value.slice a6 (n.out.length+1) c6).ownBlock=some x->(Value.slice A.o n.out.length A.co).ownBlock=some x\/w.heap.size<=x):
 w6.heap[wb]?=some (.cells (RI n A v) 74 (0,0))/\KC (newC w.heap.size 3 c) 3 w w6/\WK w0 (w6.setCell ⟨wb,5,none⟩ (.slice a6 (n.out.length+1) c6)) wb (setOut n (n.out++[s])) ⟨A.k,A.p,a6,A.s,A.r,A.ck,A.cp,c6,A.cs,A.cr⟩ G (newC w.heap.size 3 c) v L:=by
 have h1:=h.recol (c':=newC w.heap.size 3 c) (λx hx=>eT hx);have hk1:KC (newC w.heap.size 3 c) 3 w w6:=KC.grown hg h1.no.co;have hblk:=hk1.obj h1.blk (by rw [h1.cw];omega);have hkeep:=hk1.below h1.keep h1.no.lo Aaa h1.keep.size;have hk2:KC (newC w.heap.size 3 c) 8 w6 (w6.setCell ⟨wb,5,none⟩ (.slice a6 (n.out.length+1) c6)):=KC.set h1.cw
 have hco:∀x,(Value.slice a6 (n.out.length+1) c6).ownBlock=some x->newC w.heap.size 3 c x=3:=λx hx=>by
  rcases hv x hx with hx'|hx'
  .exact h1.no.co x hx'
  .exact aZ hx'
 have hlen:(n.out++[s]).length=n.out.length+1:=Aac
 have hno:=h1.no;refine⟨hblk,hk1,hk2.below hkeep hno.lo Aaa hkeep.size,?_,⟨?_,?_,?_,?_,?_,hno.lo,hno.ck,hno.cp,?_,hno.c4,hno.ci,hno.cr,hno.ni⟩,?_,h1.cm,h1.cw⟩
 .have:=aT hblk 5 (.slice a6 (n.out.length+1) c6);rw [this];show some (Obj.cells (RI n A v |>.setIfInBounds 5 _) _ _)=some (Obj.cells #[_,_,_,_,_,.slice a6 (n.out++[s]).length c6,_,_,_,_] _ _)
  rw [hlen];rfl
 .exact hk2.w (hk1.w hno.k hno.ck Aaa) hno.ck Aaa
 .exact hk2.w (hk1.w hno.p hno.cp Aaa) hno.cp Aaa
 .show(w6.setCell _ _).ownsRow _ _ _ (.slice a6 (n.out++[s]).length c6) (n.out++[s]).length (GR.flat aW (n.out++[s]))
  rw [hlen,jd];exact hk2.own hown hco Aaa
 .exact ahB
 .exact hk2.own (hk1.own hno.r hno.cr Aaa) hno.cr Aaa
 .show∀x,(Value.slice a6 (n.out++[s]).length c6).ownBlock=some x->_
  rw [hlen];exact hco
 .exact hk2.own (hk1.own h1.m h1.cm Aaa) h1.cm Aaa
theorem WK.next {w0 w:World} {wb:Nat} {n:Nd} {A:bC} {G:bJ} {c:Nat->Nat} {v:Value} {L:List Mg} (h:WK w0 w wb n A G c v L) (y:Int):WK w0 (w.setCell ⟨wb,3,none⟩ (.int .i64 y)) wb (aeK n y) A G c v L:=by
 have hk2:KC c 8 w (w.setCell ⟨wb,3,none⟩ (.int .i64 y)):=KC.set h.cw;have hno:=h.no.kc hk2 Aaa;exact⟨hk2.below h.keep h.no.lo Aaa h.keep.size,aT h.blk 3 (.int .i64 y),⟨hno.k,hno.p,hno.o,hno.s,hno.r,hno.lo,hno.ck,hno.cp,hno.co,hno.c4,hno.ci,hno.cr,hno.ni⟩,hk2.own h.m h.cm Aaa,h.cm,h.cw⟩
theorem zO {s:ByteArray} (hs:keyOk s.data.toList=true):s.size<=10:=by
 exact aay
theorem acp {n:Nd} (h:dY n=true):eY n 1000:=by
 obtain⟨h1,h2,h3,h4,h5,h6⟩:=cZ h;obtain⟨p1,p2,p3⟩:=(kJ n.pu).1 h2;obtain⟨o1,o2,o3⟩:=tq h5;obtain⟨r1,r2,r3,_,_⟩:=jl h6
 have hk:n.kids.length<=30:=by
  unfold dH at h1;simp only[Bool.and_eq_true,decide_eq_true_eq] at h1;exact h1.1.2
 unfold pJ at h3;simp only[Bool.and_eq_true,decide_eq_true_eq] at h3
 have hs:n.seen.length<=31:=by
  have:=h3.1;split at this<;>omega
 refine⟨Aaa,Aaa,Aaa,Aaa,Aaa,λx hx=>?_,λx hx=>?_,λx hx=>?_,λx hx=>?_⟩
 .have:=p1 x hx;unfold gX at this;simp only[Bool.and_eq_true] at this;exact Nat.le_trans (zO this.1.1.1.1) Aaa
 .have:=o3 x hx;unfold vN at this;simp only[Bool.and_eq_true] at this;exact Nat.le_trans (zO this.1.2) Aaa
 .have:=zB h3.2 x hx;unfold vO at this;simp only[Bool.and_eq_true,decide_eq_true_eq] at this;have:=this.2.1.2;omega
 .have:=(kK (r3 x hx)).2.2.1;exact Nat.le_trans (zO this) Aaa
theorem Uv (dst:Int) (key:ByteArray) (a:Int) (hc:n.out.length=40) (h:WK w0 w wb n A G c v L):Calls prog 168 #[.pointer (some ⟨wb,0,none⟩),.int .i64 dst,.string key,.int .i64 a] w λe w'=>e= .returned (.bool false)/\w=w':=by
 have hq:((n.out.length:Int) == 40)=true:=by rw [hc];rfl
 exact ahi
theorem Uw (dst:Int) (key:ByteArray) (a:Int) (hl:n.out.length < 40) (hc:n.next=1000000000) (h:WK w0 w wb n A G c v L):Calls prog 168 #[.pointer (some ⟨wb,0,none⟩),.int .i64 dst,.string key,.int .i64 a] w λe w'=>e= .returned (.bool false)/\w=w':=by
 have hq:((n.out.length:Int) == 40)=false:=Aaf
 have hq2:(n.next == 1000000000)=true:=by rw [hc];rfl
 exact ahi
theorem Ux (dst:Int) (key:ByteArray) (a:Int) (E:Nat->Addr) (hok:dY n=true) (hkey:keyOk key.data.toList=true) (ha1:1<=a) (ha2:a<=1000000000) (hL:L.length<=2097100) (hc1:n.out.length < 40) (hc2:n.next < 1000000000) (h:WK w0 w wb n A G c v L) (he:iH w0 E):
 Calls prog 168 #[.pointer (some ⟨wb,0,none⟩),.int .i64 dst,.string key,.int .i64 a] w λe w'=>e= .returned (.bool (fG n dst key a).2.2)/\∃A' G' c' v',WK w0 w' wb (fG n dst key a).1 A' G' c' v' (L++(fG n dst key a).2.1):=by
 have hz:=acp hok;obtain⟨_,hps,_,hnx,_,_⟩:=cZ hok;have hnx1:1<=n.next/\n.next<=1000000000:=by simpa [fV] using hnx
 have hks:=zO hkey
 have hf:0<=(aG n.pu key).f/\(aG n.pu key).f<=1000000000:=by
  have hpo:=yJ hps hkey;unfold gX ru at hpo;simp only[Bool.and_eq_true,decide_eq_true_eq] at hpo;exact hpo.1.1.2
 have Ej:=Hq (λw1 (hb:aY w w1)=>PE A.p A.cp n.pu key w1 (by have:=hz.p;omega) (λp hp=>Nat.le_trans (hz.pk p hp) Aaa) Aaa (GR.At.below h.no.p.at hb));have HPA:=Hq (fun(y:Int) w1 (hb:aY w w1)=>abN A.p A.cp n.pu key y E w1 (by have:=hz.p;omega) (λp hp=>Nat.le_trans (hz.pk p hp) Aaa) Aaa (GR.At.below h.no.p.at hb) (he.below (h.keep.trans (hb.mono h.keep.size))));unfold ku at HPA
 have GK:Hid (qc n key a=min a (aG n.pu key).f):=by
  show qc n key a=min a (aG n.pu key).f
  unfold qc;split<;>omega
 have xL:=Hq (fun(y:Int) (h1:1<=y) (h2:y<=(aG n.pu key).f) (h3:y<=1000000000)=>aeE hps hkey h1 h2 h3);have kS:=Hq (fun(y:Int) (h1:¬1<=y)=>KY (l:=n.pu) (key:=key) (dm:=0) (df:= -1) (ds:=0) (n:=y) (λhx=>h1 hx.1))
 have HGY:Hid (1<=qc n key a->fG n dst key a=(rH n dst key (qc n key a),[pU (rH n dst key (qc n key a)) ⟨n.next,dst,key,qc n key a⟩],true)):=λh1=>by
  unfold fG
  exact if_pos (decide_eq_true ⟨h1,hc1,hc2⟩)
 have HGN:Hid (¬1<=qc n key a->fG n dst key a=(n,[],false)):=λh1=>by
  unfold fG Qr
  rw [if_neg (by rw [decide_eq_false (λhx=>h1 hx.1)];simp)]
 have hq1:((n.out.length:Int) == 40)=false:=Aaf
 have hq2:(n.next == 1000000000)=false:=Aaf
 have HOL:=Hq hc1;have HZ:=Hq hz;generalize hfr:aG n.pu key=fr at *;obtain⟨fk,fm,ff,fs⟩:=fr;dsimp only at hf GK xL;have HW:=Hq h;clear h he hok hkey hps hnx hc1 hc2 hfr hz;generalize fG n dst key a=gv at *;obtain⟨c0,c1,c2,c3,c4,c5,c6,c7,c8,c9⟩:=jr HW.blk;go_in
 go_wp2_with fail;refine(Ej w (Below.refl _ _)).mono ?_;rintro e w1 ⟨rfl,hb1⟩;have HB1:=Hq hb1;have HW1:=Hq (HW.step hb1);clear hb1 Ej c0 c1 c2 c3 c4 c5 c6 c7 c8 c9;obtain⟨c0,c1,c2,c3,c4,c5,c6,c7,c8,c9⟩:=jr HW1.blk;have aA9:=BN fk fm ff fs;go_wp2_with fail;clear c0 c1 c2 c3 c4 c5 c6 c7 c8 c9 aA9;have aCA:min a ff<=a:=Aaa
 have aBw:min a ff<=ff:=Aaa
 generalize min a ff=tY at *;have hAM:=ah GK;rw [hAM] at HGY HGN;clear GK hAM;refine(HPA tY w1 HB1).mono ?_;rintro e y ⟨pa,pcp,pg,hpg,rfl,hp,hby⟩;have HST:=Hq (VQ (cp:=pcp) HW1 hby hpg hp);have HPD:Hid (rH n dst key tY=⟨n.id,n.par,n.kids,n.next+1,(dJ n.pu key 0 (-1) 0 tY).1,n.out++[⟨n.next,dst,key,tY⟩],n.seen,n.old,n.reqs⟩):=rfl;have DC:=Hq (xL tY);have Wn:=Hq (kS tY);clear hp hby hpg HPA xL kS HW1;generalize dJ n.pu key 0 (-1) 0 tY=r at *;go_wp2_with fail;refine HST.mono ?_;rintro e z ⟨rfl,A1,G1,c1,hZ⟩;by_cases h1:1<=tY
 case' neg=>
  have hr:=ah Wn Aaa
  subst hr
  have HZ1:=Hq hZ
  have hG:=ah HGN Aaa
  have HG:=Hq hG
  clear hZ hG HGY HGN HST DC Wn HPD
  go_wp2_with fail
  go_ret
  have hG:=ah HG
  subst hG
  refine⟨rfl,A1,G1,c1,v,?_⟩
  rw [List.append_nil]
  exact HZ1
 have hr2:=ah DC h1 aBw Aaa;obtain⟨rl,rb⟩:=r;dsimp only at hr2;subst hr2;have HG:=Hq (HGY h1);have yZ:Hid (WK w0 z wb (setPu n rl) A1 G1 c1 v L):=hZ;clear hZ HGY HGN HST DC Wn HB1 HW;have hcl:n.out.length<=40:=by have:=ah HOL;omega
 obtain⟨c0,c1,c2,c3,c4,c5,c6,c7,c8,c9⟩:=jr yZ.blk;dsimp only[setPu] at c0 c1 c2 c3 c4 c5 c6 c7 c8 c9;have aCS:=aA yZ.blk;go_upto_region 6 with fail;have y3:=cell_regrown c3;clear c0 c1 c2 c3 c4 c5 c6 c7 c8 c9;refine bV 11 Aab ?_;show fD _ _ _ _ _ 12 (Array.replicate 12 false) _ _
 refine tk [0,1,2,3,4,5,6,8] ?_;iterate 8 (refine su (λK hK=>?_);go_simp;refine hK _ ?_;clear hK K)
 refine jc ?_;clear y3;refine yV 7 10 rfl rfl Aab Aad Aad (λx hx=>?c1) (λx hx=>?c2)
 case' c1=>
  go_simp
  refine(clone key x Aaa).mono ?_
  rintro e y ⟨rfl,hby⟩
  refine⟨hby,?_⟩
  have HY:=Hq (Ge.trans hx hby)
  clear hx hby
  refine tk [9] ?_
  (refine su (λK hK=>?_);go_simp;refine hK _ ?_;clear hK K)
  refine jc ?_
  refine dM 10 rfl Aab Aad (λx2 hx2=>?_)
  go_simp
  refine⟨au x2 _,?_⟩
  have hgl:z.heap.size<=x2.heap.size:=(Ge.trans HY hx2).size
  have Dw:=Hq (heap_alloc_new x2 (.cells (fI 0 0 ⟨#[]⟩ 0) 95))
  have vQ:=Hq (Ge.trans (Ge.trans HY hx2) (au x2 (.cells (fI 0 0 ⟨#[]⟩ 0) 95)))
  clear hx2 HY
  generalize x2.alloc (.cells (fI 0 0 ⟨#[]⟩ 0) 95)=y2 at *
  generalize x2.heap.size=g at *
  refine bf Aab (λz2 hz2=>?_)
  have lq:=Hq (ay Dw hz2)
  have fO:=Hq (Ge.trans vQ hz2)
  clear hz2 Dw vQ
  have DX:=aA lq
  obtain⟨g0,g1,g2,g3⟩:=gP lq
  have f0:=aj lq 0
  have f1:=aj lq 1
  have f2:=aj lq 2
  have f3:=aj lq 3
  refine aF 11 rfl Aab Aad ?_
  go_simp
  refine wpAny_done Aab ?_
  go_simp
  go_upto_region 7 with fail
  refine wp_at (λW hW=>?_)
  have UG:Hid (W.heap[g]?=some (.cells (fI n.next dst key tY) 95 (0,0))):=Acd
  have iA:Hid (aY z W):=Ace
  clear hW lq fO DX g0 g1 g2 g3 f0 f1 f2 f3
 case' c2=>
  go_simp
  refine⟨au x _,?_⟩
  have hgl:z.heap.size<=x.heap.size:=hx.size
  have Dw:=Hq (heap_alloc_new x (.cells (fI 0 0 ⟨#[]⟩ 0) 95))
  have vQ:=Hq (Ge.trans hx (au x (.cells (fI 0 0 ⟨#[]⟩ 0) 95)))
  clear hx
  generalize x.alloc (.cells (fI 0 0 ⟨#[]⟩ 0) 95)=y2 at *
  generalize x.heap.size=g at *
  refine dM 7 rfl Aab Aad (λx2 hx2=>?_)
  go_simp
  refine(clone key x2 Aaa).mono ?_
  rintro e y3 ⟨rfl,hby⟩
  refine⟨hby,?_⟩
  have HGC:=Hq (ay Dw (Ge.trans hx2 hby))
  have HBC:=Hq (Ge.trans vQ (Ge.trans hx2 hby))
  clear hx2 hby Dw vQ
  refine tk [9] ?_
  (refine su (λK hK=>?_);go_simp;refine hK _ ?_;clear hK K)
  refine jc ?_
  refine bf Aab (λz2 hz2=>?_)
  have lq:=Hq (ay HGC hz2)
  have fO:=Hq (Ge.trans HBC hz2)
  clear hz2 HGC HBC
  have DX:=aA lq
  obtain⟨g0,g1,g2,g3⟩:=gP lq
  have f0:=aj lq 0
  have f1:=aj lq 1
  have f2:=aj lq 2
  have f3:=aj lq 3
  refine aF 11 rfl Aab Aad ?_
  go_simp
  refine wpAny_done Aab ?_
  go_simp
  go_upto_region 7 with fail
  refine wp_at (λW hW=>?_)
  have UG:Hid (W.heap[g]?=some (.cells (fI n.next dst key tY) 95 (0,0))):=Acd
  have iA:Hid (aY z W):=Ace
  clear hW lq fO DX g0 g1 g2 g3 f0 f1 f2 f3
 all_goals
  have hgw:=aA UG
  have ZL:=Hq (yZ.step iA)
  have HCG:Hid ((Value.slice A1.o n.out.length A1.co).ownBlock≠some g):=λe=>by have h9:=(yZ.no.o.lt g e).2;omega
  clear yZ iA
  obtain⟨c0,c1,c2,c3,c4,c5,c6,c7,c8,c9⟩:=jr ZL.blk
  dsimp only[setPu] at c0 c1 c2 c3 c4 c5 c6 c7 c8 c9
  obtain⟨s0,s1,s2,s3⟩:=gP UG
  obtain⟨i0,hi,hz0,hz1,hz2⟩:=info_parts Es
  have y5:=cell_regrown c5
  have x0:=cell_regrown s0
  have x1:=cell_regrown s1
  have x2:=cell_regrown s2
  have x3:=cell_regrown s3
  clear c0 c1 c2 c3 c4 c5 c6 c7 c8 c9 s0 s1 s2 s3
  refine kN Aab ?_
  show uX _ _ _ _ 13 (Array.replicate 13 false) _ _
  refine pO 0 rfl Aab Aab Aab (λ_ _ _ _ h=>h) (λK hK=>?_)
  go_simp
  first
   |(refine hK _ ?_;clear hK K)
   |(apply Exists.intro
     refine⟨λ_=>rfl,hK _ ?_⟩
     clear hK K)
  refine rQ 8 ?_
  refine tk [1,2,3,4,5,6] ?_
  iterate 6 (refine su (λK hK=>?_);go_simp;refine hK _ ?_;clear hK K)
  refine jc ?_
  clear y5 x0 x1 x2 x3
  refine dM 7 rfl Aab Aad (λq hq=>?_)
  go_simp
  refine⟨au q _,?_⟩
  have JD:=Hq ((ZL.step hq).step (au q (.cells (fI n.next dst key tY) 95)))
  have HGX:=Hq (ay (ay UG hq) (au q (.cells (fI n.next dst key tY) 95)))
  have gU:=Hq (heap_alloc_new q (.cells (fI n.next dst key tY) 95))
  have hgq:g < q.heap.size:=Nat.lt_of_lt_of_le hgw hq.size
  clear hq ZL UG hgw
  generalize q.alloc (.cells (fI n.next dst key tY) 95)=y4 at *
  refine bf Aab (λz4 Bl=>?_)
  have JE:=Hq (JD.step Bl)
  have HGZ:=Hq (ay HGX Bl)
  have Eh:=Hq (ay gU Bl)
  clear Bl JD gU HGX
  refine aF 8 rfl Aab Aad ?_
  refine pV z4 (.tmp 63) (.tmp 65) 26 rfl w0.heap.size 95 i0 (.agg (fI 0 0 ByteArray.empty 0)) 4 40 underlying26 hi hz0 hz1 hz2 rfl Aae (.slice A1.o n.out.length A1.co) n.out.length (GR.flat aW n.out) Aaj JE.no.o ⟨q.heap.size,0,none⟩ 1 1 (aW ⟨n.next,dst,key,tY⟩) Aaj rfl (World.news_of_block Eh) (uq _) Aah Aaa JE.keep.size ?_
  intro v6 w6 hown6 rA Pp
  obtain⟨a6,c6,hv6,_⟩:=GR.own_at (enc:=aW) (sz:=4) (l:=n.out++[⟨n.next,dst,key,tY⟩]) eu (by rw [List.length_append,jd];exact hown6)
  rw [List.length_append] at hv6
  have hv7:v6= .slice a6 (n.out.length+1) c6:=hv6
  subst hv7
  clear hv6
  obtain⟨hb6,Lu,hS6⟩:=JE.outApp ⟨n.next,dst,key,tY⟩ hown6 rA Pp
  have KU:=Hq hS6
  obtain⟨k0,k1,k2,k3,k4,k5,k6,k7,k8,k9⟩:=jr hb6
  have kf:=aj hb6 5
  have HG6:Hid (w6.heap[g]?=some (.cells (fI n.next dst key tY) 95 (0,0))):=rA.block g (aA HGZ) (λe=>HCG e.symm) |>.trans HGZ
  clear hown6 rA Pp hb6 hS6 Lu JE Eh HGZ
  refine aF 9 rfl Aab Aad ?_
  go_simp
  refine aF 10 rfl Aab Aad ?_
  go_simp
  refine aF 11 rfl Aab Aad ?_
  go_simp
  refine aF 12 rfl Aab Aad ?_
  go_simp
  refine wpAny_done Aab ?_
  go_simp
  have hgb:g≠wb:=Aaa
  go_upto_region 8 with fail
  refine wp_at (λV8 hV=>?_)
  obtain⟨A8,G8,ad4,Om⟩:∃A8 G8 ad4,Hid (WK w0 V8 wb (setOut (setPu n rl) (n.out++[⟨n.next,dst,key,tY⟩])) A8 G8 ad4 v L):=⟨_,_,_,by rw [hV];exact KU⟩
  have HG8:Hid (V8.heap[g]?=some (.cells (fI n.next dst key tY) 95 (0,0))):=by rw [hV];exact oC HG6 hgb
  clear hV KU HG6 kf k0 k1 k2 k3 k4 k5 k6 k7 k8 k9
  obtain⟨c0,c1,c2,c3,c4,c5,c6,c7,c8,c9⟩:=jr Om.blk
  dsimp only[setPu,setOut] at c0 c1 c2 c3 c4 c5 c6 c7 c8 c9
  have kf3:=aj Om.blk 3
  go_upto_region 9 with fail
  refine wp_at (λV9 hV=>?_)
  have R8:Hid (WK w0 V9 wb (rH n dst key tY) A8 G8 ad4 v L):=by rw [hV,ah HPD];exact Om.next (n.next+1)
  have HG9:Hid (V9.heap[g]?=some (.cells (fI n.next dst key tY) 95 (0,0))):=by rw [hV];exact oC HG8 hgb
  have hl9:(rH n dst key tY).out.length<=1048600:=by rw [ah HPD];simp;omega
  clear hV Om HG8 kf3 HPD c0 c1 c2 c3 c4 c5 c6 c7 c8 c9
  generalize rH n dst key tY=n9 at *
  have EI:=Hq (λp:Regrown=>JW n9 A8 ⟨n.next,dst,key,tY⟩ (Gr V9 p) hl9 (GR.At.below R8.no.at.o (below_regrown V9 p.d p.os)))
  have Bg:=Hq (λx (hx:Ge V9 x)=>VW w0 x wb n9 A8 G8 ad4 v L (pU n9 ⟨n.next,dst,key,tY⟩) (by show key.size<=1048600;omega) Aaa (R8.step hx))
  generalize pU n9 ⟨n.next,dst,key,tY⟩=pm at *
  obtain⟨qK,qF,qT,qI,qL,qk,qN⟩:=pm
  obtain⟨c0,c1,c2,c3,c4,c5,c6,c7,c8,c9⟩:=jr R8.blk
  obtain⟨s0,s1,s2,s3⟩:=gP HG9
  have y0:=cell_regrown c0
  have y1:=cell_regrown c1
  have y2:=cell_regrown c2
  have y3:=cell_regrown c3
  have y4:=cell_regrown c4
  have y5:=cell_regrown c5
  have y6:=cell_regrown c6
  have y7:=cell_regrown c7
  have y8:=cell_regrown c8
  have x0:=cell_regrown s0
  have x1:=cell_regrown s1
  have x2:=cell_regrown s2
  have x3:=cell_regrown s3
  have hg9:=aA HG9
  have hw9:=aA R8.blk
  clear c0 c1 c2 c3 c4 c5 c6 c7 c8 c9 s0 s1 s2 s3
  refine bV 7 Aab ?_
  show fD _ _ _ _ _ 8 (Array.replicate 8 false) _ _
  refine tk [0,1,2,3,4,5] ?_
  iterate 6 (refine su (λK hK=>?_);go_simp;refine hK _ ?_;clear hK K)
  refine jc ?_
  refine Dn 6 20 rfl Aab Aab Aab Aab Aab (λ_ _ _ _ h=>h) (λK hK=>?_)
  go_simp
  first
   |(refine hK _ ?_;clear hK K)
   |(apply Exists.intro
     refine⟨λ_=>?_,hK _ ?_⟩
     (exact EI _)
     clear hK K)
  clear y0 y1 y2 y3 y4 y5 y6 y7 y8 x0 x1 x2 x3
  refine bf Aab (λx hx=>?_)
  have JD:=Hq (Bg x hx)
  clear hx
  refine aF 7 rfl Aab Aad ?_
  go_simp
  refine JD.mono ?_
  rintro e y9 ⟨rfl,c',v',hY⟩
  have HY:=Hq hY
  clear hY JD
  refine wpAny_done Aab ?_
  go_simp
  go_wp2_with fail
  go_ret
  have hG:=ah HG
  subst hG
  exact⟨rfl,A8,G8,c',v',HY⟩
theorem ain (dst:Int) (key:ByteArray) (a:Int) (E:Nat->Addr) (hok:dY n=true) (hkey:keyOk key.data.toList=true) (ha1:1<=a) (ha2:a<=1000000000) (hL:L.length<=2097100) (h:WK w0 w wb n A G c v L) (he:iH w0 E):
 Calls prog 168 #[.pointer (some ⟨wb,0,none⟩),.int .i64 dst,.string key,.int .i64 a] w λe w'=>e= .returned (.bool (fG n dst key a).2.2)/\∃A' G' c' v',WK w0 w' wb (fG n dst key a).1 A' G' c' v' (L++(fG n dst key a).2.1):=by
 obtain⟨_,_,_,hnx,ho,_⟩:=cZ hok;have hnx1:1<=n.next/\n.next<=1000000000:=by simpa [fV] using hnx
 have hol:=(tq ho).2.1
 have hgn:(n.out.length=40\/n.next=1000000000)->fG n dst key a=(n,[],false):=λhx=>by
  unfold fG Qr
  rw [if_neg (by rw [decide_eq_false (λhy=>Aaa)];simp)]
 by_cases h40:n.out.length=40
 .rw [hgn (.inl h40)];refine(Uv w0 w wb n A G c v L dst key a h40 h).mono ?_;exact ahY
 .by_cases hl:n.next=1000000000
  .rw [hgn (.inr hl)];refine(Uw w0 w wb n A G c v L dst key a Aaa hl h).mono ?_;exact ahY
  .exact Ux w0 w wb n A G c v L dst key a E hok hkey ha1 ha2 hL Aaa Aaa h he
theorem acr (n:Nd) (A:bC) (x:Int) (w:World) (hp:dH n=true) (hl:n.kids.length<=1048600) (ha:bQ w A n):
 Calls prog 130 #[fT n A,.int .i64 x] w (fF w (.bool (dV n x))):=by
 have h:=Py n A x w hl ha.k;rw [near_same hp] at h;exact h
def ET (n:Nd) (o:fP):Nd×List Mg×Int:=if n.par= -1 then(n,[],1) else((fG n n.par o.k o.n).1,(fG n n.par o.k o.n).2.1,if (fG n n.par o.k o.n).2.2=true then 0 else 1)
theorem akb (o:fP) (E:Nat->Addr) (hok:dY n=true) (hkey:keyOk o.k.data.toList=true) (ha1:1<=o.n) (ha2:o.n<=1000000000) (hL:L.length<=2097100) (h:WK w0 w wb n A G c v L) (he:iH w0 E):
 Calls prog 111 #[.pointer (some ⟨wb,0,none⟩),jX o] w λe w'=>e= .returned (.int .i64 (ET n o).2.2)/\∃A' G' c' v',WK w0 w' wb (ET n o).1 A' G' c' v' (L++(ET n o).2.1):=by
 have EI:=Hq (λW c v (hW:WK w0 W wb n A G c v L)=>ain w0 W wb n A G c v L n.par o.k o.n E hok hkey ha1 ha2 hL hW he);have hwl:=aA h.blk;have hne:wb≠w.heap.size:=Aaa
 clear hok hkey ha1 ha2 he;by_cases hpar:n.par= -1
 .have hR:ET n o=(n,[],1):=if_pos hpar;rw [hR];open atJ in exact aah
 .have hR:ET n o=((fG n n.par o.k o.n).1,(fG n n.par o.k o.n).2.1,if (fG n n.par o.k o.n).2.2=true then 0 else 1):=if_neg hpar;rw [hR];obtain⟨K,no,k,nn,⟨mK,mF,mT,mI,mL,mk,mN⟩⟩:=o;dsimp only at EI ⊢;open anN in exact WE
theorem ac3 (m:Mg) (hp:dH n=true) (hz:n.kids.length<=1048600) (h:WK w0 w wb n A G c v L):
 Calls prog 106 #[.pointer (some ⟨wb,0,none⟩),qg m] w (fF w (.bool (decide (m.T=n.id)&&dV n m.F))):=by
 obtain⟨mK,mF,mT,mI,mL,mk,mN⟩:=m;have Ro:=Hq (λw1 (ha:bQ w1 A n)=>acr n A mF w1 hp hz ha);dsimp only;generalize dV n mF=nb at *;open atK in exact aai
theorem akl (o:fP) (hz:eY n 1048576) (hL:L.length<=1048000) (h:WK w0 w wb n A G c v L):
 Calls prog 50 #[.pointer (some ⟨wb,0,none⟩),jX o] w λe w'=>e= .returned (.int .i64 0)/\∃c' v',WK w0 w' wb n A G c' v' (L++n.out.map (pU n)):=by
 have EI:=Hq (λs W (ha:SentAt W A.o n.out)=>JW n A s W (by have:=hz.o;omega) ha);have Bg:=Hq (λW c v (k:Nat) (hk:k<=n.out.length) m (hm:m.k.size<=1048600) (hW:WK w0 W wb n A G c v (L++(n.out.take k).map (pU n)))=>VW w0 W wb n A G c v _ m hm (by have:=hz.o;rw [List.length_append,List.length_map,List.length_take];omega) hW);have HKK:Hid (∀s∈n.out,(pU n s).k.size<=1048600):=λs hs=>Nat.le_trans (hz.ok s hs) Aaa
 have hlo:=hz.o;open atI in exact aah
abbrev rqv (q:Rq):Value:= .agg (eG q.no q.k q.n q.s)
theorem ajg (q:Rq) (no:Int) (w:World) (h0:0<=q.no) (h1:q.no<=1000000000) (h2:0<=no) (h3:no<=1000000000):
 Calls prog 188 #[rqv q,.int .i64 no] w (fF w (.int .i64 (q.no - no))):=by
 obtain⟨qno,qk,qn,qs⟩:=q;dsimp only at h0 h1;go_in
 go_wp2_with fail;go_ret;exact⟨rfl,au w _⟩
theorem axW (a:Option Addr) (cap:Nat) (l:List Rq) (no:Int) (w:World) (hl:l.length<=1000) (ha:jf w a l) (hp:l.Pairwise (λs t=>s.no < t.no)) (hb:∀q∈l,0<=q.no/\q.no<=1000000000) (h0:0<=no) (h1:no<=1000000000):
 Calls prog 187 #[.slice a l.length cap,.int .i64 no,.func (.func 188) #[] #[]] w (fF w (.tuple #[.int .i64 (dZ l no:Nat),.bool (oq l no)])):=by
 have HC:=Hq (λq w1 (hq:q∈l)=>ajg q no w1 (hb q hq).1 (hb q hq).2 h0 h1);have Zo:=Hq (yN l no);have HHI:=Hq (yM (no:=no) hp);have HLE:=Hq (wV l no);have HF:=Hq (pE l no);have HA:=Hq ha;clear ha hp hb;generalize oq l no=RF at *;generalize dZ l no=R at *;go_in
 go_wp2_with fail;go_loopw [9,10] (λi j wr=>∃p q:Nat,p<=R/\R<=q/\q<=l.length/\i= .int .i64 p/\j= .int .i64 q/\aY w wr) (λi j _=>(intOf j).toNat - (intOf i).toNat)
 case atStart=>exact⟨0,l.length,Nat.zero_le _,HLE,Nat.le_refl _,rfl,rfl,Below.refl _ _⟩
 case round=>
  obtain⟨p,q,h2,h3,h4,rfl,rfl,hbw⟩:=hrel;have HB:=Hq hbw;clear hbw;by_cases hlt:p < q
  .have Pg:(p:Int) < (q:Int):=Aaa
   go_upto_region 5 with fail;obtain⟨m,hm⟩:∃m:Nat,((p:Int)+q) / 2=m:=⟨(p+q) / 2,Aaa⟩;have hmp:p<=m:=Aaa
   have hmq:m < q:=Aaa
   rw [hm];clear hm Pg;have hml:m < l.length:=Aaa
   obtain⟨g,off,e0,hg,q0,q1,q2,q3⟩:=jf.four (GR.At.below HA HB) m hml;have HCM:=Hq (λw1=>HC l[m] w1 (List.getElem_mem hml));have HLM:=Hq (Zo m hml);have HHM:=Hq (HHI m hml);subst e0;generalize l[m]=lm at *;obtain⟨ln,lk,lx,ls⟩:=lm;dsimp only at q0 q1 q2 q3 HCM HLM HHM;open avZ in exact agW
  .have hpq:p=R:=Aaa
   subst hpq;have hnlt:¬((p:Int) < (q:Int)):=Aaa
   by_cases hpl:p < l.length
   .have aBG:(p:Int) < (l.length:Int):=Aaa
    obtain⟨g,off,e0,hg,q0,q1,q2,q3⟩:=jf.four (GR.At.below HA HB) p hpl;have HCM:=Hq (λw1=>HC l[p] w1 (List.getElem_mem hpl))
    have HFP:Hid (RF=decide (l[p].no=no)):=by
     show RF=_
     rw [Bool.eq_iff_iff,ah HF,decide_eq_true_iff];exact⟨fun⟨_,h⟩=>h,λh=>⟨hpl,h⟩⟩
    subst e0;clear HF HC Zo HHI;generalize l[p]=lm at *;obtain⟨ln,lk,lx,ls⟩:=lm;dsimp only at q0 q1 q2 q3 HCM HFP;open avY in exact agW
   .have aBG:¬((p:Int) < (l.length:Int)):=Aaa
    have HFP:Hid (RF=false):=by
     show RF=_
     rw [Bool.eq_false_iff];intro h;exact hpl (HF.1 h).1
    clear HF HC Zo HHI;go_wp2_with fail;go_ret2
    exact⟨by rw [ah HFP];rfl,HB⟩
theorem Nr (no:Int) (hok:iy n=true) (h0:0<=no) (h1:no<=1000000000) (h:WK w0 w wb n A G c v L):
 Calls prog 164 #[.pointer (some ⟨wb,0,none⟩),.int .i64 no] w (fF w (.tuple #[.int .i64 (dZ n.reqs no:Nat),.bool (oq n.reqs no)])):=by
 obtain⟨r1,r2,r3,r4,r5⟩:=jl hok;have HBS:=Hq (λw1 (ha:jf w1 A.r n.reqs)=>axW A.r A.cr n.reqs no w1 Aaa ha r1 (λq hq=>by have:=kK (r3 q hq);omega) h0 h1);have HA:=Hq h.no.at.r;obtain⟨c0,c1,c2,c3,c4,c5,c6,c7,c8,c9⟩:=jr h.blk;clear h r1 r3 hok;generalize oq n.reqs no=RF at *;generalize dZ n.reqs no=R at *;go_in
 go_wp2_with fail;refine(HBS w HA).mono ?_;rintro e w1 ⟨rfl,hb1⟩;have HB:=Hq hb1;clear hb1;go_wp2_with fail;go_ret2
 exact⟨rfl,HB⟩
theorem oF {P:Program} (w:World) (dT sT ty elem:TypeId) (sz:Nat) (g o dLen dCap:Nat) (a:Addr) (sLen sCap:Nat) (cur:Array Value) (t:TypeId) (cs:List Value) (hu:P.underlying dT=some (.slice elem)) (hs:(P.info? elem).map (·.size)=some sz) (hg:w.heap[g]?=some (.cells cur t (0,0))) (hn:cs.length=Nat.min sLen dLen*sz) (hsrc:∀j v,cs[j]?=some v->w.cell? (a.add j)=some v) (hfit:o+cs.length<=cur.size) (h1:∀v∈cs,v.oneCell'=true):
 (Builtin.copy_ #[dT,sT] ty #[.slice (some ⟨g,o,none⟩) dLen dCap,.slice (some a) sLen sCap]).run P w=
  .ok (goInt (Nat.min sLen dLen)) (w.setRow g (cur.toList.take o++cs++cur.toList.drop (o+cs.length)).toArray):=by
 have hl:=run_loadCells_list (P:=P) w a cs hsrc;have hst:=run_storeCells_at P g o t cs 0 cur w hg (by simpa using hfit) h1;cases hq:P.info? elem with
 |none=>simp[hq] at hs
 |some i=>
  have hi:i.size=sz:=by simpa [hq] using hs
  rw [hn] at hl
  simp[Builtin.copy_,run_underlying hu,Builtin.lenOf,Builtin.firstCells,sizeOf,typeInfo,hq,hi,hl,hst]
theorem TI:(prog.info? 97).map (λi=>(i.zero,i.size,i.bytes))=some (some (.agg (eG 0 ByteArray.empty 0 0)),4,40):=Aab
theorem MO:(prog.info? 97).map (·.size)=some 4:=Aab
def KG (w:World) (B:Nat) (v:Value) (l:List Rq) (e:Ending) (w':World):Prop:=
 ∃a cp,e= .returned (.slice a l.length cp)/\w'.ownsRow B 97 4 (.slice a l.length cp) l.length (GR.flat aN l)/\w.grownBy w' v.ownBlock/\∀x,(Value.slice a l.length cp).ownBlock=some x->v.ownBlock=some x\/w.heap.size<=x
theorem TJ (B:Nat) (a:Option Addr) (cap:Nat) (l:List Rq) (q:Rq) (vb:Nat) (w:World) (hl:l.length<=1000) (hB:B<=w.heap.size) (ho:w.ownsRow B 97 4 (.slice a l.length cap) l.length (GR.flat aN l)) (hv:w.heap[vb]?=some (.cells (eG q.no q.k q.n q.s) 97 (0,0))):
 Calls prog 189 #[.slice a l.length cap,.int .i64 l.length,.slice (some ⟨vb,0,none⟩) 1 1] w (KG w B (.slice a l.length cap) (l++[q])):=by
 obtain⟨i0,hi,hz0,hz1,hz2⟩:=info_parts TI;obtain⟨v',w',hr,h2,h3,h4⟩:=dR w B 28 28 97 i0 _ 4 40 underlying28 hi hz0 hz1 hz2 rfl Aae (.slice a l.length cap) l.length (GR.flat aN l) ho ⟨vb,0,none⟩ 1 1 (aN q) rfl (World.news_of_block hv) (ql q) Aah Aaa hB;obtain⟨a2,c2,he,_⟩:=GR.own_at (enc:=aN) (sz:=4) (l:=l++[q]) bX (by rw [List.length_append,jd];exact h2);rw [List.length_append] at he;have he2:v'= .slice a2 (l.length+1) c2:=he;subst he2
 have hle:l.length<=cap\/(a=none/\l.length=0/\cap=0):=by
  rcases ho.2 with⟨hx,hy⟩|⟨g,cp,cur,hx,_,_,hc,_⟩
  .simp only[Value.slice.injEq] at hx;exact .inr ⟨hx.1,hy,hx.2.2⟩
  .simp only[Value.slice.injEq] at hx;exact .inl Aaa
 have hcap:l.length<=cap:=by rcases hle with h|h<;>omega
 have hcm:cap<=9223372036854775807:=by
  rcases ho.2 with⟨hx,hy⟩|⟨g,cp,cur,hx,_,_,_,hc,_⟩
  .simp only[Value.slice.injEq] at hx;omega
  .simp only[Value.slice.injEq] at hx;unfold maxLen at hc;omega
 have H:=Hq (show KG w B (.slice a l.length cap) (l++[q]) (.returned (.slice a2 (l.length+1) c2)) w' from⟨a2,c2,by rw [List.length_append];rfl,by rw [List.length_append,jd];exact h2,h3,by rw [List.length_append];exact h4⟩);have hq:((l.length:Int) == (l.length:Int))=true:=Aac
 clear h2 h3 h4 ho hv hi hz0 hz1 hz2 hle he;cases a with
 |none=>
  go_in
  go_wp2_with (at_builtin;refine Lib.wpList_append_run _ rfl _ _ _ _ rfl _ _ rfl rfl _ _ hr ?_)
  go_ret
  exact H
 |some ad=>
  go_in
  go_wp2_with (at_builtin;refine Lib.wpList_append_run _ rfl _ _ _ _ rfl _ _ rfl rfl _ _ hr ?_)
  all_goals
   try go_wp2_with (at_builtin;refine Lib.wpList_append_run _ rfl _ _ _ _ rfl _ _ rfl rfl _ _ hr ?_)
   go_ret
   exact H
theorem iC (l:List Rq):(GR.flat aN l).length=l.length*4:=GR.flat_length aN 4 bX l
theorem sJ (l:List Rq) (i:Nat) (hi:i<=l.length):(GR.flat aN l).take (i*4)=GR.flat aN (l.take i)/\(GR.flat aN l).drop (i*4)=GR.flat aN (l.drop i):=by
 have e:GR.flat aN l=GR.flat aN (l.take i)++GR.flat aN (l.drop i):=by rw [<-GR.flat_append,List.take_append_drop]
 have hlen:(GR.flat aN (l.take i)).length=i*4:=by rw [iC,List.length_take,Nat.min_eq_left hi]
 rw [e,<-hlen,List.take_left,List.drop_left];exact⟨rfl,rfl⟩
def tL (cur:List Value) (l:List Rq) (i:Nat):List Value:=cur.take ((i+1)*4)++GR.flat aN (l.drop i)++cur.drop ((i+1)*4+(l.length - i)*4)
def MI (cur:List Value) (l:List Rq) (i:Nat) (q:Rq):List Value:=(tL cur l i).take (i*4)++aN q++(tL cur l i).drop (i*4+4)
theorem QA (cur:List Value) (l:List Rq) (i:Nat) (hi:i < l.length) (hc:(l.length+1)*4<=cur.length):(tL cur l i).length=cur.length:=by
 unfold tL;exact ahy
theorem acK (cur:List Value) (l:List Rq) (i:Nat) (q:Rq) (hi:i < l.length) (hc:(l.length+1)*4<=cur.length):(MI cur l i q).length=cur.length:=by
 have h1:=QA cur l i hi hc;unfold MI;exact ahD
theorem Yh (cur:List Value) (l:List Rq) (i:Nat) (q:Rq) (hi:i < l.length) (hc:(l.length+1)*4<=cur.length) (ht:cur.take (l.length*4)=GR.flat aN l):(MI cur l i q).take ((l.length+1)*4)=GR.flat aN (l.take i++q::l.drop i):=by
 have e1:(tL cur l i).take (i*4)=GR.flat aN (l.take i):=by
  unfold tL;rw [List.append_assoc,List.take_append_of_le_length Abk,List.take_take,Nat.min_eq_left Aaa,<-(sJ l i Aaa).1,<-ht,List.take_take,Nat.min_eq_left Aaa]
 have hl1:(cur.take ((i+1)*4)).length=i*4+4:=Abk
 have e2:(tL cur l i).drop (i*4+4)=GR.flat aN (l.drop i)++cur.drop ((i+1)*4+(l.length - i)*4):=by
  unfold tL;rw [List.append_assoc,<-hl1,List.drop_left]
 have hd:(GR.flat aN (l.drop i)).length=(l.length - i)*4:=Ack
 have ht2:(GR.flat aN (l.take i)).length=i*4:=by rw [iC,List.length_take,Nat.min_eq_left Aaa]
 unfold MI;rw [e1,e2,GR.flat_append,GR.flat_cons,<-List.append_assoc];rw [show(l.length+1)*4=(GR.flat aN (l.take i)++aN q++GR.flat aN (l.drop i)).length by rw [List.length_append,List.length_append,hd,ht2];show _=_+4+_;omega,List.take_left];rw [List.append_assoc]
theorem Ma (g cap i:Nat) (l:List Rq) (q:Rq) (vb:Nat) (w:World) (cur:Array Value) (hl:l.length<=1000) (hi:i < l.length) (hroom:l.length+1<=cap) (hcm:cap<=maxLen) (hvb:vb≠g) (hblk:w.heap[g]?=some (.cells cur 97 (0,0))) (hcs:cur.size=cap*4) (htake:cur.toList.take (l.length*4)=GR.flat aN l) (hv:w.heap[vb]?=some (.cells (eG q.no q.k q.n q.s) 97 (0,0))):
 Calls prog 189 #[.slice (some ⟨g,0,none⟩) l.length cap,.int .i64 i,.slice (some ⟨vb,0,none⟩) 1 1] w λe w'=>
  e= .returned (.slice (some ⟨g,0,none⟩) (l.length+1) cap)/\w'.heap[g]?=some (.cells (MI cur.toList l i q).toArray 97 (0,0))/\w.grownBy w' (some g):=by
 have hcl:(l.length+1)*4<=cur.toList.length:=Adt
 have hdl:(GR.flat aN (l.drop i)).length=(l.length - i)*4:=Ack
 have hcp1:∀ty dl sl dc sc,dl=l.length - i->sl=l.length+1 - i->(Builtin.copy_ #[28,28] ty #[.slice (some ⟨g,(i+1)*4,none⟩) dl dc,.slice (some ⟨g,i*4,none⟩) sl sc]).run prog w.drew= .ok (goInt ((l.length - i:Nat):Int)) (w.drew.setRow g (tL cur.toList l i).toArray):=λty dl sl dc sc e1 e2=>by
  subst e1 e2
  have h:=oF (P:=prog) w.drew 28 28 ty 97 4 g ((i+1)*4) (l.length - i) dc ⟨g,i*4,none⟩ (l.length+1 - i) sc cur 97 (GR.flat aN (l.drop i)) underlying28 MO hblk (by rw [hdl];simp only[Nat.min_def];split<;>omega)
   (λj v hj=>by
    rw [Addr.add_lit]
    have h1:(GR.flat aN l)[i*4+j]?=some v:=by rw [<-List.getElem?_drop,(sJ l i Aaa).2];exact hj
    rw [<-htake,List.getElem?_take] at h1
    split at h1
    .have h2:w.drew.cell? ⟨g,i*4+j,none⟩=cur[i*4+j]?:=cell_of_row w.drew g (i*4+j) cur 97 (0,0) hblk;rw [h2,<-Array.getElem?_toList];exact h1
    .cases h1)
   (by rw [hdl,hcs];omega) (λv hv=>iP _ v hv)
  rw [hdl,show Nat.min (l.length+1 - i) (l.length - i)=l.length - i by simp only[Nat.min_def];split<;>omega] at h
  exact h
 have hr1:=QA cur.toList l i hi hcl;have abu:cur.toList.length=cap*4:=Aed
 have ajs:(w.drew.setRow g (tL cur.toList l i).toArray).heap[g]?=some (.cells (tL cur.toList l i).toArray 97 (0,0)):=setRow_heap w.drew g cur _ 97 _ hblk
 have hvr:∀j v,(aN q)[j]?=some v->(w.drew.setRow g (tL cur.toList l i).toArray).cell? ⟨vb,0+j,none⟩=some v:=λj v hj=>by
  have h1:(w.drew.setRow g (tL cur.toList l i).toArray).heap[vb]?=w.heap[vb]?:=setRow_other w.drew g vb _ hvb
  rw [World.cell?_of_block (w:=w) (a:=⟨vb,0+j,none⟩) h1,<-Addr.add_lit]
  exact World.news_of_block hv j v hj
 have hcp2:∀ty dl dc,dl=l.length+1 - i->(Builtin.copy_ #[28,28] ty #[.slice (some ⟨g,i*4,none⟩) dl dc,.slice (some ⟨vb,0,none⟩) 1 1]).run prog (w.drew.setRow g (tL cur.toList l i).toArray)= .ok (goInt 1) ((w.drew.setRow g (tL cur.toList l i).toArray).setRow g (MI cur.toList l i q).toArray):=λty dl dc e1=>by
  subst e1
  have h:=oF (P:=prog) (w.drew.setRow g (tL cur.toList l i).toArray) 28 28 ty 97 4 g (i*4) (l.length+1 - i) dc ⟨vb,0,none⟩ 1 1 (tL cur.toList l i).toArray 97 (aN q) underlying28 MO ajs (by show 4=_;simp only[Nat.min_def];split<;>omega)
   (λj v hj=>by rw [Addr.add_lit];exact hvr j v hj)
   (by show i*4+4<=_;rw [List.size_toArray,hr1,abu];omega) (ql q)
  rw [show Nat.min 1 (l.length+1 - i)=1 by simp only[Nat.min_def];split<;>omega] at h
  exact h
 have hfin:=Hq (show((w.drew.setRow g (tL cur.toList l i).toArray).setRow g (MI cur.toList l i q).toArray).heap[g]?=some (.cells (MI cur.toList l i q).toArray 97 (0,0))/\w.grownBy ((w.drew.setRow g (tL cur.toList l i).toArray).setRow g (MI cur.toList l i q).toArray) (some g) from
  ⟨setRow_heap _ g (tL cur.toList l i).toArray _ 97 _ ajs,⟨rfl,rfl,rfl,Aac,λk _ hk=>(setRow_other _ g k _ (λe=>hk Aao)).trans (setRow_other w.drew g k _ (λe=>hk Aao))⟩⟩)
 have hov:∀lb cb,(callFunc 227 #[.slice (some ⟨vb,0,none⟩) 1 1,.slice (some ⟨g,(i+1)*4,none⟩) lb cb]).run prog w= .ok (.value (.bool false)) w:=λlb cb=>by
  rw [run_callFunc_extern func227 Aab Aab Aab (e:=Extern.SlicesOverlaps.overlaps #[28,28] #[4]) Aab,
   Lib.run_overlaps_apart w 28 4 97 underlying28 4 (λw=>Aab) ⟨vb,0,none⟩ ⟨g,(i+1)*4,none⟩ 1 1 lb cb hvb 97 97 4 cur.size (by unfold World.shape?;rw [hv];rfl) (by unfold World.shape?;rw [hblk]) Aaa (aj hv 0) (aj hv 4)]
  rfl
 open as5 in exact af9
end Go.Proofs.YtacgbldlonoaaaaGreatDoor
