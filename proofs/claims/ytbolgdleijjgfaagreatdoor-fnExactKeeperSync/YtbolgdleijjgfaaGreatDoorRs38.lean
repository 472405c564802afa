/- Parts. -/
import Derived.Test.YtbolgdleijjgfaaGreatDoorRs35
import Derived.Test.YtbolgdleijjgfaaGreatDoorRs32
namespace Go.Proofs.YtbolgdleijjgfaaGreatDoor
open Go.Proofs.Tryz
set_option maxHeartbeats 8000000
set_option maxRecDepth 100000
open Go.RowKit
open Mth
variable (w0 w:World) (wb:Nat) (n:Nd) (A:bq) (G:aK) (c:Nat->Nat) (v:Value) (L:List Mg) {g:Nat}
theorem qg {w:World} {a0 a1 a2 a3 b0 b1 b2 b3:Value} {t:TypeId} (h:w.heap[g]?=some (.cells #[a0,a1,a2,a3] t (0,0))):((((w.setCell ⟨g,0,none⟩ b0).setCell ⟨g,1,none⟩ b1).setCell ⟨g,2,none⟩ b2).setCell ⟨g,3,none⟩ b3).heap[g]?=some (.cells #[b0,b1,b2,b3] t (0,0)):=
 GR.setW_blk [b0,b1,b2,b3] (o:=0) (xs:=[a0,a1,a2,a3]) h
theorem iP {a w:World} {B:Nat} {b0 b1 b2 b3:Value} (h:Below B a w) (hg:B<=g):Below B a ((((w.setCell ⟨g,0,none⟩ b0).setCell ⟨g,1,none⟩ b1).setCell ⟨g,2,none⟩ b2).setCell ⟨g,3,none⟩ b3):=
 GR.setW_below hg [b0,b1,b2,b3] (o:=0) h
theorem WK.outApp {w0 w w6:World} {wb:Nat} {n:Nd} {A:bq} {G:aK} {c:Nat->Nat} {v:Value} {L:List Mg} {a6:Option Addr} {c6:Nat} (h:WK w0 w wb n A G c v L) (s:jC) (hown:w6.ownsRow w0.heap.size 145 4 (.slice a6 (n.out.length+1) c6) (n.out.length+1) (GR.flat aM n.out++aM s)) (hg:w.grownBy w6 (Value.slice A.o n.out.length A.co).ownBlock) (hv:∀x,(Value.slice a6 (n.out.length+1) c6).ownBlock=some x->(Value.slice A.o n.out.length A.co).ownBlock=some x\/w.heap.size<=x):
 w6.heap[wb]?=some (.cells (Xq n A v) 215 (0,0))/\KC (newC w.heap.size 3 c) 3 w w6/\WK w0 (w6.setCell ⟨wb,5,none⟩ (.slice a6 (n.out.length+1) c6)) wb (setOut n (n.out++[s])) ⟨A.k,A.p,a6,A.s,A.r,A.ck,A.cp,c6,A.cs,A.cr⟩ G (newC w.heap.size 3 c) v L:=by
 have h1:=h.recol (c':=newC w.heap.size 3 c) (λx hx=>fC hx);have hk1:KC (newC w.heap.size 3 c) 3 w w6:=KC.grown hg h1.no.co;have hblk:=hk1.obj h1.blk (by rw [h1.cw];omega);have hkeep:=hk1.below h1.keep h1.no.lo Aaa h1.keep.size;have hk2:KC (newC w.heap.size 3 c) 8 w6 (w6.setCell ⟨wb,5,none⟩ (.slice a6 (n.out.length+1) c6)):=KC.set h1.cw
 have hco:∀x,(Value.slice a6 (n.out.length+1) c6).ownBlock=some x->newC w.heap.size 3 c x=3:=λx hx=>by
  rcases hv x hx with hx'|hx'
  .exact h1.no.co x hx'
  .exact aX hx'
 have hlen:(n.out++[s]).length=n.out.length+1:=Aac
 have hno:=h1.no;refine⟨hblk,hk1,hk2.below hkeep hno.lo Aaa hkeep.size,?_,⟨?_,?_,?_,?_,?_,hno.lo,hno.ck,hno.cp,?_,hno.c4,hno.ci,hno.cr,hno.ni⟩,?_,h1.cm,h1.cw⟩
 .have:=aN hblk 5 (.slice a6 (n.out.length+1) c6);rw [this];show some (Obj.cells (Xq n A v |>.setIfInBounds 5 _) _ _)=some (Obj.cells #[_,_,_,_,_,.slice a6 (n.out++[s]).length c6,_,_,_,_] _ _)
  rw [hlen];rfl
 .exact hk2.w (hk1.w hno.k hno.ck Aaa) hno.ck Aaa
 .exact hk2.w (hk1.w hno.p hno.cp Aaa) hno.cp Aaa
 .show(w6.setCell _ _).ownsRow _ _ _ (.slice a6 (n.out++[s]).length c6) (n.out++[s]).length (GR.flat aM (n.out++[s]))
  rw [hlen,jk];exact hk2.own hown hco Aaa
 .exact aiM
 .exact hk2.own (hk1.own hno.r hno.cr Aaa) hno.cr Aaa
 .show∀x,(Value.slice a6 (n.out++[s]).length c6).ownBlock=some x->_
  rw [hlen];exact hco
 .exact hk2.own (hk1.own h1.m h1.cm Aaa) h1.cm Aaa
theorem WK.next {w0 w:World} {wb:Nat} {n:Nd} {A:bq} {G:aK} {c:Nat->Nat} {v:Value} {L:List Mg} (h:WK w0 w wb n A G c v L) (y:Int):WK w0 (w.setCell ⟨wb,3,none⟩ (.int .i64 y)) wb (afQ n y) A G c v L:=by
 have hk2:KC c 8 w (w.setCell ⟨wb,3,none⟩ (.int .i64 y)):=KC.set h.cw;have hno:=h.no.kc hk2 Aaa;exact⟨hk2.below h.keep h.no.lo Aaa h.keep.size,aN h.blk 3 (.int .i64 y),⟨hno.k,hno.p,hno.o,hno.s,hno.r,hno.lo,hno.ck,hno.cp,hno.co,hno.c4,hno.ci,hno.cr,hno.ni⟩,hk2.own h.m h.cm Aaa,h.cm,h.cw⟩
theorem Au {s:ByteArray} (hs:keyOk s.data.toList=true):s.size<=10:=by
 unfold keyOk at hs;simp only[aES,aFo] at hs;have:=aZ s;omega
theorem ac1 {n:Nd} (h:dR n=true):eF n 1000:=by
 obtain⟨h1,h2,h3,h4,h5,h6⟩:=bE h;obtain⟨p1,p2,p3⟩:=(jW n.pu).1 h2;obtain⟨o1,o2,o3⟩:=sZ h5;obtain⟨r1,r2,r3,_,_⟩:=iT h6
 have hk:n.kids.length<=30:=by
  unfold eu at h1;simp only[aES,aFa] at h1;exact h1.1.2
 unfold oC at h3;simp only[aES,aFa] at h3
 have hs:n.seen.length<=31:=by
  have:=h3.1;split at this<;>omega
 refine⟨Aaa,Aaa,Aaa,Aaa,Aaa,λx hx=>?_,λx hx=>?_,λx hx=>?_,λx hx=>?_⟩
 .have:=p1 x hx;unfold iB at this;simp only[aES] at this;exact aEP (Au this.1.1.1.1) Aaa
 .have:=o3 x hx;unfold wN at this;simp only[aES] at this;exact aEP (Au this.1.2) Aaa
 .have:=zX h3.2 x hx;unfold vX at this;simp only[aES,aFa] at this;have:=this.2.1.2;omega
 .have:=(jY (r3 x hx)).2.2.1;exact aEP (Au this) Aaa
theorem Ve (dst:Int) (key:ByteArray) (a:Int) (hc:n.out.length=40) (h:WK w0 w wb n A G c v L):Calls prog 221 #[.pointer (some ⟨wb,0,none⟩),.int .i64 dst,.string key,.int .i64 a] w λe w'=>e= .returned (.bool false)/\w=w':=by
 have hq:((n.out.length:Int) == 40)=true:=by rw [hc];rfl
 exact aiG
theorem Vf (dst:Int) (key:ByteArray) (a:Int) (hl:n.out.length < 40) (hc:n.next=1000000000) (h:WK w0 w wb n A G c v L):Calls prog 221 #[.pointer (some ⟨wb,0,none⟩),.int .i64 dst,.string key,.int .i64 a] w λe w'=>e= .returned (.bool false)/\w=w':=by
 have hq:((n.out.length:Int) == 40)=false:=Aah
 have hq2:(n.next == 1000000000)=true:=by rw [hc];rfl
 exact aiG
theorem Vg (dst:Int) (key:ByteArray) (a:Int) (E:Nat->Addr) (hok:dR n=true) (hkey:keyOk key.data.toList=true) (ha1:1<=a) (ha2:a<=1000000000) (hL:L.length<=2097100) (hc1:n.out.length < 40) (hc2:n.next < 1000000000) (h:WK w0 w wb n A G c v L) (he:gY w0 E):
 Calls prog 221 #[.pointer (some ⟨wb,0,none⟩),.int .i64 dst,.string key,.int .i64 a] w λe w'=>e= .returned (.bool (eY n dst key a).2.2)/\∃A' G' c' v',WK w0 w' wb (eY n dst key a).1 A' G' c' v' (L++(eY n dst key a).2.1):=by
 have hz:=ac1 hok;obtain⟨_,hps,_,hnx,_,_⟩:=bE hok;have hnx1:1<=n.next/\n.next<=1000000000:=by simpa [fH] using hnx
 have hks:=Au hkey
 have hf:0<=(aD n.pu key).f/\(aD n.pu key).f<=1000000000:=by
  have hpo:=zh hps hkey;unfold iB rA at hpo;simp only[aES,aFa] at hpo;exact hpo.1.1.2
 have JK:=Hq (λw1 (hb:aH w w1)=>P9 A.p A.cp n.pu key w1 (by have:=hz.p;omega) (λp hp=>aEP (hz.pk p hp) Aaa) Aaa (GR.At.below h.no.p.at hb));have EM:=Hq (fun(y:Int) w1 (hb:aH w w1)=>acr A.p A.cp n.pu key y E w1 (by have:=hz.p;omega) (λp hp=>aEP (hz.pk p hp) Aaa) Aaa (GR.At.below h.no.p.at hb) (he.below (h.keep.trans (hb.mono h.keep.size))));unfold jS at EM
 have Lf:Hid (rC n key a=min a (aD n.pu key).f):=by
  show rC n key a=min a (aD n.pu key).f
  unfold rC;split<;>omega
 have Sc:=Hq (fun(y:Int) (h1:1<=y) (h2:y<=(aD n.pu key).f) (h3:y<=1000000000)=>afJ hps hkey h1 h2 h3);have mP:=Hq (fun(y:Int) (h1:¬1<=y)=>Lu (l:=n.pu) (key:=key) (dm:=0) (df:= -1) (ds:=0) (n:=y) (λhx=>h1 hx.1))
 have HGY:Hid (1<=rC n key a->eY n dst key a=(tu n dst key (rC n key a),[qE (tu n dst key (rC n key a)) ⟨n.next,dst,key,rC n key a⟩],true)):=λh1=>by
  unfold eY
  exact aE7 (aEO ⟨h1,hc1,hc2⟩)
 have HGN:Hid (¬1<=rC n key a->eY n dst key a=(n,[],false)):=λh1=>by
  unfold eY QG
  rw [aEX (by rw [aEN (λhx=>h1 hx.1)];simp)]
 have hq1:((n.out.length:Int) == 40)=false:=Aah
 have hq2:(n.next == 1000000000)=false:=Aah
 have HOL:=Hq hc1;have HZ:=Hq hz;generalize hfr:aD n.pu key=fr at *;obtain⟨fk,fm,ff,fs⟩:=fr;dsimp only at hf Lf Sc;have HW:=Hq h;clear h he hok hkey hps hnx hc1 hc2 hfr hz;generalize eY n dst key a=gv at *;obtain⟨c0,c1,c2,c3,c4,c5,c6,c7,c8,c9⟩:=jN HW.blk;go_in
 go_wp2_with fail;refine(JK w (aEY _ _)).mono ?_;rintro e w1 ⟨rfl,hb1⟩;have HB1:=Hq hb1;have HW1:=Hq (HW.step hb1);clear hb1 JK c0 c1 c2 c3 c4 c5 c6 c7 c8 c9;obtain⟨c0,c1,c2,c3,c4,c5,c6,c7,c8,c9⟩:=jN HW1.blk;have aCe:=JX fk fm ff fs;go_wp2_with fail;clear c0 c1 c2 c3 c4 c5 c6 c7 c8 c9 aCe;have aD1:min a ff<=a:=Aaa
 have aCz:min a ff<=ff:=Aaa
 generalize min a ff=gP at *;have hAM:=ah Lf;rw [hAM] at HGY HGN;clear Lf hAM;refine(EM gP w1 HB1).mono ?_;rintro e y ⟨pa,pcp,pg,hpg,rfl,hp,hby⟩;have HST:=Hq (Xi (cp:=pcp) HW1 hby hpg hp);have HPD:Hid (tu n dst key gP=⟨n.id,n.par,n.kids,n.next+1,(dw n.pu key 0 (-1) 0 gP).1,n.out++[⟨n.next,dst,key,gP⟩],n.seen,n.old,n.reqs⟩):=rfl;have DR:=Hq (Sc gP);have Xw:=Hq (mP gP);clear hp hby hpg EM Sc mP HW1;generalize dw n.pu key 0 (-1) 0 gP=r at *;go_wp2_with fail;refine HST.mono ?_;rintro e z ⟨rfl,A1,G1,c1,hZ⟩;by_cases h1:1<=gP
 case' neg=>
  have hr:=ah Xw Aaa;subst hr;have HZ1:=Hq hZ;have hG:=ah HGN Aaa;have HG:=Hq hG;clear hZ hG HGY HGN HST DR Xw HPD;go_wp2_with fail;go_ret;have hG:=ah HG;subst hG;refine⟨rfl,A1,G1,c1,v,?_⟩;rw [aFZ];exact HZ1
 have hr2:=ah DR h1 aCz Aaa;obtain⟨rl,rb⟩:=r;dsimp only at hr2;subst hr2;have HG:=Hq (HGY h1);have yu:Hid (WK w0 z wb (setPu n rl) A1 G1 c1 v L):=hZ;clear hZ HGY HGN HST DR Xw HB1 HW;have hcl:n.out.length<=40:=by have:=ah HOL;omega
 obtain⟨c0,c1,c2,c3,c4,c5,c6,c7,c8,c9⟩:=jN yu.blk;dsimp only[setPu] at c0 c1 c2 c3 c4 c5 c6 c7 c8 c9;have aEh:=ay yu.blk;go_upto_region 6 with fail;have y3:=aEL c3;clear c0 c1 c2 c3 c4 c5 c6 c7 c8 c9;refine rg 11 Ge 12 ?_;refine tk [0,1,2,3,4,5,6,8] ?_;iterate 8 (refine iO (λK hK=>?_);go_simp;refine hK _ ?_;clear hK K)
 refine jf ?_;clear y3;refine zq 7 10 rfl rfl Aab Aad Aad (λx hx=>?c1) (λx hx=>?c2)
 case' c1=>
  go_simp
  refine(clone key x Aaa).mono ?_
  rintro e y ⟨rfl,hby⟩
  refine⟨hby,?_⟩
  have HY:=Hq (Ge.trans hx hby)
  clear hx hby
  refine tk [9] ?_
  (refine iO (λK hK=>?_);go_simp;refine hK _ ?_;clear hK K)
  refine jf ?_
  refine dG 10 rfl Aab Aad (λx2 hx2=>?_)
  go_simp
  refine⟨au x2 _,?_⟩
  have hgl:z.heap.size<=x2.heap.size:=(Ge.trans HY hx2).size
  have Hw:=Hq (aEK x2 (.cells (gI 0 0 ⟨#[]⟩ 0) 145))
  have vT:=Hq (Ge.trans (Ge.trans HY hx2) (au x2 (.cells (gI 0 0 ⟨#[]⟩ 0) 145)))
  clear hx2 HY
  generalize x2.alloc (.cells (gI 0 0 ⟨#[]⟩ 0) 145)=y2 at *
  generalize x2.heap.size=g at *
  refine aU Aab (λz2 hz2=>?_)
  have kS:=Hq (aj Hw hz2)
  have eT:=Hq (Ge.trans vT hz2)
  clear hz2 Hw vT
  have D6:=ay kS
  obtain⟨g0,g1,g2,g3⟩:=iD kS
  have f0:=aC kS 0
  have f1:=aC kS 1
  have f2:=aC kS 2
  have f3:=aC kS 3
  refine an 11 ?_
  go_simp
  refine ad ?_
  go_simp
  go_upto_region 7 with fail
  refine wp_at (λW hW=>?_)
  have Vn:Hid (W.heap[g]?=some (.cells (gI n.next dst key gP) 145 (0,0))):=Abu
  have iK:Hid (aH z W):=Abv
  clear hW kS eT D6 g0 g1 g2 g3 f0 f1 f2 f3
 case' c2=>
  go_simp
  refine⟨au x _,?_⟩
  have hgl:z.heap.size<=x.heap.size:=hx.size
  have Hw:=Hq (aEK x (.cells (gI 0 0 ⟨#[]⟩ 0) 145))
  have vT:=Hq (Ge.trans hx (au x (.cells (gI 0 0 ⟨#[]⟩ 0) 145)))
  clear hx
  generalize x.alloc (.cells (gI 0 0 ⟨#[]⟩ 0) 145)=y2 at *
  generalize x.heap.size=g at *
  refine dG 7 rfl Aab Aad (λx2 hx2=>?_)
  go_simp
  refine(clone key x2 Aaa).mono ?_
  rintro e y3 ⟨rfl,hby⟩
  refine⟨hby,?_⟩
  have HGC:=Hq (aj Hw (Ge.trans hx2 hby))
  have Z4:=Hq (Ge.trans vT (Ge.trans hx2 hby))
  clear hx2 hby Hw vT
  refine tk [9] ?_
  (refine iO (λK hK=>?_);go_simp;refine hK _ ?_;clear hK K)
  refine jf ?_
  refine aU Aab (λz2 hz2=>?_)
  have kS:=Hq (aj HGC hz2)
  have eT:=Hq (Ge.trans Z4 hz2)
  clear hz2 HGC Z4
  have D6:=ay kS
  obtain⟨g0,g1,g2,g3⟩:=iD kS
  have f0:=aC kS 0
  have f1:=aC kS 1
  have f2:=aC kS 2
  have f3:=aC kS 3
  refine an 11 ?_
  go_simp
  refine ad ?_
  go_simp
  go_upto_region 7 with fail
  refine wp_at (λW hW=>?_)
  have Vn:Hid (W.heap[g]?=some (.cells (gI n.next dst key gP) 145 (0,0))):=Abu
  have iK:Hid (aH z W):=Abv
  clear hW kS eT D6 g0 g1 g2 g3 f0 f1 f2 f3
 all_goals
  have hgw:=ay Vn
  have HWW:=Hq (yu.step iK)
  have HCG:Hid ((Value.slice A1.o n.out.length A1.co).ownBlock≠some g):=λe=>by have h9:=(yu.no.o.lt g e).2;omega
  clear yu iK
  obtain⟨c0,c1,c2,c3,c4,c5,c6,c7,c8,c9⟩:=jN HWW.blk
  dsimp only[setPu] at c0 c1 c2 c3 c4 c5 c6 c7 c8 c9
  obtain⟨s0,s1,s2,s3⟩:=iD Vn
  obtain⟨i0,hi,hz0,hz1,hz2⟩:=aFm Mx
  have y5:=aEL c5
  have x0:=aEL s0
  have x1:=aEL s1
  have x2:=aEL s2
  have x3:=aEL s3
  clear c0 c1 c2 c3 c4 c5 c6 c7 c8 c9 s0 s1 s2 s3
  refine mO Aab ?_
  show wW _ _ _ _ 13 (Array.replicate 13 false) _ _
  refine Dw 0 rfl Aab Aab Aab (λ_ _ _ _ h=>h) (λK hK=>?_)
  go_simp
  first
   |(refine hK _ ?_;clear hK K)
   |(apply Exists.intro
     refine⟨λ_=>rfl,hK _ ?_⟩
     clear hK K)
  refine rT 8 ?_
  refine tk [1,2,3,4,5,6] ?_
  iterate 6 (refine iO (λK hK=>?_);go_simp;refine hK _ ?_;clear hK K)
  refine jf ?_
  clear y5 x0 x1 x2 x3
  refine dG 7 rfl Aab Aad (λq hq=>?_)
  go_simp
  refine⟨au q _,?_⟩
  have JM:=Hq ((HWW.step hq).step (au q (.cells (gI n.next dst key gP) 145)))
  have HGX:=Hq (aj (aj Vn hq) (au q (.cells (gI n.next dst key gP) 145)))
  have iE:=Hq (aEK q (.cells (gI n.next dst key gP) 145))
  have hgq:g < q.heap.size:=aEU hgw hq.size
  clear hq HWW Vn hgw
  generalize q.alloc (.cells (gI n.next dst key gP) 145)=y4 at *
  refine aU Aab (λz4 BF=>?_)
  have wC:=Hq (JM.step BF)
  have HGZ:=Hq (aj HGX BF)
  have Il:=Hq (aj iE BF)
  clear BF JM iE HGX
  refine an 8 ?_
  refine pE z4 (.tmp 63) (.tmp 65) 35 rfl w0.heap.size 145 i0 (.agg (gI 0 0 ByteArray.empty 0)) 4 40 underlying35 hi hz0 hz1 hz2 rfl Aae (.slice A1.o n.out.length A1.co) n.out.length (GR.flat aM n.out) Aao wC.no.o ⟨q.heap.size,0,none⟩ 1 1 (aM ⟨n.next,dst,key,gP⟩) Aao rfl (aFA Il) (yN _) Aaj Aaa wC.keep.size ?_
  intro v6 w6 hown6 rD PN
  obtain⟨a6,c6,hv6,_⟩:=GR.own_at (enc:=aM) (sz:=4) (l:=n.out++[⟨n.next,dst,key,gP⟩]) aR (by rw [aER,jk];exact hown6)
  rw [aER] at hv6
  have hv7:v6= .slice a6 (n.out.length+1) c6:=hv6
  subst hv7
  clear hv6
  obtain⟨hb6,Sj,hS6⟩:=wC.outApp ⟨n.next,dst,key,gP⟩ hown6 rD PN
  have HS6:=Hq hS6
  obtain⟨k0,k1,k2,k3,k4,k5,k6,k7,k8,k9⟩:=jN hb6
  have kf:=aC hb6 5
  have HG6:Hid (w6.heap[g]?=some (.cells (gI n.next dst key gP) 145 (0,0))):=rD.block g (ay HGZ) (λe=>HCG e.symm) |>.trans HGZ
  clear hown6 rD PN hb6 hS6 Sj wC Il HGZ
  refine an 9 ?_
  go_simp
  refine an 10 ?_
  go_simp
  refine an 11 ?_
  go_simp
  refine an 12 ?_
  go_simp
  refine ad ?_
  go_simp
  have hgb:g≠wb:=Aaa
  go_upto_region 8 with fail
  refine wp_at (λV8 hV=>?_)
  obtain⟨A8,G8,ae7,XD⟩:∃A8 G8 ae7,Hid (WK w0 V8 wb (setOut (setPu n rl) (n.out++[⟨n.next,dst,key,gP⟩])) A8 G8 ae7 v L):=⟨_,_,_,by rw [hV];exact HS6⟩
  have HG8:Hid (V8.heap[g]?=some (.cells (gI n.next dst key gP) 145 (0,0))):=by rw [hV];exact jg HG6 hgb
  clear hV HS6 HG6 kf k0 k1 k2 k3 k4 k5 k6 k7 k8 k9
  obtain⟨c0,c1,c2,c3,c4,c5,c6,c7,c8,c9⟩:=jN XD.blk
  dsimp only[setPu,setOut] at c0 c1 c2 c3 c4 c5 c6 c7 c8 c9
  have kf3:=aC XD.blk 3
  go_upto_region 9 with fail
  refine wp_at (λV9 hV=>?_)
  have HS9:Hid (WK w0 V9 wb (tu n dst key gP) A8 G8 ae7 v L):=by rw [hV,ah HPD];exact XD.next (n.next+1)
  have HG9:Hid (V9.heap[g]?=some (.cells (gI n.next dst key gP) 145 (0,0))):=by rw [hV];exact jg HG8 hgb
  have hl9:(tu n dst key gP).out.length<=1048600:=by rw [ah HPD];simp;omega
  clear hV XD HG8 kf3 HPD c0 c1 c2 c3 c4 c5 c6 c7 c8 c9
  generalize tu n dst key gP=n9 at *
  have Iq:=Hq (λp:Regrown=>J8 n9 A8 ⟨n.next,dst,key,gP⟩ (Gr V9 p) hl9 (GR.At.below HS9.no.at.o (aFe V9 p.d p.os)))
  have HSY:=Hq (λx (hx:Ge V9 x)=>Xp w0 x wb n9 A8 G8 ae7 v L (qE n9 ⟨n.next,dst,key,gP⟩) (by show key.size<=1048600;omega) Aaa (HS9.step hx))
  generalize qE n9 ⟨n.next,dst,key,gP⟩=pm at *
  obtain⟨qK,qF,qT,qI,qL,qk,qN⟩:=pm
  obtain⟨c0,c1,c2,c3,c4,c5,c6,c7,c8,c9⟩:=jN HS9.blk
  obtain⟨s0,s1,s2,s3⟩:=iD HG9
  have y0:=aEL c0
  have y1:=aEL c1
  have y2:=aEL c2
  have y3:=aEL c3
  have y4:=aEL c4
  have y5:=aEL c5
  have y6:=aEL c6
  have y7:=aEL c7
  have y8:=aEL c8
  have x0:=aEL s0
  have x1:=aEL s1
  have x2:=aEL s2
  have x3:=aEL s3
  have hg9:=ay HG9
  have hw9:=ay HS9.blk
  clear c0 c1 c2 c3 c4 c5 c6 c7 c8 c9 s0 s1 s2 s3
  refine rg 7 Ge 8 ?_
  refine tk [0,1,2,3,4,5,6] ?_
  iterate 6 (refine iO (λK hK=>?_);go_simp;refine hK _ ?_;clear hK K)
  (refine iO (λK hK=>?_);go_simp;first|refine hK _ ?_|(apply Exists.intro;refine⟨λ_=>?_,hK _ ?_⟩;(exact Iq _));clear hK K)
  refine jf ?_
  clear y0 y1 y2 y3 y4 y5 y6 y7 y8 x0 x1 x2 x3
  refine aU Aab (λx hx=>?_)
  have JM:=Hq (HSY x hx)
  clear hx
  refine an 7 ?_
  go_simp
  refine JM.mono ?_
  rintro e y9 ⟨rfl,c',v',hY⟩
  have HY:=Hq hY
  clear hY JM
  refine ad ?_
  go_simp
  go_wp2_with fail
  go_ret
  have hG:=ah HG
  subst hG
  exact⟨rfl,A8,G8,c',v',HY⟩
theorem ajl (dst:Int) (key:ByteArray) (a:Int) (E:Nat->Addr) (hok:dR n=true) (hkey:keyOk key.data.toList=true) (ha1:1<=a) (ha2:a<=1000000000) (hL:L.length<=2097100) (h:WK w0 w wb n A G c v L) (he:gY w0 E):
 Calls prog 221 #[.pointer (some ⟨wb,0,none⟩),.int .i64 dst,.string key,.int .i64 a] w λe w'=>e= .returned (.bool (eY n dst key a).2.2)/\∃A' G' c' v',WK w0 w' wb (eY n dst key a).1 A' G' c' v' (L++(eY n dst key a).2.1):=by
 obtain⟨_,_,_,hnx,ho,_⟩:=bE hok;have hnx1:1<=n.next/\n.next<=1000000000:=by simpa [fH] using hnx
 have hol:=(sZ ho).2.1
 have hgn:(n.out.length=40\/n.next=1000000000)->eY n dst key a=(n,[],false):=λhx=>by
  unfold eY QG
  rw [aEX (by rw [aEN (λhy=>Aaa)];simp)]
 by_cases h40:n.out.length=40
 .rw [hgn (.inl h40)];refine(Ve w0 w wb n A G c v L dst key a h40 h).mono ?_;exact ai2
 .by_cases hl:n.next=1000000000
  .rw [hgn (.inr hl)];refine(Vf w0 w wb n A G c v L dst key a Aaa hl h).mono ?_;exact ai2
  .exact Vg w0 w wb n A G c v L dst key a E hok hkey ha1 ha2 hL Aaa Aaa h he
theorem ac3 (n:Nd) (A:bq) (x:Int) (w:World) (hp:eu n=true) (hl:n.kids.length<=1048600) (ha:bY w A n):
 Calls prog 189 #[gM n A,.int .i64 x] w (dM w (.bool (dV n x))):=by
 have h:=P6 n A x w hl ha.k;rw [near_same hp] at h;exact h
def EY (n:Nd) (o:gJ):Nd×List Mg×Int:=if n.par= -1 then(n,[],1) else((eY n n.par o.k o.n).1,(eY n n.par o.k o.n).2.1,if (eY n n.par o.k o.n).2.2=true then 0 else 1)
theorem alD (o:gJ) (E:Nat->Addr) (hok:dR n=true) (hkey:keyOk o.k.data.toList=true) (ha1:1<=o.n) (ha2:o.n<=1000000000) (hL:L.length<=2097100) (h:WK w0 w wb n A G c v L) (he:gY w0 E):
 Calls prog 203 #[.pointer (some ⟨wb,0,none⟩),jP o] w λe w'=>e= .returned (.int .i64 (EY n o).2.2)/\∃A' G' c' v',WK w0 w' wb (EY n o).1 A' G' c' v' (L++(EY n o).2.1):=by
 have Iq:=Hq (λW c v (hW:WK w0 W wb n A G c v L)=>ajl w0 W wb n A G c v L n.par o.k o.n E hok hkey ha1 ha2 hL hW he);have hwl:=ay h.blk;have hne:wb≠w.heap.size:=Aaa
 clear hok hkey ha1 ha2 he;by_cases hpar:n.par= -1
 .have hR:EY n o=(n,[],1):=aE7 hpar;rw [hR];open auf in exact aaM
 .have hR:EY n o=((eY n n.par o.k o.n).1,(eY n n.par o.k o.n).2.1,if (eY n n.par o.k o.n).2.2=true then 0 else 1):=aEX hpar;rw [hR];obtain⟨K,no,k,nn,⟨mK,mF,mT,mI,mL,mk,mN⟩⟩:=o;dsimp only at Iq ⊢;open aoK in exact XL
theorem adR (m:Mg) (hp:eu n=true) (hz:n.kids.length<=1048600) (h:WK w0 w wb n A G c v L):
 Calls prog 198 #[.pointer (some ⟨wb,0,none⟩),nZ m] w (dM w (.bool (decide (m.T=n.id)&&dV n m.F))):=by
 obtain⟨mK,mF,mT,mI,mL,mk,mN⟩:=m;have Sw:=Hq (λw1 (ha:bY w1 A n)=>ac3 n A mF w1 hp hz ha);dsimp only;generalize dV n mF=nb at *;open aug in exact aaN
theorem alN (o:gJ) (hz:eF n 1048576) (hL:L.length<=1048000) (h:WK w0 w wb n A G c v L):
 Calls prog 204 #[.pointer (some ⟨wb,0,none⟩),jP o] w λe w'=>e= .returned (.int .i64 0)/\∃c' v',WK w0 w' wb n A G c' v' (L++n.out.map (qE n)):=by
 have Iq:=Hq (λs W (ha:SentAt W A.o n.out)=>J8 n A s W (by have:=hz.o;omega) ha);have HSY:=Hq (λW c v (k:Nat) (hk:k<=n.out.length) m (hm:m.k.size<=1048600) (hW:WK w0 W wb n A G c v (L++(n.out.take k).map (qE n)))=>Xp w0 W wb n A G c v _ m hm (by have:=hz.o;rw [aER,aFL,aFf];omega) hW);have HKK:Hid (∀s∈n.out,(qE n s).k.size<=1048600):=λs hs=>aEP (hz.ok s hs) Aaa
 have hlo:=hz.o;open aue in exact aaM
abbrev rqv (q:Rq):Value:= .agg (gT q.no q.k q.n q.s)
theorem akv (q:Rq) (no:Int) (w:World) (h0:0<=q.no) (h1:q.no<=1000000000) (h2:0<=no) (h3:no<=1000000000):
 Calls prog 241 #[rqv q,.int .i64 no] w (dM w (.int .i64 (q.no - no))):=by
 obtain⟨qno,qk,qn,qs⟩:=q;dsimp only at h0 h1;go_in
 go_wp2_with fail;go_ret;exact⟨rfl,au w _⟩
theorem ax8 (a:Option Addr) (cap:Nat) (l:List Rq) (no:Int) (w:World) (hl:l.length<=1000) (ha:fT w a l) (hp:l.Pairwise (λs t=>s.no < t.no)) (hb:∀q∈l,0<=q.no/\q.no<=1000000000) (h0:0<=no) (h1:no<=1000000000):
 Calls prog 240 #[.slice a l.length cap,.int .i64 no,.func (.func 241) #[] #[]] w (dM w (.tuple #[.int .i64 (dW l no:Nat),.bool (oq l no)])):=by
 have HC:=Hq (λq w1 (hq:q∈l)=>akv q no w1 (hb q hq).1 (hb q hq).2 h0 h1);have HLO:=Hq (zm l no);have HHI:=Hq (zl (no:=no) hp);have HLE:=Hq (xM l no);have HF:=Hq (ou l no);have HA:=Hq ha;clear ha hp hb;generalize oq l no=RF at *;generalize dW l no=R at *;go_in
 go_wp2_with fail;go_loopw [9,10] (λi j wr=>∃p q:Nat,p<=R/\R<=q/\q<=l.length/\i= .int .i64 p/\j= .int .i64 q/\aH w wr) (λi j _=>(intOf j).toNat - (intOf i).toNat)
 case atStart=>exact⟨0,l.length,aE1 _,HLE,aEM _,rfl,rfl,aEY _ _⟩
 case round=>
  obtain⟨p,q,h2,h3,h4,rfl,rfl,hbw⟩:=hrel;have HB:=Hq hbw;clear hbw;by_cases hlt:p < q
  .have PE:(p:Int) < (q:Int):=Aaa
   go_upto_region 5 with fail;obtain⟨m,hm⟩:∃m:Nat,((p:Int)+q) / 2=m:=⟨(p+q) / 2,Aaa⟩;have hmp:p<=m:=Aaa
   have hmq:m < q:=Aaa
   rw [hm];clear hm PE;have hml:m < l.length:=Aaa
   obtain⟨g,off,e0,hg,q0,q1,q2,q3⟩:=fT.four (GR.At.below HA HB) m hml;have HCM:=Hq (λw1=>HC l[m] w1 (aE2 hml));have HLM:=Hq (HLO m hml);have HHM:=Hq (HHI m hml);subst e0;generalize l[m]=lm at *;obtain⟨ln,lk,lx,ls⟩:=lm;dsimp only at q0 q1 q2 q3 HCM HLM HHM;open awo in exact ahx
  .have hpq:p=R:=Aaa
   subst hpq;have hnlt:¬((p:Int) < (q:Int)):=Aaa
   by_cases hpl:p < l.length
   .have aCJ:(p:Int) < (l.length:Int):=Aaa
    obtain⟨g,off,e0,hg,q0,q1,q2,q3⟩:=fT.four (GR.At.below HA HB) p hpl;have HCM:=Hq (λw1=>HC l[p] w1 (aE2 hpl))
    have HFP:Hid (RF=decide (l[p].no=no)):=by
     show RF=_
     rw [aF2,ah HF,aFo];exact⟨fun⟨_,h⟩=>h,λh=>⟨hpl,h⟩⟩
    subst e0;clear HF HC HLO HHI;generalize l[p]=lm at *;obtain⟨ln,lk,lx,ls⟩:=lm;dsimp only at q0 q1 q2 q3 HCM HFP;open awn in exact ahx
   .have aCJ:¬((p:Int) < (l.length:Int)):=Aaa
    have HFP:Hid (RF=false):=by
     show RF=_
     rw [aGI];intro h;exact hpl (HF.1 h).1
    clear HF HC HLO HHI;go_wp2_with fail;go_ret2
    exact⟨by rw [ah HFP];rfl,HB⟩
theorem NK (no:Int) (hok:gX n=true) (h0:0<=no) (h1:no<=1000000000) (h:WK w0 w wb n A G c v L):
 Calls prog 216 #[.pointer (some ⟨wb,0,none⟩),.int .i64 no] w (dM w (.tuple #[.int .i64 (dW n.reqs no:Nat),.bool (oq n.reqs no)])):=by
 obtain⟨r1,r2,r3,r4,r5⟩:=iT hok;have HBS:=Hq (λw1 (ha:fT w1 A.r n.reqs)=>ax8 A.r A.cr n.reqs no w1 Aaa ha r1 (λq hq=>by have:=jY (r3 q hq);omega) h0 h1);have HA:=Hq h.no.at.r;obtain⟨c0,c1,c2,c3,c4,c5,c6,c7,c8,c9⟩:=jN h.blk;clear h r1 r3 hok;generalize oq n.reqs no=RF at *;generalize dW n.reqs no=R at *;go_in
 go_wp2_with fail;refine(HBS w HA).mono ?_;rintro e w1 ⟨rfl,hb1⟩;have HB:=Hq hb1;clear hb1;go_wp2_with fail;go_ret2
 exact⟨rfl,HB⟩
theorem nR {P:Program} (w:World) (dT sT ty elem:TypeId) (sz:Nat) (g o dLen dCap:Nat) (a:Addr) (sLen sCap:Nat) (cur:Array Value) (t:TypeId) (cs:List Value)
 (hu:P.underlying dT=some (.slice elem)) (hs:(P.info? elem).map (·.size)=some sz)
 (hg:w.heap[g]?=some (.cells cur t (0,0))) (hn:cs.length=Nat.min sLen dLen*sz)
 (hsrc:∀j v,cs[j]?=some v->w.cell? (a.add j)=some v) (hfit:o+cs.length<=cur.size) (h1:∀v∈cs,v.oneCell'=true):
 (Builtin.copy_ #[dT,sT] ty #[.slice (some ⟨g,o,none⟩) dLen dCap,.slice (some a) sLen sCap]).run P w=
  .ok (goInt (Nat.min sLen dLen)) (w.setRow g (cur.toList.take o++cs++cur.toList.drop (o+cs.length)).toArray):=by
 have hl:=run_loadCells_list (P:=P) w a cs hsrc;have hst:=run_storeCells_at P g o t cs 0 cur w hg (by simpa using hfit) h1;cases hq:P.info? elem with
 |none=>simp[hq] at hs
 |some i=>
  have hi:i.size=sz:=by simpa [hq] using hs
  rw [hn] at hl;simp[Builtin.copy_,run_underlying hu,Builtin.lenOf,Builtin.firstCells,sizeOf,typeInfo,hq,hi,hl,hst]
theorem Uf:(prog.info? 148).map (λi=>(i.zero,i.size,i.bytes))=some (some (.agg (gT 0 ByteArray.empty 0 0)),4,40):=Aab
theorem Nk:(prog.info? 148).map (·.size)=some 4:=Aab
def K8 (w:World) (B:Nat) (v:Value) (l:List Rq) (e:Ending) (w':World):Prop:=
 ∃a cp,e= .returned (.slice a l.length cp)/\w'.ownsRow B 148 4 (.slice a l.length cp) l.length (GR.flat aL l)/\w.grownBy w' v.ownBlock/\∀x,(Value.slice a l.length cp).ownBlock=some x->v.ownBlock=some x\/w.heap.size<=x
theorem Ug (B:Nat) (a:Option Addr) (cap:Nat) (l:List Rq) (q:Rq) (vb:Nat) (w:World) (hl:l.length<=1000) (hB:B<=w.heap.size) (ho:w.ownsRow B 148 4 (.slice a l.length cap) l.length (GR.flat aL l)) (hv:w.heap[vb]?=some (.cells (gT q.no q.k q.n q.s) 148 (0,0))):
 Calls prog 242 #[.slice a l.length cap,.int .i64 l.length,.slice (some ⟨vb,0,none⟩) 1 1] w (K8 w B (.slice a l.length cap) (l++[q])):=by
 obtain⟨i0,hi,hz0,hz1,hz2⟩:=aFm Uf;obtain⟨v',w',hr,h2,h3,h4⟩:=kK w B 37 37 148 i0 _ 4 40 underlying37 hi hz0 hz1 hz2 rfl Aae (.slice a l.length cap) l.length (GR.flat aL l) ho ⟨vb,0,none⟩ 1 1 (aL q) rfl (aFA hv) (xu q) Aaj Aaa hB;obtain⟨a2,c2,he,_⟩:=GR.own_at (enc:=aL) (sz:=4) (l:=l++[q]) aV (by rw [aER,jk];exact h2);rw [aER] at he;have he2:v'= .slice a2 (l.length+1) c2:=he;subst he2
 have hle:l.length<=cap\/(a=none/\l.length=0/\cap=0):=by
  rcases ho.2 with⟨hx,hy⟩|⟨g,cp,cur,hx,_,_,hc,_⟩
  .simp only[aFI] at hx;exact .inr ⟨hx.1,hy,hx.2.2⟩
  .simp only[aFI] at hx;exact .inl Aaa
 have hcap:l.length<=cap:=by rcases hle with h|h<;>omega
 have hcm:cap<=9223372036854775807:=by
  rcases ho.2 with⟨hx,hy⟩|⟨g,cp,cur,hx,_,_,_,hc,_⟩
  .simp only[aFI] at hx;omega
  .simp only[aFI] at hx;unfold maxLen at hc;omega
 have H:=Hq (show K8 w B (.slice a l.length cap) (l++[q]) (.returned (.slice a2 (l.length+1) c2)) w' from⟨a2,c2,by rw [aER];rfl,by rw [aER,jk];exact h2,h3,by rw [aER];exact h4⟩);have hq:((l.length:Int) == (l.length:Int))=true:=Aac
 clear h2 h3 h4 ho hv hi hz0 hz1 hz2 hle he;cases a with
 |none=>
  go_in
  go_wp2_with (at_builtin;refine Lib.wpList_append_run _ rfl _ _ _ _ rfl _ _ rfl rfl _ _ hr ?_)
  go_ret;exact H
 |some ad=>
  go_in
  go_wp2_with (at_builtin;refine Lib.wpList_append_run _ rfl _ _ _ _ rfl _ _ rfl rfl _ _ hr ?_)
  all_goals
   try go_wp2_with (at_builtin;refine Lib.wpList_append_run _ rfl _ _ _ _ rfl _ _ rfl rfl _ _ hr ?_)
   go_ret
   exact H
theorem gW (l:List Rq):(GR.flat aL l).length=l.length*4:=GR.flat_length aL 4 aV l
theorem sK (l:List Rq) (i:Nat) (hi:i<=l.length):(GR.flat aL l).take (i*4)=GR.flat aL (l.take i)/\(GR.flat aL l).drop (i*4)=GR.flat aL (l.drop i):=by
 have e:GR.flat aL l=GR.flat aL (l.take i)++GR.flat aL (l.drop i):=by rw [<-GR.flat_append,aFE]
 have hlen:(GR.flat aL (l.take i)).length=i*4:=by rw [gW,aFf,aFU hi]
 rw [e,<-hlen,aGC,List.drop_left];exact⟨rfl,rfl⟩
def tQ (cur:List Value) (l:List Rq) (i:Nat):List Value:=cur.take ((i+1)*4)++GR.flat aL (l.drop i)++cur.drop ((i+1)*4+(l.length - i)*4)
def Nh (cur:List Value) (l:List Rq) (i:Nat) (q:Rq):List Value:=(tQ cur l i).take (i*4)++aL q++(tQ cur l i).drop (i*4+4)
theorem QV (cur:List Value) (l:List Rq) (i:Nat) (hi:i < l.length) (hc:(l.length+1)*4<=cur.length):(tQ cur l i).length=cur.length:=by
 unfold tQ;exact aiJ
theorem adn (cur:List Value) (l:List Rq) (i:Nat) (q:Rq) (hi:i < l.length) (hc:(l.length+1)*4<=cur.length):(Nh cur l i q).length=cur.length:=by
 have h1:=QV cur l i hi hc;unfold Nh;exact aiQ
theorem Zj (cur:List Value) (l:List Rq) (i:Nat) (q:Rq) (hi:i < l.length) (hc:(l.length+1)*4<=cur.length) (ht:cur.take (l.length*4)=GR.flat aL l):(Nh cur l i q).take ((l.length+1)*4)=GR.flat aL (l.take i++q::l.drop i):=by
 have e1:(tQ cur l i).take (i*4)=GR.flat aL (l.take i):=by
  unfold tQ;rw [aFr,List.take_append_of_le_length Abk,aGB,aFU Aaa,<-(sK l i Aaa).1,<-ht,aGB,aFU Aaa]
 have hl1:(cur.take ((i+1)*4)).length=i*4+4:=Abk
 have e2:(tQ cur l i).drop (i*4+4)=GR.flat aL (l.drop i)++cur.drop ((i+1)*4+(l.length - i)*4):=by
  unfold tQ;rw [aFr,<-hl1,List.drop_left]
 have hd:(GR.flat aL (l.drop i)).length=(l.length - i)*4:=Abw
 have ht2:(GR.flat aL (l.take i)).length=i*4:=by rw [gW,aFf,aFU Aaa]
 unfold Nh;rw [e1,e2,GR.flat_append,GR.flat_cons,<-aFr];rw [show(l.length+1)*4=(GR.flat aL (l.take i)++aL q++GR.flat aL (l.drop i)).length by rw [aER,aER,hd,ht2];show _=_+4+_;omega,aGC];rw [aFr]
theorem ME (g cap i:Nat) (l:List Rq) (q:Rq) (vb:Nat) (w:World) (cur:Array Value) (hl:l.length<=1000) (hi:i < l.length) (hroom:l.length+1<=cap) (hcm:cap<=maxLen) (hvb:vb≠g) (hblk:w.heap[g]?=some (.cells cur 148 (0,0))) (hcs:cur.size=cap*4) (htake:cur.toList.take (l.length*4)=GR.flat aL l) (hv:w.heap[vb]?=some (.cells (gT q.no q.k q.n q.s) 148 (0,0))):
 Calls prog 242 #[.slice (some ⟨g,0,none⟩) l.length cap,.int .i64 i,.slice (some ⟨vb,0,none⟩) 1 1] w λe w'=>
  e= .returned (.slice (some ⟨g,0,none⟩) (l.length+1) cap)/\w'.heap[g]?=some (.cells (Nh cur.toList l i q).toArray 148 (0,0))/\w.grownBy w' (some g):=by
 have hcl:(l.length+1)*4<=cur.toList.length:=Acw
 have hdl:(GR.flat aL (l.drop i)).length=(l.length - i)*4:=Abw
 have hcp1:∀ty dl sl dc sc,dl=l.length - i->sl=l.length+1 - i->(Builtin.copy_ #[37,37] ty #[.slice (some ⟨g,(i+1)*4,none⟩) dl dc,.slice (some ⟨g,i*4,none⟩) sl sc]).run prog w.drew= .ok (goInt ((l.length - i:Nat):Int)) (w.drew.setRow g (tQ cur.toList l i).toArray):=λty dl sl dc sc e1 e2=>by
  subst e1 e2
  have h:=nR (P:=prog) w.drew 37 37 ty 148 4 g ((i+1)*4) (l.length - i) dc ⟨g,i*4,none⟩ (l.length+1 - i) sc cur 148 (GR.flat aL (l.drop i)) underlying37 Nk hblk (by rw [hdl];simp only[Nat.min_def];split<;>omega)
   (λj v hj=>by
    rw [aGH]
    have h1:(GR.flat aL l)[i*4+j]?=some v:=by rw [<-List.getElem?_drop,(sK l i Aaa).2];exact hj
    rw [<-htake,List.getElem?_take] at h1
    split at h1
    .have h2:w.drew.cell? ⟨g,i*4+j,none⟩=cur[i*4+j]?:=aEW w.drew g (i*4+j) cur 148 (0,0) hblk;rw [h2,<-Array.getElem?_toList];exact h1
    .cases h1)
   (by rw [hdl,hcs];omega) (λv hv=>nC _ v hv)
  rw [hdl,show Nat.min (l.length+1 - i) (l.length - i)=l.length - i by simp only[Nat.min_def];split<;>omega] at h
  exact h
 have hr1:=QV cur.toList l i hi hcl;have abY:cur.toList.length=cap*4:=Adj
 have akM:(w.drew.setRow g (tQ cur.toList l i).toArray).heap[g]?=some (.cells (tQ cur.toList l i).toArray 148 (0,0)):=setRow_heap w.drew g cur _ 148 _ hblk
 have hvr:∀j v,(aL q)[j]?=some v->(w.drew.setRow g (tQ cur.toList l i).toArray).cell? ⟨vb,0+j,none⟩=some v:=λj v hj=>by
  have h1:(w.drew.setRow g (tQ cur.toList l i).toArray).heap[vb]?=w.heap[vb]?:=setRow_other w.drew g vb _ hvb
  rw [aFq (w:=w) (a:=⟨vb,0+j,none⟩) h1,<-aGH]
  exact aFA hv j v hj
 have hcp2:∀ty dl dc,dl=l.length+1 - i->(Builtin.copy_ #[37,37] ty #[.slice (some ⟨g,i*4,none⟩) dl dc,.slice (some ⟨vb,0,none⟩) 1 1]).run prog (w.drew.setRow g (tQ cur.toList l i).toArray)= .ok (goInt 1) ((w.drew.setRow g (tQ cur.toList l i).toArray).setRow g (Nh cur.toList l i q).toArray):=λty dl dc e1=>by
  subst e1
  have h:=nR (P:=prog) (w.drew.setRow g (tQ cur.toList l i).toArray) 37 37 ty 148 4 g (i*4) (l.length+1 - i) dc ⟨vb,0,none⟩ 1 1 (tQ cur.toList l i).toArray 148 (aL q) underlying37 Nk akM (by show 4=_;simp only[Nat.min_def];split<;>omega)
   (λj v hj=>by rw [aGH];exact hvr j v hj)
   (by show i*4+4<=_;rw [aFH,hr1,abY];omega) (xu q)
  rw [show Nat.min 1 (l.length+1 - i)=1 by simp only[Nat.min_def];split<;>omega] at h
  exact h
 have hfin:=Hq (show((w.drew.setRow g (tQ cur.toList l i).toArray).setRow g (Nh cur.toList l i q).toArray).heap[g]?=some (.cells (Nh cur.toList l i q).toArray 148 (0,0))/\w.grownBy ((w.drew.setRow g (tQ cur.toList l i).toArray).setRow g (Nh cur.toList l i q).toArray) (some g) from
  ⟨setRow_heap _ g (tQ cur.toList l i).toArray _ 148 _ akM,⟨rfl,rfl,rfl,Aac,λk _ hk=>(setRow_other _ g k _ (λe=>hk Aap)).trans (setRow_other w.drew g k _ (λe=>hk Aap))⟩⟩)
 have hov:∀lb cb,(callFunc 275 #[.slice (some ⟨vb,0,none⟩) 1 1,.slice (some ⟨g,(i+1)*4,none⟩) lb cb]).run prog w= .ok (.value (.bool false)) w:=λlb cb=>by
  rw [aFC func275 Aab Aab Aab (e:=Extern.SlicesOverlaps.overlaps #[37,37] #[4]) Aab,
   Lib.run_overlaps_apart w 37 4 148 underlying37 4 (λw=>Aab) ⟨vb,0,none⟩ ⟨g,(i+1)*4,none⟩ 1 1 lb cb hvb 148 148 4 cur.size (by unfold World.shape?;rw [hv];rfl) (by unfold World.shape?;rw [hblk]) Aaa (aC hv 0) (aC hv 4)]
  rfl
 open ato in exact agS
end Go.Proofs.YtbolgdleijjgfaaGreatDoor
