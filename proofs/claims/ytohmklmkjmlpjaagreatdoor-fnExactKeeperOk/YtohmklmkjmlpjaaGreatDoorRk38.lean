/- Parts. -/
import Derived.Test.YtohmklmkjmlpjaaGreatDoorRk30
import Derived.Test.YtohmklmkjmlpjaaGreatDoorRk37
namespace Go.Proofs.YtohmklmkjmlpjaaGreatDoor
open Go.Proofs.Tryz
set_option maxHeartbeats 8000000
set_option maxRecDepth 100000
open Go.RowKit
open Mth
variable {w w':World} {g lo m1 m2 m3:Nat} {A:KA} {k:Kp} {t:TypeId} {st:Int} {lk rt:Bool}
abbrev hkG (k:Kp) (A:KA) (st:Int) (l r:Bool):Array Value:=#[.int .i64 k.node.id,.int .i64 k.node.par,.slice A.n.k k.node.kids.length A.n.ck,.int .i64 k.node.next,.slice A.n.p k.node.pu.length A.n.cp,.slice A.n.o k.node.out.length A.n.co,.slice A.n.s k.node.seen.length A.n.cs,.int .i64 k.node.old,.slice A.n.r k.node.reqs.length A.n.cr,.int .i32 st,.int .u32 0,.int .i64 k.base.id,.int .i64 k.base.par,.slice A.b.k k.base.kids.length A.b.ck,.int .i64 k.base.next,.slice A.b.p k.base.pu.length A.b.cp,.slice A.b.o k.base.out.length A.b.co,.slice A.b.s k.base.seen.length A.b.cs,.int .i64 k.base.old,.slice A.b.r k.base.reqs.length A.b.cr,.string k.log,.int .i64 k.safe,.slice A.wa k.wait.length A.wc,.slice A.aa k.asked.length A.ac,.bool l,.bool r]
structure KH (lo m1 m2 m3 g:Nat) (w:World) (A:KA) (k:Kp):Prop where
 n:∃G,rF w A.n G k.node/\(G.all k.node).Nodup/\∀x∈G.all k.node,lo<=x/\x < m1
 b:∃G,rF w A.b G k.base/\(G.all k.base).Nodup/\∀x∈G.all k.base,m1<=x/\x < m2
 wt:w.ownsRow m2 98 7 (.slice A.wa k.wait.length A.wc) k.wait.length (GR.flat iU k.wait)/\∀x,(Value.slice A.wa k.wait.length A.wc).ownBlock=some x->x < m3
 sk:w.ownsRow m3 120 12 (.slice A.aa k.asked.length A.ac) k.asked.length (GR.flat ig k.asked)/\∀x,(Value.slice A.aa k.asked.length A.ac).ownBlock=some x->x < g
 le:lo<=m1/\m1<=m2/\m2<=m3/\m3<=g/\g<=w.heap.size
theorem KH.keeps {F:List Nat} (h:KH lo m1 m2 m3 g w A k) (hk:aC F w w') (hF:∀x∈F,g<=x\/x < lo):KH lo m1 m2 m3 g w' A k:=by
 obtain⟨⟨G1,n1,d1,r1⟩,⟨G2,n2,d2,r2⟩,⟨hw,bw⟩,⟨ha,ba⟩,l1,l2,l3,l4,l5⟩:=h;have hs:=hk.size;refine⟨⟨G1,n1.keeps hk (λx hx hm=>?_),d1,r1⟩,⟨G2,n2.keeps hk (λx hx hm=>?_),d2,r2⟩,⟨jd hw (λx hx=>hk.block x (vK hw hx) (λhm=>?_)),bw⟩,⟨jd ha (λx hx=>hk.block x (vK ha hx) (λhm=>?_)),ba⟩,l1,l2,l3,l4,Aaa⟩
 .have:=r1 x hx;have:=hF x hm;omega
 .have:=r2 x hx;have:=hF x hm;omega
 .have:=bw x hx;have:=qb hw hx;have:=hF x hm;omega
 .have:=ba x hx;have:=qb ha hx;have:=hF x hm;omega
theorem KH.below (h:KH lo m1 m2 m3 g w A k) (hb:aI w w'):KH lo m1 m2 m3 g w' A k:=h.keeps (F:=[]) (aC.of_below hb) (λ_ hx=>Abu)
theorem KH.at (h:KH lo m1 m2 m3 g w A k):rA w A k:=by
 obtain⟨⟨_,n1,_⟩,⟨_,n2,_⟩,⟨hw,_⟩,⟨ha,_⟩,_⟩:=h;obtain⟨_,_,e1,h1⟩:=GR.own_at (enc:=iU) (sz:=7) dX hw;obtain⟨_,_,e2,h2⟩:=GR.own_at (enc:=ig) (sz:=12) dA ha;injection e1 with e1 _ _
 injection e2 with e2 _ _
 exact⟨n2.at,n1.at,by rw [e1];exact h1,by rw [e2];exact h2⟩
theorem JK {b:Nat} {cs:Array Value} {o:Nat} {vs:List Value} (h:w.heap[b]?=some (.cells cs t (0,0))) (hv:∀j v,vs[j]?=some v->cs[o+j]?=some v):w.rangeAt b o vs:=λj v hj=>by
 rw [cell_of_row w b (o+j) _ t (0,0) h];exact hv j v hj
theorem TW {j:Nat} (h:j < 9):j=0\/j=1\/j=2\/j=3\/j=4\/j=5\/j=6\/j=7\/j=8:=Aaa
theorem P6 (h:w.heap[g]?=some (.cells (Nr k A).toArray t (0,0))):w.rangeAt g 0 (dH k.base A.b).toList/\w.rangeAt g 9 (dH k.node A.n).toList:=by
 refine⟨JK h (λj v hj=>?_),JK h (λj v hj=>?_)⟩
 .have hj9:j < 9:=(List.getElem?_eq_some_iff.1 hj).1;rcases TW hj9 with rfl|rfl|rfl|rfl|rfl|rfl|rfl|rfl|rfl<;>exact hj
 .have hj9:j < 9:=(List.getElem?_eq_some_iff.1 hj).1;rcases TW hj9 with rfl|rfl|rfl|rfl|rfl|rfl|rfl|rfl|rfl<;>exact hj
theorem acd (k:Kp) (A:KA) (w:World) (hz:xO k 1048576) (ha:rA w A k):
 Calls prog 25 #[Zr k A] w λe w'=>∃A' m1 m2 m3 g,e= .returned (.pointer (some ⟨g,0,none⟩))/\w'.heap[g]?=some (.cells (hkG k A' 0 false false) 132 (0,0))/\KH w.heap.size m1 m2 m3 g w' A' k/\aI w w':=by
 have Gl:=Hq (λW (h:aI w W)=>tV k.base A.b W hz.b (ha.below h).kb);have Rz:=Hq (λW (h:aI w W)=>tV k.node A.n W hz.n (ha.below h).kn);have HCW:=Hq (λW (h:aI w W)=>Ld A.wa A.wc k.wait W hz.w hz.wk (ha.below h).kw);have HCA:=Hq (λW (h:aI w W)=>Di A.aa A.ac k.asked W hz.a hz.ak (ha.below h).ka);have hlg:=hz.l;clear hz ha;go_in
 go_upto_region 1 with fail;refine wp_at (λW0 hW=>?_);have e1:W0.heap[w.heap.size]?=some (.cells (Nr k A).toArray 44 (0,0)):=by rw [hW];exact heap_alloc_new w _
 have e2:aI w W0:=by rw [hW];exact ay _ _
 have HK:=Hq e1;have HB0:=Hq e2;have hl0:=aA e1;clear hW e1 e2;refine dz Aab ?_;show gT _ _ _ _ 20 (Array.replicate 20 false) _ _
 have y18:=cell_regrown (show W0.cell? ⟨w.heap.size,18,none⟩=some (.string k.log) from cell_of_row W0 w.heap.size 18 _ 44 (0,0) HK);have y19:=cell_regrown (show W0.cell? ⟨w.heap.size,19,none⟩=some (.int .i64 k.safe) from cell_of_row W0 w.heap.size 19 _ 44 (0,0) HK);have y20:=cell_regrown (show W0.cell? ⟨w.heap.size,20,none⟩=some (.slice A.wa k.wait.length A.wc) from cell_of_row W0 w.heap.size 20 _ 44 (0,0) HK);have y21:=cell_regrown (show W0.cell? ⟨w.heap.size,21,none⟩=some (.slice A.aa k.asked.length A.ac) from cell_of_row W0 w.heap.size 21 _ 44 (0,0) HK);obtain⟨hr0,hr1⟩:=P6 HK;refine aP 0 rfl Aab Aab Aab (λ_ _ _ _ h=>h) (λK hK=>?_);go_simp
 first
  |(refine hK _ ?_;clear hK K)
  |(apply Exists.intro
    refine⟨λ_=>?_,hK _ ?_⟩
    (rfl)
    clear hK K)
 refine lH 1 rfl Aab Aab Aab (λ_ _ _ _ h=>h) Aad 40 _ rfl w.heap.size 9 rfl (dH k.node A.n).toList _ hr1 hl0 underlying40 rfl Aab ?_;refine aP 3 rfl Aab Aab Aab (λ_ _ _ _ h=>h) (λK hK=>?_);go_simp
 first
  |(refine hK _ ?_;clear hK K)
  |(apply Exists.intro
    refine⟨λ_=>?_,hK _ ?_⟩
    (rfl)
    clear hK K)
 refine lH 4 rfl Aab Aab Aab (λ_ _ _ _ h=>h) Aad 40 _ rfl w.heap.size 0 rfl (dH k.base A.b).toList _ hr0 hl0 underlying40 rfl Aab ?_;refine aP 6 rfl Aab Aab Aab (λ_ _ _ _ h=>h) (λK hK=>?_);go_simp
 first
  |(refine hK _ ?_;clear hK K)
  |(apply Exists.intro
    refine⟨λ_=>?_,hK _ ?_⟩
    (rfl)
    clear hK K)
 refine aP 7 rfl Aab Aab Aab (λ_ _ _ _ h=>h) (λK hK=>?_);go_simp
 first
  |(refine hK _ ?_;clear hK K)
  |(apply Exists.intro
    refine⟨λ_=>?_,hK _ ?_⟩
    (rfl)
    clear hK K)
 refine aP 9 rfl Aab Aab Aab (λ_ _ _ _ h=>h) (λK hK=>?_);go_simp
 first
  |(refine hK _ ?_;clear hK K)
  |(apply Exists.intro
    refine⟨λ_=>?_,hK _ ?_⟩
    (rfl)
    clear hK K)
 refine aP 10 rfl Aab Aab Aab (λ_ _ _ _ h=>h) (λK hK=>?_);go_simp
 first
  |(refine hK _ ?_;clear hK K)
  |(apply Exists.intro
    refine⟨λ_=>?_,hK _ ?_⟩
    (rfl)
    clear hK K)
 refine aP 11 rfl Aab Aab Aab (λ_ _ _ _ h=>h) (λK hK=>?_);go_simp
 first
  |(refine hK _ ?_;clear hK K)
  |(apply Exists.intro
    refine⟨λ_=>?_,hK _ ?_⟩
    (rfl)
    clear hK K)
 refine aP 12 rfl Aab Aab Aab (λ_ _ _ _ h=>h) (λK hK=>?_);go_simp
 first
  |(refine hK _ ?_;clear hK K)
  |(apply Exists.intro
    refine⟨λ_=>?_,hK _ ?_⟩
    (rfl)
    clear hK K)
 refine aP 14 rfl Aab Aab Aab (λ_ _ _ _ h=>h) (λK hK=>?_);go_simp
 first
  |(refine hK _ ?_;clear hK K)
  |(apply Exists.intro
    refine⟨λ_=>?_,hK _ ?_⟩
    (rfl)
    clear hK K)
 refine aP 15 rfl Aab Aab Aab (λ_ _ _ _ h=>h) (λK hK=>?_);go_simp
 first
  |(refine hK _ ?_;clear hK K)
  |(apply Exists.intro
    refine⟨λ_=>?_,hK _ ?_⟩
    (rfl)
    clear hK K)
 clear y18 y19 y20 y21 HK hl0 hr0 hr1;refine fT 2 rfl Aab Aad (λx2 hx2=>?_);go_simp;have g2:aI w x2:=Ge.trans HB0 hx2;refine(Rz x2 g2).mono ?_;rintro e z2 ⟨A1,G1,cc1,rfl,hN1,hy2⟩;refine⟨hy2,?_⟩;have HG2:=Hq (show aI w z2 from Ge.trans g2 hy2);obtain⟨H1,hN,hS,_⟩:=hN1.full;have yO:=Hq hN;have HD1:=Hq hS.nodup;have HR1:=Hq (show∀x∈H1.all k.node,w.heap.size<=x/\x < z2.heap.size from λx hx=>by have:=hS.rng x hx;have:=g2.size;omega);clear hN1 hN hS hx2 hy2 g2 HB0 Rz;refine fT 5 rfl Aab Aad (λx5 hx5=>?_);go_simp;have g5:aI w x5:=Ge.trans HG2 hx5;refine(Gl x5 g5).mono ?_;rintro e z5 ⟨A2,G2,OO,rfl,Te,hy5⟩;refine⟨hy5,?_⟩;have vX:=Hq (show aI w z5 from Ge.trans g5 hy5);obtain⟨H2,hN,hS,_⟩:=Te.full;have Ke:=Hq hN;have HD2:=Hq hS.nodup;have HR2:=Hq (show∀x∈H2.all k.base,z2.heap.size<=x/\x < z5.heap.size from λx hx=>by have:=hS.rng x hx;have:=hx5.size;omega);have HL2:=Hq (show w.heap.size<=z2.heap.size from HG2.size);have HU2:=Hq (show aI z2 z5 from Ge.trans hx5 hy5);clear Te hN hS hx5 hy5 g5 HG2 Gl;refine fT 8 rfl Aab Aad (λx8 hx8=>?_);go_simp;refine(clone k.log _ Aaa).mono ?_;rintro e z8 ⟨rfl,hy8⟩;refine⟨hy8,?_⟩;have HG8:=Hq (show aI w z8 from Ge.trans (Ge.trans vX hx8) hy8);have HU8:=Hq (show aI z5 z8 from Ge.trans hx8 hy8);clear hx8 hy8 vX;refine fT 13 rfl Aab Aad (λx13 Pm=>?_);go_simp;have g13:aI w x13:=Ge.trans HG8 Pm;refine(HCW x13 g13).mono ?_;rintro e z13 ⟨v,rfl,hwt,Pn⟩;refine⟨Pn,?_⟩;have amM:=Hq (show aI w z13 from Ge.trans g13 Pn);obtain⟨wa,wc,rfl,_⟩:=GR.own_at (enc:=iU) (sz:=7) dX hwt;have HWT:=Hq (kS (B':=z5.heap.size) hwt (show z5.heap.size<=x13.heap.size from(Ge.trans HU8 Pm).size));have HWL:=Hq (λx hx=>vK hwt (x:=x) hx);have am3:=Hq (show aI z5 z13 from Ge.trans (Ge.trans HU8 Pm) Pn);clear hwt Pm Pn g13 HG8 HU8 HCW;refine fT 16 rfl Aab Aad (λx16 hx16=>?_);go_simp;have g16:aI w x16:=Ge.trans amM hx16;refine(HCA x16 g16).mono ?_;rintro e z16 ⟨v,rfl,hat,afa⟩;refine⟨afa,?_⟩;have aDw:=Hq (show aI w z16 from Ge.trans g16 afa);obtain⟨aa,ac,rfl,_⟩:=GR.own_at (enc:=ig) (sz:=12) dA hat;have HAT:=Hq (kS (B':=z13.heap.size) hat (show z13.heap.size<=x16.heap.size from hx16.size));have HAL:=Hq (λx hx=>vK hat (x:=x) hx);have am4:=Hq (show aI z13 z16 from Ge.trans hx16 afa);clear hat hx16 afa g16 amM HCA;refine aP 17 rfl Aab Aab Aab (λ_ _ _ _ h=>h) (λK hK=>?_);go_simp
 first
  |(refine hK _ ?_;clear hK K)
  |(apply Exists.intro
    refine⟨λ_=>?_,hK _ ?_⟩
    (rfl)
    clear hK K)
 refine fT 18 rfl Aab Aad (λx18 XI=>?_);go_simp;refine⟨ay _ _,?_⟩;have ana:=Hq (show aI z16 x18 from XI);clear XI;refine fT 19 rfl Aab Aad (λx19 aCM=>?_);go_simp;refine⟨Below.refl _ _,?_⟩;refine fu Aab (λz hz=>?_);have HZ:=Hq (show Below (x18.alloc (.cells (hkG k ⟨A2,A1,wa,wc,aa,ac⟩ 0 false false) 132)).heap.size (x18.alloc (.cells (hkG k ⟨A2,A1,wa,wc,aa,ac⟩ 0 false false) 132)) z from Ge.trans aCM hz);clear aCM hz;go_wp2_with fail;have u16:aI z16 z:=Ge.trans ana (Ge.trans (ay x18 _) HZ);have u13:aI z13 z:=Ge.trans am4 u16;have u5:aI z5 z:=Ge.trans am3 u13;have u2:aI z2 z:=Ge.trans HU2 u5;have s1:=(ah HL2);have s2:=HU2.size;have s3:=am3.size;have s4:=am4.size;have s5:=ana.size;have hg:=au (heap_alloc_new x18 (.cells (hkG k ⟨A2,A1,wa,wc,aa,ac⟩ 0 false false) 132)) HZ;have hgl:=aA hg
 exact bodyPost_ret (v:= .pointer (some ⟨x18.heap.size,0,none⟩)) (by simp[results,results25,go_sem]) rfl ⟨⟨A2,A1,wa,wc,aa,ac⟩,z2.heap.size,z5.heap.size,z13.heap.size,x18.heap.size,rfl,hg,
  ⟨⟨H1,yO.below u2,HD1,HR1⟩,⟨H2,Ke.below u5,HD2,HR2⟩,⟨GR.own_below HWT u13,λx hx=>HWL x hx⟩,⟨GR.own_below HAT u16,λx hx=>Nat.lt_of_lt_of_le (HAL x hx) s5⟩,s1,s2,s3,Nat.le_trans s4 s5,Nat.le_of_lt hgl⟩,Ge.trans aDw u16⟩
theorem dQ (h:w.heap[g]?=some (.cells (hkG k A st lk rt) t (0,0))) (i:Nat):w.cell? ⟨g,i,none⟩=(hkG k A st lk rt)[i]?:=cell_of_row w g i _ t (0,0) h
theorem XB (h:w.heap[g]?=some (.cells (hkG k A st lk rt) t (0,0))):w.rangeAt g 0 (dH k.node A.n).toList/\w.rangeAt g 11 (dH k.base A.b).toList:=by
 refine⟨JK h (λj v hj=>?_),JK h (λj v hj=>?_)⟩
 .have hj9:j < 9:=(List.getElem?_eq_some_iff.1 hj).1;rcases TW hj9 with rfl|rfl|rfl|rfl|rfl|rfl|rfl|rfl|rfl<;>exact hj
 .have hj9:j < 9:=(List.getElem?_eq_some_iff.1 hj).1;rcases TW hj9 with rfl|rfl|rfl|rfl|rfl|rfl|rfl|rfl|rfl<;>exact hj
abbrev hkB (w:World) (g:Nat) (k:Kp) (A:KA) (st:Int) (lk rt:Bool):Prop:=w.heap[g]?=some (.cells (hkG k A st lk rt) 132 (0,0))
theorem hkB.lock (h:hkB w g k A st lk rt) (st':Int):hkB (w.setCell ⟨g,9,none⟩ (.int .i32 st')) g k A st' lk rt:=aR h 9 _
theorem zi {w0:World} {B:Nat} (h:Below B w0 w) (hk:aC [g] w w') (hg:B<=g) (hB:B<=w.heap.size):Below B w0 w':=
 h.trans (hk.below (λx hx=>by rw [List.mem_singleton.1 hx];exact hg) hB)
end Go.Proofs.YtohmklmkjmlpjaaGreatDoor
