/- Parts. -/
import Derived.Test.YtfmdndhliinhpaaGreatDoorRa26
namespace Go.Proofs.YtfmdndhliinhpaaGreatDoor
set_option maxHeartbeats 8000000
set_option maxRecDepth 100000
open Go.RowKit
open Mth
theorem lZ {P:Program} {ops:Array Oper} {Q:Exit→Act→World→Prop} {md:Region.Mode} (i j:Nat) {oi oj:Oper} {fuel:Nat} {listed:Array Bool} {a:Act} {w:World} (hi:ops[i]?=some oi) (hj:ops[j]?=some oj) (hr:Region.ready md ops listed=[i,j]) (hwi:Region.wanted oi (yielded ops a.tmps)=true) (hwj:Region.wanted oj (yielded ops a.tmps)=true)
 (h1:oi.wp P a w (wpAny P md ops Q fuel (listed.setIfInBounds i true)) Q) (h2:oj.wp P a w (wpAny P md ops Q fuel (listed.setIfInBounds j true)) Q):wpAny P md ops Q (fuel+1) listed a w:=by
 refine⟨fun h=>(by rw [hr] at h;cases h),fun k hk=>?_⟩
 rw [hr] at hk
 have hk':k=i∨k=j:=by simpa using hk
 rcases hk' with rfl|rfl
 ·unfold wpOp
  simp only[hi]
  rw [if_pos hwi]
  exact .inl h1
 ·unfold wpOp
  simp only[hj]
  rw [if_pos hwj]
  exact .inl h2
def ER (w:World) (R:Nd×List Mg×Int) (e:Ending) (w':World):Prop:=∃A' G' c' v',e= .returned (.tuple #[fU R.1 A',v',.int .i64 R.2.2])∧NO w' w.heap.size R.1 A' G' c'∧w'.ownsRow w.heap.size 32 7 v' R.2.1.length (GR.flat je R.2.1)∧(∀x,v'.ownBlock=some x→c' x=7)∧Below w.heap.size w w'
theorem WK.start {w0 y W:World} {wb:Nat} {n:Nd} {A:bQ} {G:aX} {c:Nat→Nat} (hb:Below w0.heap.size w0 y) (hN:NO y w0.heap.size n A G c) (hs:y.heap.size≤wb) (hY:Below y.heap.size y W) (hblk:W.heap[wb]?=some (.cells (Ll n A (.slice none 0 0)) 50 (0,0))):WK w0 W wb n A G (newC y.heap.size 8 c) (.slice none 0 0) []:=by
 have h1:=(hN.recol (c':=newC y.heap.size 8 c) hb.size (fun x hx=>dR hx)).kc (k:=9) (KC.of_below hY) (by omega)
 exact⟨hb.trans (hY.mono hb.size),hblk,h1,World.ownsRow_nil _ _ _ _,(fun x hx=>by cases hx),aW hs⟩
theorem Bw (n:Nd) (A:bQ) (o:iK) (w:World) (hz:eF n 1048576) (hok:dJ n=false) (ha:dQ w A n):
 Calls Tryz.prog 7 #[fU n A,jY o] w (ER w (lK n o)):=by
 rw [Ak hok]
 unfold ER
 have Ls:=hide (fun W (h:Below w.heap.size w W)=>FV n A W hz (ha.below h))
 have mg:=hide (fun W (h:Below w.heap.size w W)=>MF n A W (hz.mono (by omega)) (ha.below h))
 rw [hok] at mg
 clear hz hok ha
 obtain⟨K,no,k,nn,⟨mK,mF,mT,mI,mL,mk,mN⟩⟩:=o
 first|dsimp only at * |skip
 go_enter Tryz.func7,Tryz.ntmps7
 go_upto_region 1 with fail
 refine wp_at (fun W0 hW=>?_)
 obtain⟨e1,e2,e3,e4⟩:=fJ w (.cells (fO n A) 30) (.cells #[.int .i64 K,.int .i64 no,.string k,.int .i64 nn,.int .i64 mK,.int .i64 mF,.int .i64 mT,.int .i64 mI,.int .i64 mL,.string mk,.int .i64 mN] 34) (.cells iV 30)
 rw [←hW] at e1 e2 e3 e4
 have HN:=hide e1
 have HO:=hide e2
 have HR:=hide e3
 have HB:=hide e4
 clear hW e1 e2 e3 e4
 obtain⟨c0,c1,c2,c3,c4,c5,c6,c7,c8⟩:=nine (ah HN)
 have hl0:=aA (ah HR)
 go_wp2_with fail
 refine(ah Ls W0 (ah HB)).mono ?_
 rintro e y ⟨A1,G1,cc1,rfl,Rj,hby⟩
 have l7:=hide Rj
 have NC:=hide hby
 clear Rj hby c0 c1 c2 c3 c4 c5 c6 c7 c8 Ls
 go_upto_region 2 with fail
 refine wp_at (fun W hW=>?_)
 have e5:W.heap[y.heap.size]?=some (.cells (Ll n A1 (.slice none 0 0)) 50 (0,0)):=by rw [hW];exact heap_alloc_new _ _
 have e6:Below y.heap.size y W:=by rw [hW];exact ay _ _
 have HW:=hide (WK.start (ah NC) (ah l7) (Nat.le_refl y.heap.size) e6 e5)
 have WG:=hide (au (ah HN) ((ah NC).trans (e6.mono (ah NC).size)))
 clear hW e5 e6 l7 HN
 generalize newC y.heap.size 8 cc1=Jb at *
 have hyl:=aA (ah HW).blk
 generalize y.heap.size=wb at *
 obtain⟨c0,c1,c2,c3,c4,c5,c6,c7,c8⟩:=nine (ah WG)
 have hnl:=aA (ah WG)
 go_wp2_with fail
 refine(ah mg W ((ah HB).trans ((ah HW).keep.mono (ah HB).size))).mono ?_
 rintro e W2 ⟨rfl,hb2⟩
 have HW2:=hide ((ah HW).step hb2)
 clear hb2 c0 c1 c2 c3 c4 c5 c6 c7 c8 mg WG hyl hnl HW
 have HR2:=hide (au (ah HR) (ah HW2).keep)
 obtain⟨c0,c1,c2,c3,c4,c5,c6,c7,c8,c9⟩:=iI (ah HW2).blk
 obtain⟨d0,d1,d2,d3,d4,d5,d6,d7,d8⟩:=nine (ah HR2)
 have f0:=aj (ah HR2) 0
 have f1:=aj (ah HR2) 1
 have f2:=aj (ah HR2) 2
 have f3:=aj (ah HR2) 3
 have f4:=aj (ah HR2) 4
 have f5:=aj (ah HR2) 5
 have f6:=aj (ah HR2) 6
 have f7:=aj (ah HR2) 7
 have f8:=aj (ah HR2) 8
 have hwl:=aA (ah HW2).blk
 have hrl:=aA (ah HR2)
 go_wp2_with fail
 refine aR (fun W' hW'=>?_)
 have e4:W'.heap[w.heap.size+2]?=some (.cells #[.int .i64 n.id,.int .i64 n.par,.slice A1.k n.kids.length A1.ck,.int .i64 n.next,.slice A1.p n.pu.length A1.cp,.slice A1.o n.out.length A1.co,.slice A1.s n.seen.length A1.cs,.int .i64 n.old,.slice A1.r n.reqs.length A1.cr] 30 (0,0)):=by
  rw [hW']
  exact GR.setW_blk [.int .i64 n.id,.int .i64 n.par,.slice A1.k n.kids.length A1.ck,.int .i64 n.next,.slice A1.p n.pu.length A1.cp,.slice A1.o n.out.length A1.co,.slice A1.s n.seen.length A1.cs,.int .i64 n.old,.slice A1.r n.reqs.length A1.cr] (o:=0) (xs:=[.int .i64 0,.int .i64 0,.slice none 0 0,.int .i64 0,.slice none 0 0,.slice none 0 0,.slice none 0 0,.int .i64 0,.slice none 0 0]) (ah HR2)
 have hkc:KC Jb 0 W2 W':=by
  rw [hW']
  exact KC.setW (o:=0) [.int .i64 n.id,.int .i64 n.par,.slice A1.k n.kids.length A1.ck,.int .i64 n.next,.slice A1.p n.pu.length A1.cp,.slice A1.o n.out.length A1.co,.slice A1.s n.seen.length A1.cs,.int .i64 n.old,.slice A1.r n.reqs.length A1.cr] ((ah HW2).no.lo _ (by omega))
 have Pm:=hide (((ah HW2).no.kc0 hkc).base (ah HB).size)
 have HMF:=hide (iQ (hkc.own (ah HW2).m (ah HW2).cm (by omega)) (ah HB).size)
 have zH:=hide (ah HW2).cm
 have lH:Hid (Below w.heap.size w W'):=by
  rw [hW']
  exact GR.setW_below (by omega) [.int .i64 n.id,.int .i64 n.par,.slice A1.k n.kids.length A1.ck,.int .i64 n.next,.slice A1.p n.pu.length A1.cp,.slice A1.o n.out.length A1.co,.slice A1.s n.seen.length A1.cs,.int .i64 n.old,.slice A1.r n.reqs.length A1.cr] (o:=0) ((ah HB).trans ((ah HW2).keep.mono (ah HB).size))
 obtain⟨d0,d1,d2,d3,d4,d5,d6,d7,d8⟩:=nine e4
 clear hW' e4 hkc
 exact bodyPost_ret (v:= .tuple #[.agg #[.int .i64 n.id,.int .i64 n.par,.slice A1.k n.kids.length A1.ck,.int .i64 n.next,.slice A1.p n.pu.length A1.cp,.slice A1.o n.out.length A1.co,.slice A1.s n.seen.length A1.cs,.int .i64 n.old,.slice A1.r n.reqs.length A1.cr],(.slice none 0 0),.int .i64 3]) (by simp[results,Tryz.results7,go_sem,d0,d1,d2,d3,d4,d5,d6,d7,d8]) rfl ⟨A1,G1,Jb,(.slice none 0 0),rfl,ah Pm,ah HMF,ah zH,ah lH⟩
theorem CX (n:Nd) (A:bQ) (o:iK) (E:Nat→Addr) (w:World) (hz:eF n 1048576) (hk:o.k.size≤1048576) (hmk:o.m.k.size≤1048576) (hok:dJ n=true) (ha:dQ w A n) (he:iw w E):
 Calls Tryz.prog 7 #[fU n A,jY o] w (ER w (lK n o)):=by
 rw [rW hok]
 unfold ER
 have Ls:=hide (fun W (h:Below w.heap.size w W)=>FV n A W hz (ha.below h))
 have mg:=hide (fun W (h:Below w.heap.size w W)=>MF n A W (hz.mono (by omega)) (ha.below h))
 rw [hok] at mg
 have HE:=hide he
 have HDO:=hide (fun W w0 wb A G c v (hW:WK w0 W wb n A G c v []) (he:iw w0 E)=>avy w0 W wb n A G c v [] o E hz hok hk hmk (by simp) hW he)
 clear hz hok ha hk hmk he
 generalize jJ n o=RR at *
 obtain⟨K,no,k,nn,⟨mK,mF,mT,mI,mL,mk,mN⟩⟩:=o
 first|dsimp only at * |skip
 go_enter Tryz.func7,Tryz.ntmps7
 go_upto_region 1 with fail
 refine wp_at (fun W0 hW=>?_)
 obtain⟨e1,e2,e3,e4⟩:=fJ w (.cells (fO n A) 30) (.cells #[.int .i64 K,.int .i64 no,.string k,.int .i64 nn,.int .i64 mK,.int .i64 mF,.int .i64 mT,.int .i64 mI,.int .i64 mL,.string mk,.int .i64 mN] 34) (.cells iV 30)
 rw [←hW] at e1 e2 e3 e4
 have HN:=hide e1
 have HO:=hide e2
 have HR:=hide e3
 have HB:=hide e4
 clear hW e1 e2 e3 e4
 obtain⟨c0,c1,c2,c3,c4,c5,c6,c7,c8⟩:=nine (ah HN)
 have hl0:=aA (ah HR)
 go_wp2_with fail
 refine(ah Ls W0 (ah HB)).mono ?_
 rintro e y ⟨A1,G1,cc1,rfl,Rj,hby⟩
 have l7:=hide Rj
 have NC:=hide hby
 clear Rj hby c0 c1 c2 c3 c4 c5 c6 c7 c8 Ls
 go_upto_region 2 with fail
 refine wp_at (fun W hW=>?_)
 have e5:W.heap[y.heap.size]?=some (.cells (Ll n A1 (.slice none 0 0)) 50 (0,0)):=by rw [hW];exact heap_alloc_new _ _
 have e6:Below y.heap.size y W:=by rw [hW];exact ay _ _
 have HW:=hide (WK.start (ah NC) (ah l7) (Nat.le_refl y.heap.size) e6 e5)
 have WG:=hide (au (ah HN) ((ah NC).trans (e6.mono (ah NC).size)))
 clear hW e5 e6 l7 HN
 generalize newC y.heap.size 8 cc1=Jb at *
 have hyl:=aA (ah HW).blk
 generalize y.heap.size=wb at *
 obtain⟨c0,c1,c2,c3,c4,c5,c6,c7,c8⟩:=nine (ah WG)
 have hnl:=aA (ah WG)
 go_wp2_with fail
 refine(ah mg W ((ah HB).trans ((ah HW).keep.mono (ah HB).size))).mono ?_
 rintro e W2 ⟨rfl,hb2⟩
 have HW2:=hide ((ah HW).step hb2)
 clear hb2 c0 c1 c2 c3 c4 c5 c6 c7 c8 mg WG hyl hnl HW
 have ae1:=hide (ah HDO W2 W0 wb A1 G1 Jb _ (ah HW2) ((ah HE).below (ah HB)))
 have Zr:=hide (au (ah HO) (ah HW2).keep)
 obtain⟨⟨p0,p1,p2,p3,p4,p5,p6,p7,p8,p9,mZ⟩,_⟩:=bX (ah Zr)
 have hol:=aA (ah Zr)
 go_wp2_with fail
 refine(ah ae1).mono ?_
 rintro e W3 ⟨rfl,A2,G2,cc3,v3,hW3⟩
 have HW3:=hide hW3
 clear hW3 HDO ae1 p0 p1 p2 p3 p4 p5 p6 p7 p8 p9 mZ hol HW2 Zr
 obtain⟨a3,cp3,hv3⟩:∃a cp,v3= .slice a RR.2.1.length cp:=by
  obtain⟨a,cp,he,_⟩:=GR.own_at (enc:=je) (sz:=7) mG (ah HW3).m
  exact⟨a,cp,he⟩
 subst hv3
 rw [List.nil_append] at HW3
 obtain⟨n3,L3,Uo⟩:=RR
 first|dsimp only at * |skip
 obtain⟨c0,c1,c2,c3,c4,c5,c6,c7,c8,c9⟩:=iI (ah HW3).blk
 have hwl:=aA (ah HW3).blk
 clear c0 c1 c2 c3 c4 c5 c6 c7 c8 c9
 go_upto_region 5 with fail
 refine lG (by kernel_rfl) ?_
 show sU _ _ _ _ 8 (Array.replicate 8 false) _ _
 refine oz 0 rfl (by kernel_rfl) (by kernel_rfl) (by kernel_rfl) (fun _ _ _ _ h=>h) (fun K hK=>?_)
 go_simp
 first
  |(refine hK _ ?_;clear hK K)
  |(apply Exists.intro
    refine⟨fun _=>rfl,hK _ ?_⟩
    clear hK K)
 refine oz 2 rfl (by kernel_rfl) (by kernel_rfl) (by kernel_rfl) (fun _ _ _ _ h=>h) (fun K hK=>?_)
 go_simp
 first
  |(refine hK _ ?_;clear hK K)
  |(apply Exists.intro
    refine⟨fun _=>rfl,hK _ ?_⟩
    clear hK K)
 refine oz 4 rfl (by kernel_rfl) (by kernel_rfl) (by kernel_rfl) (fun _ _ _ _ h=>h) (fun K hK=>?_)
 go_simp
 first
  |(refine hK _ ?_;clear hK K)
  |(apply Exists.intro
    refine⟨fun _=>rfl,hK _ ?_⟩
    clear hK K)
 refine fun x hx=>?_
 have vR:=hide ((ah HW3).step hx)
 have HR2:=hide (au (ah HR) (ah vR).keep)
 have hwr:w.heap.size+2≠wb:=by have:=(ah vR).lo;omega
 clear hx HW3
 obtain⟨c0,c1,c2,c3,c4,c5,c6,c7,c8,c9⟩:=iI (ah vR).blk
 obtain⟨d0,d1,d2,d3,d4,d5,d6,d7,d8⟩:=nine (ah HR2)
 have f0:=aj (ah HR2) 0
 have f1:=aj (ah HR2) 1
 have f2:=aj (ah HR2) 2
 have f3:=aj (ah HR2) 3
 have f4:=aj (ah HR2) 4
 have f5:=aj (ah HR2) 5
 have f6:=aj (ah HR2) 6
 have f7:=aj (ah HR2) 7
 have f8:=aj (ah HR2) 8
 have hrl:=aA (ah HR2)
 have awv:=aA (ah vR).blk
 refine lZ 1 3 rfl rfl (by kernel_rfl) (by rfl) (by rfl) ?pA ?pB
 case' pB=>
  go_simp
  refine aF 1 rfl (by kernel_rfl) (by rfl) ?_
  go_simp
  refine aF 5 rfl (by kernel_rfl) (by rfl) ?_
  go_simp
  refine aF 6 rfl (by kernel_rfl) (by rfl) ?_
  go_simp
  refine aF 7 rfl (by kernel_rfl) (by rfl) ?_
  go_simp
  refine wpAny_done (by kernel_rfl) ?_
  go_simp
  clear c0 c1 c2 c3 c4 c5 c6 c7 c8 c9 d0 d1 d2 d3 d4 d5 d6 d7 d8 f0 f1 f2 f3 f4 f5 f6 f7 f8
  go_wp2_with fail
  refine aR (fun W' hW'=>?_)
  have e4:W'.heap[w.heap.size+2]?=some (.cells #[.int .i64 n3.id,.int .i64 n3.par,.slice A2.k n3.kids.length A2.ck,.int .i64 n3.next,.slice A2.p n3.pu.length A2.cp,.slice A2.o n3.out.length A2.co,.slice A2.s n3.seen.length A2.cs,.int .i64 n3.old,.slice A2.r n3.reqs.length A2.cr] 30 (0,0)):=by
   rw [hW']
   exact GR.setW_blk [.int .i64 n3.id,.int .i64 n3.par,.slice A2.k n3.kids.length A2.ck,.int .i64 n3.next,.slice A2.p n3.pu.length A2.cp,.slice A2.o n3.out.length A2.co,.slice A2.s n3.seen.length A2.cs,.int .i64 n3.old,.slice A2.r n3.reqs.length A2.cr] (o:=0) (xs:=[.int .i64 0,.int .i64 0,.slice none 0 0,.int .i64 0,.slice none 0 0,.slice none 0 0,.slice none 0 0,.int .i64 0,.slice none 0 0]) (ah HR2)
  have hkc:KC cc3 0 x W':=by
   rw [hW']
   exact KC.setW (o:=0) [.int .i64 n3.id,.int .i64 n3.par,.slice A2.k n3.kids.length A2.ck,.int .i64 n3.next,.slice A2.p n3.pu.length A2.cp,.slice A2.o n3.out.length A2.co,.slice A2.s n3.seen.length A2.cs,.int .i64 n3.old,.slice A2.r n3.reqs.length A2.cr] ((ah vR).no.lo _ (by omega))
  have Pm:=hide (((ah vR).no.kc0 hkc).base (ah HB).size)
  have HMF:=hide (iQ (hkc.own (ah vR).m (ah vR).cm (by omega)) (ah HB).size)
  have zH:=hide (ah vR).cm
  have lH:Hid (Below w.heap.size w W'):=by
   rw [hW']
   exact GR.setW_below (by omega) [.int .i64 n3.id,.int .i64 n3.par,.slice A2.k n3.kids.length A2.ck,.int .i64 n3.next,.slice A2.p n3.pu.length A2.cp,.slice A2.o n3.out.length A2.co,.slice A2.s n3.seen.length A2.cs,.int .i64 n3.old,.slice A2.r n3.reqs.length A2.cr] (o:=0) ((ah HB).trans ((ah vR).keep.mono (ah HB).size))
  obtain⟨d0,d1,d2,d3,d4,d5,d6,d7,d8⟩:=nine e4
  clear hW' e4 hkc
  exact bodyPost_ret (v:= .tuple #[.agg #[.int .i64 n3.id,.int .i64 n3.par,.slice A2.k n3.kids.length A2.ck,.int .i64 n3.next,.slice A2.p n3.pu.length A2.cp,.slice A2.o n3.out.length A2.co,.slice A2.s n3.seen.length A2.cs,.int .i64 n3.old,.slice A2.r n3.reqs.length A2.cr],(.slice a3 L3.length cp3),.int .i64 Uo]) (by simp[results,Tryz.results7,go_sem,d0,d1,d2,d3,d4,d5,d6,d7,d8]) rfl ⟨A2,G2,cc3,(.slice a3 L3.length cp3),rfl,ah Pm,ah HMF,ah zH,ah lH⟩
 case' pA=>
  go_simp
  refine lZ 3 5 rfl rfl (by kernel_rfl) (by rfl) (by rfl) ?pA1 ?pA2
 case' pA1=>
  go_simp
  refine aF 5 rfl (by kernel_rfl) (by rfl) ?_
  go_simp
  refine aF 6 rfl (by kernel_rfl) (by rfl) ?_
  go_simp
  refine aF 7 rfl (by kernel_rfl) (by rfl) ?_
  go_simp
  refine wpAny_done (by kernel_rfl) ?_
  go_simp
  clear c0 c1 c2 c3 c4 c5 c6 c7 c8 c9 d0 d1 d2 d3 d4 d5 d6 d7 d8 f0 f1 f2 f3 f4 f5 f6 f7 f8
  go_wp2_with fail
  refine aR (fun W' hW'=>?_)
  have e4:W'.heap[w.heap.size+2]?=some (.cells #[.int .i64 n3.id,.int .i64 n3.par,.slice A2.k n3.kids.length A2.ck,.int .i64 n3.next,.slice A2.p n3.pu.length A2.cp,.slice A2.o n3.out.length A2.co,.slice A2.s n3.seen.length A2.cs,.int .i64 n3.old,.slice A2.r n3.reqs.length A2.cr] 30 (0,0)):=by
   rw [hW']
   exact GR.setW_blk [.int .i64 n3.id,.int .i64 n3.par,.slice A2.k n3.kids.length A2.ck,.int .i64 n3.next,.slice A2.p n3.pu.length A2.cp,.slice A2.o n3.out.length A2.co,.slice A2.s n3.seen.length A2.cs,.int .i64 n3.old,.slice A2.r n3.reqs.length A2.cr] (o:=0) (xs:=[.int .i64 0,.int .i64 0,.slice none 0 0,.int .i64 0,.slice none 0 0,.slice none 0 0,.slice none 0 0,.int .i64 0,.slice none 0 0]) (ah HR2)
  have hkc:KC cc3 0 x W':=by
   rw [hW']
   exact KC.setW (o:=0) [.int .i64 n3.id,.int .i64 n3.par,.slice A2.k n3.kids.length A2.ck,.int .i64 n3.next,.slice A2.p n3.pu.length A2.cp,.slice A2.o n3.out.length A2.co,.slice A2.s n3.seen.length A2.cs,.int .i64 n3.old,.slice A2.r n3.reqs.length A2.cr] ((ah vR).no.lo _ (by omega))
  have Pm:=hide (((ah vR).no.kc0 hkc).base (ah HB).size)
  have HMF:=hide (iQ (hkc.own (ah vR).m (ah vR).cm (by omega)) (ah HB).size)
  have zH:=hide (ah vR).cm
  have lH:Hid (Below w.heap.size w W'):=by
   rw [hW']
   exact GR.setW_below (by omega) [.int .i64 n3.id,.int .i64 n3.par,.slice A2.k n3.kids.length A2.ck,.int .i64 n3.next,.slice A2.p n3.pu.length A2.cp,.slice A2.o n3.out.length A2.co,.slice A2.s n3.seen.length A2.cs,.int .i64 n3.old,.slice A2.r n3.reqs.length A2.cr] (o:=0) ((ah HB).trans ((ah vR).keep.mono (ah HB).size))
  obtain⟨d0,d1,d2,d3,d4,d5,d6,d7,d8⟩:=nine e4
  clear hW' e4 hkc
  exact bodyPost_ret (v:= .tuple #[.agg #[.int .i64 n3.id,.int .i64 n3.par,.slice A2.k n3.kids.length A2.ck,.int .i64 n3.next,.slice A2.p n3.pu.length A2.cp,.slice A2.o n3.out.length A2.co,.slice A2.s n3.seen.length A2.cs,.int .i64 n3.old,.slice A2.r n3.reqs.length A2.cr],(.slice a3 L3.length cp3),.int .i64 Uo]) (by simp[results,Tryz.results7,go_sem,d0,d1,d2,d3,d4,d5,d6,d7,d8]) rfl ⟨A2,G2,cc3,(.slice a3 L3.length cp3),rfl,ah Pm,ah HMF,ah zH,ah lH⟩
 have c9f:=Ur (b0:= .int .i64 n3.id) (b1:= .int .i64 n3.par) (b2:= .slice A2.k n3.kids.length A2.ck) (b3:= .int .i64 n3.next) (b4:= .slice A2.p n3.pu.length A2.cp) (b5:= .slice A2.o n3.out.length A2.co) (b6:= .slice A2.s n3.seen.length A2.cs) (b7:= .int .i64 n3.old) (b8:= .slice A2.r n3.reqs.length A2.cr) hwr c9
 go_simp
 refine aF 3 rfl (by kernel_rfl) (by rfl) ?_
 go_simp
 refine aF 6 rfl (by kernel_rfl) (by rfl) ?_
 go_simp
 refine aF 7 rfl (by kernel_rfl) (by rfl) ?_
 go_simp
 refine wpAny_done (by kernel_rfl) ?_
 go_simp
 clear c0 c1 c2 c3 c4 c5 c6 c7 c8 c9 d0 d1 d2 d3 d4 d5 d6 d7 d8 f0 f1 f2 f3 f4 f5 f6 f7 f8 c9f
 go_wp2_with fail
 refine aR (fun W' hW'=>?_)
 have e4:W'.heap[w.heap.size+2]?=some (.cells #[.int .i64 n3.id,.int .i64 n3.par,.slice A2.k n3.kids.length A2.ck,.int .i64 n3.next,.slice A2.p n3.pu.length A2.cp,.slice A2.o n3.out.length A2.co,.slice A2.s n3.seen.length A2.cs,.int .i64 n3.old,.slice A2.r n3.reqs.length A2.cr] 30 (0,0)):=by
  rw [hW']
  exact GR.setW_blk [.int .i64 n3.id,.int .i64 n3.par,.slice A2.k n3.kids.length A2.ck,.int .i64 n3.next,.slice A2.p n3.pu.length A2.cp,.slice A2.o n3.out.length A2.co,.slice A2.s n3.seen.length A2.cs,.int .i64 n3.old,.slice A2.r n3.reqs.length A2.cr] (o:=0) (xs:=[.int .i64 0,.int .i64 0,.slice none 0 0,.int .i64 0,.slice none 0 0,.slice none 0 0,.slice none 0 0,.int .i64 0,.slice none 0 0]) (ah HR2)
 have hkc:KC cc3 0 x W':=by
  rw [hW']
  exact KC.setW (o:=0) [.int .i64 n3.id,.int .i64 n3.par,.slice A2.k n3.kids.length A2.ck,.int .i64 n3.next,.slice A2.p n3.pu.length A2.cp,.slice A2.o n3.out.length A2.co,.slice A2.s n3.seen.length A2.cs,.int .i64 n3.old,.slice A2.r n3.reqs.length A2.cr] ((ah vR).no.lo _ (by omega))
 have Pm:=hide (((ah vR).no.kc0 hkc).base (ah HB).size)
 have HMF:=hide (iQ (hkc.own (ah vR).m (ah vR).cm (by omega)) (ah HB).size)
 have zH:=hide (ah vR).cm
 have lH:Hid (Below w.heap.size w W'):=by
  rw [hW']
  exact GR.setW_below (by omega) [.int .i64 n3.id,.int .i64 n3.par,.slice A2.k n3.kids.length A2.ck,.int .i64 n3.next,.slice A2.p n3.pu.length A2.cp,.slice A2.o n3.out.length A2.co,.slice A2.s n3.seen.length A2.cs,.int .i64 n3.old,.slice A2.r n3.reqs.length A2.cr] (o:=0) ((ah HB).trans ((ah vR).keep.mono (ah HB).size))
 obtain⟨d0,d1,d2,d3,d4,d5,d6,d7,d8⟩:=nine e4
 clear hW' e4 hkc
 exact bodyPost_ret (v:= .tuple #[.agg #[.int .i64 n3.id,.int .i64 n3.par,.slice A2.k n3.kids.length A2.ck,.int .i64 n3.next,.slice A2.p n3.pu.length A2.cp,.slice A2.o n3.out.length A2.co,.slice A2.s n3.seen.length A2.cs,.int .i64 n3.old,.slice A2.r n3.reqs.length A2.cr],(.slice a3 L3.length cp3),.int .i64 Uo]) (by simp[results,Tryz.results7,go_sem,d0,d1,d2,d3,d4,d5,d6,d7,d8]) rfl ⟨A2,G2,cc3,(.slice a3 L3.length cp3),rfl,ah Pm,ah HMF,ah zH,ah lH⟩
theorem aea (n:Nd) (A:bQ) (o:iK) (E:Nat→Addr) (w:World) (hz:eF n 1048576) (hk:o.k.size≤1048576) (hmk:o.m.k.size≤1048576) (ha:dQ w A n) (he:iw w E):
 Calls Tryz.prog 7 #[fU n A,jY o] w (ER w (lK n o)):=by
 cases hok:dJ n with
 |false=>exact Bw n A o w hz hok ha
 |true=>exact CX n A o E w hz hk hmk hok ha he
end Go.Proofs.YtfmdndhliinhpaaGreatDoor
